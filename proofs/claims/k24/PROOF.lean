import PyProof.Rows.All
import HandS.ForMost
import HandS.IsInst
import HandS.Walk
import HandS.Flow
import HandS.Style
import HandS.WideBits
import HandS.Zip
import HandS.Rev
import HandS.RevRange
import HandS.RevTup
import HandS.TupAny
import HandS.More
import HandS.Conv
import KE.KDictZip
import KE.KRevSl
import KE.GoesMore
import HandS.SortRule
import HandS.Defaults
import HandS.FStr
import PyProof.Rows.StrIntSpec
import PyProof.StrLawsOcc
import PyProof.Rows.FactsT3
import HandS.ForExc
import HandS.TryOnly
import HandS.ExcOwn
import HandS.WordsExc
import HandS.ExcIs
import HandS.Property
import HandS.Codes
import HandS.SlotsOwn
import KE.KOpsOwn
import HandS.ClsMeth
import PySem.Challenge.RW_ateverymoment_k24_errors_of_times
set_option Elab.async false
set_option linter.all false
set_option maxRecDepth 100000

namespace DL
open PySem PySem.Spec PyProof.Rows L2

/-! ### data -/
/-- values: whole numbers and words -/
inductive Vl where
  | int (n : Int) | str (x : Str)
deriving DecidableEq
inductive D where
  | non | bl (b : Bool) | int (i : Int) | str (x : Str) | tup (ds : List D) | lst (ds : List D) | rol (ds : List D) | tpd (ds : List D) | rod (ks : List (List Vl)) (vs : List D) | obj (n : Nat) (ds : List D)

def isL : D → Bool
  | .lst _ => true
  | _ => false

def SqR (K : PySem.W.Frag) (H : Hp) (a : Addr) (xs : List V) : Prop :=
  (∃ o, H a = some (.frz o (.lst xs))) ∨
    ∃ (o : Obj) (its : Array Value) (n : Nat), K.lookup a = some o ∧ o.cls = .type "list" ∧ o.dict = none ∧ o.data = .seq its n ∧ its.size ≤ sizeLine ∧ Vals xs its.toList
theorem SqR.seq {K : PySem.W.Frag} {H : Hp} {a : Addr} {xs : List V} (h : SqR K H a xs) : SqL K H a xs := by
  rcases h with ⟨o, h⟩ | h
  · exact .inl (.inr ⟨o, h⟩)
  · exact .inr h

/-- a tuple that is known to have no dict -/
def TpK (K : PySem.W.Frag) (H : Hp) (a : Addr) (xs : List V) : Prop := (∃ o : Obj, H a = some (.frz o (.tup xs)) ∧ o.dict = none) ∨
    ∃ (o : Obj) (its : Array Value) (n : Nat), K.lookup a = some o ∧ o.cls = .type "tuple" ∧ o.dict = none ∧ o.data = .seq its n ∧ its.size ≤ sizeLine ∧ Vals xs its.toList
theorem TpK.t {K : PySem.W.Frag} {H : Hp} {a : Addr} {xs : List V} (h : TpK K H a xs) : SqT K H a xs := by
  rcases h with ⟨o, h, _⟩ | ⟨o, its, n, h1, h2, _, h3⟩
  · exact .inl (.inr ⟨o, h⟩)
  · exact .inr ⟨o, its, n, h1, h2, h3⟩
def Vl.key : Vl → L2.Key
  | .int n => .inl n
  | .str x => .inr x
/-- own classes and what their instances bear -/
def cNm : Nat → Str
  | 0 => "Times"
  | _ => "Reader"
def cAt : Nat → List Str
  | 0 => ["table"]
  | _ => ["text", "at"]
mutual
def RpI (K : PySem.W.Frag) (H : Hp) : D → V → Prop
  | .non, v => v = .non
  | .bl b, v => v = .bl b
  | .int i, v => v = .int i
  | .str x, v => v = .str x
  | .tup ds, v => ∃ a vs, v = .ref a ∧ H a = some (.tup vs) ∧ RpIs K H ds vs
  | .tpd ds, v => ∃ a vs, v = .ref a ∧ TpK K H a vs ∧ RpIs K H ds vs
  | .rod ks ds, v => ∃ (a : Addr) (kvs : List (List L2.Key × V)), v = .ref a ∧ (∃ o : Obj, H a = some (.frz o (.dT kvs))) ∧ kvs.map (·.1) = ks.map (·.map Vl.key) ∧ RpIs K H ds (kvs.map (·.2))
  | .rol ds, v => ∃ a vs, v = .ref a ∧ SqR K H a vs ∧ RpIs K H ds vs
  | .obj n ds, v => ∃ (a C dx : Addr) (kvs : List (Str × V)), v = .ref a ∧ PySem.W.nsIn K mainGlobals (cNm n) = some (some (.ref C)) ∧ H a = some (.ins C dx kvs) ∧ kvs.map (·.1) = cAt n ∧ RpIs K H ds (kvs.map (·.2))
  | .lst _, _ => False
def RpIs (K : PySem.W.Frag) (H : Hp) : List D → List V → Prop
  | [], vs => vs = []
  | d :: ds, vs => ∃ v r, vs = v :: r ∧ RpI K H d v ∧ RpIs K H ds r
end
def RpV (K : PySem.W.Frag) (H : Hp) : D → V → Prop
  | .lst ds, v => ∃ a vs, v = .ref a ∧ H a = some (.lst vs) ∧ RpIs K H ds vs
  | d, v => RpI K H d v

/-- all that is no list is kept -/
def Kp (H H' : Hp) : Prop := ∀ b o, H b = some o → (∀ xs, o ≠ .lst xs) → H' b = some o
theorem Kp.refl (H : Hp) : Kp H H := fun _ _ h _ => h
theorem Kp.trans {H H1 H2 : Hp} (a : Kp H H1) (b : Kp H1 H2) : Kp H H2 := fun c o h n => b c o (a c o h n) n
theorem Kp.tup {K : PySem.W.Frag} {H H' : Hp} (k : Kp H H') {a : Addr} {vs : List V} (h : SqT K H a vs) : SqT K H' a vs := by
  rcases h with (h | ⟨o, h⟩) | h
  · exact .inl (.inl (k _ _ h (fun _ e => nomatch e)))
  · exact .inl (.inr ⟨o, k _ _ h (fun _ e => nomatch e)⟩)
  · exact .inr h
theorem Kp.rol {K : PySem.W.Frag} {H H' : Hp} (k : Kp H H') {a : Addr} {vs : List V} (h : SqR K H a vs) : SqR K H' a vs := by
  rcases h with ⟨o, h⟩ | h
  · exact .inl ⟨o, k _ _ h (fun _ e => nomatch e)⟩
  · exact .inr h
mutual
theorem RpI.kp {K : PySem.W.Frag} {H H' : Hp} (k : Kp H H') : ∀ (d : D) (v : V), RpI K H d v → RpI K H' d v
  | .non, v, h => h
  | .bl _, v, h => h
  | .int _, v, h => h
  | .str _, v, h => h
  | .tup ds, v, h => by
    simp only [RpI] at h ⊢
    obtain ⟨a, vs, e, s, r⟩ := h
    exact ⟨a, vs, e, k _ _ s (fun _ z => nomatch z), RpIs.kp k ds vs r⟩
  | .tpd ds, v, h => by
    simp only [RpI] at h ⊢
    obtain ⟨a, vs, e, s, r⟩ := h
    refine ⟨a, vs, e, ?_, RpIs.kp k ds vs r⟩
    rcases s with ⟨o, s, d⟩ | s
    · exact .inl ⟨o, k _ _ s (fun _ z => nomatch z), d⟩
    · exact .inr s
  | .rod ks ds, v, h => by
    simp only [RpI] at h ⊢
    obtain ⟨a, kvs, e, s, m, r⟩ := h
    obtain ⟨o, s⟩ := s
    exact ⟨a, kvs, e, ⟨o, k _ _ s (fun _ z => nomatch z)⟩, m, RpIs.kp k ds _ r⟩
  | .rol ds, v, h => by
    simp only [RpI] at h ⊢
    obtain ⟨a, vs, e, s, r⟩ := h
    exact ⟨a, vs, e, k.rol s, RpIs.kp k ds vs r⟩
  | .obj n ds, v, h => by
    simp only [RpI] at h ⊢
    obtain ⟨a, C, dx, kvs, e, c, s, m, r⟩ := h
    exact ⟨a, C, dx, kvs, e, c, k _ _ s (fun _ z => nomatch z), m, RpIs.kp k ds _ r⟩
  | .lst _, v, h => by simp only [RpI] at h
theorem RpIs.kp {K : PySem.W.Frag} {H H' : Hp} (k : Kp H H') : ∀ (ds : List D) (vs : List V), RpIs K H ds vs → RpIs K H' ds vs
  | [], vs, h => by simp only [RpIs] at h ⊢; exact h
  | d :: ds, vs, h => by
    simp only [RpIs] at h ⊢
    obtain ⟨v, r, e, h1, h2⟩ := h
    exact ⟨v, r, e, RpI.kp k d v h1, RpIs.kp k ds r h2⟩
end
theorem RpV.of {K : PySem.W.Frag} {H : Hp} {d : D} {v : V} (h : RpI K H d v) : RpV K H d v := by
  cases d <;> first | exact h | (simp only [RpI] at h)
theorem RpV.imm {K : PySem.W.Frag} {H : Hp} {d : D} {v : V} (h : RpV K H d v) (n : isL d = false) : RpI K H d v := by
  cases d <;> first | exact h | (exact absurd n (by simp [isL]))
theorem RpV.kp {K : PySem.W.Frag} {H H' : Hp} {d : D} {v : V} (k : Kp H H') (h : RpV K H d v) (n : isL d = false) : RpV K H' d v := .of (RpI.kp k d v (h.imm n))
theorem RpV.kpl {K : PySem.W.Frag} {H H' : Hp} {ds : List D} {v : V} (k : Kp H H') (h : RpV K H (.lst ds) v) (e : ∀ a o, v = .ref a → H a = some o → H' a = some o) : RpV K H' (.lst ds) v := by
  obtain ⟨a, vs, e1, e2, r⟩ := h
  exact ⟨a, vs, e1, e a _ e1 e2, RpIs.kp k ds vs r⟩

theorem RpIs.length {K : PySem.W.Frag} {H : Hp} : ∀ {ds : List D} {vs : List V}, RpIs K H ds vs → ds.length = vs.length
  | [], vs, h => by simp only [RpIs] at h; subst h; rfl
  | d :: ds, vs, h => by
    simp only [RpIs] at h
    obtain ⟨v, r, rfl, _, h2⟩ := h
    simp only [List.length_cons, RpIs.length h2]
theorem RpIs.get {K : PySem.W.Frag} {H : Hp} : ∀ {ds : List D} {vs : List V} {i : Nat} {d : D}, RpIs K H ds vs → ds[i]? = some d → ∃ v, vs[i]? = some v ∧ RpI K H d v
  | [], vs, i, d, h, e => by simp at e
  | d0 :: ds, vs, 0, d, h, e => by
    simp only [RpIs] at h
    obtain ⟨v, r, rfl, h1, _⟩ := h
    simp at e; subst e
    exact ⟨v, rfl, h1⟩
  | d0 :: ds, vs, i + 1, d, h, e => by
    simp only [RpIs] at h
    obtain ⟨v, r, rfl, _, h2⟩ := h
    obtain ⟨u, e1, e2⟩ := RpIs.get h2 (by simpa using e)
    exact ⟨u, by simpa using e1, e2⟩
theorem RpIs.get' {K : PySem.W.Frag} {H : Hp} : ∀ {ds : List D} {vs : List V} {i : Nat} {v : V}, RpIs K H ds vs → vs[i]? = some v → ∃ d, ds[i]? = some d ∧ RpI K H d v := by
  intro ds vs i v h e
  have hl := h.length
  have hi : i < ds.length := by rw [hl]; exact (List.getElem?_eq_some_iff.mp e).1
  obtain ⟨u, e1, e2⟩ := h.get (List.getElem?_eq_getElem hi)
  rw [e] at e1; cases e1
  exact ⟨_, List.getElem?_eq_getElem hi, e2⟩
theorem RpIs.append {K : PySem.W.Frag} {H : Hp} : ∀ {ds es : List D} {vs us : List V}, RpIs K H ds vs → RpIs K H es us → RpIs K H (ds ++ es) (vs ++ us)
  | [], es, vs, us, h, g => by simp only [RpIs] at h; subst h; exact g
  | d :: ds, es, vs, us, h, g => by
    simp only [RpIs] at h
    obtain ⟨v, r, rfl, h1, h2⟩ := h
    show RpIs K H (d :: (ds ++ es)) (v :: (r ++ us))
    simp only [RpIs]
    exact ⟨v, _, rfl, h1, RpIs.append h2 g⟩
theorem RpIs.set {K : PySem.W.Frag} {H : Hp} {d : D} {v : V} (hv : RpI K H d v) : ∀ {ds : List D} {vs : List V} (i : Nat), RpIs K H ds vs → RpIs K H (ds.set i d) (vs.set i v)
  | [], vs, i, h => by simp only [RpIs] at h; subst h; simp [RpIs]
  | d0 :: ds, vs, 0, h => by
    simp only [RpIs] at h
    obtain ⟨w, r, rfl, _, h2⟩ := h
    simp only [List.set_cons_zero, RpIs]
    exact ⟨v, r, rfl, hv, h2⟩
  | d0 :: ds, vs, i + 1, h => by
    simp only [RpIs] at h
    obtain ⟨w, r, rfl, h1, h2⟩ := h
    simp only [List.set_cons_succ, RpIs]
    exact ⟨w, _, rfl, h1, RpIs.set hv i h2⟩
theorem RpIs.take {K : PySem.W.Frag} {H : Hp} : ∀ {ds : List D} {vs : List V} (n : Nat), RpIs K H ds vs → RpIs K H (ds.take n) (vs.take n)
  | ds, vs, 0, h => by simp [RpIs]
  | [], vs, n + 1, h => by simp only [RpIs] at h; subst h; simp [RpIs]
  | d0 :: ds, vs, n + 1, h => by
    simp only [RpIs] at h
    obtain ⟨w, r, rfl, h1, h2⟩ := h
    simp only [List.take_succ_cons, RpIs]
    exact ⟨w, _, rfl, h1, RpIs.take n h2⟩
theorem RpIs.drop {K : PySem.W.Frag} {H : Hp} : ∀ {ds : List D} {vs : List V} (n : Nat), RpIs K H ds vs → RpIs K H (ds.drop n) (vs.drop n)
  | ds, vs, 0, h => h
  | [], vs, n + 1, h => by simp only [RpIs] at h; subst h; simp [RpIs]
  | d0 :: ds, vs, n + 1, h => by
    simp only [RpIs] at h
    obtain ⟨w, r, rfl, h1, h2⟩ := h
    exact RpIs.drop n h2
theorem RpIs.reverse {K : PySem.W.Frag} {H : Hp} : ∀ {ds : List D} {vs : List V}, RpIs K H ds vs → RpIs K H ds.reverse vs.reverse
  | [], vs, h => by simp only [RpIs] at h; subst h; simp [RpIs]
  | d0 :: ds, vs, h => by
    simp only [RpIs] at h
    obtain ⟨w, r, rfl, h1, h2⟩ := h
    rw [List.reverse_cons, List.reverse_cons]
    refine RpIs.append (RpIs.reverse h2) ?_
    simp only [RpIs]
    exact ⟨w, [], rfl, h1, rfl⟩
theorem RpIs.dropLast {K : PySem.W.Frag} {H : Hp} {ds : List D} {vs : List V} (h : RpIs K H ds vs) : RpIs K H ds.dropLast vs.dropLast := by
  rw [List.dropLast_eq_take, List.dropLast_eq_take, h.length]
  exact RpIs.take _ h

/-! ### what a frame's slots hold -/
abbrev DEnv := List (Option D)
def LA (σ : L2.St) (env : DEnv) (b : Addr) : Prop := ∃ (i : Nat) (xs : List D), env[i]? = some (some (D.lst xs)) ∧ σ[i]? = some (some (V.ref b))
structure Rep (K : PySem.W.Frag) (np : Nat) (He : Hp) (σ : L2.St) (H : Hp) (env : DEnv) : Prop where
  len : σ.length = env.length
  val : ∀ (i : Nat) (d : D), env[i]? = some (some d) → ∃ v, σ[i]? = some (some v) ∧ RpV K H d v
  apart : ∀ (i j : Nat) (xs ys : List D) (a : Addr), env[i]? = some (some (D.lst xs)) → env[j]? = some (some (D.lst ys)) → σ[i]? = some (some (V.ref a)) → σ[j]? = some (some (V.ref a)) → i = j
  own : ∀ (i : Nat) (xs : List D) (a : Addr), np ≤ i → env[i]? = some (some (D.lst xs)) → σ[i]? = some (some (V.ref a)) → He a = none
  dom : ∀ b, H b = none → He b = none
section
variable {K : PySem.W.Frag} {np : Nat} {He : Hp} {σ σ' σ'' : L2.St} {H H' H'' : Hp} {env env' env'' : DEnv}
theorem Rep.la (R : Rep K np He σ H env) {b : Addr} (h : LA σ env b) : ∃ vs, H b = some (.lst vs) := by
  obtain ⟨i, xs, e, e2⟩ := h
  obtain ⟨v, e3, a, vs, rfl, e5, _⟩ := R.val i _ e
  rw [e2] at e3
  have e4 : b = a := by simpa using e3
  subst e4
  exact ⟨vs, e5⟩

structure SE (K : PySem.W.Frag) (np : Nat) (He : Hp) (σ : L2.St) (H : Hp) (env : DEnv) (H' : Hp) (env' : DEnv) : Prop where
  rep : Rep K np He σ H' env'
  shape : ∀ (i : Nat), env'[i]? = env[i]? ∨ ∃ (xs ys : List D), env[i]? = some (some (D.lst xs)) ∧ env'[i]? = some (some (D.lst ys))
  keep : ∀ b o, H b = some o → ¬ LA σ env b → H' b = some o
  dom : ∀ b, H' b = none → H b = none
theorem SE.refl (R : Rep K np He σ H env) : SE K np He σ H env H env := ⟨R, fun _ => .inl rfl, fun _ _ h _ => h, fun _ h => h⟩
theorem SE.la (s : SE K np He σ H env H' env') {b : Addr} : LA σ env' b ↔ LA σ env b := by
  constructor
  · rintro ⟨i, xs, e, e2⟩
    rcases s.shape i with h | ⟨ys, zs, h1, h2⟩
    · exact ⟨i, xs, h ▸ e, e2⟩
    · exact ⟨i, ys, h1, e2⟩
  · rintro ⟨i, xs, e, e2⟩
    rcases s.shape i with h | ⟨ys, zs, h1, h2⟩
    · exact ⟨i, xs, h.trans e, e2⟩
    · exact ⟨i, zs, h2, e2⟩
theorem SE.trans (a : SE K np He σ H env H' env') (b : SE K np He σ H' env' H'' env'') : SE K np He σ H env H'' env'' where
  rep := b.rep
  shape := fun i => by
    rcases b.shape i with h | ⟨ys, zs, h1, h2⟩
    · rcases a.shape i with g | ⟨us, ws, g1, g2⟩
      · exact .inl (h.trans g)
      · exact .inr ⟨us, ws, g1, h.trans g2⟩
    · rcases a.shape i with g | ⟨us, ws, g1, g2⟩
      · exact .inr ⟨ys, zs, g ▸ h1, h2⟩
      · exact .inr ⟨us, zs, g1, h2⟩
  keep := fun c o h n => b.keep c o (a.keep c o h n) fun z => n (a.la.mp z)
  dom := fun c h => a.dom c (b.dom c h)
theorem SE.kp (R : Rep K np He σ H env) (s : SE K np He σ H env H' env') : Kp H H' := fun b o h n => s.keep b o h fun z => by
  obtain ⟨vs, e⟩ := R.la z
  rw [h] at e
  exact n vs (Option.some.inj e)

/-! ### an expression's result: a value, or a list that stands in a slot -/
inductive RV where
  | val (d : D) | ref (i : Nat)
def RpR (K : PySem.W.Frag) (σ : L2.St) (H H' : Hp) (env' : DEnv) (v : V) : RV → Prop
  | .val d => RpV K H' d v ∧ (isL d = true → ∀ a, v = .ref a → H a = none)
  | .ref i => σ[i]? = some (some v) ∧ ∃ xs, env'[i]? = some (some (D.lst xs))
def getv (env : DEnv) (i : Nat) (k : D → Prop) : Prop :=
  match env[i]? with
  | some (some d) => k d
  | _ => False
theorem getv_of {i : Nat} {k : D → Prop} (h : getv env i k) : ∃ d, env[i]? = some (some d) ∧ k d := by
  unfold getv at h
  split at h
  · exact ⟨_, by assumption, h⟩
  · exact h.elim
def rs (env : DEnv) : RV → (D → Prop) → Prop
  | .val d, k => k d
  | .ref i, k => getv env i k
/-- behind further steps -/
theorem RpR.keep {v : V} {r : RV} (R : Rep K np He σ H env) (a : SE K np He σ H env H' env') (b : SE K np He σ H' env' H'' env'') (h : RpR K σ H H' env' v r) : RpR K σ H H'' env'' v r := by
  cases r with
  | ref i =>
    obtain ⟨e, xs, e2⟩ := h
    refine ⟨e, ?_⟩
    rcases b.shape i with g | ⟨us, ws, g1, g2⟩
    · exact ⟨xs, g.trans e2⟩
    · exact ⟨ws, g2⟩
  | val d =>
    obtain ⟨h1, h2⟩ := h
    refine ⟨?_, h2⟩
    by_cases hd : isL d = true
    · cases d with
      | lst ds =>
        refine h1.kpl (SE.kp a.rep b) fun c o e1 e2 => b.keep c o e2 fun z => ?_
        have z' := a.la.mp z
        obtain ⟨vs, e3⟩ := R.la z'
        rw [h2 rfl c e1] at e3
        cases e3
      | _ => simp [isL] at hd
    · exact h1.kp (SE.kp a.rep b) (by simpa using hd)
/-- what it stands for now -/
theorem RpR.rs {v : V} {r : RV} {k : D → Prop} (R : Rep K np He σ H' env') (h : RpR K σ H H' env' v r) (g : rs env' r k) : ∃ d, RpV K H' d v ∧ k d := by
  cases r with
  | val d => exact ⟨d, h.1, g⟩
  | ref i =>
    obtain ⟨d, e, q⟩ := getv_of g
    obtain ⟨u, e2, r⟩ := R.val i d e
    rw [h.1] at e2
    have e3 : v = u := by simpa using e2
    subst e3
    exact ⟨d, r, q⟩
end
end DL

namespace DL
open PySem PySem.Spec PyProof.Rows L2

abbrev W := DEnv → (RV → DEnv → Prop) → Prop
abbrev WA := DEnv → (List RV → DEnv → Prop) → Prop
def rE (K : PySem.W.Frag) (np : Nat) (He : Hp) (w : W) : TE := fun σ H Q => ∃ env Q0, Rep K np He σ H env ∧ w env Q0 ∧
  ∀ r env' v H', Q0 r env' → SE K np He σ H env H' env' → RpR K σ H H' env' v r → Q v H'
def TN (v : V) (r : RV) (vs : List V) (rl : List RV) : Prop := ∀ d, r = .val d → isL d = true → ∀ (j : Nat) (ys : List D), rl[j]? = some (.val (.lst ys)) → vs[j]? ≠ some v
def RpRs (K : PySem.W.Frag) (σ : L2.St) (H H' : Hp) (env' : DEnv) : List V → List RV → Prop
  | [], rl => rl = []
  | v :: vs, rl => ∃ r rest, rl = r :: rest ∧ RpR K σ H H' env' v r ∧ RpRs K σ H H' env' vs rest ∧ TN v r vs rest
def rA (K : PySem.W.Frag) (np : Nat) (He : Hp) (w : WA) : TA := fun σ H Q => ∃ env Q0, Rep K np He σ H env ∧ w env Q0 ∧
  ∀ rl env' vs H', Q0 rl env' → SE K np He σ H env H' env' → RpRs K σ H H' env' vs rl → Q vs H'
abbrev DE (X : Cx) (np : Nat) (He : Hp) (e : Expr) (w : W) : Prop := PE X e (rE X.K np He w)
abbrev DT (X : Cx) (np : Nat) (He : Hp) (e : Expr) (w : W) : Prop := PT X e (tB (rE X.K np He w))
abbrev DA (X : Cx) (np : Nat) (He : Hp) (es : List Expr) (w : WA) : Prop := PA X es (rA X.K np He w)

theorem PE.weak {X : Cx} {e : Expr} {t t' : TE} (h : PE X e t) (i : ∀ σ H Q, t' σ H Q → t σ H Q) : PE X e t' := ⟨fun pins s σ H Q I q => h.run pins s σ H Q I (i σ H Q q)⟩
theorem PT.weak {X : Cx} {e : Expr} {t t' : TT} (h : PT X e t) (i : ∀ σ H Q, t' σ H Q → t σ H Q) : PT X e t' := ⟨fun pins s σ H Q I q => h.run pins s σ H Q I (i σ H Q q)⟩
theorem PA.weak {X : Cx} {e : List Expr} {t t' : TA} (h : PA X e t) (i : ∀ σ H Q, t' σ H Q → t σ H Q) : PA X e t' := ⟨fun pos pins s σ H Q I q => h.run pos pins s σ H Q I (i σ H Q q)⟩

section
variable {K : PySem.W.Frag} {np : Nat} {He : Hp} {σ σ' σ'' : L2.St} {H H' H'' : Hp} {env env' env'' : DEnv}
/-- the heap grows -/
def Ext (H H' : Hp) : Prop := ∀ b o, H b = some o → H' b = some o
theorem Ext.refl (H : Hp) : Ext H H := fun _ _ h => h
theorem Ext.new {p : Addr} {o : HO} (h : H p = none) : Ext H (upd H p o) := fun b u e => by rw [upd_ne (ne_of_none e h)]; exact e
theorem Ext.kp (h : Ext H H') : Kp H H' := fun b o e _ => h b o e
theorem Ext.dom (h : Ext H H') : ∀ b, H' b = none → H b = none := fun b n => by
  cases q : H b with
  | none => rfl
  | some o => rw [h b o q] at n; cases n
theorem RpV.ext {d : D} {v : V} (x : Ext H H') (h : RpV K H d v) : RpV K H' d v := by
  cases d with
  | lst ds => exact h.kpl x.kp fun a o _ e => x a o e
  | _ => exact h.kp x.kp rfl
theorem SE.ext (R : Rep K np He σ H env) (x : Ext H H') : SE K np He σ H env H' env where
  rep := ⟨R.len, fun i d e => let ⟨v, e1, r⟩ := R.val i d e; ⟨v, e1, r.ext x⟩, R.apart, R.own, fun b n => R.dom b (x.dom b n)⟩
  shape := fun _ => .inl rfl
  keep := fun b o h _ => x b o h
  dom := x.dom

theorem RpRs.keep (R : Rep K np He σ H env) (a : SE K np He σ H env H' env') (b : SE K np He σ H' env' H'' env'') : ∀ {vs : List V} {rl : List RV}, RpRs K σ H H' env' vs rl → RpRs K σ H H'' env'' vs rl
  | [], rl, h => h
  | v :: vs, rl, h => by
    obtain ⟨r, rest, e, h1, h2, tn⟩ := h
    exact ⟨r, rest, e, h1.keep R a b, RpRs.keep R a b h2, tn⟩
/-- a later start -/
theorem RpR.start {v : V} {r : RV} (a : SE K np He σ H env H' env') (h : RpR K σ H' H'' env'' v r) : RpR K σ H H'' env'' v r := by
  cases r with
  | ref i => exact h
  | val d => exact ⟨h.1, fun n c e => a.dom c (h.2 n c e)⟩
theorem RpRs.start (a : SE K np He σ H env H' env') : ∀ {vs : List V} {rl : List RV}, RpRs K σ H' H'' env'' vs rl → RpRs K σ H H'' env'' vs rl
  | [], rl, h => h
  | v :: vs, rl, h => by
    obtain ⟨r, rest, e, h1, h2, tn⟩ := h
    exact ⟨r, rest, e, h1.start a, RpRs.start a h2, tn⟩
theorem RpRs.at : ∀ {vs : List V} {rl : List RV} {j : Nat} {v : V} {r : RV}, RpRs K σ H H' env' vs rl → vs[j]? = some v → rl[j]? = some r → RpR K σ H H' env' v r
  | [], rl, j, v, r, _, e, _ => by simp at e
  | u :: vs, rl, 0, v, r, h, e, e2 => by
    obtain ⟨r', rest, rfl, h1, h2, tn⟩ := h
    simp at e e2
    subst e e2
    exact h1
  | u :: vs, rl, j + 1, v, r, h, e, e2 => by
    obtain ⟨r', rest, rfl, h1, h2, tn⟩ := h
    exact RpRs.at h2 (by simpa using e) (by simpa using e2)
theorem TN.of {σ2 : L2.St} {v : V} {r : RV} {vs : List V} {rl : List RV} (h1 : RpR K σ H H' env' v r) (h2 : RpRs K σ2 H' H'' env'' vs rl) : TN v r vs rl := by
  intro d e il j ys e1 e2
  subst e
  cases d with
  | lst xs =>
    obtain ⟨a, us, rfl, h, _⟩ := h1.1
    have := (RpRs.at h2 e2 e1).2 rfl a rfl
    rw [this] at h
    cases h
  | _ => simp [isL] at il
def RpVs (K : PySem.W.Frag) (H : Hp) : List D → List V → Prop
  | [], vs => vs = []
  | d :: ds, vs => ∃ v r, vs = v :: r ∧ RpV K H d v ∧ RpVs K H ds r
def rsl (env : DEnv) : List RV → (List D → Prop) → Prop
  | [], k => k []
  | r :: rest, k => rs env r fun d => rsl env rest fun ds => k (d :: ds)
theorem RpRs.rs (R : Rep K np He σ H' env') : ∀ {vs : List V} {rl : List RV} {k : List D → Prop}, RpRs K σ H H' env' vs rl → rsl env' rl k → ∃ ds, RpVs K H' ds vs ∧ k ds
  | [], rl, k, h, g => by
    have e : rl = [] := h
    subst e
    exact ⟨[], rfl, g⟩
  | v :: vs, rl, k, h, g => by
    obtain ⟨r, rest, e, h1, h2, tn⟩ := h
    subst e
    obtain ⟨d, hd, g1⟩ := h1.rs R g
    obtain ⟨ds, hds, g2⟩ := RpRs.rs R h2 g1
    exact ⟨d :: ds, ⟨v, vs, rfl, hd, hds⟩, g2⟩
/-- no list among them -/
def immA : List D → Bool
  | [] => true
  | d :: ds => !isL d && immA ds
theorem RpVs.imm : ∀ {ds : List D} {vs : List V}, RpVs K H ds vs → immA ds = true → RpIs K H ds vs
  | [], vs, h, _ => by simp only [RpIs]; exact h
  | d :: ds, vs, h, n => by
    obtain ⟨v, r, e, h1, h2⟩ := h
    simp only [immA, Bool.and_eq_true, Bool.not_eq_true'] at n
    simp only [RpIs]
    exact ⟨v, r, e, h1.imm n.1, RpVs.imm h2 n.2⟩
theorem RpVs.length : ∀ {ds : List D} {vs : List V}, RpVs K H ds vs → ds.length = vs.length
  | [], vs, h => by cases (show vs = [] from h); rfl
  | d :: ds, vs, h => by
    obtain ⟨v, r, rfl, _, h2⟩ := h
    simp only [List.length_cons, RpVs.length h2]
end

section
variable {X : Cx} {np : Nat} {He : Hp} {a b c e : Expr} {es : List Expr} {wa wb wc : W} {ws : WA} {pos : Pos}

/-! ### names, constants -/
def pick (d : D) (a b : Prop) : Prop := match d with
  | .lst _ => a
  | _ => b
def cVar (i : Nat) : W := fun env Q => getv env i fun d => pick d (Q (.ref i) env) (Q (.val d) env)
theorem e_var (i : Nat) {x : Str} (hN : X.N[i]? = some x := by rfl) (hv : Vis X.env.scope x := by first | exact Or.inl rfl | exact Or.inr (Or.inl rfl) | exact Or.inr (Or.inr rfl)) (hd : (x == ("__debug__" : Str)) = false := by decide)
    (hcd : (x == ("__classdict__" : Str)) = false := by decide) : DE X np He (.Name x pos) (cVar i) := by
  refine PE.weak (pe_var hN hv hd hcd) fun σ H Q ⟨env, Q0, R, w, q⟩ => ?_
  obtain ⟨d, e, w⟩ := getv_of w
  obtain ⟨v, e1, r⟩ := R.val i d e
  refine ⟨v, e1, ?_⟩
  cases d with
  | lst ds => exact q (.ref i) env v H w (.refl R) ⟨e1, ds, e⟩
  | _ => exact q (.val _) env v H w (.refl R) ⟨r, fun n => by simp [isL] at n⟩
def cC (d : D) : W := fun env Q => Q (.val d) env
theorem e_int {i : Int} {j : Nat} : DE X np He (.Constant (.int i) j pos) (cC (.int i)) := PE.weak pe_int fun σ H Q ⟨env, Q0, R, w, q⟩ => q _ env _ H w (.refl R) ⟨rfl, fun n => by simp [isL] at n⟩
theorem e_bl {i : Bool} {j : Nat} : DE X np He (.Constant (.bool i) j pos) (cC (.bl i)) := PE.weak pe_bl fun σ H Q ⟨env, Q0, R, w, q⟩ => q _ env _ H w (.refl R) ⟨rfl, fun n => by simp [isL] at n⟩
theorem e_non {j : Nat} : DE X np He (.Constant .none j pos) (cC .non) := PE.weak pe_non fun σ H Q ⟨env, Q0, R, w, q⟩ => q _ env _ H w (.refl R) ⟨rfl, fun n => by simp [isL] at n⟩
theorem e_str {i : Str} {j : Nat} : DE X np He (.Constant (.str i) j pos) (cC (.str i)) := PE.weak pe_str fun σ H Q ⟨env, Q0, R, w, q⟩ => q _ env _ H w (.refl R) ⟨rfl, fun n => by simp [isL] at n⟩
theorem e_gint {x : Str} {n : Int} {t : Tok} (hm : X.mg x = some (.int n t)) (hg : Gl X x := by rfl) (hd : (x == ("__debug__" : Str)) = false := by decide) : DE X np He (.Name x pos) (cC (.int n)) :=
  PE.weak (pe_glob (v := .int n) hg hm ⟨t, rfl⟩ hd) fun σ H Q ⟨env, Q0, R, w, q⟩ => q _ env _ H w (.refl R) ⟨rfl, fun n => by simp [isL] at n⟩

/-! ### two operands -/
abbrev F2 := D → D → (D → Prop) → Prop
def cOp (f : F2) (wa wb : W) : W := fun env Q => wa env fun ra e1 => wb e1 fun rb e2 => rs e2 ra fun x => rs e2 rb fun y => f x y fun z => Q (.val z) e2
def OpD (K : PySem.W.Frag) (r : R2) (f : F2) : Prop := ∀ (H : Hp) (x y : D) (v w : V) (k : D → Prop) (Q : VK), RpV K H x v → RpV K H y w → f x y k →
  (∀ z u H', k z → Ext H H' → RpV K H' z u → (isL z = true → ∀ a, u = .ref a → H a = none) → Q u H') → r v w H Q
theorem two {ta tb : TE} {r : R2} {f : F2} (h : OpD X.K r f) : ∀ σ H Q, rE X.K np He (cOp f wa wb) σ H Q → tOp r (rE X.K np He wa) (rE X.K np He wb) σ H Q := by
  intro σ H Q ⟨env, Q0, R, w, q⟩
  refine ⟨env, _, R, w, fun ra e1 v1 H1 w1 s1 r1 => ⟨e1, _, s1.rep, w1, fun rb e2 v2 H2 w2 s2 r2 => ?_⟩⟩
  have r1' := r1.keep R s1 s2
  have s12 := s1.trans s2
  obtain ⟨x, hx, w2⟩ := r1'.rs s2.rep w2
  obtain ⟨y, hy, w2⟩ := r2.rs s2.rep w2
  refine h H2 x y v1 v2 _ Q hx hy w2 fun z u H' k ex rz fz => ?_
  exact q _ e2 u H' k (s12.trans (.ext s2.rep ex)) ⟨rz, fun n c e => s12.dom c (fz n c e)⟩
theorem e_op {op : Operator} {r : R2} {f : F2} (ho : OpR X (binaryOp op) r) (h : OpD X.K r f) (ha : DE X np He a wa) (hb : DE X np He b wb) : DE X np He (.BinOp a op b pos) (cOp f wa wb) :=
  PE.weak (pe_op ho ha hb) (two (ta := rE X.K np He wa) (tb := rE X.K np He wb) h)
theorem e_cmp {op : CmpOp} {r : R2} {f : F2} (ho : OpR X (compareOp op) r) (h : OpD X.K r f) (ha : DE X np He a wa) (hb : DE X np He b wb) (hm : behindInMarks op b = false) : DE X np He (.Compare a [op] [b] pos) (cOp f wa wb) :=
  PE.weak (pe_cmpR ho ha hb hm) (two (ta := rE X.K np He wa) (tb := rE X.K np He wb) h)
theorem t_cmp {op : CmpOp} {r : R2} {f : F2} (ho : OpR X (compareOp op) r) (h : OpD X.K r f) (ha : DE X np He a wa) (hb : DE X np He b wb) (hm : behindInMarks op b = false) : DT X np He (.Compare a [op] [b] pos) (cOp f wa wb) :=
  PT.weak (pt_cmpR ho ha hb hm) fun σ H Q h' => two (ta := rE X.K np He wa) (tb := rE X.K np He wb) h σ H _ h'
theorem e_ix {r : R2} {f : F2} (hr : IxR X r) (h : OpD X.K r f) (ha : DE X np He a wa) (hb : DE X np He b wb) (hs : PlainIx b := by exact fun _ _ => rfl) : DE X np He (.Subscript a b pos) (cOp f wa wb) :=
  PE.weak (pe_ix hr ha hb hs) (two (ta := rE X.K np He wa) (tb := rE X.K np He wb) h)

/-! ### two ints -/
def fI (g : Int → Int → (D → Prop) → Prop) : F2 := fun x y k => match x, y with
  | .int i, .int j => g i j k
  | _, _ => False
theorem fI_of {g : Int → Int → (D → Prop) → Prop} {x y : D} {k : D → Prop} (h : fI g x y k) : ∃ i j, x = .int i ∧ y = .int j ∧ g i j k := by
  unfold fI at h
  split at h
  · exact ⟨_, _, rfl, rfl, h⟩
  · exact h.elim
theorem opd_I {C : Int → Int → Prop} {g : Int → Int → Int} : OpD X.K (rI C fun i j => .int (g i j)) (fI fun i j k => C i j ∧ k (.int (g i j))) := by
  intro H x y v w k Q rx ry h q
  obtain ⟨i, j, rfl, rfl, hc, h⟩ := fI_of h
  exact ⟨i, j, rx, ry, hc, q _ _ H h (.refl H) rfl (fun n => by simp [isL] at n)⟩
theorem opd_I0 {g : Int → Int → Int} : OpD X.K (rI0 fun i j => .int (g i j)) (fI fun i j k => k (.int (g i j))) := by
  intro H x y v w k Q rx ry h q
  obtain ⟨i, j, rfl, rfl, h⟩ := fI_of h
  exact ⟨i, j, rx, ry, q _ _ H h (.refl H) rfl (fun n => by simp [isL] at n)⟩
theorem opd_B0 {g : Int → Int → Bool} : OpD X.K (rI0 fun i j => .bl (g i j)) (fI fun i j k => k (.bl (g i j))) := by
  intro H x y v w k Q rx ry h q
  obtain ⟨i, j, rfl, rfl, h⟩ := fI_of h
  exact ⟨i, j, rx, ry, q _ _ H h (.refl H) rfl (fun n => by simp [isL] at n)⟩
abbrev fSub : F2 := fI fun i j k => k (.int (i - j))
abbrev fMul : F2 := fI fun i j k => CMul i j ∧ k (.int (i * j))
abbrev fFdiv : F2 := fI fun i j k => CDiv i j ∧ k (.int (i / j))
abbrev fMod : F2 := fI fun i j k => 0 < j ∧ k (.int (i % j))
abbrev fPow : F2 := fI fun i j k => CPow i j ∧ k (.int (i ^ j.toNat))
abbrev fShl : F2 := fI fun i j k => CPow i j ∧ k (.int (i * 2 ^ j.toNat))
abbrev fShr : F2 := fI fun i j k => 0 ≤ j ∧ k (.int (i / 2 ^ j.toNat))
abbrev fAnd : F2 := fI fun i j k => k (.int (Builtin.bitAnd i j))
abbrev fOr : F2 := fI fun i j k => k (.int (Builtin.bitOr i j))
abbrev fXor : F2 := fI fun i j k => k (.int (Builtin.bitXor i j))
abbrev fLt : F2 := fI fun i j k => k (.bl (decide (i < j)))
abbrev fLe : F2 := fI fun i j k => k (.bl (decide (i ≤ j)))
abbrev fGt : F2 := fI fun i j k => k (.bl (decide (j < i)))
abbrev fGe : F2 := fI fun i j k => k (.bl (decide (j ≤ i)))
section
variable (ha : DE X np He a wa) (hb : DE X np He b wb)
include ha hb
theorem e_sub : DE X np He (.BinOp a .Sub b pos) (cOp fSub wa wb) := e_op op_sub opd_I0 ha hb
theorem e_mul : DE X np He (.BinOp a .Mult b pos) (cOp fMul wa wb) := e_op op_mul opd_I ha hb
theorem e_fdiv : DE X np He (.BinOp a .FloorDiv b pos) (cOp fFdiv wa wb) := e_op op_fdiv opd_I ha hb
theorem e_mod : DE X np He (.BinOp a .Mod b pos) (cOp fMod wa wb) := e_op op_mod opd_I ha hb
theorem e_pow : DE X np He (.BinOp a .Pow b pos) (cOp fPow wa wb) := e_op op_pow opd_I ha hb
theorem e_shl : DE X np He (.BinOp a .LShift b pos) (cOp fShl wa wb) := e_op op_shl opd_I ha hb
theorem e_shr : DE X np He (.BinOp a .RShift b pos) (cOp fShr wa wb) := e_op op_shr opd_I ha hb
theorem e_and : DE X np He (.BinOp a .BitAnd b pos) (cOp fAnd wa wb) := e_op op_and opd_I0 ha hb
theorem e_or : DE X np He (.BinOp a .BitOr b pos) (cOp fOr wa wb) := e_op op_or opd_I0 ha hb
theorem e_xor : DE X np He (.BinOp a .BitXor b pos) (cOp fXor wa wb) := e_op op_xor opd_I0 ha hb
theorem e_lt : DE X np He (.Compare a [.Lt] [b] pos) (cOp fLt wa wb) := e_cmp op_lt opd_B0 ha hb (nomark _)
theorem e_le : DE X np He (.Compare a [.LtE] [b] pos) (cOp fLe wa wb) := e_cmp op_le opd_B0 ha hb (nomark _)
theorem e_gt : DE X np He (.Compare a [.Gt] [b] pos) (cOp fGt wa wb) := e_cmp op_gt opd_B0 ha hb (nomark _)
theorem e_ge : DE X np He (.Compare a [.GtE] [b] pos) (cOp fGe wa wb) := e_cmp op_ge opd_B0 ha hb (nomark _)
theorem t_lt : DT X np He (.Compare a [.Lt] [b] pos) (cOp fLt wa wb) := t_cmp op_lt opd_B0 ha hb (nomark _)
theorem t_le : DT X np He (.Compare a [.LtE] [b] pos) (cOp fLe wa wb) := t_cmp op_le opd_B0 ha hb (nomark _)
theorem t_gt : DT X np He (.Compare a [.Gt] [b] pos) (cOp fGt wa wb) := t_cmp op_gt opd_B0 ha hb (nomark _)
theorem t_ge : DT X np He (.Compare a [.GtE] [b] pos) (cOp fGe wa wb) := t_cmp op_ge opd_B0 ha hb (nomark _)
end
/-! ### == of scalars -/
def eqS : D → D → Option Bool
  | .non, .non => some true | .non, .int _ => some false | .int _, .non => some false | .non, .bl _ => some false | .bl _, .non => some false | .non, .str _ => some false | .str _, .non => some false
  | .int i, .int j => some (decide (i = j)) | .bl i, .bl j => some (decide (i = j)) | .str i, .str j => some (decide (i = j))
  | .int _, .str _ => some false | .str _, .int _ => some false | .bl _, .str _ => some false | .str _, .bl _ => some false
  | _, _ => none
def fEqS : F2 := fun x y k => match eqS x y with
  | some c => k (.bl c)
  | none => False
def fNeS : F2 := fun x y k => match eqS x y with
  | some c => k (.bl (!c))
  | none => False
theorem eqS_ok {K : PySem.W.Frag} {H : Hp} {x y : D} {v w : V} {c : Bool} (rx : RpV K H x v) (ry : RpV K H y w) (h : eqS x y = some c) : scal v w = true ∧ decide (v = w) = c := by
  cases x <;> cases y <;> first
    | (simp [eqS] at h; done)
    | (cases rx; cases ry; simp only [eqS, Option.some.injEq] at h; subst h; refine ⟨rfl, ?_⟩; simp)
theorem opd_eqS : OpD X.K rEq fEqS := by
  intro H x y v w k Q rx ry h q
  unfold fEqS at h
  split at h
  · rename_i c e
    obtain ⟨h1, h2⟩ := eqS_ok rx ry e
    refine ⟨h1, ?_⟩
    rw [h2]
    exact q _ _ H h (.refl H) rfl (fun n => by simp [isL] at n)
  · exact h.elim
theorem opd_neS : OpD X.K rNe fNeS := by
  intro H x y v w k Q rx ry h q
  unfold fNeS at h
  split at h
  · rename_i c e
    obtain ⟨h1, h2⟩ := eqS_ok rx ry e
    refine ⟨h1, ?_⟩
    rw [h2]
    exact q _ _ H h (.refl H) rfl (fun n => by simp [isL] at n)
  · exact h.elim
theorem e_eqS (ha : DE X np He a wa) (hb : DE X np He b wb) : DE X np He (.Compare a [.Eq] [b] pos) (cOp fEqS wa wb) := e_cmp op_eq opd_eqS ha hb (nomark _)
theorem t_eqS (ha : DE X np He a wa) (hb : DE X np He b wb) : DT X np He (.Compare a [.Eq] [b] pos) (cOp fEqS wa wb) := t_cmp op_eq opd_eqS ha hb (nomark _)
theorem t_neS (ha : DE X np He a wa) (hb : DE X np He b wb) : DT X np He (.Compare a [.NotEq] [b] pos) (cOp fNeS wa wb) := t_cmp op_ne opd_neS ha hb (nomark _)

/-! ### subscripts -/
def seqD : D → Option (List D)
  | .tup ds => some ds
  | .lst ds => some ds
  | .rol ds => some ds
  | .tpd ds => some ds
  | _ => none
theorem RpV.seq {K : PySem.W.Frag} {H : Hp} {d : D} {v : V} {ds : List D} (h : RpV K H d v) (e : seqD d = some ds) : ∃ a vs, v = .ref a ∧ (SqL K H a vs ∨ SqT K H a vs) ∧ RpIs K H ds vs := by
  cases d with
  | tup es =>
    simp only [seqD, Option.some.injEq] at e
    subst e
    obtain ⟨a, vs, e1, s, r⟩ := (show ∃ a vs, v = .ref a ∧ H a = some (.tup vs) ∧ RpIs K H es vs by simpa only [RpV, RpI] using h)
    exact ⟨a, vs, e1, .inr (.of s), r⟩
  | tpd es =>
    simp only [seqD, Option.some.injEq] at e
    subst e
    obtain ⟨a, vs, e1, s, r⟩ := (show ∃ a vs, v = .ref a ∧ TpK K H a vs ∧ RpIs K H es vs by simpa only [RpV, RpI] using h)
    exact ⟨a, vs, e1, .inr s.t, r⟩
  | rol es =>
    simp only [seqD, Option.some.injEq] at e
    subst e
    obtain ⟨a, vs, e1, s, r⟩ := (show ∃ a vs, v = .ref a ∧ SqR K H a vs ∧ RpIs K H es vs by simpa only [RpV, RpI] using h)
    exact ⟨a, vs, e1, .inl s.seq, r⟩
  | lst es =>
    simp only [seqD, Option.some.injEq] at e
    subst e
    obtain ⟨a, vs, e1, s, r⟩ := h
    exact ⟨a, vs, e1, .inl (.of s), r⟩
  | _ => simp [seqD] at e
def fIx : F2 := fun x y k => match seqD x, y with
  | some ds, .int i => (match atI ds i with
    | some d => k d
    | none => False)
  | _, _ => False
theorem atI_rp {K : PySem.W.Frag} {H : Hp} {ds : List D} {vs : List V} {i : Int} {d : D} (r : RpIs K H ds vs) (h : atI ds i = some d) : ∃ v, atI vs i = some v ∧ RpI K H d v := by
  unfold atI at h ⊢
  rw [← r.length]
  cases q : ixN ds.length i with
  | none => rw [q] at h; cases h
  | some j =>
    rw [q] at h
    exact r.get h
theorem opd_ix : OpD X.K (rIx X.K) fIx := by
  intro H x y v w k Q rx ry h q
  unfold fIx at h
  split at h
  · rename_i ds i e1
    split at h
    · rename_i d e2
      obtain ⟨a, vs, rfl, s, r⟩ := rx.seq e1
      obtain ⟨u, e3, ru⟩ := atI_rp r e2
      have hi : isL d = false := by
        cases d <;> first | rfl | (simp only [RpI] at ru)
      rcases s with s | s
      · exact .inl ⟨a, vs, i, u, rfl, ry, s, e3, q d u H h (.refl H) (.of ru) (fun n => by rw [hi] at n; cases n)⟩
      · exact .inr (.inl ⟨a, vs, i, u, rfl, ry, s, e3, q d u H h (.refl H) (.of ru) (fun n => by rw [hi] at n; cases n)⟩)
    · exact h.elim
  · exact h.elim
theorem e_ixs (ha : DE X np He a wa) (hb : DE X np He b wb) (hs : PlainIx b := by exact fun _ _ => rfl) : DE X np He (.Subscript a b pos) (cOp fIx wa wb) := e_ix ix_seq opd_ix ha hb hs

/-! ### one operand -/
abbrev F1 := D → (D → Prop) → Prop
def cUn (f : F1) (wa : W) : W := fun env Q => wa env fun ra e1 => rs e1 ra fun x => f x fun z => Q (.val z) e1
def fNeg : F1 := fun x k => match x with
  | .int i => k (.int (-i))
  | _ => False
def fInv : F1 := fun x k => match x with
  | .int i => k (.int (Builtin.bitNot i))
  | _ => False
def fBits : F1 := fun x k => match x with
  | .int i => k (.int (Builtin.Int.intBits i : Nat))
  | _ => False
def fNot : F1 := fun x k => match x with
  | .bl c => k (.bl (!c))
  | _ => False
def isN : D → Bool
  | .non => true
  | _ => false
def fIsN (neg : Bool) : F1 := fun x k => k (.bl (if neg = true then !isN x else isN x))
theorem e_neg (ha : DE X np He a wa) : DE X np He (.UnaryOp .USub a pos) (cUn fNeg wa) := by
  refine PE.weak (pe_un un_neg ha) fun σ H Q ⟨env, Q0, R, w, q⟩ => ⟨env, _, R, w, fun ra e1 v1 H1 w1 s1 r1 => ?_⟩
  obtain ⟨x, hx, w1⟩ := r1.rs s1.rep w1
  cases x <;> first | exact False.elim w1 | skip
  exact ⟨_, hx, q _ e1 _ H1 w1 s1 ⟨rfl, fun n => by simp [isL] at n⟩⟩
theorem e_inv (ha : DE X np He a wa) : DE X np He (.UnaryOp .Invert a pos) (cUn fInv wa) := by
  refine PE.weak (pe_un un_inv ha) fun σ H Q ⟨env, Q0, R, w, q⟩ => ⟨env, _, R, w, fun ra e1 v1 H1 w1 s1 r1 => ?_⟩
  obtain ⟨x, hx, w1⟩ := r1.rs s1.rep w1
  cases x <;> first | exact False.elim w1 | skip
  exact ⟨_, hx, q _ e1 _ H1 w1 s1 ⟨rfl, fun n => by simp [isL] at n⟩⟩
theorem e_bits {apos : Pos} (ha : DE X np He a wa) (hbase : attributeBase a "bit_length" X.env (eval a X.env) = eval a X.env := by rfl) (hline : (apos.endLine == pos.line) = true := by rfl) : DE X np He (.Call (.Attribute a "bit_length" apos) [] [] pos) (cUn fBits wa) := by
  refine PE.weak (pe_bits ha hbase hline) fun σ H Q ⟨env, Q0, R, w, q⟩ => ⟨env, _, R, w, fun ra e1 v1 H1 w1 s1 r1 => ?_⟩
  obtain ⟨x, hx, w1⟩ := r1.rs s1.rep w1
  cases x <;> first | exact False.elim w1 | skip
  exact ⟨_, hx, q _ e1 _ H1 w1 s1 ⟨rfl, fun n => by simp [isL] at n⟩⟩
theorem e_not (ha : DE X np He a wa) : DE X np He (.UnaryOp .Not a pos) (cUn fNot wa) := by
  refine PE.weak (pe_not ha) fun σ H Q ⟨env, Q0, R, w, q⟩ => ⟨env, _, R, w, fun ra e1 v1 H1 w1 s1 r1 => ?_⟩
  obtain ⟨x, hx, w1⟩ := r1.rs s1.rep w1
  cases x <;> first | exact False.elim w1 | skip
  exact ⟨_, hx, q _ e1 _ H1 w1 s1 ⟨rfl, fun n => by simp [isL] at n⟩⟩
theorem t_not (ha : DT X np He a wa) : DT X np He (.UnaryOp .Not a pos) (cUn fNot wa) := by
  refine PT.weak (pt_not ha) fun σ H Q ⟨env, Q0, R, w, q⟩ => ⟨env, _, R, w, fun ra e1 v1 H1 w1 s1 r1 => ?_⟩
  obtain ⟨x, hx, w1⟩ := r1.rs s1.rep w1
  cases x with
  | bl c =>
    cases hx
    obtain ⟨c', e', q'⟩ := q (.val (.bl (!c))) e1 _ H1 w1 s1 ⟨rfl, fun n => by simp [isL] at n⟩
    cases e'
    exact ⟨c, rfl, q'⟩
  | _ => exact False.elim w1
theorem RpV.non_iff {K : PySem.W.Frag} {H : Hp} {d : D} {v : V} (h : RpV K H d v) : decide (v = .non) = isN d := by
  cases d with
  | non => cases h; rfl
  | bl _ => cases h; rfl
  | int _ => cases h; rfl
  | str _ => cases h; rfl
  | tup _ => simp only [RpV, RpI] at h; obtain ⟨a, _, rfl, _⟩ := h; rfl
  | rol _ => simp only [RpV, RpI] at h; obtain ⟨a, _, rfl, _⟩ := h; rfl
  | tpd _ => simp only [RpV, RpI] at h; obtain ⟨a, _, rfl, _⟩ := h; rfl
  | rod _ _ => simp only [RpV, RpI] at h; obtain ⟨a, _, rfl, _⟩ := h; rfl
  | obj _ _ => simp only [RpV, RpI] at h; obtain ⟨a, _, _, _, rfl, _⟩ := h; rfl
  | lst _ => obtain ⟨a, _, rfl, _⟩ := h; rfl
theorem isN_core (neg : Bool) : ∀ σ H Q, rE X.K np He (cUn (fIsN neg) wa) σ H Q → rE X.K np He wa σ H fun x H1 => Q (.bl (if neg = true then !decide (x = .non) else decide (x = .non))) H1 := by
  intro σ H Q ⟨env, Q0, R, w, q⟩
  refine ⟨env, _, R, w, fun ra e1 v1 H1 w1 s1 r1 => ?_⟩
  obtain ⟨x, hx, w1⟩ := r1.rs s1.rep w1
  rw [hx.non_iff]
  exact q (.val (.bl (if neg = true then !isN x else isN x))) e1 _ H1 w1 s1 ⟨rfl, fun n => by simp [isL] at n⟩
theorem e_isN {j : Nat} {pos' : Pos} (ha : DE X np He a wa) : DE X np He (.Compare a [.Is] [.Constant .none j pos'] pos) (cUn (fIsN false) wa) :=
  PE.weak (pe_cmp (pc_isN ha)) fun σ H Q h => isN_core false σ H _ h
theorem t_isN {j : Nat} {pos' : Pos} (ha : DE X np He a wa) : DT X np He (.Compare a [.Is] [.Constant .none j pos'] pos) (cUn (fIsN false) wa) :=
  PT.weak (pt_cmp (pc_isN ha)) fun σ H Q h => isN_core false σ H _ h
theorem t_notN {j : Nat} {pos' : Pos} (ha : DE X np He a wa) : DT X np He (.Compare a [.IsNot] [.Constant .none j pos'] pos) (cUn (fIsN true) wa) :=
  PT.weak (pt_cmp (pc_notN ha)) fun σ H Q h => isN_core true σ H _ h
/-- any value that is a bool, as a test -/
theorem t_val (h : DE X np He e wa) (he : ∀ whole, isTrue e X.env whole = (do let v ← whole; standAt e.pos; holding [v] (truthy v)) := by intro _; rfl) : DT X np He e wa := pt_val h he

/-! ### and, or, if -/
inductive ifb : D → Prop → Prop → Prop where
  | t {a b : Prop} (h : a) : ifb (.bl true) a b
  | f {a b : Prop} (h : b) : ifb (.bl false) a b
def cAnd (wa wb : W) : W := fun env Q => wa env fun ra e1 => rs e1 ra fun x => ifb x (wb e1 Q) (Q (.val (.bl false)) e1)
def cOr (wa wb : W) : W := fun env Q => wa env fun ra e1 => rs e1 ra fun x => ifb x (Q (.val (.bl true)) e1) (wb e1 Q)
theorem ifb_of {d : D} {A B : Prop} (h : ifb d A B) : (d = .bl true ∧ A) ∨ (d = .bl false ∧ B) := by
  cases h with
  | t h => exact .inl ⟨rfl, h⟩
  | f h => exact .inr ⟨rfl, h⟩
theorem rE.next {σ : L2.St} {H H1 : Hp} {env e1 : DEnv} {Q : VK} {Q0 : RV → DEnv → Prop} (s1 : SE X.K np He σ H env H1 e1) (w : wb e1 Q0)
    (q : ∀ r env' v H', Q0 r env' → SE X.K np He σ H env H' env' → RpR X.K σ H H' env' v r → Q v H') : rE X.K np He wb σ H1 Q :=
  ⟨e1, Q0, s1.rep, w, fun r env' v H' g s2 r2 => q r env' v H' g (s1.trans s2) (r2.start s1)⟩
theorem e_one {op : BoolOp} (ha : DE X np He a wa) : DE X np He (.BoolOp op [a] pos) wa := pe_one ha
theorem e_and' {rest : List Expr} (ha : DE X np He a wa) (hb : DE X np He (.BoolOp .And (b :: rest) pos) wb) : DE X np He (.BoolOp .And (a :: b :: rest) pos) (cAnd wa wb) := by
  refine PE.weak (pe_and ha hb) fun σ H Q ⟨env, Q0, R, w, q⟩ => ⟨env, _, R, w, fun ra e1 v1 H1 w1 s1 r1 => ?_⟩
  obtain ⟨x, hx, w1⟩ := r1.rs s1.rep w1
  have w1z := ifb_of w1; clear w1; rcases w1z with ⟨rfl, w1⟩ | ⟨rfl, w1⟩
  · exact ⟨true, hx, rE.next s1 w1 q⟩
  · exact ⟨false, hx, q _ e1 _ H1 w1 s1 ⟨rfl, fun n => by simp [isL] at n⟩⟩
theorem e_or' {rest : List Expr} (ha : DE X np He a wa) (hb : DE X np He (.BoolOp .Or (b :: rest) pos) wb) : DE X np He (.BoolOp .Or (a :: b :: rest) pos) (cOr wa wb) := by
  refine PE.weak (pe_or ha hb) fun σ H Q ⟨env, Q0, R, w, q⟩ => ⟨env, _, R, w, fun ra e1 v1 H1 w1 s1 r1 => ?_⟩
  obtain ⟨x, hx, w1⟩ := r1.rs s1.rep w1
  have w1z := ifb_of w1; clear w1; rcases w1z with ⟨rfl, w1⟩ | ⟨rfl, w1⟩
  · exact ⟨true, hx, q _ e1 _ H1 w1 s1 ⟨rfl, fun n => by simp [isL] at n⟩⟩
  · exact ⟨false, hx, rE.next s1 w1 q⟩
abbrev DW (X : Cx) (np : Nat) (He : Hp) (e : Expr) (w : W) : Prop := PW X e (tB (rE X.K np He w))
theorem w_and1 (ha : DT X np He a wa) : DW X np He (.BoolOp .And [a] pos) wa := pw_and1 ha
theorem w_or1 (ha : DT X np He a wa) : DW X np He (.BoolOp .Or [a] pos) wa := pw_or1 ha
theorem PW.weak {e : Expr} {t t' : TT} (h : PW X e t) (i : ∀ σ H Q, t' σ H Q → t σ H Q) : PW X e t' := ⟨fun wh pins s σ H Q I q => h.run wh pins s σ H Q I (i σ H Q q)⟩
theorem w_and {rest : List Expr} (ha : DT X np He a wa) (hb : DW X np He (.BoolOp .And (b :: rest) pos) wb) : DW X np He (.BoolOp .And (a :: b :: rest) pos) (cAnd wa wb) := by
  refine DL.PW.weak (pw_and ha hb) fun σ H Q ⟨env, Q0, R, w, q⟩ => ⟨env, _, R, w, fun ra e1 v1 H1 w1 s1 r1 => ?_⟩
  obtain ⟨x, hx, w1⟩ := r1.rs s1.rep w1
  have w1z := ifb_of w1; clear w1; rcases w1z with ⟨rfl, w1⟩ | ⟨rfl, w1⟩
  · exact ⟨true, hx, rE.next s1 w1 q⟩
  · refine ⟨false, hx, ?_⟩
    obtain ⟨c, e, q'⟩ := q _ e1 (.bl false) H1 w1 s1 ⟨rfl, fun n => by simp [isL] at n⟩
    cases e
    exact q'
theorem w_or {rest : List Expr} (ha : DT X np He a wa) (hb : DW X np He (.BoolOp .Or (b :: rest) pos) wb) : DW X np He (.BoolOp .Or (a :: b :: rest) pos) (cOr wa wb) := by
  refine DL.PW.weak (pw_or ha hb) fun σ H Q ⟨env, Q0, R, w, q⟩ => ⟨env, _, R, w, fun ra e1 v1 H1 w1 s1 r1 => ?_⟩
  obtain ⟨x, hx, w1⟩ := r1.rs s1.rep w1
  have w1z := ifb_of w1; clear w1; rcases w1z with ⟨rfl, w1⟩ | ⟨rfl, w1⟩
  · refine ⟨true, hx, ?_⟩
    obtain ⟨c, e, q'⟩ := q _ e1 (.bl true) H1 w1 s1 ⟨rfl, fun n => by simp [isL] at n⟩
    cases e
    exact q'
  · exact ⟨false, hx, rE.next s1 w1 q⟩
theorem t_bop (h : DW X np He e wa) : DT X np He e wa := h.pt
/-- a op b op' c -/
def cChain (f g : F2) (wa wb wc : W) : W := fun env Q => wa env fun ra e1 => wb e1 fun rb e2 => rs e2 ra fun x => rs e2 rb fun y => f x y fun z => ifb z (wc e2 fun rc e3 => rs e3 rb fun y' => rs e3 rc fun u => g y' u fun z' => Q (.val z') e3) (Q (.val (.bl false)) e2)
theorem chain_core {ta tb tc : TE} {r r' : R2} {f g : F2} (h : OpD X.K r f) (h' : OpD X.K r' g) : ∀ σ H Q, rE X.K np He (cChain f g wa wb wc) σ H Q → tChain r r' (rE X.K np He wa) (rE X.K np He wb) (rE X.K np He wc) σ H Q := by
  intro σ H Q ⟨env, Q0, R, w, q⟩
  refine ⟨env, _, R, w, fun ra e1 v1 H1 w1 s1 r1 => ⟨e1, _, s1.rep, w1, fun rb e2 v2 H2 w2 s2 r2 => ?_⟩⟩
  have r1' := r1.keep R s1 s2
  have s12 := s1.trans s2
  obtain ⟨x, hx, w2⟩ := r1'.rs s2.rep w2
  obtain ⟨y, hy, w2⟩ := r2.rs s2.rep w2
  refine h H2 x y v1 v2 _ _ hx hy w2 fun z u H' k ex rz fz => ?_
  have s3 : SE X.K np He σ H2 e2 H' e2 := .ext s2.rep ex
  have kz := ifb_of k; clear k; rcases kz with ⟨rfl, k⟩ | ⟨rfl, k⟩
  · refine ⟨true, rz, ?_⟩
    rw [if_pos rfl]
    refine ⟨e2, _, s3.rep, k, fun rc e3 v3 H3 w3 s4 r3 => ?_⟩
    have r2' := r2.keep s1.rep s2 (s3.trans s4)
    obtain ⟨y', hy', w3⟩ := r2'.rs s4.rep w3
    obtain ⟨u', hu', w3⟩ := r3.rs s4.rep w3
    have s14 := (s12.trans s3).trans s4
    refine h' H3 y' u' v2 v3 _ Q hy' hu' w3 fun z u H' k ex rz fz => ?_
    exact q _ e3 u H' k (s14.trans (.ext s4.rep ex)) ⟨rz, fun n c e => s14.dom c (fz n c e)⟩
  · refine ⟨false, rz, ?_⟩
    rw [if_neg Bool.false_ne_true]
    exact q _ e2 _ H' k (s12.trans s3) ⟨rfl, fun n => by simp [isL] at n⟩
theorem e_chain {op op' : CmpOp} {r r' : R2} {f g : F2} (ho : OpR X (compareOp op) r) (ho' : OpR X (compareOp op') r') (h : OpD X.K r f) (h' : OpD X.K r' g) (ha : DE X np He a wa) (hb : DE X np He b wb) (hc : DE X np He c wc)
    (hm : lastMarks [op, op'] [b, c] = false := by with_unfolding_all rfl) : DE X np He (.Compare a [op, op'] [b, c] pos) (cChain f g wa wb wc) :=
  PE.weak (pe_chain ho ho' ha hb hc hm) (chain_core (ta := rE X.K np He wa) (tb := rE X.K np He wb) (tc := rE X.K np He wc) h h')
theorem t_chain {op op' : CmpOp} {r r' : R2} {f g : F2} (ho : OpR X (compareOp op) r) (ho' : OpR X (compareOp op') r') (h : OpD X.K r f) (h' : OpD X.K r' g) (ha : DE X np He a wa) (hb : DE X np He b wb) (hc : DE X np He c wc)
    (hm : lastMarks [op, op'] [b, c] = false := by with_unfolding_all rfl) : DT X np He (.Compare a [op, op'] [b, c] pos) (cChain f g wa wb wc) :=
  PT.weak (pt_chain ho ho' ha hb hc hm) fun σ H Q h0 => chain_core (ta := rE X.K np He wa) (tb := rE X.K np He wb) (tc := rE X.K np He wc) h h' σ H _ h0

/-! ### arguments, displays -/
def cNil : WA := fun env Q => Q [] env
def cCons (wa : W) (ws : WA) : WA := fun env Q => wa env fun r e1 => ws e1 fun rl e2 => Q (r :: rl) e2
theorem a_nil : DA X np He [] cNil := PA.weak pa_nil fun σ H Q ⟨env, Q0, R, w, q⟩ => q [] env [] H w (.refl R) rfl
theorem a_cons (ha : DE X np He a wa) (hr : DA X np He es ws) (hs : starEach (a :: es) X.env = (false, eval a X.env) :: starEach es X.env := by rfl) : DA X np He (a :: es) (cCons wa ws) := by
  refine PA.weak (pa_cons ha hr hs) fun σ H Q ⟨env, Q0, R, w, q⟩ => ⟨env, _, R, w, fun r e1 v1 H1 w1 s1 r1 => ⟨e1, _, s1.rep, w1, fun rl e2 vs H2 w2 s2 r2 => ?_⟩⟩
  exact q (r :: rl) e2 (v1 :: vs) H2 w2 (s1.trans s2) ⟨r, rl, rfl, r1.keep R s1 s2, r2.start s1, .of r1 r2⟩
theorem line_of {n : Nat} (h : n ≤ 1000000) : n ≤ sizeLine := Nat.le_trans h (by rw [sizeLine_eq]; decide)
def cTup (ws : WA) : W := fun env Q => ws env fun rl e1 => rsl e1 rl fun ds => immA ds = true ∧ ds.length ≤ 1000000 ∧ Q (.val (.tup ds)) e1
def cLst (ws : WA) : W := fun env Q => ws env fun rl e1 => rsl e1 rl fun ds => immA ds = true ∧ ds.length ≤ 1000000 ∧ Q (.val (.lst ds)) e1
theorem e_tup {k : Nat} (h : DA X np He es ws) : DE X np He (.Tuple es k pos) (cTup ws) := by
  refine PE.weak (pe_tup h) fun σ H Q ⟨env, Q0, R, w, q⟩ => ⟨env, _, R, w, fun rl e1 vs H1 w1 s1 r1 => ?_⟩
  obtain ⟨ds, hd, im, sz, w1⟩ := r1.rs s1.rep w1
  refine ⟨by rw [← hd.length]; exact line_of sz, fun p np' => ?_⟩
  have ex : Ext H1 (upd H1 p (.tup vs)) := .new np'
  refine q _ e1 _ _ w1 (s1.trans (.ext s1.rep ex)) ⟨?_, fun n => by simp [isL] at n⟩
  show RpI _ _ _ _
  simp only [RpI]
  exact ⟨p, vs, rfl, upd_same, RpIs.kp ex.kp ds vs (hd.imm im)⟩
theorem e_lst (h : DA X np He es ws) : DE X np He (.List es pos) (cLst ws) := by
  refine PE.weak (pe_lst h) fun σ H Q ⟨env, Q0, R, w, q⟩ => ⟨env, _, R, w, fun rl e1 vs H1 w1 s1 r1 => ?_⟩
  obtain ⟨ds, hd, im, sz, w1⟩ := r1.rs s1.rep w1
  refine ⟨by rw [← hd.length]; exact line_of sz, fun p np' => ?_⟩
  have ex : Ext H1 (upd H1 p (.lst vs)) := .new np'
  refine q _ e1 _ _ w1 (s1.trans (.ext s1.rep ex)) ⟨⟨p, vs, rfl, upd_same, RpIs.kp ex.kp ds vs (hd.imm im)⟩, fun _ c e => ?_⟩
  cases e
  exact s1.dom p np'

/-! ### calls of what is built in -/
abbrev FA := List D → (D → Prop) → Prop
def CaD (K : PySem.W.Frag) (r : List V → Hp → VK → Prop) (f : FA) : Prop := ∀ (H : Hp) (ds : List D) (vs : List V) (k : D → Prop) (Q : VK), RpVs K H ds vs → f ds k →
  (∀ z u H', k z → Ext H H' → RpV K H' z u → (isL z = true → ∀ a, u = .ref a → H a = none) → Q u H') → r vs H Q
def cBi (f : FA) (ws : WA) : W := fun env Q => ws env fun rl e1 => rsl e1 rl fun ds => f ds fun z => Q (.val z) e1
theorem bi_core {r : List V → Hp → VK → Prop} {f : FA} (h : CaD X.K r f) : ∀ σ H Q, rE X.K np He (cBi f ws) σ H Q → tCB r (rA X.K np He ws) σ H Q := by
  intro σ H Q ⟨env, Q0, R, w, q⟩
  refine ⟨env, _, R, w, fun rl e1 vs H1 w1 s1 r1 => ?_⟩
  obtain ⟨ds, hd, w1⟩ := r1.rs s1.rep w1
  refine h H1 ds vs _ Q hd w1 fun z u H' k ex rz fz => ?_
  exact q _ e1 u H' k (s1.trans (.ext s1.rep ex)) ⟨rz, fun n c e => s1.dom c (fz n c e)⟩
theorem e_bi {id : String} {r : List V → Hp → VK → Prop} {f : FA} {x : Str} {p : Pos} (hc : CallR X (.builtin id) r) (h : CaD X.K r f) (hm : X.mg x = none) (hv : bootBuiltins x = some (.builtin id)) (ha : DA X np He (a :: es) ws) (hg : Gl X x := by rfl)
    (hn : x ≠ "__name__" := by decide) (hdb : (x == ("__debug__" : Str)) = false := by decide) (he : starEach (a :: es) X.env = (false, eval a X.env) :: starEach es X.env := by rfl) (hpl : (backTo pos (starEach es X.env)).any (·.1) = false := by rfl) :
    DE X np He (.Call (.Name x p) (a :: es) [] pos) (cBi f ws) := PE.weak (pe_callB hc hg hm hv ha hn hdb he hpl) (bi_core h)
theorem e_ty {T : String} {r : List V → Hp → VK → Prop} {f : FA} {x : Str} {p : Pos} (hc : CallR X (.type T) r) (h : CaD X.K r f) (hm : X.mg x = none) (hv : bootBuiltins x = some (.type T)) (ha : DA X np He (a :: es) ws) (hg : Gl X x := by rfl)
    (hn : x ≠ "__name__" := by decide) (hdb : (x == ("__debug__" : Str)) = false := by decide) (he : starEach (a :: es) X.env = (false, eval a X.env) :: starEach es X.env := by rfl) (hpl : (backTo pos (starEach es X.env)).any (·.1) = false := by rfl) :
    DE X np He (.Call (.Name x p) (a :: es) [] pos) (cBi f ws) := PE.weak (pe_callTy hc hg hm hv ha hn hdb he hpl) (bi_core h)
theorem RpVs.one {K : PySem.W.Frag} {H : Hp} {d : D} {vs : List V} (h : RpVs K H [d] vs) : ∃ v, vs = [v] ∧ RpV K H d v := by
  obtain ⟨v, r, rfl, h1, h2⟩ := h
  cases (show r = [] from h2)
  exact ⟨v, rfl, h1⟩
theorem RpVs.two {K : PySem.W.Frag} {H : Hp} {d e : D} {vs : List V} (h : RpVs K H [d, e] vs) : ∃ v w, vs = [v, w] ∧ RpV K H d v ∧ RpV K H e w := by
  obtain ⟨v, r, rfl, h1, h2⟩ := h
  obtain ⟨w, rfl, h3⟩ := RpVs.one h2
  exact ⟨v, w, rfl, h1, h3⟩
end
end DL

namespace DL
open PySem PySem.Spec PyProof.Rows L2
section
variable {X : Cx} {np : Nat} {He : Hp} {a b c e : Expr} {es : List Expr} {wa wb wc : W} {ws : WA} {pos : Pos}

/-! ### built-ins -/
def on1 (f : D → (D → Prop) → Prop) : FA := fun ds k => match ds with
  | [d] => f d k
  | _ => False
theorem on1_of {f : D → (D → Prop) → Prop} {ds : List D} {k : D → Prop} (h : on1 f ds k) : ∃ d, ds = [d] ∧ f d k := by
  unfold on1 at h
  split at h
  · exact ⟨_, rfl, h⟩
  · exact h.elim
def onS (f : List D → (D → Prop) → Prop) : FA := on1 fun d k => match seqD d with
  | some xs => f xs k
  | none => False
theorem onS_of {f : List D → (D → Prop) → Prop} {ds : List D} {k : D → Prop} (h : onS f ds k) : ∃ d xs, ds = [d] ∧ seqD d = some xs ∧ f xs k := by
  obtain ⟨d, e, g⟩ := on1_of h
  split at g
  · exact ⟨d, _, e, by assumption, g⟩
  · exact g.elim
def on2I (f : Int → Int → (D → Prop) → Prop) : FA := fun ds k => match ds with
  | [.int i, .int j] => f i j k
  | _ => False
theorem on2I_of {f : Int → Int → (D → Prop) → Prop} {ds : List D} {k : D → Prop} (h : on2I f ds k) : ∃ i j, ds = [.int i, .int j] ∧ f i j k := by
  unfold on2I at h
  split at h
  · exact ⟨_, _, rfl, h⟩
  · exact h.elim
def fLen : FA := onS fun xs k => k (.int xs.length)
theorem cad_len : CaD X.K (fun xs H Q => ∃ p ys, xs = [.ref p] ∧ (SqL X.K H p ys ∨ SqT X.K H p ys) ∧ Q (.int ys.length) H) fLen := by
  intro H ds vs k Q r h q
  obtain ⟨d, xs, rfl, e, h⟩ := onS_of h
  obtain ⟨v, rfl, rv⟩ := r.one
  obtain ⟨p, us, rfl, s, ru⟩ := rv.seq e
  exact ⟨p, us, rfl, s, by rw [← ru.length]; exact q _ _ H h (.refl H) rfl (fun n => by simp [isL] at n)⟩
theorem e_len {p : Pos} (hm : X.mg "len" = none) (ha : DE X np He a wa) (hg : Gl X "len" := by rfl) (he : starEach [a] X.env = (false, eval a X.env) :: starEach [] X.env := by rfl) :
    DE X np He (.Call (.Name "len" p) [a] [] pos) (cBi fLen (cCons wa cNil)) := e_bi call_len_seq cad_len hm PySem.boot_len (a_cons ha a_nil he) hg (he := he)
def fInt : FA := on1 fun d k => match d with
  | .int i => k (.int i)
  | .bl c => k (.int (if c then 1 else 0))
  | _ => False
theorem e_int1 {p : Pos} (hm : X.mg "int" = none) (ha : DE X np He a wa) (hg : Gl X "int" := by rfl) (he : starEach [a] X.env = (false, eval a X.env) :: starEach [] X.env := by rfl) :
    DE X np He (.Call (.Name "int" p) [a] [] pos) (cBi fInt (cCons wa cNil)) := by
  refine e_ty call_int1 ?_ hm (by decide +kernel) (a_cons ha a_nil he) hg (he := he)
  intro H ds vs k Q r h q
  obtain ⟨d, rfl, h⟩ := on1_of h
  obtain ⟨v, rfl, rv⟩ := r.one
  cases d <;> first | exact h.elim | skip
  · cases rv
    exact .inr ⟨_, rfl, q _ _ H h (.refl H) rfl (fun n => by simp [isL] at n)⟩
  · cases rv
    exact .inl ⟨_, rfl, q _ _ H h (.refl H) rfl (fun n => by simp [isL] at n)⟩
def fAbs : FA := on1 fun d k => match d with
  | .int i => k (.int (if i < 0 then -i else i))
  | _ => False
theorem e_abs {p : Pos} (hm : X.mg "abs" = none) (ha : DE X np He a wa) (hg : Gl X "abs" := by rfl) (he : starEach [a] X.env = (false, eval a X.env) :: starEach [] X.env := by rfl) :
    DE X np He (.Call (.Name "abs" p) [a] [] pos) (cBi fAbs (cCons wa cNil)) := by
  refine e_bi call_abs ?_ hm (by decide +kernel) (a_cons ha a_nil he) hg (he := he)
  intro H ds vs k Q r h q
  obtain ⟨d, rfl, h⟩ := on1_of h
  obtain ⟨v, rfl, rv⟩ := r.one
  cases d <;> first | exact h.elim | skip
  cases rv
  exact ⟨_, rfl, q _ _ H h (.refl H) rfl (fun n => by simp [isL] at n)⟩
def fMax : FA := on2I fun i j k => k (.int (if j > i then j else i))
theorem e_max {p : Pos} (hc : X.calm = true) (hm : X.mg "max" = none) (ha : DE X np He a wa) (hb : DE X np He b wb) (hg : Gl X "max" := by rfl) (he : starEach [a, b] X.env = (false, eval a X.env) :: starEach [b] X.env := by rfl) (he2 : starEach [b] X.env = (false, eval b X.env) :: starEach [] X.env := by rfl) (hpl : (backTo pos (starEach [b] X.env)).any (·.1) = false := by rfl) :
    DE X np He (.Call (.Name "max" p) [a, b] [] pos) (cBi fMax (cCons wa (cCons wb cNil))) := by
  refine e_bi (call_max2 hc) ?_ hm (by decide +kernel) (a_cons ha (a_cons hb a_nil he2) he) hg (he := he) (hpl := hpl)
  intro H ds vs k Q r h q
  obtain ⟨i, j, rfl, h⟩ := on2I_of h
  obtain ⟨v, w, rfl, rv, rw'⟩ := r.two
  cases rv; cases rw'
  exact ⟨i, j, rfl, q _ _ H h (.refl H) rfl (fun n => by simp [isL] at n)⟩
def fList : FA := onS fun xs k => k (.lst xs)
def fTuple : FA := on1 fun d k => match d with
  | .tpd xs => k (.tpd xs)
  | .tup xs => k (.tup xs)
  | .lst xs => k (.tup xs)
  | .rol xs => k (.tup xs)
  | _ => False
theorem e_list {p : Pos} (hm : X.mg "list" = none) (ha : DE X np He a wa) (hg : Gl X "list" := by rfl) (he : starEach [a] X.env = (false, eval a X.env) :: starEach [] X.env := by rfl) :
    DE X np He (.Call (.Name "list" p) [a] [] pos) (cBi fList (cCons wa cNil)) := by
  refine e_ty call_list_of ?_ hm (by decide +kernel) (a_cons ha a_nil he) hg (he := he)
  intro H ds vs k Q r h q
  obtain ⟨d, xs, rfl, e, h⟩ := onS_of h
  obtain ⟨v, rfl, rv⟩ := r.one
  obtain ⟨p, us, rfl, s, ru⟩ := rv.seq e
  refine ⟨p, us, rfl, s, fun l nl => q _ _ _ h (.new nl) ⟨l, us, rfl, upd_same, RpIs.kp (Ext.new nl).kp xs us ru⟩ (fun _ a e => ?_)⟩
  cases e
  exact nl
theorem e_tuple {p : Pos} (hm : X.mg "tuple" = none) (ha : DE X np He a wa) (hg : Gl X "tuple" := by rfl) (he : starEach [a] X.env = (false, eval a X.env) :: starEach [] X.env := by rfl) :
    DE X np He (.Call (.Name "tuple" p) [a] [] pos) (cBi fTuple (cCons wa cNil)) := by
  refine e_ty call_tuple_of ?_ hm (by decide +kernel) (a_cons ha a_nil he) hg (he := he)
  intro H ds vs k Q r h q
  obtain ⟨d, rfl, h⟩ := on1_of h
  obtain ⟨v, rfl, rv⟩ := r.one
  have lst : ∀ {p : Addr} {us : List V} {xs : List D}, SqL X.K H p us → RpIs X.K H xs us → k (.tup xs) → ∃ (p' : Addr) (us' : List V), [V.ref p] = [.ref p'] ∧ ((SqL X.K H p' us' ∧ ∀ l, H l = none → Q (.ref l) (upd H l (.tup us'))) ∨ (SqT X.K H p' us' ∧ Q (.ref p') H)) := by
    intro p us xs s ru h
    refine ⟨p, us, rfl, .inl ⟨s, fun l nl => q _ _ _ h (.new nl) ?_ (fun n => by simp [isL] at n)⟩⟩
    show RpI _ _ _ _
    simp only [RpI]
    exact ⟨l, us, rfl, upd_same, RpIs.kp (Ext.new nl).kp xs us ru⟩
  cases d with
  | lst xs =>
    obtain ⟨p, us, rfl, s, ru⟩ := rv
    exact lst (.of s) ru h
  | rol xs =>
    obtain ⟨p, us, rfl, s, ru⟩ := (show ∃ a vs, v = .ref a ∧ SqR X.K H a vs ∧ RpIs X.K H xs vs by simpa only [RpV, RpI] using rv)
    exact lst s.seq ru h
  | tup xs =>
    obtain ⟨p, us, rfl, s, ru⟩ := (show ∃ a vs, v = .ref a ∧ H a = some (.tup vs) ∧ RpIs X.K H xs vs by simpa only [RpV, RpI] using rv)
    exact ⟨p, us, rfl, .inr ⟨.of s, q _ _ H h (.refl H) rv (fun n => by simp [isL] at n)⟩⟩
  | tpd xs =>
    obtain ⟨p, us, rfl, s, ru⟩ := (show ∃ a vs, v = .ref a ∧ TpK X.K H a vs ∧ RpIs X.K H xs vs by simpa only [RpV, RpI] using rv)
    exact ⟨p, us, rfl, .inr ⟨s.t, q _ _ H h (.refl H) rv (fun n => by simp [isL] at n)⟩⟩
  | _ => exact h.elim
/-- the ints, the bools of a list -/
def intsD : List D → Option (List Int)
  | [] => some []
  | .int i :: r => (intsD r).map (i :: ·)
  | _ => none
theorem intsD_ok {K : PySem.W.Frag} {H : Hp} : ∀ {ds : List D} {vs : List V} {ns : List Int}, RpIs K H ds vs → intsD ds = some ns → vs = ns.map V.int
  | [], vs, ns, r, h => by
    simp only [RpIs] at r
    simp only [intsD, Option.some.injEq] at h
    subst r h
    rfl
  | d :: ds, vs, ns, r, h => by
    cases d <;> first | (simp only [intsD] at h; cases h; done) | skip
    simp only [RpIs, RpI] at r
    obtain ⟨v, r', rfl, rfl, h2⟩ := r
    simp only [intsD, Option.map_eq_some_iff] at h
    obtain ⟨ms, e, rfl⟩ := h
    rw [List.map_cons, intsD_ok h2 e]
theorem intsD_map (ns : List Int) : intsD (ns.map D.int) = some ns := by
  induction ns with
  | nil => rfl
  | cons n r ih => simp [intsD, ih]
/-- a list only -/
def onL (f : List D → (D → Prop) → Prop) : FA := on1 fun d k => match d with
  | .lst xs => f xs k
  | _ => False
theorem onL_of {f : List D → (D → Prop) → Prop} {ds : List D} {k : D → Prop} (h : onL f ds k) : ∃ xs, ds = [.lst xs] ∧ f xs k := by
  obtain ⟨d, e, g⟩ := on1_of h
  split at g
  · exact ⟨_, e, g⟩
  · exact g.elim
def fSum : FA := onL fun xs k => match intsD xs with
  | some ns => k (.int ns.sum)
  | none => False
theorem e_sum {p : Pos} (hc : X.calm = true) (hm : X.mg "sum" = none) (ha : DE X np He a wa) (hg : Gl X "sum" := by rfl) (he : starEach [a] X.env = (false, eval a X.env) :: starEach [] X.env := by rfl) :
    DE X np He (.Call (.Name "sum" p) [a] [] pos) (cBi fSum (cCons wa cNil)) := by
  refine e_bi (cr_sum hc) ?_ hm (by decide +kernel) (a_cons ha a_nil he) hg (he := he)
  intro H ds vs k Q r h q
  obtain ⟨xs, e0, g⟩ := onL_of h
  subst e0
  obtain ⟨v, rfl, rv⟩ := r.one
  obtain ⟨p, us, rfl, s, ru⟩ := rv
  split at g
  · rename_i ns e
    have e2 := intsD_ok ru e
    subst e2
    exact ⟨p, ns, rfl, .of s, q _ _ H g (.refl H) rfl (fun n => by simp [isL] at n)⟩
  · exact g.elim
/-! ### isinstance -/
def tyN : D → String
  | .non => "NoneType" | .bl _ => "bool" | .int _ => "int" | .str _ => "str" | .tup _ => "tuple" | .lst _ => "list" | .rol _ => "list" | .tpd _ => "tuple" | .rod _ _ => "dict" | .obj _ _ => "object"
def isRod : D → Bool
  | .rod _ _ => true
  | .obj _ _ => true
  | _ => false
theorem tyN_ok {K : PySem.W.Frag} {H : Hp} {d : D} {v : V} (h : RpV K H d v) (nr : isRod d = false) : TyX K H v (.type (tyN d)) := by
  cases d with
  | non => cases h; exact .base .non
  | bl b => cases h; exact .base (.bl b)
  | int b => cases h; exact .base (.int b)
  | str b => cases h; exact .base (.str b)
  | lst ds => obtain ⟨a, vs, rfl, e, _⟩ := h; exact .base (.lst e)
  | rol ds =>
    obtain ⟨a, vs, rfl, s, _⟩ := (show ∃ a vs, v = .ref a ∧ SqR K H a vs ∧ RpIs K H ds vs by simpa only [RpV, RpI] using h)
    rcases s with ⟨o, s⟩ | ⟨o, its, n, s, c, _⟩
    · exact .base (.frz s)
    · exact .kList s c
  | tup ds =>
    obtain ⟨a, vs, rfl, s, _⟩ := (show ∃ a vs, v = .ref a ∧ H a = some (.tup vs) ∧ RpIs K H ds vs by simpa only [RpV, RpI] using h)
    exact .base (.tup s)
  | tpd ds =>
    obtain ⟨a, vs, rfl, s, _⟩ := (show ∃ a vs, v = .ref a ∧ TpK K H a vs ∧ RpIs K H ds vs by simpa only [RpV, RpI] using h)
    rcases s with ⟨o, s, _⟩ | ⟨o, its, n, s, c, _⟩
    · exact .fTuple s
    · exact .kTuple s c
  | rod ks ds => simp [isRod] at nr
  | obj n ds => simp [isRod] at nr
inductive Ty5 where
  | tuple | list | bool | int | str
def Ty5.nm : Ty5 → String
  | .tuple => "tuple" | .list => "list" | .bool => "bool" | .int => "int" | .str => "str"
def isT : D → Ty5 → Bool
  | .tup _, .tuple => true
  | .tpd _, .tuple => true
  | .lst _, .list => true
  | .rol _, .list => true
  | .bl _, .bool => true
  | .bl _, .int => true
  | .int _, .int => true
  | .str _, .str => true
  | _, _ => false
theorem kit_all (d : D) (T : Ty5) : kitB (tyN d) T.nm = some (isT d T) := by
  cases d <;> cases T <;> (simp only [tyN, Ty5.nm, isT]; decide +kernel)
/-- it is no dict -/
def nrd (d : D) (A : Prop) : Prop := match d with
  | .rod _ _ => False
  | .obj _ _ => False
  | _ => A
theorem nrd_of {d : D} {A : Prop} (h : nrd d A) : isRod d = false ∧ A := by
  cases d <;> first | exact h.elim | exact ⟨rfl, h⟩
def cIsi (T : Ty5) (wa : W) : W := fun env Q => wa env fun ra e1 => rs e1 ra fun x => nrd x (Q (.val (.bl (isT x T))) e1)
theorem e_isi (T : Ty5) {x : Str} {p p2 : Pos} (hm : X.mg "isinstance" = none) (hx : X.mg x = none) (hv : bootBuiltins x = some (.type T.nm)) (ha : DE X np He a wa) (hg : Gl X "isinstance" := by rfl) (hg2 : Gl X x := by rfl) (hn : x ≠ "__name__" := by decide)
    (hd : (x == ("__debug__" : Str)) = false := by decide) (he : starEach [a, .Name x p2] X.env = (false, eval a X.env) :: starEach [.Name x p2] X.env := by rfl) (hpl : (backTo pos (starEach [.Name x p2] X.env)).any (·.1) = false := by rfl) :
    DE X np He (.Call (.Name "isinstance" p) [a, .Name x p2] [] pos) (cIsi T wa) := by
  refine PE.weak (pe_callB call_isi hg hm (by decide +kernel) (pa_cons ha (pa_cons (pe_bltn (v := .ty T.nm) hg2 hx hv rfl hn hd) pa_nil) he) (he := he) (hpl := hpl)) fun σ H Q ⟨env, Q0, R, w, q⟩ => ⟨env, _, R, w, fun ra e1 v1 H1 w1 s1 r1 => ?_⟩
  obtain ⟨d, hd, w1⟩ := r1.rs s1.rep w1
  obtain ⟨nr, w1⟩ := nrd_of w1
  exact ⟨v1, .ty T.nm, .type (tyN d), .type T.nm, isT d T, rfl, .ty T.nm, tyN_ok hd nr, kit_ty (kit_all d T), q _ e1 _ H1 w1 s1 ⟨rfl, fun n => by simp [isL] at n⟩⟩
theorem kit2 {K : PySem.W.Frag} {d : D} {T U : Ty5} : PySem.W.kitAny K (.type (tyN d)) [.type T.nm, .type U.nm] = some (isT d T || isT d U) := by
  refine kitAny_cons (kit_ty (kit_all d T)) (fun h => ?_) (fun h => by rw [h]; rfl)
  refine kitAny_cons (kit_ty (kit_all d U)) (fun h' => ?_) (fun h' => by rw [h, h']; rfl)
  rw [h, h']
  rfl
def cIsi2 (T U : Ty5) (wa : W) : W := fun env Q => wa env fun ra e1 => rs e1 ra fun x => nrd x (Q (.val (.bl (isT x T || isT x U))) e1)
theorem e_isi2 (T U : Ty5) {x y : Str} {k : Nat} {p p2 p3 p4 : Pos} (hm : X.mg "isinstance" = none) (hx : X.mg x = none) (hy : X.mg y = none) (hv : bootBuiltins x = some (.type T.nm)) (hw : bootBuiltins y = some (.type U.nm)) (ha : DE X np He a wa)
    (hg : Gl X "isinstance" := by rfl) (hg2 : Gl X x := by rfl) (hg3 : Gl X y := by rfl) (hn : x ≠ "__name__" := by decide) (hn2 : y ≠ "__name__" := by decide)
    (hd : (x == ("__debug__" : Str)) = false := by decide) (hd2 : (y == ("__debug__" : Str)) = false := by decide) (he : starEach [a, .Tuple [.Name x p2, .Name y p3] k p4] X.env = (false, eval a X.env) :: starEach [.Tuple [.Name x p2, .Name y p3] k p4] X.env := by rfl) (hpl : (backTo pos (starEach [.Tuple [.Name x p2, .Name y p3] k p4] X.env)).any (·.1) = false := by rfl) :
    DE X np He (.Call (.Name "isinstance" p) [a, .Tuple [.Name x p2, .Name y p3] k p4] [] pos) (cIsi2 T U wa) := by
  refine PE.weak (pe_callB call_isiT hg hm (by decide +kernel) (pa_cons ha (pa_cons (pe_tup (pa_cons (pe_bltn (v := .ty T.nm) hg2 hx hv rfl hn hd) (pa_cons (pe_bltn (v := .ty U.nm) hg3 hy hw rfl hn2 hd2) pa_nil))) pa_nil) he) (he := he) (hpl := hpl)) fun σ H Q ⟨env, Q0, R, w, q⟩ => ⟨env, _, R, w, fun ra e1 v1 H1 w1 s1 r1 => ?_⟩
  refine ⟨by rw [sizeLine_eq]; show 2 ≤ 16777216; decide, fun p np' => ?_⟩
  have ex : Ext H1 (upd H1 p (.tup [.ty T.nm, .ty U.nm])) := .new np'
  have s2 := s1.trans (.ext s1.rep ex)
  have r2 := r1.keep R s1 (.ext s1.rep ex)
  obtain ⟨d, hd, w1⟩ := r2.rs s2.rep w1
  obtain ⟨nr, w1⟩ := nrd_of w1
  exact ⟨v1, p, _, .type (tyN d), [.type T.nm, .type U.nm], isT d T || isT d U, rfl, upd_same, .cons (.ty T.nm) (.cons (.ty U.nm) .nil), tyN_ok hd nr, kit2, q _ e1 _ _ w1 s2 ⟨rfl, fun n => by simp [isL] at n⟩⟩

/-! ### lists: +, * , in -/
def fAddG : F2 := fun x y k => match x, y with
  | .int i, .int j => k (.int (i + j))
  | .lst xs, .lst ys => xs.length + ys.length ≤ 1000000 ∧ k (.lst (xs ++ ys))
  | .tup xs, .tup ys => xs.length + ys.length ≤ 1000000 ∧ k (.tup (xs ++ ys))
  | .tpd xs, .tpd ys => xs.length + ys.length ≤ 1000000 ∧ k (.tup (xs ++ ys)) ∧ k (.tpd (xs ++ ys))
  | .tup xs, .tpd ys => xs.length + ys.length ≤ 1000000 ∧ k (.tup (xs ++ ys)) ∧ k (.tpd (xs ++ ys))
  | .tpd xs, .tup ys => xs.length + ys.length ≤ 1000000 ∧ k (.tup (xs ++ ys)) ∧ k (.tpd (xs ++ ys))
  | _, _ => False
theorem opd_addG : OpD X.K (fun x y H Q => rI0 (fun i j => V.int (i + j)) x y H Q ∨ rCat x y H Q ∨ rCatA X.K x y H Q) fAddG := by
  intro H x y v w k Q rx ry h q
  unfold fAddG at h
  split at h
  · cases rx; cases ry
    exact .inl ⟨_, _, rfl, rfl, q _ _ H h (.refl H) rfl (fun n => by simp [isL] at n)⟩
  · obtain ⟨a1, vs, rfl, e1, r1⟩ := rx
    obtain ⟨a2, us, rfl, e2, r2⟩ := ry
    refine .inr (.inl ⟨a1, a2, vs, us, rfl, rfl, e1, e2, by rw [← r1.length, ← r2.length]; exact line_of h.1, fun p np' => ?_⟩)
    have ex : Ext H (upd H p (.lst (vs ++ us))) := .new np'
    refine q _ _ _ h.2 ex ⟨p, _, rfl, upd_same, RpIs.kp ex.kp _ _ (r1.append r2)⟩ (fun _ c e => ?_)
    cases e
    exact np'
  · obtain ⟨a1, vs, rfl, e1, r1⟩ := rx
    obtain ⟨a2, us, rfl, e2, r2⟩ := ry
    refine .inr (.inr ⟨a1, a2, vs, us, rfl, rfl, .of e1, .of e2, by rw [← r1.length, ← r2.length]; exact line_of h.1, fun n1 => ?_, fun _ n2 => ?_, fun _ _ p np' => ?_⟩)
    · subst n1
      have hxs := List.eq_nil_of_length_eq_zero (r1.length.trans rfl)
      subst hxs
      exact q _ _ H h.2 (.refl H) ⟨a2, us, rfl, e2, r2⟩ (fun n => by simp [isL] at n)
    · subst n2
      have hys := List.eq_nil_of_length_eq_zero (r2.length.trans rfl)
      subst hys
      exact q _ _ H h.2 (.refl H) ⟨a1, vs, rfl, e1, by rw [List.append_nil]; exact r1⟩ (fun n => by simp [isL] at n)
    · have ex : Ext H (upd H p (.tup (vs ++ us))) := .new np'
      exact q _ _ _ h.2 ex ⟨p, _, rfl, upd_same, RpIs.kp ex.kp _ _ (r1.append r2)⟩ (fun n => by simp [isL] at n)
  · obtain ⟨a1, vs, rfl, e1, r1⟩ := rx
    obtain ⟨a2, us, rfl, e2, r2⟩ := ry
    refine .inr (.inr ⟨a1, a2, vs, us, rfl, rfl, e1.t, e2.t, by rw [← r1.length, ← r2.length]; exact line_of h.1, fun n1 => ?_, fun _ n2 => ?_, fun _ _ p np' => ?_⟩)
    · subst n1
      have hxs := List.eq_nil_of_length_eq_zero (r1.length.trans rfl)
      subst hxs
      exact q _ _ H h.2.2 (.refl H) ⟨a2, us, rfl, e2, r2⟩ (fun n => by simp [isL] at n)
    · subst n2
      have hys := List.eq_nil_of_length_eq_zero (r2.length.trans rfl)
      subst hys
      exact q _ _ H h.2.2 (.refl H) ⟨a1, vs, rfl, e1, by rw [List.append_nil]; exact r1⟩ (fun n => by simp [isL] at n)
    · have ex : Ext H (upd H p (.tup (vs ++ us))) := .new np'
      exact q _ _ _ h.2.1 ex ⟨p, _, rfl, upd_same, RpIs.kp ex.kp _ _ (r1.append r2)⟩ (fun n => by simp [isL] at n)
  · obtain ⟨a1, vs, rfl, e1, r1⟩ := rx
    obtain ⟨a2, us, rfl, e2, r2⟩ := ry
    refine .inr (.inr ⟨a1, a2, vs, us, rfl, rfl, .of e1, e2.t, by rw [← r1.length, ← r2.length]; exact line_of h.1, fun n1 => ?_, fun _ n2 => ?_, fun _ _ p np' => ?_⟩)
    · subst n1
      have hxs := List.eq_nil_of_length_eq_zero (r1.length.trans rfl)
      subst hxs
      exact q _ _ H h.2.2 (.refl H) ⟨a2, us, rfl, e2, r2⟩ (fun n => by simp [isL] at n)
    · subst n2
      have hys := List.eq_nil_of_length_eq_zero (r2.length.trans rfl)
      subst hys
      exact q _ _ H h.2.1 (.refl H) ⟨a1, vs, rfl, e1, by rw [List.append_nil]; exact r1⟩ (fun n => by simp [isL] at n)
    · have ex : Ext H (upd H p (.tup (vs ++ us))) := .new np'
      exact q _ _ _ h.2.1 ex ⟨p, _, rfl, upd_same, RpIs.kp ex.kp _ _ (r1.append r2)⟩ (fun n => by simp [isL] at n)
  · obtain ⟨a1, vs, rfl, e1, r1⟩ := rx
    obtain ⟨a2, us, rfl, e2, r2⟩ := ry
    refine .inr (.inr ⟨a1, a2, vs, us, rfl, rfl, e1.t, .of e2, by rw [← r1.length, ← r2.length]; exact line_of h.1, fun n1 => ?_, fun _ n2 => ?_, fun _ _ p np' => ?_⟩)
    · subst n1
      have hxs := List.eq_nil_of_length_eq_zero (r1.length.trans rfl)
      subst hxs
      exact q _ _ H h.2.1 (.refl H) ⟨a2, us, rfl, e2, r2⟩ (fun n => by simp [isL] at n)
    · subst n2
      have hys := List.eq_nil_of_length_eq_zero (r2.length.trans rfl)
      subst hys
      exact q _ _ H h.2.2 (.refl H) ⟨a1, vs, rfl, e1, by rw [List.append_nil]; exact r1⟩ (fun n => by simp [isL] at n)
    · have ex : Ext H (upd H p (.tup (vs ++ us))) := .new np'
      exact q _ _ _ h.2.1 ex ⟨p, _, rfl, upd_same, RpIs.kp ex.kp _ _ (r1.append r2)⟩ (fun n => by simp [isL] at n)
  · exact h.elim
theorem e_addG (ha : DE X np He a wa) (hb : DE X np He b wb) : DE X np He (.BinOp a .Add b pos) (cOp fAddG wa wb) := e_op (op_add.or (op_cat.or op_catA)) opd_addG ha hb
theorem RpIs.rep {K : PySem.W.Frag} {H : Hp} {ds : List D} {vs : List V} (h : RpIs K H ds vs) : ∀ n : Nat, RpIs K H (List.replicate n ds).flatten (List.replicate n vs).flatten
  | 0 => by simp [RpIs]
  | n + 1 => by
    rw [List.replicate_succ, List.replicate_succ, List.flatten_cons, List.flatten_cons]
    exact h.append (RpIs.rep h n)
/-- a flat value within a flat list -/
def flatD : D → Bool
  | .non => true | .bl _ => true | .int _ => true | .str _ => true
  | _ => false
def eqF : D → D → Bool
  | .non, .non => true
  | .bl a, .bl b => a == b
  | .bl a, .int b => (if a then 1 else 0) == b
  | .int a, .bl b => a == (if b then 1 else 0)
  | .int a, .int b => a == b
  | .str a, .str b => a == b
  | _, _ => false
def flatA : List D → Bool
  | [] => true
  | d :: r => flatD d && flatA r
def fIn (neg : Bool) : F2 := fun x y k => match seqD y with
  | some ys => flatD x = true ∧ flatA ys = true ∧ k (.bl (if neg then !(ys.any fun y => eqF y x) else ys.any fun y => eqF y x))
  | none => False
theorem flat_ok {K : PySem.W.Frag} {H : Hp} {d : D} {v : V} (h : RpV K H d v) (f : flatD d = true) : flatV v = true := by
  cases d <;> first | (cases h; rfl) | (simp [flatD] at f)
theorem eqF_ok {K : PySem.W.Frag} {H : Hp} {d e : D} {v w : V} (h : RpV K H d v) (g : RpV K H e w) (f : flatD d = true) (f' : flatD e = true) : eqV v w = eqF d e := by
  cases d <;> first | (simp [flatD] at f; done) | skip
  all_goals cases e <;> first | (simp [flatD] at f'; done) | (cases h; cases g; rfl)
theorem flatA_ok {K : PySem.W.Frag} {H : Hp} {d : D} {v : V} (hd : RpV K H d v) (fd : flatD d = true) : ∀ {ys : List D} {us : List V}, RpIs K H ys us → flatA ys = true → us.all flatV = true ∧ inV v us = ys.any fun y => eqF y d
  | [], us, r, _ => by
    simp only [RpIs] at r
    subst r
    exact ⟨rfl, rfl⟩
  | y :: ys, us, r, f => by
    simp only [RpIs] at r
    obtain ⟨u, r', rfl, h1, h2⟩ := r
    simp only [flatA, Bool.and_eq_true] at f
    obtain ⟨i1, i2⟩ := flatA_ok hd fd h2 f.2
    have h1' : RpV K H y u := .of h1
    refine ⟨by rw [List.all_cons, flat_ok h1' f.1, i1]; rfl, ?_⟩
    unfold inV at i2 ⊢
    rw [List.any_cons, List.any_cons, i2, eqF_ok h1' hd f.1 fd]
theorem opd_in {neg : Bool} : OpD X.K (rIn X.K neg) (fIn neg) := by
  intro H x y v w k Q rx ry h q
  unfold fIn at h
  split at h
  · rename_i ys e
    obtain ⟨f1, f2, h⟩ := h
    obtain ⟨p, us, rfl, s, ru⟩ := ry.seq e
    obtain ⟨i1, i2⟩ := flatA_ok rx f1 ru f2
    refine ⟨p, us, rfl, s, flat_ok rx f1, i1, ?_⟩
    rw [i2]
    exact q _ _ H h (.refl H) rfl (fun n => by simp [isL] at n)
  · exact h.elim
theorem e_notIn (ha : DE X np He a wa) (hb : DE X np He b wb) (hm : behindInMarks .NotIn b = false := by with_unfolding_all rfl) : DE X np He (.Compare a [.NotIn] [b] pos) (cOp (fIn true) wa wb) := e_cmp op_notIn_seq opd_in ha hb hm
/-! ### slices -/
def cutD (xs : List D) (lo hi : Option Int) : List D := (xs.drop (HT.sIx xs.length 0 lo)).take (HT.sIx xs.length xs.length hi - HT.sIx xs.length 0 lo)
theorem cut_ok {K : PySem.W.Frag} {H : Hp} {ds : List D} {vs : List V} (r : RpIs K H ds vs) (lo hi : Option Int) : RpIs K H (cutD ds lo hi) (cutV vs lo hi) := by
  unfold cutD cutV
  rw [r.length]
  exact RpIs.take _ (RpIs.drop _ r)
def slD (x : D) (lo hi : Option Int) (k : D → Prop) : Prop := match x with
  | .lst xs => k (.lst (cutD xs lo hi))
  | .rol xs => k (.lst (cutD xs lo hi))
  | .tup xs => k (.tup (cutD xs lo hi))
  | .tpd xs => k (.tup (cutD xs lo hi)) ∧ k (.tpd (cutD xs lo hi))
  | _ => False
theorem whole_cut {xs : List V} {lo hi : Option Int} (h : HT.sIx xs.length 0 lo = 0 ∧ HT.sIx xs.length xs.length hi = xs.length) : cutV xs lo hi = xs := by
  unfold cutV
  rw [h.1, h.2]
  simp
theorem slr : SlR X (fun x lo hi H Q => rSlL X.K x lo hi H Q ∨ rSlA X.K x lo hi H Q) := sl_list.or sl_tupA
theorem sl_ok {H : Hp} {x : D} {v : V} {lo hi : Option Int} {k : D → Prop} {Q : VK} (rx : RpV X.K H x v) (h : slD x lo hi k)
    (q : ∀ z u H', k z → Ext H H' → RpV X.K H' z u → (isL z = true → ∀ a, u = .ref a → H a = none) → Q u H') : rSlL X.K v lo hi H Q ∨ rSlA X.K v lo hi H Q := by
  have lst : ∀ {xs : List D} {a : Addr} {vs : List V}, SqL X.K H a vs → RpIs X.K H xs vs → k (.lst (cutD xs lo hi)) → rSlL X.K (.ref a) lo hi H Q := fun {xs a vs} s r h => by
    refine ⟨a, vs, rfl, s, fun p np' => ?_⟩
    have ex : Ext H (upd H p (.lst (cutV vs lo hi))) := .new np'
    refine q _ _ _ h ex ⟨p, _, rfl, upd_same, RpIs.kp ex.kp _ _ (cut_ok r lo hi)⟩ (fun _ c e => ?_)
    cases e
    exact np'
  cases x with
  | lst xs => obtain ⟨a, vs, rfl, s, r⟩ := rx; exact .inl (lst (.of s) r h)
  | rol xs =>
    obtain ⟨a, vs, rfl, s, r⟩ := (show ∃ a vs, v = .ref a ∧ SqR X.K H a vs ∧ RpIs X.K H xs vs by simpa only [RpV, RpI] using rx)
    exact .inl (lst s.seq r h)
  | tup xs =>
    obtain ⟨a, vs, rfl, s, r⟩ := (show ∃ a vs, v = .ref a ∧ H a = some (.tup vs) ∧ RpIs X.K H xs vs by simpa only [RpV, RpI] using rx)
    refine .inr ⟨a, vs, rfl, .of s, fun hw => ?_, fun _ p np' => ?_⟩
    · refine q _ _ H h (.refl H) ?_ (fun n => by simp [isL] at n)
      show RpI _ _ _ _
      simp only [RpI]
      refine ⟨a, vs, rfl, s, ?_⟩
      have := cut_ok r lo hi
      rw [whole_cut hw] at this
      exact this
    · have ex : Ext H (upd H p (.tup (cutV vs lo hi))) := .new np'
      refine q _ _ _ h ex ?_ (fun n => by simp [isL] at n)
      show RpI _ _ _ _
      simp only [RpI]
      exact ⟨p, _, rfl, upd_same, RpIs.kp ex.kp _ _ (cut_ok r lo hi)⟩
  | tpd xs =>
    obtain ⟨a, vs, rfl, s, r⟩ := (show ∃ a vs, v = .ref a ∧ TpK X.K H a vs ∧ RpIs X.K H xs vs by simpa only [RpV, RpI] using rx)
    refine .inr ⟨a, vs, rfl, s.t, fun hw => ?_, fun _ p np' => ?_⟩
    · refine q _ _ H h.2 (.refl H) ?_ (fun n => by simp [isL] at n)
      show RpI _ _ _ _
      simp only [RpI]
      refine ⟨a, vs, rfl, s, ?_⟩
      have := cut_ok r lo hi
      rw [whole_cut hw] at this
      exact this
    · have ex : Ext H (upd H p (.tup (cutV vs lo hi))) := .new np'
      refine q _ _ _ h.1 ex ?_ (fun n => by simp [isL] at n)
      show RpI _ _ _ _
      simp only [RpI]
      exact ⟨p, _, rfl, upd_same, RpIs.kp ex.kp _ _ (cut_ok r lo hi)⟩
  | _ => exact False.elim h
def isI (d : D) (k : Int → Prop) : Prop := match d with
  | .int i => k i
  | _ => False
theorem isI_of {d : D} {k : Int → Prop} (h : isI d k) : ∃ i, d = .int i ∧ k i := by
  unfold isI at h
  split at h
  · exact ⟨_, rfl, h⟩
  · exact h.elim
def cSlL (wa wb : W) : W := fun env Q => wa env fun ra e1 => wb e1 fun rb e2 => rs e2 rb fun y => isI y fun lo => rs e2 ra fun x => slD x (some lo) none fun z => Q (.val z) e2
theorem e_slL {p2 : Pos} (ha : DE X np He a wa) (hb : DE X np He b wb) : DE X np He (.Subscript a (.Slice (some b) none none p2) pos) (cSlL wa wb) := by
  refine PE.weak (pe_slice slr ha (po_some hb) po_none) fun σ H Q ⟨env, Q0, R, w, q⟩ => ⟨env, _, R, w, fun ra e1 v1 H1 w1 s1 r1 => ⟨e1, _, s1.rep, w1, fun rb e2 v2 H2 w2 s2 r2 => ?_⟩⟩
  obtain ⟨y, hy, w2⟩ := r2.rs s2.rep w2
  obtain ⟨i, rfl, w2⟩ := isI_of w2
  have s12 := s1.trans s2
  obtain ⟨x, hx, w2⟩ := (r1.keep R s1 s2).rs s2.rep w2
  exact ⟨i, hy, sl_ok hx w2 fun z u H' k ex rz fz => q _ e2 u H' k (s12.trans (.ext s2.rep ex)) ⟨rz, fun n c e => s12.dom c (fz n c e)⟩⟩
end
end DL

namespace DL
open PySem PySem.Spec PyProof.Rows L2
section
variable {K : PySem.W.Frag} {np : Nat} {He : Hp} {σ σ' σ'' : L2.St} {H H' H'' : Hp} {env env' env'' : DEnv}

/-! ### a list in a slot is written -/
theorem kp_store {a : Addr} {us ws : List V} (h : H a = some (.lst us)) : Kp H (upd H a (.lst ws)) := fun b o e n => by
  have hb : b ≠ a := fun z => by
    subst z
    rw [h] at e
    exact n us (Option.some.inj e).symm
  rw [upd_ne hb]
  exact e
theorem SE.store {i : Nat} {xs ys : List D} {a : Addr} {us ws : List V} (R : Rep K np He σ H env) (h : env[i]? = some (some (D.lst xs))) (hs : σ[i]? = some (some (V.ref a))) (ha : H a = some (.lst us)) (r : RpIs K H ys ws) :
    SE K np He σ H env (upd H a (.lst ws)) (env.set i (some (D.lst ys))) := by
  have hi : i < env.length := (List.getElem?_eq_some_iff.mp h).1
  have kp : Kp H (upd H a (.lst ws)) := kp_store ha
  have isl : ∀ (j : Nat) (zs : List D), (env.set i (some (D.lst ys)))[j]? = some (some (D.lst zs)) → ∃ zs', env[j]? = some (some (D.lst zs')) := fun j zs e => by
    by_cases hj : i = j
    · subst hj; exact ⟨xs, h⟩
    · rw [List.getElem?_set_ne hj] at e; exact ⟨zs, e⟩
  refine ⟨⟨by rw [List.length_set]; exact R.len, fun j d e => ?_, fun j l zs zs' c e1 e2 s1 s2 => ?_, fun j zs c hj e s => ?_, fun b n => ?_⟩, fun j => ?_, fun b o e n => ?_, fun b n => ?_⟩
  · by_cases hj : i = j
    · subst hj
      rw [List.getElem?_set_self hi] at e
      cases e
      exact ⟨_, hs, a, ws, rfl, upd_same, RpIs.kp kp ys ws r⟩
    · rw [List.getElem?_set_ne hj] at e
      obtain ⟨v, e1, rv⟩ := R.val j d e
      refine ⟨v, e1, ?_⟩
      cases d with
      | lst zs =>
        refine rv.kpl kp fun c o ec eo => ?_
        subst ec
        have : c ≠ a := fun z => by
          subst z
          exact hj (R.apart i j xs zs c h e hs e1)
        rw [upd_ne this]
        exact eo
      | _ => exact rv.kp kp rfl
  · obtain ⟨w1, q1⟩ := isl j zs e1
    obtain ⟨w2, q2⟩ := isl l zs' e2
    exact R.apart j l w1 w2 c q1 q2 s1 s2
  · obtain ⟨w1, q1⟩ := isl j zs e
    exact R.own j w1 c hj q1 s
  · by_cases hb : b = a
    · subst hb; rw [upd_same] at n; cases n
    · rw [upd_ne hb] at n; exact R.dom b n
  · by_cases hj : i = j
    · subst hj
      exact .inr ⟨xs, ys, h, List.getElem?_set_self hi⟩
    · exact .inl (List.getElem?_set_ne hj)
  · have hb : b ≠ a := fun z => by
      subst z
      exact n ⟨i, xs, h, hs⟩
    rw [upd_ne hb]
    exact e
  · by_cases hb : b = a
    · subst hb; rw [upd_same] at n; cases n
    · rw [upd_ne hb] at n; exact n
def getl (env : DEnv) (i : Nat) (k : List D → Prop) : Prop := match env[i]? with
  | some (some (.lst xs)) => k xs
  | _ => False
theorem getl_of {i : Nat} {k : List D → Prop} (h : getl env i k) : ∃ xs, env[i]? = some (some (D.lst xs)) ∧ k xs := by
  unfold getl at h
  split at h
  · exact ⟨_, by assumption, h⟩
  · exact h.elim
/-- the list of a slot, by its address -/
theorem Rep.lst (R : Rep K np He σ H env) {i : Nat} {xs : List D} (h : env[i]? = some (some (D.lst xs))) : ∃ a us, σ[i]? = some (some (V.ref a)) ∧ H a = some (.lst us) ∧ RpIs K H xs us := by
  obtain ⟨v, e, a, us, rfl, e2, r⟩ := R.val i _ h
  exact ⟨a, us, e, e2, r⟩
end

section
variable {X : Cx} {np : Nat} {He : Hp} {a b c e : Expr} {es : List Expr} {wa wb wc : W} {ws : WA} {pos : Pos}
/-! ### methods of a list in a slot -/
abbrev FM := List D → List D → (D → List D → Prop) → Prop
def MeD (K : PySem.W.Frag) (r : V → List V → Hp → VK → Prop) (f : FM) : Prop := ∀ (H : Hp) (a : Addr) (us : List V) (xs : List D) (vs : List V) (ds : List D) (k : D → List D → Prop) (Q : VK), H a = some (.lst us) → RpIs K H xs us → RpVs K H ds vs → f xs ds k →
  (∀ z u ys ws, k z ys → RpIs K H ys ws → RpI K H z u → Q u (upd H a (.lst ws))) → r (.ref a) vs H Q
def cMeth (i : Nat) (f : FM) (ws : WA) : W := fun env Q => getl env i fun _ => ws env fun rl e1 => rsl e1 rl fun ds => getl e1 i fun xs => f xs ds fun z ys => Q (.val z) (e1.set i (some (.lst ys)))
theorem meth_core {i : Nat} {r : V → List V → Hp → VK → Prop} {f : FM} (h : MeD X.K r f) : ∀ σ H Q, rE X.K np He (cMeth i f ws) σ H Q → tBM X.K "list" r (tVar i) (rA X.K np He ws) σ H Q := by
  intro σ H Q ⟨env, Q0, R, w, q⟩
  obtain ⟨xs0, e0, w⟩ := getl_of w
  obtain ⟨a, us, es, ha, ra⟩ := R.lst e0
  refine ⟨.ref a, es, .inl ⟨rfl, us, .of ha⟩, env, _, R, w, fun rl e1 vs H1 w1 s1 r1 => ?_⟩
  obtain ⟨ds, hd, w1⟩ := r1.rs s1.rep w1
  obtain ⟨xs, e2, w1⟩ := getl_of w1
  obtain ⟨a', us', es', ha', ra'⟩ := s1.rep.lst e2
  rw [es] at es'
  have ea : a = a' := by simpa using es'
  subst ea
  refine h H1 a us' xs vs ds _ Q ha' ra' hd w1 fun z u ys ws' k ry rz => ?_
  have hz : isL z = false := by cases z <;> first | rfl | (simp only [RpI] at rz)
  refine q _ _ u _ k (s1.trans (.store s1.rep e2 es ha' ry)) ⟨.of (RpI.kp (kp_store ha') z u rz), fun n => by rw [hz] at n; cases n⟩
def fAppend : FM := fun xs ds k => match ds with
  | [d] => isL d = false ∧ xs.length < 1000000 ∧ k .non (xs ++ [d])
  | _ => False
theorem e_append {i : Nat} {x : Str} {p apos : Pos} (ha : DE X np He a wa) (hN : X.N[i]? = some x := by rfl) (hv : Vis X.env.scope x := by first | exact Or.inl rfl | exact Or.inr (Or.inl rfl) | exact Or.inr (Or.inr rfl)) (hd : (x == ("__debug__" : Str)) = false := by decide)
    (hcd : (x == ("__classdict__" : Str)) = false := by decide) (hbase : attributeBase (.Name x p) "append" X.env (eval (.Name x p) X.env) = eval (.Name x p) X.env := by rfl)
    (hfew : ((backTo pos (starEach [a] X.env)).all (fun x => !x.1) && (backToKw pos (keywordEach [] X.env)).all (fun x => x.1.isSome)
      && decide ([a].length + ([] : List Keyword).length + (if ([] : List Keyword).isEmpty then 0 else 1) < 30)) = true := by rfl)
    (hline : (apos.endLine == pos.line) = true := by rfl) (hs : starEach [a] X.env = (false, eval a X.env) :: starEach [] X.env := by rfl) :
    DE X np He (.Call (.Attribute (.Name x p) "append" apos) [a] [] pos) (cMeth i fAppend (cCons wa cNil)) := by
  refine PE.weak (pe_bm PySem.F.plainAttrs_list PySem.F.slot_list_append PySem.F.type_list_append mt_append (pv i hN hv hd hcd) (a_cons ha a_nil hs) hbase hfew hline hs) (meth_core ?_)
  intro H a us xs vs ds k Q ha ra rd h q
  unfold fAppend at h
  split at h
  · obtain ⟨h1, h2, h⟩ := h
    obtain ⟨v, rfl, rv⟩ := rd.one
    refine ⟨a, us, v, rfl, rfl, ha, by rw [← ra.length]; exact Nat.lt_of_lt_of_le h2 (line_of (Nat.le_refl _)), q _ _ _ _ h (ra.append ?_) ?_⟩
    · simp only [RpIs]
      exact ⟨v, [], rfl, rv.imm h1, rfl⟩
    · simp only [RpI]
  · exact h.elim
theorem meth0_core {i : Nat} {r : V → List V → Hp → VK → Prop} {f : FM} (h : MeD X.K r f) : ∀ σ H Q, rE X.K np He (cMeth i f cNil) σ H Q → tBM0 X.K "list" r (tVar i) σ H Q := by
  intro σ H Q ⟨env, Q0, R, w, q⟩
  obtain ⟨xs, e0, w⟩ := getl_of w
  obtain ⟨xs', e0', w⟩ := getl_of w
  obtain ⟨a, us, es, ha, ra⟩ := R.lst e0'
  refine ⟨.ref a, es, .inl ⟨rfl, us, .of ha⟩, h H a us xs' [] [] _ Q ha ra rfl w fun z u ys ws' k ry rz => ?_⟩
  have hz : isL z = false := by cases z <;> first | rfl | (simp only [RpI] at rz)
  exact q _ _ u _ k (.store R e0' es ha ry) ⟨.of (RpI.kp (kp_store ha) z u rz), fun n => by rw [hz] at n; cases n⟩
def fPop : FM := fun xs ds k => match ds with
  | [] => (match xs.getLast? with
    | some d => k d xs.dropLast
    | none => False)
  | _ => False
theorem e_pop {i : Nat} {x : Str} {p apos : Pos} (hN : X.N[i]? = some x := by rfl) (hv : Vis X.env.scope x := by first | exact Or.inl rfl | exact Or.inr (Or.inl rfl) | exact Or.inr (Or.inr rfl)) (hd : (x == ("__debug__" : Str)) = false := by decide)
    (hcd : (x == ("__classdict__" : Str)) = false := by decide) (hbase : attributeBase (.Name x p) "pop" X.env (eval (.Name x p) X.env) = eval (.Name x p) X.env := by rfl) (hline : (apos.endLine == pos.line) = true := by rfl) :
    DE X np He (.Call (.Attribute (.Name x p) "pop" apos) [] [] pos) (cMeth i fPop cNil) := by
  refine PE.weak (pe_bm0 PySem.F.plainAttrs_list PySem.F.slot_list_pop PySem.F.type_list_pop mt_pop (pv i hN hv hd hcd) hbase hline) (meth0_core ?_)
  intro H a us xs vs ds k Q ha ra rd h q
  unfold fPop at h
  split at h
  · cases (show vs = [] from rd)
    split at h
    · rename_i d e
      rw [List.getLast?_eq_getElem?] at e
      obtain ⟨u, e1, ru⟩ := ra.get e
      exact ⟨a, us, u, rfl, rfl, ha, by rw [← ra.length]; exact e1, q _ _ _ _ h ra.dropLast ru⟩
    · exact h.elim
  · exact h.elim
def fReverse : FM := fun xs ds k => match ds with
  | [] => k .non xs.reverse
  | _ => False
theorem e_reverse {i : Nat} {x : Str} {p apos : Pos} (hN : X.N[i]? = some x := by rfl) (hv : Vis X.env.scope x := by first | exact Or.inl rfl | exact Or.inr (Or.inl rfl) | exact Or.inr (Or.inr rfl)) (hd : (x == ("__debug__" : Str)) = false := by decide)
    (hcd : (x == ("__classdict__" : Str)) = false := by decide) (hbase : attributeBase (.Name x p) "reverse" X.env (eval (.Name x p) X.env) = eval (.Name x p) X.env := by rfl) (hline : (apos.endLine == pos.line) = true := by rfl) :
    DE X np He (.Call (.Attribute (.Name x p) "reverse" apos) [] [] pos) (cMeth i fReverse cNil) := by
  refine PE.weak (pe_bm0 PySem.F.plainAttrs_list PySem.F.slot_list_reverse PySem.F.type_list_reverse mt_reverse (pv i hN hv hd hcd) hbase hline) (meth0_core ?_)
  intro H a us xs vs ds k Q ha ra rd h q
  unfold fReverse at h
  split at h
  · cases (show vs = [] from rd)
    exact ⟨a, us, rfl, rfl, ha, q _ _ _ _ h ra.reverse rfl⟩
  · exact h.elim

/-! ### calls of own defs -/
structure FSpec where
  pre : List D → Prop
  post : List D → D → List D → Prop
def noRef (i : Nat) : List RV → Bool
  | [] => true
  | .ref j :: r => !(i == j) && noRef i r
  | .val _ :: r => noRef i r
def okR : List RV → Bool
  | [] => true
  | .ref i :: r => noRef i r && okR r
  | .val _ :: r => okR r
def upA : List RV → List D → DEnv → DEnv
  | .ref i :: rl, .lst ys :: ds, e => upA rl ds (e.set i (some (.lst ys)))
  | _ :: rl, _ :: ds, e => upA rl ds e
  | _, _, e => e
/-- what a def does to its list arguments -/
structure After (K : PySem.W.Frag) (H H' : Hp) (ds ds' : List D) (vs : List V) : Prop where
  len : ds'.length = ds.length
  keep : ∀ b o, H b = some o → (∀ (i : Nat) (xs : List D), ds[i]? = some (.lst xs) → vs[i]? ≠ some (.ref b)) → H' b = some o
  dom : ∀ b, H' b = none → H b = none
  lst : ∀ (i : Nat) (xs : List D) (v : V), ds[i]? = some (.lst xs) → vs[i]? = some v → ∃ ys, ds'[i]? = some (.lst ys) ∧ RpV K H' (.lst ys) v
def apA : List D → List V → Prop
  | .lst _ :: ds, v :: vs => (∀ (j : Nat) (xs : List D), ds[j]? = some (.lst xs) → vs[j]? ≠ some v) ∧ apA ds vs
  | _ :: ds, _ :: vs => apA ds vs
  | _, _ => True
def spOf (K : PySem.W.Frag) (n : Nat) (sp : FSpec) : Sp := fun vs H Q _ => ∃ ds, vs.length = n ∧ RpVs K H ds vs ∧ apA ds vs ∧ sp.pre ds ∧
  ∀ r ds' v H', sp.post ds r ds' → After K H H' ds ds' vs → RpV K H' r v → (isL r = true → ∀ a, v = .ref a → H a = none) → Q v H'
structure FnD (P : Program) (w : World) (K : PySem.W.Frag) (mg : Str → Option Value) (base : Heap) (k : Nat) (x : Str) (ps : List Str) (sp : FSpec) : Prop where
  ex : ∃ f fd, FnOk P w K mg base CX0 k f fd ps (spOf K ps.length sp) ∧ mg x = some (.ref f) ∧ PySem.W.keepIn K (.ref f) = true ∧ Binds K fd ps []
/-- results, values and data side by side -/
def Tri (K : PySem.W.Frag) (σ : L2.St) (H H' : Hp) (env : DEnv) : List RV → List V → List D → Prop
  | [], vs, ds => vs = [] ∧ ds = []
  | .val d :: rl, vs, ds => ∃ v vr dr, vs = v :: vr ∧ ds = d :: dr ∧ RpV K H' d v ∧ (isL d = true → (∀ a, v = .ref a → H a = none) ∧ ∀ (j : Nat) (ys : List D), rl[j]? = some (.val (.lst ys)) → vr[j]? ≠ some v) ∧ Tri K σ H H' env rl vr dr
  | .ref i :: rl, vs, ds => ∃ v vr xs dr, vs = v :: vr ∧ ds = .lst xs :: dr ∧ σ[i]? = some (some v) ∧ env[i]? = some (some (D.lst xs)) ∧ Tri K σ H H' env rl vr dr
theorem tri_of {K : PySem.W.Frag} {σ : L2.St} {H H' : Hp} {env : DEnv} (R : Rep K np He σ H' env) : ∀ {rl : List RV} {vs : List V} {k : List D → Prop}, RpRs K σ H H' env vs rl → rsl env rl k → ∃ ds, Tri K σ H H' env rl vs ds ∧ RpVs K H' ds vs ∧ k ds
  | [], vs, k, h, g => by
    cases vs with
    | nil => exact ⟨[], ⟨rfl, rfl⟩, rfl, g⟩
    | cons v vs => obtain ⟨r, rest, e, _⟩ := h; cases e
  | .val d :: rl, vs, k, h, g => by
    cases vs with
    | nil => cases (show (RV.val d :: rl) = [] from h)
    | cons v vs =>
      obtain ⟨r, rest, e, h1, h2, tn⟩ := h
      cases e
      obtain ⟨ds, t, rv, q⟩ := tri_of R h2 g
      exact ⟨d :: ds, ⟨v, vs, ds, rfl, rfl, h1.1, fun n => ⟨h1.2 n, tn d rfl n⟩, t⟩, ⟨v, vs, rfl, h1.1, rv⟩, q⟩
  | .ref i :: rl, vs, k, h, g => by
    cases vs with
    | nil => cases (show (RV.ref i :: rl) = [] from h)
    | cons v vs =>
      obtain ⟨r, rest, e, h1, h2, tn⟩ := h
      cases e
      obtain ⟨d, e1, g⟩ := getv_of g
      obtain ⟨ds, t, rv, q⟩ := tri_of R h2 g
      obtain ⟨hs, xs, e2⟩ := h1
      rw [e1] at e2
      have ed : d = .lst xs := by simpa using e2
      subst ed
      obtain ⟨u, e3, ru⟩ := R.val i _ e1
      rw [hs] at e3
      have eu : v = u := by simpa using e3
      subst eu
      exact ⟨_ :: ds, ⟨v, vs, xs, ds, rfl, rfl, hs, e1, t⟩, ⟨v, vs, rfl, ru, rv⟩, q⟩
section
variable {K : PySem.W.Frag} {σ : L2.St} {H H' : Hp} {env : DEnv}
/-- a list argument is a slot's or a new one -/
theorem Tri.arg : ∀ {rl : List RV} {vs : List V} {ds : List D} {j : Nat} {xs : List D}, Tri K σ H H' env rl vs ds → ds[j]? = some (.lst xs) →
    (∃ i v, rl[j]? = some (.ref i) ∧ vs[j]? = some v ∧ σ[i]? = some (some v) ∧ env[i]? = some (some (D.lst xs))) ∨ (∃ a, rl[j]? = some (.val (.lst xs)) ∧ vs[j]? = some (.ref a) ∧ H a = none)
  | [], vs, ds, j, xs, h, e => by
    obtain ⟨_, rfl⟩ := h
    simp at e
  | .val d :: rl, vs, ds, 0, xs, h, e => by
    obtain ⟨v, vr, dr, rfl, rfl, r, f, _⟩ := h
    simp at e
    subst e
    obtain ⟨a, us, rfl, _⟩ := r
    exact .inr ⟨a, rfl, rfl, (f rfl).1 a rfl⟩
  | .ref i :: rl, vs, ds, 0, xs, h, e => by
    obtain ⟨v, vr, xs', dr, rfl, rfl, s, g, _⟩ := h
    simp at e
    subst e
    exact .inl ⟨i, v, rfl, rfl, s, g⟩
  | .val d :: rl, vs, ds, j + 1, xs, h, e => by
    obtain ⟨v, vr, dr, rfl, rfl, _, _, t⟩ := h
    simpa using Tri.arg t (by simpa using e)
  | .ref i :: rl, vs, ds, j + 1, xs, h, e => by
    obtain ⟨v, vr, xs', dr, rfl, rfl, _, _, t⟩ := h
    simpa using Tri.arg t (by simpa using e)
theorem noRef_at {i : Nat} : ∀ {rl : List RV} {j l : Nat}, noRef i rl = true → rl[j]? = some (.ref l) → i ≠ l
  | [], j, l, _, e => by simp at e
  | .ref m :: rl, 0, l, h, e => by
    simp at e
    subst e
    simp only [noRef, Bool.and_eq_true, Bool.not_eq_true', beq_eq_false_iff_ne] at h
    exact h.1
  | .val d :: rl, 0, l, h, e => by simp at e
  | .ref m :: rl, j + 1, l, h, e => by
    simp only [noRef, Bool.and_eq_true] at h
    exact noRef_at h.2 (by simpa using e)
  | .val d :: rl, j + 1, l, h, e => noRef_at (rl := rl) (by simpa only [noRef] using h) (by simpa using e)
theorem Tri.apart (R0 : ∀ b, LA σ env b → H b ≠ none) (R : Rep K np He σ H' env) : ∀ {rl : List RV} {vs : List V} {ds : List D}, Tri K σ H H' env rl vs ds → okR rl = true → apA ds vs
  | [], vs, ds, h, _ => by
    obtain ⟨rfl, rfl⟩ := h
    trivial
  | .val d :: rl, vs, ds, h, ok => by
    obtain ⟨v, vr, dr, rfl, rfl, r, f, t⟩ := h
    have ih := Tri.apart R0 R t (by simpa only [okR] using ok)
    cases d with
    | lst xs =>
      refine ⟨fun j ys e q => ?_, ih⟩
      obtain ⟨a, us, rfl, _⟩ := r
      rcases t.arg e with ⟨i, v, e1, e2, e3, e4⟩ | ⟨a', e1, e2, e3⟩
      · rw [q] at e2
        cases e2
        exact R0 a ⟨i, ys, e4, e3⟩ ((f rfl).1 a rfl)
      · exact (f rfl).2 j ys e1 q
    | _ => exact ih
  | .ref i :: rl, vs, ds, h, ok => by
    obtain ⟨v, vr, xs, dr, rfl, rfl, s, g, t⟩ := h
    simp only [okR, Bool.and_eq_true] at ok
    have ih := Tri.apart R0 R t ok.2
    refine ⟨fun j ys e q => ?_, ih⟩
    obtain ⟨u, e5, a, us, rfl, _⟩ := R.val i _ g
    rw [s] at e5
    have ev : v = .ref a := by simpa using e5
    subst ev
    rcases t.arg e with ⟨l, v, e1, e2, e3, e4⟩ | ⟨a', e1, e2, e3⟩
    · rw [q] at e2
      cases e2
      exact noRef_at ok.1 e1 (R.apart i l xs ys a g e4 s e3)
    · rw [q] at e2
      cases e2
      exact R0 a ⟨i, xs, g, s⟩ e3
theorem upA_at : ∀ {rl : List RV} {vs : List V} {ds : List D} {ds' : List D} {env0 : DEnv} (j : Nat), Tri K σ H H' env rl vs ds → okR rl = true → env0.length = env.length → ds'.length = ds.length →
    (∀ (p : Nat) (xs : List D), ds[p]? = some (D.lst xs) → ∃ ys, ds'[p]? = some (D.lst ys)) →
    (∃ (p : Nat) (ys : List D) (v : V), rl[p]? = some (RV.ref j) ∧ ds'[p]? = some (D.lst ys) ∧ vs[p]? = some v ∧ σ[j]? = some (some v) ∧ (∃ xs, ds[p]? = some (D.lst xs) ∧ env[j]? = some (some (D.lst xs))) ∧ (upA rl ds' env0)[j]? = some (some (D.lst ys))) ∨ ((∀ (p : Nat), rl[p]? ≠ some (RV.ref j)) ∧ (upA rl ds' env0)[j]? = env0[j]?)
  | [], vs, ds, ds', env0, j, h, _, _, _, _ => .inr ⟨fun p => by simp, by unfold upA; rfl⟩
  | .val d :: rl, vs, ds, ds', env0, j, h, ok, hl, hd, hq => by
    obtain ⟨v, vr, dr, rfl, rfl, r, f, t⟩ := h
    cases ds' with
    | nil => simp at hd
    | cons d' ds' =>
      have ih := upA_at (ds' := ds') j t (by simpa only [okR] using ok) hl (by simpa using hd) (fun p xs e => by simpa using hq (p + 1) xs (by simpa using e))
      have eu : upA (.val d :: rl) (d' :: ds') env0 = upA rl ds' env0 := by
        cases d' <;> rfl
      rw [eu]
      rcases ih with ⟨p, ys, v', i1, i2, i3, i4, ⟨xs, i5, i6⟩, i7⟩ | ⟨i1, i2⟩
      · exact .inl ⟨p + 1, ys, v', by simpa using i1, by simpa using i2, by simpa using i3, i4, ⟨xs, by simpa using i5, i6⟩, i7⟩
      · refine .inr ⟨fun p => ?_, i2⟩
        cases p with
        | zero => simp
        | succ p => simpa using i1 p
  | .ref i :: rl, vs, ds, ds', env0, j, h, ok, hl, hd, hq => by
    obtain ⟨v, vr, xs, dr, rfl, rfl, s, g, t⟩ := h
    cases ds' with
    | nil => simp at hd
    | cons d' ds' =>
      obtain ⟨ys0, e0⟩ := hq 0 xs rfl
      simp at e0
      subst e0
      simp only [okR, Bool.and_eq_true] at ok
      have hi : i < env0.length := by rw [hl]; exact (List.getElem?_eq_some_iff.mp g).1
      have ih := upA_at (ds' := ds') (env0 := env0.set i (some (D.lst ys0))) j t ok.2 (by rw [List.length_set]; exact hl) (by simpa using hd) (fun p xs e => by simpa using hq (p + 1) xs (by simpa using e))
      show _ ∨ (_ ∧ (upA rl ds' (env0.set i (some (D.lst ys0))))[j]? = _)
      rcases ih with ⟨p, ys, v', i1, i2, i3, i4, ⟨xs', i5, i6⟩, i7⟩ | ⟨i1, i2⟩
      · exact .inl ⟨p + 1, ys, v', by simpa using i1, by simpa using i2, by simpa using i3, i4, ⟨xs', by simpa using i5, i6⟩, i7⟩
      · by_cases hj : i = j
        · subst hj
          exact .inl ⟨0, ys0, v, rfl, rfl, rfl, s, ⟨xs, rfl, g⟩, by show (upA rl ds' (env0.set i (some (D.lst ys0))))[i]? = _; rw [i2, List.getElem?_set_self hi]⟩
        · refine .inr ⟨fun p => ?_, by rw [i2, List.getElem?_set_ne hj]⟩
          cases p with
          | zero => simpa using fun z => hj z
          | succ p => simpa using i1 p
end
/-- behind a call -/
theorem SE.called {K : PySem.W.Frag} {σ : L2.St} {H H1 H' : Hp} {env e1 : DEnv} {rl : List RV} {vs : List V} {ds ds' : List D} (R : Rep K np He σ H env) (s1 : SE K np He σ H env H1 e1) (t : Tri K σ H H1 e1 rl vs ds) (ok : okR rl = true) (A : After K H1 H' ds ds' vs) :
    SE K np He σ H env H' (upA rl ds' e1) := by
  have la0 : ∀ b, LA σ env b → H b ≠ none := fun b z => by
    obtain ⟨us, e⟩ := R.la z
    rw [e]
    exact fun q => nomatch q
  have la1 : ∀ b, LA σ e1 b → H b ≠ none := fun b z => la0 b (s1.la.mp z)
  have argla : ∀ (i : Nat) (xs : List D) (b : Addr), ds[i]? = some (.lst xs) → vs[i]? = some (.ref b) → LA σ e1 b ∨ H b = none := fun i xs b e q => by
    rcases t.arg e with ⟨l, v, a1, a2, a3, a4⟩ | ⟨a', a1, a2, a3⟩
    · rw [q] at a2
      cases a2
      exact .inl ⟨l, xs, a4, a3⟩
    · rw [q] at a2
      cases a2
      exact .inr a3
  have hq : ∀ (p : Nat) (xs : List D), ds[p]? = some (D.lst xs) → ∃ ys, ds'[p]? = some (D.lst ys) := fun p xs e => by
    rcases t.arg e with ⟨l, v, a1, a2, a3, a4⟩ | ⟨a', a1, a2, a3⟩
    · obtain ⟨ys, q, _⟩ := A.lst p xs v e a2
      exact ⟨ys, q⟩
    · obtain ⟨ys, q, _⟩ := A.lst p xs _ e a2
      exact ⟨ys, q⟩
  have at_ := fun j => upA_at (env0 := e1) (ds' := ds') j t ok rfl A.len hq
  have kp1 : Kp H1 H' := fun b o e n => A.keep b o e fun i xs ed ev => by
    have hv : ∃ us, H1 b = some (.lst us) := by
      rcases t.arg ed with ⟨l, v, a1, a2, a3, a4⟩ | ⟨a', a1, a2, a3⟩
      · rw [ev] at a2
        cases a2
        exact s1.rep.la ⟨l, xs, a4, a3⟩
      · have rp : ∀ {rl : List RV} {vs : List V} {ds : List D} {i : Nat} {d : D} {v : V}, Tri K σ H H1 e1 rl vs ds → rl[i]? = some (.val d) → vs[i]? = some v → RpV K H1 d v := by
          intro rl
          induction rl with
          | nil => intro vs ds i d v _ e _; simp at e
          | cons r rl ih =>
            intro vs ds i d v t e ev
            cases r with
            | val d' =>
              obtain ⟨v', vr, dr, rfl, rfl, r, _, t⟩ := t
              cases i with
              | zero => simp at e ev; subst e ev; exact r
              | succ i => exact ih t (by simpa using e) (by simpa using ev)
            | ref m =>
              obtain ⟨v', vr, xs, dr, rfl, rfl, _, _, t⟩ := t
              cases i with
              | zero => simp at e
              | succ i => exact ih t (by simpa using e) (by simpa using ev)
        obtain ⟨c, us, ec, e3, _⟩ := rp t a1 ev
        cases ec
        exact ⟨us, e3⟩
    obtain ⟨us, e3⟩ := hv
    rw [e] at e3
    exact n us (Option.some.inj e3)
  have islst : ∀ (j : Nat) (ys : List D), (upA rl ds' e1)[j]? = some (some (D.lst ys)) → ∃ xs, e1[j]? = some (some (D.lst xs)) := fun j ys e => by
    rcases at_ j with ⟨p, zs, v, _, _, _, _, ⟨xs, _, i6⟩, _⟩ | ⟨_, i2⟩
    · exact ⟨xs, i6⟩
    · exact ⟨ys, i2 ▸ e⟩
  have lenU : ∀ (rl : List RV) (ds' : List D) (e : DEnv), (upA rl ds' e).length = e.length := by
    intro rl
    induction rl with
    | nil => intro ds' e; cases ds' <;> rfl
    | cons r rl ih =>
      intro ds' e
      cases ds' with
      | nil => cases r <;> rfl
      | cons d ds' =>
        cases r with
        | val d' => cases d <;> exact ih _ _
        | ref i =>
          cases d with
          | lst ys =>
            show (upA rl ds' (e.set i (some (.lst ys)))).length = _
            rw [ih, List.length_set]
          | _ => exact ih _ _
  refine ⟨⟨by rw [lenU]; exact s1.rep.len, fun j d e => ?_, fun i j xs ys a e2 e3 g2 g3 => ?_, fun i xs a hi e2 g2 => ?_, fun b n => s1.rep.dom b (A.dom b n)⟩, fun j => ?_, fun b o e n => ?_, fun b n => s1.dom b (A.dom b n)⟩
  · rcases at_ j with ⟨p, ys, v, i1, i2, i3, i4, ⟨xs, i5, i6⟩, i7⟩ | ⟨i1, i2⟩
    · rw [i7] at e
      cases e
      obtain ⟨ys', q1, q2⟩ := A.lst p xs v i5 i3
      rw [i2] at q1
      cases q1
      exact ⟨v, i4, q2⟩
    · rw [i2] at e
      obtain ⟨v, e2, rv⟩ := s1.rep.val j d e
      refine ⟨v, e2, ?_⟩
      cases d with
      | lst zs =>
        refine rv.kpl kp1 fun c o ec eo => ?_
        subst ec
        refine A.keep c o eo fun i xs ed ev => ?_
        rcases t.arg ed with ⟨l, v, a1, a2, a3, a4⟩ | ⟨a', a1, a2, a3⟩
        · rw [ev] at a2
          cases a2
          have := s1.rep.apart j l zs xs c e a4 e2 a3
          subst this
          exact i1 i a1
        · rw [ev] at a2
          cases a2
          exact la1 c ⟨j, zs, e, e2⟩ a3
      | _ => exact rv.kp kp1 rfl
  · obtain ⟨x1, q1⟩ := islst i xs e2
    obtain ⟨x2, q2⟩ := islst j ys e3
    exact s1.rep.apart i j x1 x2 a q1 q2 g2 g3
  · obtain ⟨x1, q1⟩ := islst i xs e2
    exact s1.rep.own i x1 a hi q1 g2
  · have sh : (upA rl ds' e1)[j]? = e1[j]? ∨ ∃ (xs ys : List D), e1[j]? = some (some (D.lst xs)) ∧ (upA rl ds' e1)[j]? = some (some (D.lst ys)) := by
      rcases at_ j with ⟨p, ys, v, i1, i2, i3, i4, ⟨xs, i5, i6⟩, i7⟩ | ⟨i1, i2⟩
      · exact .inr ⟨xs, ys, i6, i7⟩
      · exact .inl i2
    rcases sh with h | ⟨ys, zs, h1, h2⟩
    · rcases s1.shape j with g | ⟨us, ws, g1, g2⟩
      · exact .inl (h.trans g)
      · exact .inr ⟨us, ws, g1, h.trans g2⟩
    · rcases s1.shape j with g | ⟨us, ws, g1, g2⟩
      · exact .inr ⟨ys, zs, g ▸ h1, h2⟩
      · exact .inr ⟨us, zs, g1, h2⟩
  · refine A.keep b o (s1.keep b o e n) fun i xs ed ev => ?_
    rcases argla i xs b ed ev with z | z
    · exact n (s1.la.mp z)
    · rw [e] at z
      cases z
theorem Tri.len {K : PySem.W.Frag} {σ : L2.St} {H H' : Hp} {env : DEnv} : ∀ {rl : List RV} {vs : List V} {ds : List D}, Tri K σ H H' env rl vs ds → rl.length = vs.length
  | [], vs, ds, h => by rw [h.1]; rfl
  | .val d :: rl, vs, ds, h => by
    obtain ⟨v, vr, dr, rfl, rfl, _, _, t⟩ := h
    simp only [List.length_cons, Tri.len t]
  | .ref i :: rl, vs, ds, h => by
    obtain ⟨v, vr, xs, dr, rfl, rfl, _, _, t⟩ := h
    simp only [List.length_cons, Tri.len t]
def cCallN (n : Nat) (sp : FSpec) (ws : WA) : W := fun env Q => ws env fun rl e1 => rl.length = n ∧ rsl e1 rl fun ds => okR rl = true ∧ sp.pre ds ∧ ∀ r ds', sp.post ds r ds' → Q (.val r) (upA rl ds' e1)
theorem e_call {sp : FSpec} {k n : Nat} {ps : List Str} {x : Str} {p : Pos} (F : FnD X.prog X.w X.K X.mg X.base k x ps sp) (hr : Room k X.A) (ha : DA X np He (a :: es) ws) (hn : ps.length = n := by rfl) (hg : Gl X x := by rfl) (hdb : (x == ("__debug__" : Str)) = false := by decide)
    (he : starEach (a :: es) X.env = (false, eval a X.env) :: starEach es X.env := by rfl) (hpl : (backTo pos (starEach es X.env)).any (·.1) = false := by rfl) :
    DE X np He (.Call (.Name x p) (a :: es) [] pos) (cCallN n sp ws) := by
  subst hn
  obtain ⟨f, fd, F, hm, hk, hb⟩ := F.ex
  refine PE.weak (pe_call F hr hg hm hk hb .nil pass0 ha hdb he hpl) fun σ H Q ⟨env, Q0, R, w, q⟩ => ⟨env, _, R, w, fun rl e1 vs H1 w1 s1 r1 => ?_⟩
  obtain ⟨hn, w1⟩ := w1
  obtain ⟨ds, t, hd, ok, pre, w1⟩ := tri_of s1.rep r1 w1
  have la1 : ∀ b, LA σ e1 b → H b ≠ none := fun b z => by
    obtain ⟨us, e⟩ := R.la (s1.la.mp z)
    rw [e]
    exact fun q => nomatch q
  rw [List.append_nil]
  refine ⟨ds, by rw [← t.len]; exact hn, hd, t.apart la1 s1.rep ok, pre, fun r ds' v H' po A rv fr => ?_⟩
  exact q _ _ v H' (w1 r ds' po) (.called R s1 t ok A) ⟨rv, fun n c e => s1.dom c (fr n c e)⟩
end
end DL

namespace DL
open PySem PySem.Spec PyProof.Rows L2

/-! ### a statement's step -/
structure SS (K : PySem.W.Frag) (np : Nat) (He : Hp) (pr : List Nat) (σ : L2.St) (H : Hp) (env : DEnv) (σ' : L2.St) (H' : Hp) (env' : DEnv) : Prop where
  rep : Rep K np He σ' H' env'
  keep : ∀ b o, H b = some o → ¬ LA σ env b → H' b = some o ∧ ¬ LA σ' env' b
  par : ∀ (i : Nat) (xs : List D), i ∈ pr → env[i]? = some (some (D.lst xs)) → σ'[i]? = σ[i]? ∧ ∃ (ys : List D), env'[i]? = some (some (D.lst ys))
  dom : ∀ b, H' b = none → H b = none
  len : env'.length = env.length
section
variable {K : PySem.W.Frag} {np : Nat} {He : Hp} {pr pr' : List Nat} {σ σ' σ'' : L2.St} {H H' H'' : Hp} {env env' env'' : DEnv}
theorem SS.refl (R : Rep K np He σ H env) : SS K np He pr σ H env σ H env := ⟨R, fun _ _ h n => ⟨h, n⟩, fun _ xs _ e => ⟨rfl, xs, e⟩, fun _ h => h, rfl⟩
theorem SS.trans (a : SS K np He pr σ H env σ' H' env') (b : SS K np He pr σ' H' env' σ'' H'' env'') : SS K np He pr σ H env σ'' H'' env'' where
  rep := b.rep
  keep := fun c o h n => let ⟨h1, n1⟩ := a.keep c o h n; b.keep c o h1 n1
  par := fun i xs hi e => by
    obtain ⟨e1, ys, e2⟩ := a.par i xs hi e
    obtain ⟨e3, zs, e4⟩ := b.par i ys hi e2
    exact ⟨e3.trans e1, zs, e4⟩
  dom := fun c h => a.dom c (b.dom c h)
  len := b.len.trans a.len
theorem SE.ss (s : SE K np He σ H env H' env') (R : Rep K np He σ H env) : SS K np He pr σ H env σ H' env' where
  rep := s.rep
  keep := fun b o h n => ⟨s.keep b o h n, fun z => n (s.la.mp z)⟩
  par := fun i xs _ e => ⟨rfl, by
    rcases s.shape i with h | ⟨us, ws, g1, g2⟩
    · exact ⟨xs, h.trans e⟩
    · exact ⟨ws, g2⟩⟩
  dom := s.dom
  len := by rw [← s.rep.len, R.len]
theorem SS.sub (h : ∀ i ∈ pr, i ∈ pr') (s : SS K np He pr' σ H env σ' H' env') : SS K np He pr σ H env σ' H' env' := ⟨s.rep, s.keep, fun i xs hi e => s.par i xs (h i hi) e, s.dom, s.len⟩
theorem SS.kp (R : Rep K np He σ H env) (s : SS K np He pr σ H env σ' H' env') : Kp H H' := fun b o h n => (s.keep b o h fun z => by
  obtain ⟨vs, e⟩ := R.la z
  rw [h] at e
  exact n vs (Option.some.inj e)).1

/-! ### a value is stored -/
def isLo : Option D → Bool
  | some (.lst _) => true
  | _ => false
def stOk (np : Nat) (pr : List Nat) (env : DEnv) (i : Nat) (d : D) : Bool := match env[i]? with
  | none => false
  | some old => (!isL d || decide (np ≤ i)) && (!(pr.contains i) || !isLo old)
theorem SS.put {i : Nat} {d : D} {v : V} {H1 : Hp} {e1 : DEnv} (R : Rep K np He σ H env) (s : SE K np He σ H env H1 e1) (ok : stOk np pr e1 i d = true) (r : RpV K H1 d v) (fr : isL d = true → ∀ a, v = .ref a → H a = none) :
    SS K np He pr σ H env (σ.set i (some v)) H1 (e1.set i (some d)) := by
  have nla : isL d = true → ∀ a, v = .ref a → ¬ LA σ e1 a := fun n a e z => by
    obtain ⟨us, q⟩ := R.la (s.la.mp z)
    rw [fr n a e] at q
    cases q
  have R1 := s.rep
  have st := SE.ss (pr := pr) s R
  unfold stOk at ok
  split at ok
  · cases ok
  · rename_i old e
    have hi : i < e1.length := (List.getElem?_eq_some_iff.mp e).1
    have his : i < σ.length := by rw [R1.len]; exact hi
    simp only [Bool.and_eq_true, Bool.or_eq_true, Bool.not_eq_true', decide_eq_true_eq, List.contains_eq_mem, decide_eq_false_iff_not] at ok
    have isl : ∀ (j : Nat) (xs : List D), (e1.set i (some d))[j]? = some (some (D.lst xs)) → (j = i ∧ d = .lst xs) ∨ (j ≠ i ∧ e1[j]? = some (some (D.lst xs))) := fun j xs e => by
      by_cases hj : i = j
      · subst hj
        rw [List.getElem?_set_self hi] at e
        exact .inl ⟨rfl, by simpa using e⟩
      · rw [List.getElem?_set_ne hj] at e
        exact .inr ⟨fun z => hj z.symm, e⟩
    have σset : ∀ (j : Nat), j ≠ i → (σ.set i (some v))[j]? = σ[j]? := fun j hj => List.getElem?_set_ne fun z => hj z.symm
    have σself : (σ.set i (some v))[i]? = some (some v) := List.getElem?_set_self his
    refine ⟨⟨by rw [List.length_set, List.length_set]; exact R1.len, fun j d' e' => ?_, fun j l xs ys a e1' e2 s1 s2 => ?_, fun j xs a hj e' s' => ?_, R1.dom⟩, fun b o h n => ⟨s.keep b o h n, ?_⟩, fun j xs hj e' => ?_, s.dom, by rw [List.length_set]; exact st.len⟩
    · by_cases hj : i = j
      · subst hj
        rw [List.getElem?_set_self hi] at e'
        cases e'
        exact ⟨v, σself, r⟩
      · rw [List.getElem?_set_ne hj] at e'
        obtain ⟨u, e1, ru⟩ := R1.val j d' e'
        exact ⟨u, (List.getElem?_set_ne hj).trans e1, ru⟩
    · rcases isl j xs e1' with ⟨q1, q2⟩ | ⟨n1, q1⟩
      · rcases isl l ys e2 with ⟨q3, _⟩ | ⟨n2, q3⟩
        · exact q1.trans q3.symm
        · rw [q1, σself] at s1
          rw [σset l n2] at s2
          have ev : v = .ref a := by simpa using s1
          exact absurd ⟨l, ys, q3, s2⟩ (nla (by rw [q2]; rfl) a ev)
      · rw [σset j n1] at s1
        rcases isl l ys e2 with ⟨q3, q4⟩ | ⟨n2, q3⟩
        · rw [q3, σself] at s2
          have ev : v = .ref a := by simpa using s2
          exact absurd ⟨j, xs, q1, s1⟩ (nla (by rw [q4]; rfl) a ev)
        · rw [σset l n2] at s2
          exact R1.apart j l xs ys a q1 q3 s1 s2
    · rcases isl j xs e' with ⟨q1, q2⟩ | ⟨n1, q1⟩
      · rw [q1, σself] at s'
        have ev : v = .ref a := by simpa using s'
        exact R.dom a (fr (by rw [q2]; rfl) a ev)
      · rw [σset j n1] at s'
        exact R1.own j xs a hj q1 s'
    · rintro ⟨j, xs, q0, s1⟩
      rcases isl j xs q0 with ⟨q1, q2⟩ | ⟨n1, q1⟩
      · rw [q1, σself] at s1
        have ev : v = .ref b := by simpa using s1
        have z := fr (by rw [q2]; rfl) b ev
        rw [h] at z
        cases z
      · rw [σset j n1] at s1
        exact n (s.la.mp ⟨j, xs, q1, s1⟩)
    · obtain ⟨_, ys, e2⟩ := st.par j xs hj e'
      by_cases hji : j = i
      · rw [hji, e] at e2
        cases e2
        rcases ok.2 with z | z
        · rw [hji] at hj
          exact absurd hj z
        · simp [isLo] at z
      · exact ⟨σset j hji, ys, (List.getElem?_set_ne fun z => hji z.symm).trans e2⟩
end

/-! ### targets -/
abbrev G := D → DEnv → (DEnv → Prop) → Prop
abbrev Gs := List D → DEnv → (DEnv → Prop) → Prop
/-- slots outside sl stay -/
def Out (sl : List Nat) (σ σ' : L2.St) (env env' : DEnv) : Prop := ∀ j, j ∉ sl → σ'[j]? = σ[j]? ∧ env'[j]? = env[j]?
def rG (K : PySem.W.Frag) (np : Nat) (He : Hp) (pr sl : List Nat) (g : G) : TG := fun v σ H Q => ∃ env d Q0, Rep K np He σ H env ∧ RpI K H d v ∧ g d env Q0 ∧ ∀ env' σ', Q0 env' → SS K np He pr σ H env σ' H env' → Out sl σ σ' env env' → Q σ' H
def rGs (K : PySem.W.Frag) (np : Nat) (He : Hp) (pr sl : List Nat) (g : Gs) : TGs := fun vs σ H Q => ∃ env ds Q0, Rep K np He σ H env ∧ RpIs K H ds vs ∧ g ds env Q0 ∧ ∀ env' σ', Q0 env' → SS K np He pr σ H env σ' H env' → Out sl σ σ' env env' → Q σ' H
theorem PG.weak {X : Cx} {e : Expr} {t t' : TG} (h : PG X e t) (i : ∀ v σ H Q, t' v σ H Q → t v σ H Q) : PG X e t' := ⟨fun pins s σ H v u Q I r q => h.run pins s σ H v u Q I r (i v σ H Q q)⟩
theorem PGs.weak {X : Cx} {e : List Expr} {t t' : TGs} (h : PGs X e t) (i : ∀ v σ H Q, t' v σ H Q → t v σ H Q) : PGs X e t' := ⟨fun pins s σ H v u Q I r q => h.run pins s σ H v u Q I r (i v σ H Q q)⟩
section
variable {X : Cx} {np : Nat} {He : Hp} {pr sl : List Nat} {pos : Pos}
abbrev DG (X : Cx) (np : Nat) (He : Hp) (pr sl : List Nat) (e : Expr) (g : G) : Prop := PG X e (rG X.K np He pr sl g)
abbrev DGs (X : Cx) (np : Nat) (He : Hp) (pr sl : List Nat) (e : List Expr) (g : Gs) : Prop := PGs X e (rGs X.K np He pr sl g)
def gN (np : Nat) (pr : List Nat) (i : Nat) : G := fun d env k => stOk np pr env i d = true ∧ k (env.set i (some d))
theorem RpI.immL {K : PySem.W.Frag} {H : Hp} {d : D} {v : V} (h : RpI K H d v) : isL d = false := by
  cases d <;> first | rfl | (simp only [RpI] at h)
theorem g_name (i : Nat) {x : Str} (hN : X.N.Nodup) (hsl : i ∈ sl := by decide) (hi : X.N[i]? = some x := by rfl) (hx : Loc X.env.scope x := by first | exact Or.inl rfl | exact Or.inr rfl) (hf : X.fn x = true ∨ X.env.scope.names.lookup x = some .local := by first | exact .inl rfl | exact .inr rfl | assumption) :
    DG X np He pr sl (.Name x pos) (gN np pr i) := by
  refine PG.weak (pg_name hN hi hx hf) fun v σ H Q ⟨env, d, Q0, R, r, ⟨ok, w⟩, q⟩ => ?_
  refine q _ _ w (.put R (.refl R) ok (.of r) fun n => by rw [r.immL] at n; cases n) fun j hj => ?_
  have hji : i ≠ j := fun z => hj (z ▸ hsl)
  exact ⟨List.getElem?_set_ne hji, List.getElem?_set_ne hji⟩
def gNil' : Gs := fun ds env k => match ds with
  | [] => k env
  | _ => False
def gCons' (g : G) (gs : Gs) : Gs := fun ds env k => match ds with
  | d :: r => g d env fun e => gs r e k
  | [] => False
theorem g_nil : DGs X np He pr sl [] gNil' := by
  refine PGs.weak pgs_nil fun vs σ H Q ⟨env, ds, Q0, R, r, w, q⟩ => ?_
  cases ds with
  | nil =>
    simp only [RpIs] at r
    exact ⟨r, q env σ w (.refl R) fun _ _ => ⟨rfl, rfl⟩⟩
  | cons d ds => exact False.elim w
theorem g_cons {e : Expr} {es : List Expr} {g : G} {gs : Gs} (h1 : DG X np He pr sl e g) (h2 : DGs X np He pr sl es gs) (hs : (assignEach (e :: es) X.env).map (·.2) = assign e X.env :: (assignEach es X.env).map (·.2) := by rfl) : DGs X np He pr sl (e :: es) (gCons' g gs) := by
  refine PGs.weak (pgs_cons h1 h2 hs) fun vs σ H Q ⟨env, ds, Q0, R, r, w, q⟩ => ?_
  cases ds with
  | nil => exact False.elim w
  | cons d ds =>
    simp only [RpIs] at r
    obtain ⟨v, vr, rfl, r1, r2⟩ := r
    refine ⟨v, vr, rfl, env, d, _, R, r1, w, fun e1 σ1 w1 s1 o1 => ⟨e1, ds, _, s1.rep, r2, w1, fun e2 σ2 w2 s2 o2 => q e2 σ2 w2 (s1.trans s2) fun j hj => ?_⟩⟩
    exact ⟨(o2 j hj).1.trans (o1 j hj).1, (o2 j hj).2.trans (o1 j hj).2⟩
def gT (n : Nat) (gs : Gs) : G := fun d env k => match d with
  | .tup ds => ds.length = n ∧ gs ds env k
  | _ => False
theorem g_tup {es : List Expr} {k : Nat} {gs : Gs} {n : Nat} (hc : X.calm = true) (h : DGs X np He pr sl es gs)
    (hn : (assignEach es X.env).length = n := by rfl) (hst : (assignEach es X.env).findIdx? (·.1) = none := by rfl) : DG X np He pr sl (.Tuple es k pos) (gT n gs) := by
  refine PG.weak (pg_tup hc h hn hst) fun v σ H Q ⟨env, d, Q0, R, r, w, q⟩ => ?_
  cases d with
  | tup ds =>
    obtain ⟨hl, w⟩ := w
    simp only [RpI] at r
    obtain ⟨a, vs, rfl, s, r⟩ := r
    exact ⟨a, vs, rfl, .of s, by rw [← r.length]; exact hl, env, ds, Q0, R, r, w, q⟩
  | _ => exact False.elim w
end

/-! ### what is walked -/
structure Src where
  xs : List D
  chk : List (Nat × List D)
def chkE : List (Nat × List D) → DEnv → Prop
  | [], _ => True
  | (i, l) :: r, env => env[i]? = some (some (D.lst l)) ∧ chkE r env
abbrev WI := DEnv → (Src → DEnv → Prop) → Prop
/-- all that is neither list nor dict is kept -/
def KpS (H H' : Hp) : Prop := ∀ b o, H b = some o → (∀ xs, o ≠ .lst xs) → (∀ kvs, o ≠ .dT kvs) → H' b = some o
theorem Kp.s {H H' : Hp} (k : Kp H H') : KpS H H' := fun b o h n _ => k b o h n
theorem KpS.tup {K : PySem.W.Frag} {H H' : Hp} (k : KpS H H') {a : Addr} {vs : List V} (h : SqT K H a vs) : SqT K H' a vs := by
  rcases h with (h | ⟨o, h⟩) | h
  · exact .inl (.inl (k _ _ h (fun _ e => nomatch e) fun _ e => nomatch e))
  · exact .inl (.inr ⟨o, k _ _ h (fun _ e => nomatch e) fun _ e => nomatch e⟩)
  · exact .inr h
theorem KpS.rol {K : PySem.W.Frag} {H H' : Hp} (k : KpS H H') {a : Addr} {vs : List V} (h : SqR K H a vs) : SqR K H' a vs := by
  rcases h with ⟨o, h⟩ | h
  · exact .inl ⟨o, k _ _ h (fun _ e => nomatch e) fun _ e => nomatch e⟩
  · exact .inr h
mutual
theorem RpI.kps {K : PySem.W.Frag} {H H' : Hp} (k : KpS H H') : ∀ (d : D) (v : V), RpI K H d v → RpI K H' d v
  | .non, v, h => h
  | .bl _, v, h => h
  | .int _, v, h => h
  | .str _, v, h => h
  | .tup ds, v, h => by
    simp only [RpI] at h ⊢
    obtain ⟨a, vs, e, s, r⟩ := h
    exact ⟨a, vs, e, k _ _ s (fun _ z => nomatch z) (fun _ z => nomatch z), RpIs.kps k ds vs r⟩
  | .tpd ds, v, h => by
    simp only [RpI] at h ⊢
    obtain ⟨a, vs, e, s, r⟩ := h
    refine ⟨a, vs, e, ?_, RpIs.kps k ds vs r⟩
    rcases s with ⟨o, s, d⟩ | s
    · exact .inl ⟨o, k _ _ s (fun _ z => nomatch z) (fun _ z => nomatch z), d⟩
    · exact .inr s
  | .rod ks ds, v, h => by
    simp only [RpI] at h ⊢
    obtain ⟨a, kvs, e, s, m, r⟩ := h
    obtain ⟨o, s⟩ := s
    exact ⟨a, kvs, e, ⟨o, k _ _ s (fun _ z => nomatch z) (fun _ z => nomatch z)⟩, m, RpIs.kps k ds _ r⟩
  | .rol ds, v, h => by
    simp only [RpI] at h ⊢
    obtain ⟨a, vs, e, s, r⟩ := h
    exact ⟨a, vs, e, k.rol s, RpIs.kps k ds vs r⟩
  | .obj n ds, v, h => by
    simp only [RpI] at h ⊢
    obtain ⟨a, C, dx, kvs, e, c, s, m, r⟩ := h
    exact ⟨a, C, dx, kvs, e, c, k _ _ s (fun _ z => nomatch z) (fun _ z => nomatch z), m, RpIs.kps k ds _ r⟩
  | .lst _, v, h => by simp only [RpI] at h
theorem RpIs.kps {K : PySem.W.Frag} {H H' : Hp} (k : KpS H H') : ∀ (ds : List D) (vs : List V), RpIs K H ds vs → RpIs K H' ds vs
  | [], vs, h => by simp only [RpIs] at h ⊢; exact h
  | d :: ds, vs, h => by
    simp only [RpIs] at h ⊢
    obtain ⟨v, r, e, h1, h2⟩ := h
    exact ⟨v, r, e, RpI.kps k d v h1, RpIs.kps k ds r h2⟩
end
structure Stay (K : PySem.W.Frag) (np : Nat) (He : Hp) (σ1 : L2.St) (H H1 : Hp) (e1 : DEnv) (chk : List (Nat × List D)) (H' : Hp) : Prop where
  kp : KpS H1 H'
  keep : ∀ b xs, H b = none → H1 b = some (.lst xs) → ¬ LA σ1 e1 b → H' b = some (.lst xs)
  chk : ∀ p ∈ chk, ∀ a, σ1[p.1]? = some (some (V.ref a)) → ∃ us, H' a = some (.lst us) ∧ RpIs K H' p.2 us
def rI (K : PySem.W.Frag) (np : Nat) (He : Hp) (w : WI) : TI := fun σ H R => ∃ env Q0, Rep K np He σ H env ∧ w env Q0 ∧
  ∀ src e1 H1 J (Gd : Hp → Prop) (Y : Nat → Hp → V → Hp → Prop), Q0 src e1 → SE K np He σ H env H1 e1 → Walk J src.xs.length Gd Y → (∀ p ∈ src.chk, e1[p.1]? = some (some (D.lst p.2))) →
    (∀ i H2 x H3, i < src.xs.length → Y i H2 x H3 → Gd H2 → Ext H2 H3 ∧ ∃ d, src.xs[i]? = some d ∧ RpI K H3 d x) → (∀ H', Stay K np He σ H H1 e1 src.chk H' → Gd H') → R J H1
theorem PI.weak {X : Cx} {tg e : Expr} {t t' : TI} (h : PI X tg e t) (i : ∀ σ H R, t' σ H R → t σ H R) : PI X tg e t' := ⟨fun pins s σ H R I q => h.run pins s σ H R I (i σ H R q)⟩
section
variable {X : Cx} {np : Nat} {He : Hp} {a b c e tg : Expr} {es : List Expr} {wa wb wc : W} {ws : WA} {pos : Pos}
abbrev DI (X : Cx) (np : Nat) (He : Hp) (tg e : Expr) (w : WI) : Prop := PI X tg e (rI X.K np He w)
def iSeq (K : PySem.W.Frag) (tl : TE) : TI := fun σ H R => tl σ H fun x H1 => ∃ a, x = .ref a ∧ (((∃ xs, SqL K H1 a xs) ∧ R (Itl K a) H1) ∨ ((∃ xs, SqT K H1 a xs) ∧ R (Itt K a) H1))
theorem pi_seq {l : Expr} {tl : TE} (hl : PE X l tl) : PI X tg l (iSeq X.K tl) := by
  refine ⟨fun pins s σ H R I h => ?_⟩
  refine thn (hl.run pins s σ H _ I h) fun v s1 ⟨x, H1, I1, r1, q1⟩ => ?_
  obtain ⟨a, e, q⟩ := q1
  subst e
  cases r1
  rcases q with ⟨⟨xs, hq⟩, q⟩ | ⟨⟨xs, hq⟩, q⟩
  · obtain ⟨its, rv, p, hz⟩ := I1.list hq
    refine wpAny_pyIter_list p.isList ?_
    refine ⟨s1.heap.objs.size, [s1.heap.objs.size], _, _, H1, rfl, I1.kept (t' := s1.toks) fun b o e => Heap.get?_push_of_some _ e, turn_list a _, ⟨_, Heap.get?_push_size _ rfl, rfl, rfl⟩, fun b hb => ?_, q⟩
    have e : b = s1.heap.objs.size := by simpa using hb
    subst e
    exact I1.fpOk (Nat.le_refl _) (I1.hok.fresh (Nat.le_refl _))
  · obtain ⟨its, rv, p, hz⟩ := I1.tuple hq
    refine wpAny_pyIter_tuple (show s1.heap.IsTuple a its.toArray from p) ?_
    refine ⟨s1.heap.objs.size, [s1.heap.objs.size], _, _, H1, rfl, I1.kept (t' := s1.toks) fun b o e => Heap.get?_push_of_some _ e, turn_tuple a _, ⟨_, Heap.get?_push_size _ rfl, rfl, rfl⟩, fun b hb => ?_, q⟩
    have e : b = s1.heap.objs.size := by simpa using hb
    subst e
    exact I1.fpOk (Nat.le_refl _) (I1.hok.fresh (Nat.le_refl _))
/-- a list that bears data, read anew at each turn -/
theorem walk_rl {K : PySem.W.Frag} {a : Addr} {ds : List D} : Walk (Itl K a) ds.length (fun H => ∃ vs, SqL K H a vs ∧ RpIs K H ds vs) (fun i H x H' => H' = H ∧ ∃ d, ds[i]? = some d ∧ RpI K H d x) := by
  refine ⟨fun i H hi ⟨vs, s, r⟩ => ?_, fun H ⟨vs, s, r⟩ => ⟨vs, s, by rw [r.length]; exact Nat.le_refl _⟩, fun i H x H' hi ⟨vs, s, r⟩ y => ?_⟩
  · obtain ⟨v, e, _⟩ := r.get (List.getElem?_eq_getElem hi)
    exact ⟨vs, v, s, e⟩
  · obtain ⟨d, e, rd⟩ := r.get' (y.2 vs s)
    exact ⟨y.1, d, e, rd⟩
theorem walk_rt {K : PySem.W.Frag} {a : Addr} {ds : List D} : Walk (Itt K a) ds.length (fun H => ∃ vs, SqT K H a vs ∧ RpIs K H ds vs) (fun i H x H' => H' = H ∧ ∃ d, ds[i]? = some d ∧ RpI K H d x) := by
  refine ⟨fun i H hi ⟨vs, s, r⟩ => ?_, fun H ⟨vs, s, r⟩ => ⟨vs, s, by rw [r.length]; exact Nat.le_refl _⟩, fun i H x H' hi ⟨vs, s, r⟩ y => ?_⟩
  · obtain ⟨v, e, _⟩ := r.get (List.getElem?_eq_getElem hi)
    exact ⟨vs, v, s, e⟩
  · obtain ⟨d, e, rd⟩ := r.get' (y.2 vs s)
    exact ⟨y.1, d, e, rd⟩
/-- a walked thing: a value, or a list in a slot -/
def srcR (e1 : DEnv) (r : RV) (k : List D → List (Nat × List D) → Prop) : Prop := match r with
  | .val (.lst xs) => k xs []
  | .val (.tup xs) => k xs []
  | .val (.rol xs) => k xs []
  | .val (.tpd xs) => k xs []
  | .ref i => getl e1 i fun xs => k xs [(i, xs)]
  | _ => False
/-- where it stands -/
theorem src_at {K : PySem.W.Frag} {σ : L2.St} {H H1 : Hp} {env e1 : DEnv} {v : V} {r : RV} {k : List D → List (Nat × List D) → Prop} (R : Rep K np He σ H env) (s1 : SE K np He σ H env H1 e1) (h : RpR K σ H H1 e1 v r) (g : srcR e1 r k) :
    ∃ ds chk a, k ds chk ∧ v = .ref a ∧ (∀ p ∈ chk, e1[p.1]? = some (some (D.lst p.2))) ∧
      ((∀ H' : Hp, Stay K np He σ H H1 e1 chk H' → ∃ vs, SqL K H' a vs ∧ RpIs K H' ds vs) ∨ (∀ H' : Hp, Stay K np He σ H H1 e1 chk H' → ∃ vs, SqT K H' a vs ∧ RpIs K H' ds vs)) := by
  cases r with
  | ref i =>
    obtain ⟨xs, e, g⟩ := getl_of g
    obtain ⟨hs, _⟩ := h
    obtain ⟨a, us, e2, ha, ra⟩ := s1.rep.lst e
    rw [hs] at e2
    have ev : v = .ref a := by simpa using e2
    refine ⟨xs, [(i, xs)], a, g, ev, fun p hp => ?_, .inl fun H' st => ?_⟩
    · cases (show p = (i, xs) by simpa using hp)
      exact e
    · obtain ⟨us', h1, h2⟩ := st.chk (i, xs) (by simp) a (by rw [hs, ev])
      exact ⟨us', .of h1, h2⟩
  | val d =>
    obtain ⟨h, fr⟩ := h
    cases d with
    | lst xs =>
      obtain ⟨a, us, ev, ha, ra⟩ := h
      refine ⟨xs, [], a, g, ev, fun p hp => absurd hp (by simp), .inl fun H' st => ⟨us, .of (st.keep a _ (fr rfl a ev) ha fun z => ?_), RpIs.kps st.kp xs us ra⟩⟩
      obtain ⟨ws, q⟩ := R.la (s1.la.mp z)
      rw [fr rfl a ev] at q
      cases q
    | tup xs =>
      obtain ⟨a, us, ev, ha, ra⟩ := (show ∃ a vs, v = .ref a ∧ H1 a = some (.tup vs) ∧ RpIs K H1 xs vs by simpa only [RpV, RpI] using h)
      exact ⟨xs, [], a, g, ev, fun p hp => absurd hp (by simp), .inr fun H' st => ⟨us, st.kp.tup (.of ha), RpIs.kps st.kp xs us ra⟩⟩
    | tpd xs =>
      obtain ⟨a, us, ev, ha, ra⟩ := (show ∃ a vs, v = .ref a ∧ TpK K H1 a vs ∧ RpIs K H1 xs vs by simpa only [RpV, RpI] using h)
      exact ⟨xs, [], a, g, ev, fun p hp => absurd hp (by simp), .inr fun H' st => ⟨us, st.kp.tup ha.t, RpIs.kps st.kp xs us ra⟩⟩
    | rol xs =>
      obtain ⟨a, us, ev, ha, ra⟩ := (show ∃ a vs, v = .ref a ∧ SqR K H1 a vs ∧ RpIs K H1 xs vs by simpa only [RpV, RpI] using h)
      exact ⟨xs, [], a, g, ev, fun p hp => absurd hp (by simp), .inl fun H' st => ⟨us, (st.kp.rol ha).seq, RpIs.kps st.kp xs us ra⟩⟩
    | _ => exact False.elim g
theorem Stay.here {K : PySem.W.Frag} {σ : L2.St} {H H1 : Hp} {e1 : DEnv} {chk : List (Nat × List D)} (R : Rep K np He σ H1 e1) (h : ∀ p ∈ chk, e1[p.1]? = some (some (D.lst p.2))) : Stay K np He σ H H1 e1 chk H1 := by
  refine ⟨(Kp.refl _).s, fun _ _ _ h _ => h, fun p hp a ea => ?_⟩
  obtain ⟨a', us, e, ha, ra⟩ := R.lst (h p hp)
  rw [ea] at e
  have : a = a' := by simpa using e
  subst this
  exact ⟨us, ha, ra⟩
def iE (wa : W) : WI := fun env Q => wa env fun r e1 => srcR e1 r fun xs chk => Q ⟨xs, chk⟩ e1
theorem i_seq (ha : DE X np He a wa) : DI X np He tg a (iE wa) := by
  refine PI.weak (pi_seq ha) fun σ H R ⟨env, Q0, Rp, w, q⟩ => ⟨env, _, Rp, w, fun r e1 v H1 w1 s1 r1 => ?_⟩
  obtain ⟨ds, chk, a, k, rfl, hc, hs⟩ := src_at Rp s1 r1 w1
  have here := Stay.here (H := H) s1.rep hc
  refine ⟨a, rfl, ?_⟩
  rcases hs with hs | hs
  · obtain ⟨vs, s, _⟩ := hs H1 here
    refine .inl ⟨⟨vs, s⟩, q ⟨ds, chk⟩ e1 H1 _ _ _ k s1 walk_rl hc (fun i H2 x H3 _ ⟨y1, y2⟩ _ => ?_) hs⟩
    subst y1
    exact ⟨.refl _, y2⟩
  · obtain ⟨vs, s, _⟩ := hs H1 here
    refine .inr ⟨⟨vs, s⟩, q ⟨ds, chk⟩ e1 H1 _ _ _ k s1 walk_rt hc (fun i H2 x H3 _ ⟨y1, y2⟩ _ => ?_) hs⟩
    subst y1
    exact ⟨.refl _, y2⟩
/-- lo, lo + 1, .. -/
def rngD (lo : Int) : Nat → List D
  | 0 => []
  | n + 1 => .int lo :: rngD (lo + 1) n
theorem rngD_len (lo : Int) (n : Nat) : (rngD lo n).length = n := by
  induction n generalizing lo with
  | zero => rfl
  | succ n ih => simp [rngD, ih]
theorem rngD_get (lo : Int) (n i : Nat) (h : i < n) : (rngD lo n)[i]? = some (D.int (lo + i)) := by
  induction n generalizing lo i with
  | zero => omega
  | succ n ih =>
    cases i with
    | zero => simp [rngD]
    | succ i =>
      simp only [rngD, List.getElem?_cons_succ]
      rw [ih (lo + 1) i (by omega)]
      congr 2
      omega
theorem walk_rg {lo : Int} {n : Nat} : Walk (Itr lo n) (rngD lo n).length (fun _ => True) (YFn fun i => .int (lo + i)) := by
  rw [rngD_len]
  exact walk_range
def iR1 (wa : W) : WI := fun env Q => wa env fun r e1 => rs e1 r fun d => isI d fun j => j ≤ 1000000 ∧ -1000000 ≤ j ∧ Q ⟨rngD 0 j.toNat, []⟩ e1
def iR2 (wa wb : W) : WI := fun env Q => wa env fun ra e1 => wb e1 fun rb e2 => rs e2 ra fun x => isI x fun i => rs e2 rb fun y => isI y fun j => -(2 ^ 62) ≤ i ∧ i < 2 ^ 62 ∧ -(2 ^ 62) ≤ j ∧ j < 2 ^ 62 ∧ Q ⟨rngD i (j - i).toNat, []⟩ e2
theorem i_rng1 {p : Pos} (hm : X.mg "range" = none) (ha : DE X np He a wa) (hg : Gl X "range" := by rfl) (hs : starEach [a] X.env = [(false, eval a X.env)] := by rfl) : DI X np He tg (.Call (.Name "range" p) [a] [] pos) (iR1 wa) := by
  refine PI.weak (pi_range1 hg hm (pa_cons ha pa_nil hs) hs) fun σ H R ⟨env, Q0, Rp, w, q⟩ => ⟨env, _, Rp, w, fun r e1 v H1 w1 s1 r1 => ?_⟩
  obtain ⟨d, hd, w1⟩ := r1.rs s1.rep w1
  obtain ⟨j, rfl, h1, h2, w1⟩ := isI_of w1
  cases hd
  refine ⟨j, rfl, by omega, by omega, ?_⟩
  refine q ⟨rngD 0 j.toNat, []⟩ e1 H1 (Itr 0 j.toNat) _ _ w1 s1 walk_rg (fun p hp => absurd hp (by simp)) (fun i H2 x H3 hi y _ => ?_) (fun _ _ => trivial)
  obtain ⟨rfl, rfl⟩ := y
  refine ⟨.refl _, _, rngD_get 0 j.toNat i (by simpa [rngD_len] using hi), ?_⟩
  simp only [RpI]
theorem i_rng2 {p : Pos} (hm : X.mg "range" = none) (ha : DE X np He a wa) (hb : DE X np He b wb) (hg : Gl X "range" := by rfl) (hs : starEach [a, b] X.env = [(false, eval a X.env), (false, eval b X.env)] := by rfl) (hs2 : starEach [b] X.env = [(false, eval b X.env)] := by rfl) : DI X np He tg (.Call (.Name "range" p) [a, b] [] pos) (iR2 wa wb) := by
  refine PI.weak (pi_range2 hg hm (pa_cons ha (pa_cons hb pa_nil hs2) (by rw [hs, hs2])) hs hs2) fun σ H R ⟨env, Q0, Rp, w, q⟩ => ⟨env, _, Rp, w, fun ra e1 v1 H1 w1 s1 r1 => ⟨e1, _, s1.rep, w1, fun rb e2 v2 H2 w2 s2 r2 => ?_⟩⟩
  have s12 := s1.trans s2
  obtain ⟨x, hx, w2⟩ := (r1.keep Rp s1 s2).rs s2.rep w2
  obtain ⟨i, rfl, w2⟩ := isI_of w2
  obtain ⟨y, hy, w2⟩ := r2.rs s2.rep w2
  obtain ⟨j, rfl, h1, h2, h3, h4, w2⟩ := isI_of w2
  cases hx; cases hy
  refine ⟨i, j, rfl, ⟨h1, h2, h3, h4⟩, ?_⟩
  refine q ⟨rngD i (j - i).toNat, []⟩ e2 H2 (Itr i (j - i).toNat) _ _ w2 s12 walk_rg (fun p hp => absurd hp (by simp)) (fun l H3 x H4 hl y _ => ?_) (fun _ _ => trivial)
  obtain ⟨rfl, rfl⟩ := y
  refine ⟨.refl _, _, rngD_get i (j - i).toNat l (by simpa [rngD_len] using hl), ?_⟩
  simp only [RpI]
/-- zip of two lists -/
def zipD : List D → List D → List D
  | x :: xs, y :: ys => .tup [x, y] :: zipD xs ys
  | _, _ => []
theorem zipD_len : ∀ (xs ys : List D), (zipD xs ys).length = min xs.length ys.length
  | [], ys => by simp [zipD]
  | x :: xs, [] => by simp [zipD]
  | x :: xs, y :: ys => by simp only [zipD, List.length_cons, zipD_len xs ys]; omega
theorem zipD_get : ∀ (xs ys : List D) (i : Nat) (x y : D), xs[i]? = some x → ys[i]? = some y → (zipD xs ys)[i]? = some (D.tup [x, y])
  | [], ys, i, x, y, h, _ => by simp at h
  | x0 :: xs, [], i, x, y, _, h => by simp at h
  | x0 :: xs, y0 :: ys, 0, x, y, h, g => by simp at h g; subst h g; simp [zipD]
  | x0 :: xs, y0 :: ys, i + 1, x, y, h, g => by
    simp only [zipD, List.getElem?_cons_succ]
    exact zipD_get xs ys i x y (by simpa using h) (by simpa using g)
theorem Stay.sub {K : PySem.W.Frag} {σ : L2.St} {H H1 H' : Hp} {e1 : DEnv} {c c' : List (Nat × List D)} (h : ∀ p ∈ c, p ∈ c') (s : Stay K np He σ H H1 e1 c' H') : Stay K np He σ H H1 e1 c H' := ⟨s.kp, s.keep, fun p hp => s.chk p (h p hp)⟩
end
end DL

namespace DL
open PySem PySem.Spec PyProof.Rows L2

/-! ### comprehensions -/
def wipeE (env : DEnv) : List Nat → DEnv
  | [] => env
  | v :: vs => (wipeE env vs).set v none
def back (env env0 : DEnv) : List Nat → DEnv
  | [] => env
  | v :: vs => (back env env0 vs).set v ((env0[v]?).getD none)
def noLs (env : DEnv) : List Nat → Bool
  | [] => true
  | v :: vs => !isLo ((env[v]?).getD none) && noLs env vs
section
variable {K : PySem.W.Frag} {np : Nat} {He : Hp} {σ σ' σ'' : L2.St} {H H' H'' : Hp} {env env' env'' : DEnv}
theorem wipeE_len (env : DEnv) : ∀ vs : List Nat, (wipeE env vs).length = env.length
  | [] => rfl
  | v :: vs => by unfold wipeE; rw [List.length_set, wipeE_len env vs]
theorem wipeE_out {i : Nat} : ∀ {vs : List Nat}, i ∉ vs → (wipeE env vs)[i]? = env[i]?
  | [], _ => rfl
  | v :: vs, h => by
    have h1 : v ≠ i := fun e => h (by rw [e]; exact List.mem_cons_self)
    have h2 : i ∉ vs := fun m => h (List.mem_cons_of_mem _ m)
    unfold wipeE
    rw [List.getElem?_set_ne h1]
    exact wipeE_out h2
theorem wipeE_some {i : Nat} {d : D} : ∀ {vs : List Nat}, (wipeE env vs)[i]? = some (some d) → env[i]? = some (some d) ∧ i ∉ vs
  | [], h => ⟨h, by simp⟩
  | v :: vs, h => by
    unfold wipeE at h
    by_cases hi : v = i
    · subst hi
      by_cases hv : v < (wipeE env vs).length
      · rw [List.getElem?_set_self hv] at h; cases h
      · rw [List.getElem?_eq_none (by simpa using hv)] at h; cases h
    · rw [List.getElem?_set_ne hi] at h
      obtain ⟨h1, h2⟩ := wipeE_some h
      exact ⟨h1, by simp only [List.mem_cons, not_or]; exact ⟨fun e => hi e.symm, h2⟩⟩
theorem back_len (env env0 : DEnv) : ∀ vs : List Nat, (back env env0 vs).length = env.length
  | [] => rfl
  | v :: vs => by unfold back; rw [List.length_set, back_len env env0 vs]
theorem back_out {env0 : DEnv} {i : Nat} : ∀ {vs : List Nat}, i ∉ vs → (back env env0 vs)[i]? = env[i]?
  | [], _ => rfl
  | v :: vs, h => by
    have h1 : v ≠ i := fun e => h (by rw [e]; exact List.mem_cons_self)
    have h2 : i ∉ vs := fun m => h (List.mem_cons_of_mem _ m)
    unfold back
    rw [List.getElem?_set_ne h1]
    exact back_out h2
theorem back_in {env0 : DEnv} {i : Nat} (hl : env.length = env0.length) : ∀ {vs : List Nat}, i ∈ vs → (back env env0 vs)[i]? = env0[i]?
  | [], h => by simp at h
  | v :: vs, h => by
    unfold back
    by_cases hi : v = i
    · subst hi
      by_cases hv : v < env0.length
      · rw [List.getElem?_set_self (by rw [back_len, hl]; exact hv), List.getElem?_eq_getElem hv]; rfl
      · rw [List.getElem?_eq_none (by rw [List.length_set, back_len, hl]; omega), List.getElem?_eq_none (by omega)]
    · rw [List.getElem?_set_ne hi]
      rcases List.mem_cons.mp h with z | z
      · exact absurd z.symm hi
      · exact back_in hl z
theorem noLs_at : ∀ {vs : List Nat} {i : Nat} {xs : List D}, noLs env vs = true → i ∈ vs → env[i]? ≠ some (some (D.lst xs))
  | [], i, xs, _, h => by simp at h
  | v :: vs, i, xs, n, h => by
    simp only [noLs, Bool.and_eq_true, Bool.not_eq_true'] at n
    rcases List.mem_cons.mp h with z | z
    · subst z
      intro e
      rw [e] at n
      simp [isLo] at n
    · exact noLs_at n.2 z
theorem Rep.wipe (R : Rep K np He σ H env) (vs : List Nat) : Rep K np He (wipe σ vs) H (wipeE env vs) where
  len := by rw [wipe_length, wipeE_len]; exact R.len
  val := fun i d e => by
    obtain ⟨e1, hi⟩ := wipeE_some e
    obtain ⟨v, e2, r⟩ := R.val i d e1
    exact ⟨v, (wipe_out hi).trans e2, r⟩
  apart := fun i j xs ys a e1 e2 s1 s2 => R.apart i j xs ys a (wipeE_some e1).1 (wipeE_some e2).1 (wipe_some s1).1 (wipe_some s2).1
  own := fun i xs a hi e s => R.own i xs a hi (wipeE_some e).1 (wipe_some s).1
  dom := R.dom
theorem la_wipe {vs : List Nat} {b : Addr} (h : LA (wipe σ vs) (wipeE env vs) b) : LA σ env b := by
  obtain ⟨i, xs, e, s⟩ := h
  exact ⟨i, xs, (wipeE_some e).1, (wipe_some s).1⟩
/-- the block's steps, seen from outside -/
structure In (K : PySem.W.Frag) (np : Nat) (He : Hp) (vs : List Nat) (σ : L2.St) (H : Hp) (env : DEnv) (H' : Hp) (env' : DEnv) : Prop where
  se : SE K np He (L2.wipe σ vs) H (wipeE env vs) H' env'
theorem SE.back {vs : List Nat} (R : Rep K np He σ H env) (n : noLs env vs = true) (s : SE K np He (L2.wipe σ vs) H (wipeE env vs) H' env') : SE K np He σ H env H' (back env' env vs) := by
  have hl : env'.length = env.length := by
    have h1 := s.rep.len
    rw [wipe_length, R.len] at h1
    exact h1.symm
  have kp : Kp H H' := fun b o h nl => s.keep b o h fun z => by
    obtain ⟨us, e⟩ := R.la (la_wipe z)
    rw [h] at e
    exact nl us (Option.some.inj e)
  have lst : ∀ (i : Nat) (xs : List D), (DL.back env' env vs)[i]? = some (some (D.lst xs)) → i ∉ vs ∧ env'[i]? = some (some (D.lst xs)) := fun i xs e => by
    by_cases hi : i ∈ vs
    · rw [back_in hl hi] at e
      exact absurd e (noLs_at n hi)
    · rw [back_out hi] at e
      exact ⟨hi, e⟩
  refine ⟨⟨by rw [back_len, hl]; exact R.len, fun i d e => ?_, fun i j xs ys a e1 e2 s1 s2 => ?_, fun i xs a hi e s' => ?_, s.rep.dom⟩, fun i => ?_, fun b o h nla => s.keep b o h fun z => nla (la_wipe z), s.dom⟩
  · by_cases hi : i ∈ vs
    · rw [back_in hl hi] at e
      obtain ⟨v, e1, r⟩ := R.val i d e
      refine ⟨v, e1, r.kp kp ?_⟩
      cases d with
      | lst xs => exact absurd e (noLs_at n hi)
      | _ => rfl
    · rw [back_out hi] at e
      obtain ⟨v, e1, r⟩ := s.rep.val i d e
      exact ⟨v, (wipe_some e1).1, r⟩
  · obtain ⟨h1, q1⟩ := lst i xs e1
    obtain ⟨h2, q2⟩ := lst j ys e2
    exact s.rep.apart i j xs ys a q1 q2 ((wipe_out h1).trans s1) ((wipe_out h2).trans s2)
  · obtain ⟨h1, q1⟩ := lst i xs e
    exact s.rep.own i xs a hi q1 ((wipe_out h1).trans s')
  · by_cases hi : i ∈ vs
    · exact .inl (back_in hl hi)
    · rw [back_out hi]
      rcases s.shape i with h | ⟨us, ws, g1, g2⟩
      · rw [wipeE_out hi] at h
        exact .inl h
      · exact .inr ⟨us, ws, (wipeE_some g1).1, g2⟩
theorem wipe_idem {σ2 : L2.St} {vs : List Nat} (hl : σ2.length = σ.length) (h : ∀ j, j ∉ vs → σ2[j]? = σ[j]?) : L2.wipe σ2 vs = L2.wipe σ vs := by
  have ins : ∀ (τ : L2.St) (ws : List Nat) (i : Nat), i ∈ ws → i < τ.length → (L2.wipe τ ws)[i]? = some none := by
    intro τ ws
    induction ws with
    | nil => intro i h; simp at h
    | cons w ws ih =>
      intro i h hi
      unfold L2.wipe
      by_cases hw : w = i
      · subst hw
        exact List.getElem?_set_self (by rw [wipe_length]; exact hi)
      · rw [List.getElem?_set_ne hw]
        rcases List.mem_cons.mp h with z | z
        · exact absurd z.symm hw
        · exact ih i z hi
  apply List.ext_getElem?
  intro i
  by_cases hi : i ∈ vs
  · by_cases hlt : i < σ.length
    · rw [ins _ _ i hi (by omega), ins _ _ i hi hlt]
    · rw [List.getElem?_eq_none (by rw [wipe_length]; omega), List.getElem?_eq_none (by rw [wipe_length]; omega)]
  · rw [wipe_out hi, wipe_out hi]
    exact h i hi
end

def lcGo (g : G) (wt we : W) (own : List Nat) (chk : List (Nat × List D)) (k : List D → DEnv → Prop) : List D → List D → DEnv → Prop
  | [], acc, env => chkE chk env ∧ k acc env
  | x :: xs, acc, env => chkE chk env ∧ g x env fun e2 => wt e2 fun rb e3 => rs e3 rb fun b =>
      ifb b (we e3 fun r e4 => rs e4 r fun y => isL y = false ∧ lcGo g wt we own chk k xs (acc ++ [y]) (wipeE e4 own)) (lcGo g wt we own chk k xs acc (wipeE e3 own))
@[irreducible] def Loop (p : Prop) : Prop := p
theorem Loop.out {p : Prop} (h : Loop p) : p := by unfold Loop at h; exact h
theorem Loop.mk {p : Prop} (h : p) : Loop p := by unfold Loop; exact h
def cLc (own : List Nat) (wi : WI) (g : G) (wt we : W) : W := fun env Q => wi env fun src e1 => noLs e1 own = true ∧ src.xs.length ≤ 1000000 ∧
  Loop (lcGo g wt we own src.chk (fun acc e => Q (.val (.lst acc)) (back e e1 own)) src.xs [] (wipeE e1 own))
theorem chkE_at : ∀ {chk : List (Nat × List D)} {env : DEnv} {p : Nat × List D}, chkE chk env → p ∈ chk → env[p.1]? = some (some (D.lst p.2))
  | [], env, p, _, h => by simp at h
  | (i, l) :: r, env, p, c, h => by
    rcases List.mem_cons.mp h with z | z
    · subst z; exact c.1
    · exact chkE_at c.2 z
section
variable {X : Cx} {np : Nat} {He : Hp} {pos : Pos}
def tTrue : W := cC (.bl true)
theorem PTs.weak {es : List Expr} {t t' : TT} (h : PTs X es t) (i : ∀ σ H Q, t' σ H Q → t σ H Q) : PTs X es t' := ⟨fun pins s σ H Q I q => h.run pins s σ H Q I (i σ H Q q)⟩
theorem ts_nil : PTs X [] (tB (rE X.K np He tTrue)) := DL.PTs.weak pts_nil fun σ H Q ⟨env, Q0, R, w, q⟩ => by
  obtain ⟨c, e, q'⟩ := q _ env (.bl true) H w (.refl R) ⟨rfl, fun n => by simp [isL] at n⟩
  cases e
  exact q'
theorem ts_one {c : Expr} {wc : W} (h : DT X np He c wc) : PTs X [c] (tB (rE X.K np He wc)) := pts_one h
/-- the core: the reading of a comprehension -/
theorem lc_read {K : PySem.W.Frag} {own : List Nat} {wi : WI} {g : G} {wt we : W} : ∀ σ H Q, rE K np He (cLc own wi g wt we) σ H Q → tLc (rI K np He wi) (rG K np He [] own g) (tB (rE K np He wt)) (rE K np He we) own σ H Q := by
  intro σ H Q ⟨env, Q0, R, w, q⟩
  refine ⟨env, _, R, w, fun src e1 H1 J Gd Y w1 s1 wk hc hy hg Dn hD => ?_⟩
  obtain ⟨nl, sz, w1l⟩ := w1
  have w1 := w1l.out
  have R1 := s1.rep
  have R1' : Rep K np He (L2.wipe σ own) H1 (wipeE e1 own) := R1.wipe own
  have hDe : ∀ a, H1 a ≠ none → a ≠ Dn := fun a h z => h (z ▸ hD)
  have DLA : ∀ {e2 : DEnv} {H2 : Hp}, SE K np He (L2.wipe σ own) H1 (wipeE e1 own) H2 e2 → ¬ LA (L2.wipe σ own) e2 Dn := fun s z => by
    obtain ⟨us, e⟩ := R1'.la (s.la.mp z)
    rw [hD] at e
    cases e
  -- a step of the block, with the new list written in it
  have wr : ∀ {H2 : Hp} {e2 : DEnv} {us ws : List V}, SE K np He (L2.wipe σ own) H1 (wipeE e1 own) H2 e2 → (H2 Dn = some (.lst us) ∨ H2 Dn = none) → SE K np He (L2.wipe σ own) H1 (wipeE e1 own) (upd H2 Dn (.lst ws)) e2 := fun {H2 e2 us ws} s hd => by
    have kp : Kp H2 (upd H2 Dn (.lst ws)) := fun b o e n => by
      have hb : b ≠ Dn := fun z => by
        subst z
        rcases hd with z | z
        · rw [z] at e; exact n us (Option.some.inj e).symm
        · rw [z] at e; cases e
      rw [upd_ne hb]
      exact e
    refine ⟨⟨s.rep.len, fun i d e => ?_, s.rep.apart, s.rep.own, fun b n => ?_⟩, s.shape, fun b o h n => ?_, fun b n => ?_⟩
    · obtain ⟨v, ev, r⟩ := s.rep.val i d e
      refine ⟨v, ev, ?_⟩
      cases d with
      | lst zs =>
        refine r.kpl kp fun a o ea eo => ?_
        subst ea
        have : a ≠ Dn := fun z => by
          subst z
          exact DLA s ⟨i, zs, e, ev⟩
        rw [upd_ne this]
        exact eo
      | _ => exact r.kp kp rfl
    · by_cases hb : b = Dn
      · subst hb; rw [upd_same] at n; cases n
      · rw [upd_ne hb] at n; exact s.rep.dom b n
    · have hb : b ≠ Dn := hDe b (by rw [h]; exact fun z => nomatch z)
      rw [upd_ne hb]
      exact s.keep b o h n
    · by_cases hb : b = Dn
      · subst hb; rw [upd_same] at n; cases n
      · rw [upd_ne hb] at n; exact s.dom b n
  let Pv : Nat → Hp → Prop := fun i H2 => ∃ acc us e2, H2 Dn = some (.lst us) ∧ RpIs K H2 acc us ∧ acc.length ≤ i ∧ SE K np He (L2.wipe σ own) H1 (wipeE e1 own) H2 e2 ∧ (∀ j ∈ own, e2[j]? = (wipeE e1 own)[j]?) ∧
    lcGo g wt we own src.chk (fun acc e => Q0 (.val (.lst acc)) (back e e1 own)) (src.xs.drop i) acc e2
  have stay : ∀ {H2 : Hp} {e2 : DEnv}, SE K np He (L2.wipe σ own) H1 (wipeE e1 own) H2 e2 → chkE src.chk e2 → Stay K np He σ H H1 e1 src.chk H2 := fun {H2 e2} s c => by
    refine ⟨(SE.kp R1' s).s, fun b o _ h n => s.keep b _ h fun z => n (la_wipe z), fun p hp a ea => ?_⟩
    have e := chkE_at c hp
    obtain ⟨a', us, e3, ha, ra⟩ := s.rep.lst e
    have e4 := (wipe_some e3).1
    rw [ea] at e4
    have : a = a' := by simpa using e4
    subst this
    exact ⟨us, ha, ra⟩
  have chk_of : ∀ {xs acc : List D} {e2 : DEnv} {k : List D → DEnv → Prop}, lcGo g wt we own src.chk k xs acc e2 → chkE src.chk e2 := fun {xs acc e2 k} h => by
    cases xs with
    | nil => exact h.1
    | cons x xs => exact h.1
  refine lc_it wk Pv ⟨[], [], wipeE e1 own, upd_same, by simp [RpIs], Nat.zero_le _, wr (us := []) (.refl R1') (.inr hD), fun _ _ => rfl, w1⟩ ?_ ?_ ?_
  · rintro i H2 hi ⟨acc, us, e2, hd, ra, la, s, _, go⟩
    exact hg H2 (stay s (chk_of go))
  · rintro i x H2 H3 hi ⟨acc, us, e2, hd, ra, la, s, ho, go⟩ y
    have st := stay s (chk_of go)
    obtain ⟨ex, d, ed, rd⟩ := hy i H2 x H3 hi y (hg H2 st)
    have dr : src.xs.drop i = d :: src.xs.drop (i + 1) := by
      rw [← List.getElem_cons_drop hi]
      rw [List.getElem?_eq_getElem hi] at ed
      rw [Option.some.inj ed]
    rw [dr] at go
    obtain ⟨_, go⟩ := go
    have s3 : SE K np He (L2.wipe σ own) H1 (wipeE e1 own) H3 e2 := s.trans (.ext s.rep ex)
    refine ⟨e2, d, _, s3.rep, rd, go, fun e4 σ4 w4 s4 o4 => ⟨?_, ?_⟩⟩
    · exact (wipe_idem (by rw [s4.rep.len, s4.len, ← s3.rep.len]) fun j hj => (o4 j hj).1).trans (by
        refine wipe_idem (by rw [wipe_length]) fun j hj => wipe_out hj)
    · -- the element
      have R4 := s4.rep
      -- from the block's start, the target's slots apart
      have cl : ∀ {H5 : Hp} {e5 : DEnv}, SE K np He σ4 H3 e4 H5 e5 → SE K np He (L2.wipe σ own) H1 (wipeE e1 own) H5 (wipeE e5 own) := fun {H5 e5} s5 => by
        have hl4 : σ4.length = (L2.wipe σ own).length := by rw [s4.rep.len, s4.len, ← s3.rep.len]
        have hw : L2.wipe σ4 own = L2.wipe σ own := (wipe_idem hl4 fun j hj => (o4 j hj).1).trans (wipe_idem (by rw [wipe_length]) fun j hj => wipe_out hj)
        have R5 := s5.rep.wipe own
        rw [hw] at R5
        have ela : ∀ b, LA σ4 e4 b → LA (L2.wipe σ own) e2 b := fun b z => by
          obtain ⟨j, xs, q1, q2⟩ := z
          by_cases hj : j ∈ own
          · exfalso
            -- a target's slot holds no list
            obtain ⟨v, e6, r6⟩ := R4.val j _ q1
            obtain ⟨a, us', ea, eh, _⟩ := r6
            have z' := s4.keep
            rw [q2] at e6
            have eb : b = a := by simpa [ea] using e6
            subst eb
            by_cases hla : LA (L2.wipe σ own) e2 b
            · obtain ⟨l, ys, g1, g2⟩ := hla
              have hlo : l ∉ own := fun m => by
                rw [ho l m] at g1
                exact (wipeE_some g1).2 m
              have g1' := (o4 l hlo).2.trans g1
              have g2' := (o4 l hlo).1.trans g2
              have := R4.apart j l xs ys b q1 g1' q2 g2'
              exact hlo (this ▸ hj)
            · exact (z' b _ eh hla).2 ⟨j, xs, q1, q2⟩
          · exact ⟨j, xs, (o4 j hj).2 ▸ q1, (o4 j hj).1 ▸ q2⟩
        have ela2 : ∀ b, LA (L2.wipe σ own) e2 b → LA σ4 e4 b := fun b z => by
          obtain ⟨l, ys, g1, g2⟩ := z
          have hlo : l ∉ own := fun m => by
            rw [ho l m] at g1
            exact (wipeE_some g1).2 m
          exact ⟨l, ys, (o4 l hlo).2.trans g1, (o4 l hlo).1.trans g2⟩
        refine ⟨R5, fun j => ?_, fun b o h n => ?_, fun b n => s3.dom b (s5.dom b n)⟩
        · by_cases hj : j ∈ own
          · left
            have w0 : ∀ (τ : DEnv) (ws : List Nat), j ∈ ws → (wipeE τ ws)[j]? = if j < τ.length then some none else none := by
              intro τ ws
              induction ws with
              | nil => intro h; simp at h
              | cons w ws ih =>
                intro h
                unfold wipeE
                by_cases hw : w = j
                · subst hw
                  by_cases hlt : w < τ.length
                  · rw [List.getElem?_set_self (by rw [wipeE_len]; exact hlt), if_pos hlt]
                  · rw [List.getElem?_eq_none (by rw [List.length_set, wipeE_len]; omega), if_neg hlt]
                · rw [List.getElem?_set_ne hw]
                  rcases List.mem_cons.mp h with z | z
                  · exact absurd z.symm hw
                  · exact ih z
            have l5 : e5.length = e1.length := by
              have h1 := s5.rep.len
              have h2 := R4.len
              have h3 := s4.len
              have h4 := s3.rep.len
              have h5 := R1'.len
              rw [wipeE_len] at h5
              omega
            rw [w0 _ _ hj, w0 _ _ hj, l5]
          · rw [wipeE_out hj, wipeE_out hj]
            have h45 := s5.shape j
            rw [(o4 j hj).2] at h45
            have h12 := s3.shape j
            rw [wipeE_out hj] at h12
            rcases h45 with h | ⟨us, ws, g1, g2⟩
            · rcases h12 with k | ⟨us, ws, k1, k2⟩
              · exact .inl (h.trans k)
              · exact .inr ⟨us, ws, k1, h.trans k2⟩
            · rcases h12 with k | ⟨us', ws', k1, k2⟩
              · exact .inr ⟨us, ws, k ▸ g1, g2⟩
              · exact .inr ⟨us', ws, k1, g2⟩
        · have h3 := s3.keep b o h n
          have nla : ¬ LA (L2.wipe σ own) e2 b := fun z => n (s3.la.mp z)
          exact s5.keep b o h3 fun z => nla (ela b z)
      have hd3 : H3 Dn = some (.lst us) := ex Dn _ hd
      have dla4 : ¬ LA σ4 e4 Dn := fun z => by
        obtain ⟨j, xs, q1, q2⟩ := z
        by_cases hj : j ∈ own
        · by_cases hla : LA (L2.wipe σ own) e2 Dn
          · exact DLA s3 hla
          · exact (s4.keep Dn _ hd3 hla).2 ⟨j, xs, q1, q2⟩
        · exact DLA s3 ⟨j, xs, (o4 j hj).2 ▸ q1, (o4 j hj).1 ▸ q2⟩
      refine ⟨e4, _, R4, w4, fun rb e5 vb H5 w5 s5 r5 => ?_⟩
      obtain ⟨b, hb, w5⟩ := r5.rs s5.rep w5
      have hd5 : H5 Dn = some (.lst us) := s5.keep Dn _ hd3 dla4
      have fin : ∀ {H6 : Hp} {e6 : DEnv} {acc' : List D} {us' : List V}, SE K np He σ4 H3 e4 H6 e6 → H6 Dn = some (.lst us') → RpIs K H6 acc' us' → acc'.length ≤ i + 1 → lcGo g wt we own src.chk (fun acc e => Q0 (.val (.lst acc)) (back e e1 own)) (src.xs.drop (i + 1)) acc' (wipeE e6 own) → Pv (i + 1) H6 := fun {H6 e6 acc' us'} s6 h6 r6 l6 go6 => by
        refine ⟨acc', us', wipeE e6 own, h6, r6, l6, cl s6, fun j hj => ?_, go6⟩
        rcases (cl s6).shape j with z | ⟨us, ws, g1, g2⟩
        · exact z
        · exact absurd hj (wipeE_some g1).2
      have w5z := ifb_of w5; clear w5; rcases w5z with ⟨rfl, w5⟩ | ⟨rfl, w5⟩
      · refine ⟨true, hb, ?_⟩
        dsimp only
        rw [if_pos rfl]
        refine ⟨e5, _, s5.rep, w5, fun r e6 v H6 w6 s6 r6 => ?_⟩
        have s56 := s5.trans s6
        obtain ⟨y', hy', w6⟩ := r6.rs s6.rep w6
        obtain ⟨ny, w6⟩ := w6
        have hd6 : H6 Dn = some (.lst us) := s56.keep Dn _ hd3 dla4
        have kp46 : Kp H3 H6 := SE.kp R4 s56
        have kp6 : Kp H6 (upd H6 Dn (.lst (us ++ [v]))) := kp_store hd6
        refine ⟨us, hd6, ?_, ?_⟩
        · rw [← ra.length]
          exact Nat.lt_of_lt_of_le (show acc.length < 1000000 by omega) (line_of (Nat.le_refl _))
        · -- the list written
          have ra3 : RpIs K H3 acc us := RpIs.kp ex.kp acc us ra
          have r7 : RpIs K (upd H6 Dn (.lst (us ++ [v]))) (acc ++ [y']) (us ++ [v]) := by
            refine RpIs.append (RpIs.kp kp6 _ _ (RpIs.kp kp46 acc us ra3)) ?_
            simp only [RpIs]
            exact ⟨v, [], rfl, RpI.kp kp6 _ _ (hy'.imm ny), rfl⟩
          have s7 : SE K np He (L2.wipe σ own) H1 (wipeE e1 own) (upd H6 Dn (.lst (us ++ [v]))) (wipeE e6 own) := wr (us := us) (cl s56) (.inl hd6)
          refine ⟨acc ++ [y'], us ++ [v], wipeE e6 own, upd_same, r7, by rw [List.length_append, List.length_singleton]; omega, s7, fun j hj => ?_, w6⟩
          rcases s7.shape j with z | ⟨us, ws, g1, g2⟩
          · exact z
          · exact absurd hj (wipeE_some g1).2
      · refine ⟨false, hb, ?_⟩
        dsimp only
        rw [if_neg Bool.false_ne_true]
        exact fin s5 hd5 (RpIs.kp (SE.kp R4 s5) _ _ (RpIs.kp ex.kp acc us ra)) (by omega) w5
  · rintro H2 ⟨acc, us, e2, hd, ra, la, s, ho, go⟩
    rw [List.drop_length] at go
    obtain ⟨_, go⟩ := go
    refine q _ _ _ _ go (s1.trans (.back R1 nl s)) ⟨⟨Dn, us, rfl, hd, ra⟩, fun _ a ea => ?_⟩
    cases ea
    exact s1.dom Dn hD
theorem e_lc {elt tg iter : Expr} {ifs : List Expr} {scope : Scope} {own : List (Str × Nat)} {ow : List Nat} {wi : WI} {g : G} {wt we : W} (hc : X.calm = true) (hN : X.N.Nodup) (hi : DI X np He tg iter wi) (ok : BlkOk X.N X.env.scope scope own)
    (hg : ∀ (s : Shared) (H : Hp) (C : Addr) (cl : List (Str × Addr)) (fp : List Addr), DG (X.blk s H scope (compEnvC scope cl C X.env) fp) np He [] ow tg g)
    (ht : ∀ (s : Shared) (H : Hp) (C : Addr) (cl : List (Str × Addr)) (fp : List Addr), PTs (X.blk s H scope (compEnvC scope cl C X.env) fp) ifs (tB (rE X.K np He wt)))
    (he : ∀ (s : Shared) (H : Hp) (C : Addr) (cl : List (Str × Addr)) (fp : List Addr), DE (X.blk s H scope (compEnvC scope cl C X.env) fp) np He elt we) (hw : own.map (·.2) = ow := by rfl) (hs : ∀ x, foldedSetIterable iter X.env x = pure x := by intro _; rfl) :
    DE X np He (.ListComp elt [⟨tg, iter, ifs, 0⟩] scope pos) (cLc ow wi g wt we) := by
  subst hw
  exact PE.weak (pe_lc hc hN hi ok hg ht he hs) (lc_read (own := own.map (·.2)))
end
end DL

namespace DL
open PySem PySem.Spec PyProof.Rows L2

structure Kt where
  nx : DEnv → Prop
  rt : D → DEnv → Prop
  bk : DEnv → Prop := fun _ => False
  ct : DEnv → Prop := fun _ => False
abbrev WS := DEnv → Kt → Prop
structure Goes (K : PySem.W.Frag) (np : Nat) (He : Hp) (pr : List Nat) (σ : L2.St) (H : Hp) (env : DEnv) (K0 : Kt) (D : Ends) : Prop where
  nx : ∀ env' σ' H', K0.nx env' → SS K np He pr σ H env σ' H' env' → D.nx σ' H'
  rt : ∀ d env' σ' H' v, K0.rt d env' → SS K np He pr σ H env σ' H' env' → RpV K H' d v → (isL d = true → ∀ a, v = .ref a → He a = none) → D.rt v H'
  bk : ∀ env' σ' H', K0.bk env' → SS K np He pr σ H env σ' H' env' → D.bk σ' H'
  ct : ∀ env' σ' H', K0.ct env' → SS K np He pr σ H env σ' H' env' → D.ct σ' H'
def rS (K : PySem.W.Frag) (np : Nat) (He : Hp) (pr : List Nat) (w : WS) : TS := fun D σ H => ∃ env K0, Rep K np He σ H env ∧ w env K0 ∧ Goes K np He pr σ H env K0 D
abbrev DS (X : Cx) (np : Nat) (He : Hp) (pr : List Nat) (s : Stmt) (w : WS) : Prop := PS X s (rS X.K np He pr w)
abbrev DSs (X : Cx) (np : Nat) (He : Hp) (pr : List Nat) (s : List Stmt) (w : WS) : Prop := PSs X s (rS X.K np He pr w)
theorem PS.weak {X : Cx} {e : Stmt} {t t' : TS} (h : PS X e t) (i : ∀ D σ H, t' D σ H → t D σ H) : PS X e t' := ⟨fun pins s σ H D I q => h.run pins s σ H D I (i D σ H q)⟩
theorem PSs.weak {X : Cx} {e : List Stmt} {t t' : TS} (h : PSs X e t) (i : ∀ D σ H, t' D σ H → t D σ H) : PSs X e t' := ⟨fun pins s σ H D I q => h.run pins s σ H D I (i D σ H q)⟩
theorem Goes.from {K : PySem.W.Frag} {np : Nat} {He : Hp} {pr : List Nat} {σ σ1 : L2.St} {H H1 : Hp} {env e1 : DEnv} {K0 : Kt} {D : Ends} (g : Goes K np He pr σ H env K0 D) (s : SS K np He pr σ H env σ1 H1 e1) : Goes K np He pr σ1 H1 e1 K0 D :=
  ⟨fun a b c h t => g.nx a b c h (s.trans t), fun d a b c v h t => g.rt d a b c v h (s.trans t), fun a b c h t => g.bk a b c h (s.trans t), fun a b c h t => g.ct a b c h (s.trans t)⟩
section
variable {X : Cx} {np : Nat} {He : Hp} {pr : List Nat} {a b c e : Expr} {es : List Expr} {wa wb wc we wi : W} {ws : WA} {pos : Pos} {st : Stmt} {sts : List Stmt} {u v : WS}
def cNilS : WS := fun env K => K.nx env
def cSeq (w u : WS) : WS := fun env K => w env { K with nx := fun e => u e K }
theorem s_nil : DSs X np He pr [] cNilS := PSs.weak pss_nil fun D σ H ⟨env, K0, R, w, g⟩ => g.nx env σ H w (.refl R)
theorem s_cons (h1 : DS X np He pr st u) (h2 : DSs X np He pr sts v) : DSs X np He pr (st :: sts) (cSeq u v) :=
  PSs.weak (pss_cons h1 h2) fun D σ H ⟨env, K0, R, w, g⟩ => ⟨env, _, R, w, fun e1 σ1 H1 w1 s1 => ⟨e1, K0, s1.rep, w1, g.from s1⟩, g.rt, g.bk, g.ct⟩
theorem s_one (h1 : DS X np He pr st u) : DSs X np He pr [st] u := pss_one h1
def cAsg (np : Nat) (pr : List Nat) (i : Nat) (we : W) : WS := fun env K => we env fun r e1 => match r with
  | .val d => stOk np pr e1 i d = true ∧ K.nx (e1.set i (some d))
  | .ref _ => False
theorem asg_core {i : Nat} : ∀ D σ H, rS X.K np He pr (cAsg np pr i we) D σ H → tAsg (rE X.K np He we) (gName i) D σ H := by
  intro D σ H ⟨env, K0, R, w, g⟩
  refine ⟨env, _, R, w, fun r e1 v1 H1 w1 s1 r1 => ?_⟩
  cases r with
  | ref j => exact False.elim w1
  | val d =>
    obtain ⟨ok, w1⟩ := w1
    exact g.nx _ _ _ w1 (.put R s1 ok r1.1 r1.2)
theorem s_asg (i : Nat) {x : Str} {pos' : Pos} (hN : X.N.Nodup) (he : DE X np He e we) (hi : X.N[i]? = some x := by rfl) (hx : Loc X.env.scope x := by first | exact Or.inl rfl | exact Or.inr rfl) (hs : swapsWith e (some (.Name x pos')) pos.line X.env = pure false := by rfl) (hf : X.fn x = true ∨ X.env.scope.names.lookup x = some .local := by first | exact .inl rfl | exact .inr rfl | assumption) :
    DS X np He pr (.Assign [.Name x pos'] e pos) (cAsg np pr i we) := PS.weak (ps_set hN hi hx he hs hf) asg_core
theorem s_setLc (i : Nat) {y : Str} {py : Pos} {elt tg iter : Expr} {ifs : List Expr} {scope : Scope} {own : List (Str × Nat)} {ow : List Nat} {spos : Pos} {wI : WI} {g : G} {wt we : W} (hc : X.calm = true) (hN : X.N.Nodup) (hi : DI X np He tg iter wI) (ok : BlkOk X.N X.env.scope scope own)
    (hg : ∀ (s : Shared) (H : Hp) (C : Addr) (cl : List (Str × Addr)) (fp : List Addr), DG (X.blk s H scope (compEnvC scope cl C X.env) fp) np He [] ow tg g)
    (ht : ∀ (s : Shared) (H : Hp) (C : Addr) (cl : List (Str × Addr)) (fp : List Addr), PTs (X.blk s H scope (compEnvC scope cl C X.env) fp) ifs (tB (rE X.K np He wt)))
    (he : ∀ (s : Shared) (H : Hp) (C : Addr) (cl : List (Str × Addr)) (fp : List Addr), DE (X.blk s H scope (compEnvC scope cl C X.env) fp) np He elt we) (hw : own.map (·.2) = ow := by rfl) (hy : X.N[i]? = some y := by rfl) (hyl : X.env.scope.names.lookup y = some .local := by rfl)
    (hsw : swapsWith (.ListComp elt [⟨tg, iter, ifs, 0⟩] scope pos) (some (.Name y py)) spos.line X.env = pure true := by exact sw_true rfl rfl rfl (by decide +kernel)) (hs : ∀ x, foldedSetIterable iter X.env x = pure x := by intro _; rfl) :
    DS X np He pr (.Assign [.Name y py] (.ListComp elt [⟨tg, iter, ifs, 0⟩] scope pos) spos) (cAsg np pr i (cLc ow wI g wt we)) := by
  subst hw
  exact PS.weak (ps_setLc (wi := rI X.K np He wI) (g := rG X.K np He [] (own.map (·.2)) g) (tt := tB (rE X.K np He wt)) (te := rE X.K np He we) hc hN hy hyl hsw hi ok hg ht he hs) (by
    intro D σ H h
    have h' := asg_core D σ H h
    exact lc_read σ H _ h')
def cEx (we : W) : WS := fun env K => we env fun _ e1 => K.nx e1
theorem s_expr (he : DE X np He e we) (hs : swapsWith e none pos.line X.env = pure false := by rfl) : DS X np He pr (.Expr e pos) (cEx we) := by
  refine PS.weak (ps_expr he hs) fun D σ H ⟨env, K0, R, w, g⟩ => ⟨env, _, R, w, fun r e1 v1 H1 w1 s1 r1 => g.nx _ _ _ w1 (s1.ss R)⟩
def cRet (np : Nat) (we : W) : WS := fun env K => we env fun r e1 => match r with
  | .val d => K.rt d e1
  | .ref i => np ≤ i ∧ getv e1 i fun d => K.rt d e1
theorem s_ret (he : DE X np He e we) : DS X np He pr (.Return (some e) pos) (cRet np we) := by
  refine PS.weak (ps_ret he) fun D σ H ⟨env, K0, R, w, g⟩ => ⟨env, _, R, w, fun r e1 v1 H1 w1 s1 r1 => ?_⟩
  cases r with
  | val d => exact g.rt d e1 σ H1 v1 w1 (s1.ss R) r1.1 fun n a ea => R.dom a (r1.2 n a ea)
  | ref i =>
    obtain ⟨hi, w1⟩ := w1
    obtain ⟨d, ed, w1⟩ := getv_of w1
    obtain ⟨v, ev, rv⟩ := s1.rep.val i d ed
    rw [r1.1] at ev
    have evv : v1 = v := by simpa using ev
    subst evv
    refine g.rt d e1 σ H1 v1 w1 (s1.ss R) rv fun n a ea => ?_
    cases d with
    | lst xs => exact s1.rep.own i xs a hi ed (by rw [r1.1, ea])
    | _ => simp [isL] at n
def cIte (wc : W) (u v : WS) : WS := fun env K => wc env fun r e1 => rs e1 r fun d => ifb d (u e1 K) (v e1 K)
theorem s_if {p q : List Stmt} (hc : DT X np He c wc) (ha : DSs X np He pr p u) (hb : DSs X np He pr q v) : DS X np He pr (.If c p q pos) (cIte wc u v) := by
  refine PS.weak (ps_if hc ha hb) fun D σ H ⟨env, K0, R, w, g⟩ => ⟨env, _, R, w, fun r e1 v1 H1 w1 s1 r1 => ?_⟩
  obtain ⟨d, hd, w1⟩ := r1.rs s1.rep w1
  have w1z := ifb_of w1; clear w1; rcases w1z with ⟨rfl, w1⟩ | ⟨rfl, w1⟩
  · refine ⟨true, hd, ?_⟩
    dsimp only
    rw [if_pos rfl]
    exact ⟨e1, K0, s1.rep, w1, g.from (s1.ss R)⟩
  · refine ⟨false, hd, ?_⟩
    dsimp only
    rw [if_neg Bool.false_ne_true]
    exact ⟨e1, K0, s1.rep, w1, g.from (s1.ss R)⟩
def cNever : WS := fun _ _ => False
theorem s_never : DS X np He pr st cNever := PS.weak ps_never fun D σ H ⟨env, K0, R, w, g⟩ => w
/-- a, (b, c) = e -/
def cUnp (we : W) (g : G) : WS := fun env K => we env fun r e1 => match r with
  | .val d => isL d = false ∧ g d e1 K.nx
  | .ref _ => False
theorem s_unp {tg : Expr} {g : G} {sl : List Nat} (he : DE X np He e we) (hg : DG X np He pr sl tg g) (hs : swapsWithSole [tg] e pos.line X.env = pure false := by rfl) (hw : swappedStores [tg] e X.env = pure none := by rfl)
    (h1 : (assignEach [tg] X.env).map (·.2) = [assign tg X.env] := by rfl) : DS X np He pr (.Assign [tg] e pos) (cUnp we g) := by
  refine PS.weak (ps_asg he hg hs hw h1) fun D σ H ⟨env, K0, R, w, g⟩ => ⟨env, _, R, w, fun r e1 v1 H1 w1 s1 r1 => ?_⟩
  cases r with
  | ref j => exact False.elim w1
  | val d =>
    obtain ⟨im, w1⟩ := w1
    exact ⟨e1, d, _, s1.rep, r1.1.imm im, w1, fun e2 σ2 w2 s2 o2 => g.nx e2 σ2 H1 w2 ((s1.ss R).trans s2)⟩
/-- a = b = e, a = b = c = e -/
def cCh2 (we : W) (g1 g2 : G) : WS := fun env K => we env fun r e1 => match r with
  | .val d => isL d = false ∧ g1 d e1 fun e2 => g2 d e2 K.nx
  | .ref _ => False
def cCh3 (we : W) (g1 g2 g3 : G) : WS := fun env K => we env fun r e1 => match r with
  | .val d => isL d = false ∧ g1 d e1 fun e2 => g2 d e2 fun e3 => g3 d e3 K.nx
  | .ref _ => False
theorem s_ch2 {t1 t2 : Expr} {g1 g2 : G} {sl : List Nat} (he : DE X np He e we) (h1 : DG X np He pr sl t1 g1) (h2 : DG X np He pr sl t2 g2) (ha : (assignEach [t1, t2] X.env).map (·.2) = [assign t1 X.env, assign t2 X.env] := by rfl) (hw : swappedStores [t1, t2] e X.env = pure none := by rfl) :
    DS X np He pr (.Assign [t1, t2] e pos) (cCh2 we g1 g2) := by
  refine PS.weak (ps_asg2 he h1 h2 ha hw) fun D σ H ⟨env, K0, R, w, g⟩ => ⟨env, _, R, w, fun r e1 v1 H1 w1 s1 r1 => ?_⟩
  cases r with
  | ref j => exact False.elim w1
  | val d =>
    obtain ⟨im, w1⟩ := w1
    have rd := r1.1.imm im
    exact ⟨e1, d, _, s1.rep, rd, w1, fun e2 σ2 w2 s2 _ => ⟨e2, d, _, s2.rep, rd, w2, fun e3 σ3 w3 s3 _ => g.nx e3 σ3 H1 w3 ((s1.ss R).trans (s2.trans s3))⟩⟩
theorem s_ch3 {t1 t2 t3 : Expr} {g1 g2 g3 : G} {sl : List Nat} (he : DE X np He e we) (h1 : DG X np He pr sl t1 g1) (h2 : DG X np He pr sl t2 g2) (h3 : DG X np He pr sl t3 g3)
    (ha : (assignEach [t1, t2, t3] X.env).map (·.2) = [assign t1 X.env, assign t2 X.env, assign t3 X.env] := by rfl) (hw : swappedStores [t1, t2, t3] e X.env = pure none := by rfl) :
    DS X np He pr (.Assign [t1, t2, t3] e pos) (cCh3 we g1 g2 g3) := by
  refine PS.weak (ps_asg3 he h1 h2 h3 ha hw) fun D σ H ⟨env, K0, R, w, g⟩ => ⟨env, _, R, w, fun r e1 v1 H1 w1 s1 r1 => ?_⟩
  cases r with
  | ref j => exact False.elim w1
  | val d =>
    obtain ⟨im, w1⟩ := w1
    have rd := r1.1.imm im
    exact ⟨e1, d, _, s1.rep, rd, w1, fun e2 σ2 w2 s2 _ => ⟨e2, d, _, s2.rep, rd, w2, fun e3 σ3 w3 s3 _ => ⟨e3, d, _, s3.rep, rd, w3, fun e4 σ4 w4 s4 _ => g.nx e4 σ4 H1 w4 ((s1.ss R).trans (s2.trans (s3.trans s4)))⟩⟩⟩
/-- a, b = x, y -/
def put1 (np : Nat) (pr : List Nat) (i : Nat) (d : D) (env : DEnv) (k : DEnv → Prop) : Prop := isL d = false ∧ stOk np pr env i d = true ∧ k (env.set i (some d))
def cPar3 (np : Nat) (pr : List Nat) (i j l : Nat) (ws : WA) : WS := fun env K => ws env fun rl e1 => rsl e1 rl fun ds => match ds with
  | [x, y, z] => put1 np pr i x e1 fun e2 => put1 np pr j y e2 fun e3 => put1 np pr l z e3 K.nx
  | _ => False
theorem s_par3 (i j l : Nat) {x y z : Str} {px py pz pt : Pos} {kt k2 pt2} (hc : X.calm = true) (hN : X.N.Nodup) (ha : DA X np He [a, b, c] ws) (hi : X.N[i]? = some x := by rfl) (hj : X.N[j]? = some y := by rfl) (hl : X.N[l]? = some z := by rfl) (hij : i ≠ j := by decide) (hil : i ≠ l := by decide) (hjl : j ≠ l := by decide)
    (hx : X.env.scope.names.lookup x = some .local := by rfl) (hy : X.env.scope.names.lookup y = some .local := by rfl) (hz : X.env.scope.names.lookup z = some .local := by rfl)
    (hw : swappedStores [.Tuple [.Name x px, .Name y py, .Name z pz] kt pt] (.Tuple [a, b, c] k2 pt2) X.env = pure (some [x, y, z]) := by rfl)
    (hs : swapsWithSole [.Tuple [.Name x px, .Name y py, .Name z pz] kt pt] (.Tuple [a, b, c] k2 pt2) pos.line X.env = pure false := by rfl) :
    DS X np He pr (.Assign [.Tuple [.Name x px, .Name y py, .Name z pz] kt pt] (.Tuple [a, b, c] k2 pt2) pos) (cPar3 np pr i j l ws) := by
  refine PS.weak (ps_par3 hc hN hi hj hl hij hil hjl hx hy hz ha hw hs) fun D σ H ⟨env, K0, R, w, g⟩ => ⟨env, _, R, w, fun rl e1 vs H1 w1 s1 r1 => ?_⟩
  obtain ⟨ds, hd, w1⟩ := r1.rs s1.rep w1
  split at w1
  · rename_i d1 d2 d3
    obtain ⟨v, r, rfl, rv, hd⟩ := hd
    obtain ⟨w, u, rfl, rw', ru⟩ := hd.two
    obtain ⟨i1, o1, i2, o2, i3, o3, w1⟩ := w1
    refine ⟨v, w, u, rfl, ?_⟩
    have p1 := SS.put (pr := pr) s1.rep (.refl s1.rep) o1 rv (fun n => by rw [i1] at n; cases n)
    have p2 := SS.put (pr := pr) p1.rep (.refl p1.rep) o2 rw' (fun n => by rw [i2] at n; cases n)
    have p3 := SS.put (pr := pr) p2.rep (.refl p2.rep) o3 ru (fun n => by rw [i3] at n; cases n)
    exact g.nx _ _ _ w1 ((s1.ss R).trans (p1.trans (p2.trans p3)))
  · exact w1.elim
/-- xs[k] = e -/
def cSet (i : Nat) (we wi : W) : WS := fun env K => we env fun r e1 => match r with
  | .val d => isL d = false ∧ getl e1 i fun _ => wi e1 fun ri e2 => rs e2 ri fun y => isI y fun k => getl e2 i fun xs => (match ixN xs.length k with
    | some j => K.nx (e2.set i (some (.lst (xs.set j d))))
    | none => False)
  | .ref _ => False
theorem s_set (i : Nat) {x : Str} {p p2 : Pos} {ix : Expr} (he : DE X np He e we) (hi : DE X np He ix wi) (hN : X.N[i]? = some x := by rfl) (hv : Vis X.env.scope x := by first | exact Or.inl rfl | exact Or.inr (Or.inl rfl) | exact Or.inr (Or.inr rfl)) (hd : (x == ("__debug__" : Str)) = false := by decide)
    (hcd : (x == ("__classdict__" : Str)) = false := by decide)
    (ha : ∀ v, assign (.Subscript (.Name x p) ix p2) X.env v = (do
      let ov ← holding [v] (eval (.Name x p) X.env)
      let iv ← holding [v, ov] (eval ix X.env)
      standAt p2
      holding [v, ov, iv] (setItem ov iv v)
      release [v, ov, iv] []) := by intro _; rfl)
    (hs : swapsWithSole [.Subscript (.Name x p) ix p2] e pos.line X.env = pure false := by rfl) (hw : swappedStores [.Subscript (.Name x p) ix p2] e X.env = pure none := by rfl)
    (h1 : (assignEach [.Subscript (.Name x p) ix p2] X.env).map (·.2) = [assign (.Subscript (.Name x p) ix p2) X.env] := by rfl) :
    DS X np He pr (.Assign [.Subscript (.Name x p) ix p2] e pos) (cSet i we wi) := by
  refine PS.weak (ps_asg he (pg_sub (pv i hN hv hd hcd) hi set_list ha) hs hw h1) fun D σ H ⟨env, K0, R, w, g⟩ => ⟨env, _, R, w, fun r e1 v1 H1 w1 s1 r1 => ?_⟩
  cases r with
  | ref j => exact False.elim w1
  | val d =>
    obtain ⟨im, w1⟩ := w1
    obtain ⟨xs0, e0, w1⟩ := getl_of w1
    obtain ⟨a, us, es, ha, ra⟩ := s1.rep.lst e0
    refine ⟨.ref a, es, e1, _, s1.rep, w1, fun ri e2 v2 H2 w2 s2 r2 => ?_⟩
    obtain ⟨y, hy, w2⟩ := r2.rs s2.rep w2
    obtain ⟨k, rfl, w2⟩ := isI_of w2
    obtain ⟨xs, e3, w2⟩ := getl_of w2
    split at w2
    · rename_i j hj
      obtain ⟨a', us', es', ha', ra'⟩ := s2.rep.lst e3
      rw [es] at es'
      have ea : a = a' := by simpa using es'
      subst ea
      cases hy
      refine ⟨a, us', k, j, rfl, rfl, ha', by rw [← ra'.length]; exact hj, ?_⟩
      have rd : RpI X.K H2 d v1 := RpI.kp (SE.kp s1.rep s2) d v1 (r1.1.imm im)
      exact g.nx _ σ _ w2 (((s1.trans s2).trans (.store s2.rep e3 es ha' (ra'.set rd j))).ss R)
    · exact w2.elim

/-! ### loops -/
def goFor (g : G) (wb : WS) (chk : List (Nat × List D)) (K : Kt) : List D → DEnv → Prop
  | [], env => chkE chk env ∧ K.nx env
  | x :: xs, env => chkE chk env ∧ g x env fun e2 => wb e2 { nx := goFor g wb chk K xs, rt := K.rt, bk := K.nx, ct := goFor g wb chk K xs }
def cFor (pr : List Nat) (wI : WI) (g : G) (wb : WS) : WS := fun env K => wI env fun src e1 => (src.chk.all fun p => pr.contains p.1) = true ∧ Loop (goFor g wb src.chk K src.xs e1)
theorem s_for {tg iter : Expr} {body : List Stmt} {wI : WI} {g : G} {wb : WS} (pr' sl : List Nat) (hx : PassesOwn (model X.prog X.w) X.A X.env X.xe) (hc : X.calm = true) (hi : DI X np He tg iter wI) (hg : DG X np He pr' sl tg g) (hb : DSs X np He pr' body wb)
    (hp : (pr.all fun i => pr'.contains i) = true := by decide) (hs : ∀ x, foldedSetIterable iter X.env x = pure x := by intro _; rfl) : DS X np He pr (.For tg iter body [] pos) (cFor pr' wI g wb) := by
  refine PS.weak (ps_for hx hc hi hg hb hs) fun D σ H ⟨env, K0, R, w, gs⟩ => ⟨env, _, R, w, fun src e1 H1 J Gd Y w1 s1 wk hck hy hgd => ?_⟩
  have sub : ∀ i ∈ pr, i ∈ pr' := fun i h => by
    have := List.all_eq_true.mp hp i h
    simpa [List.contains_eq_mem] using this
  obtain ⟨hpr, w1l⟩ := w1
  have w1 := w1l.out
  have cpr : ∀ p ∈ src.chk, p.1 ∈ pr' := fun p h => by
    have := List.all_eq_true.mp hpr p h
    simpa [List.contains_eq_mem] using this
  let Pv : Nat → L2.St → Hp → Prop := fun i σ2 H2 => ∃ e2, SS X.K np He pr' σ H1 e1 σ2 H2 e2 ∧ goFor g wb src.chk K0 (src.xs.drop i) e2
  have out : ∀ {σ2 : L2.St} {H2 : Hp} {e2 : DEnv}, SS X.K np He pr' σ H1 e1 σ2 H2 e2 → SS X.K np He pr σ H env σ2 H2 e2 := fun s => (s1.ss R).trans (s.sub sub)
  have cgo : ∀ {xs : List DL.D} {e2 : DEnv}, goFor g wb src.chk K0 xs e2 → chkE src.chk e2 := fun {xs e2} h => by
    cases xs with
    | nil => exact h.1
    | cons x xs => exact h.1
  have gd : ∀ {σ2 : L2.St} {H2 : Hp} {e2 : DEnv}, SS X.K np He pr' σ H1 e1 σ2 H2 e2 → chkE src.chk e2 → Gd H2 := fun {σ2 H2 e2} s c => by
    refine hgd H2 ⟨(s.kp s1.rep).s, fun b o _ h n => (s.keep b _ h n).1, fun p hp a ea => ?_⟩
    obtain ⟨q1, _⟩ := s.par p.1 p.2 (cpr p hp) (hck p hp)
    obtain ⟨a', us, e3, ha, ra⟩ := s.rep.lst (chkE_at c hp)
    rw [q1, ea] at e3
    have : a = a' := by simpa using e3
    subst this
    exact ⟨us, ha, ra⟩
  refine for_it wk Pv ⟨e1, .refl s1.rep, w1⟩ ?_ ?_ ?_
  · rintro i σ2 H2 hi ⟨e2, s, go⟩
    exact gd s (cgo go)
  · rintro i x σ2 H2 H3 hi ⟨e2, s, go⟩ y
    obtain ⟨ex, d, ed, rd⟩ := hy i H2 x H3 hi y (gd s (cgo go))
    have dr : src.xs.drop i = d :: src.xs.drop (i + 1) := by
      rw [← List.getElem_cons_drop hi]
      rw [List.getElem?_eq_getElem hi] at ed
      rw [Option.some.inj ed]
    rw [dr] at go
    obtain ⟨_, go⟩ := go
    have s3 : SS X.K np He pr' σ H1 e1 σ2 H3 e2 := s.trans ((SE.ext s.rep ex).ss s.rep)
    refine ⟨e2, d, _, s3.rep, rd, go, fun e4 σ4 w4 s4 o4 => ?_⟩
    refine ⟨e4, _, s4.rep, w4, ⟨fun e5 σ5 H5 w5 s5 => ⟨e5, (s3.trans s4).trans s5, w5⟩, fun d e5 σ5 H5 v w5 s5 rv fr => ?_, fun e5 σ5 H5 w5 s5 => ?_, fun e5 σ5 H5 w5 s5 => ⟨e5, (s3.trans s4).trans s5, w5⟩⟩⟩
    · exact gs.rt d e5 σ5 H5 v w5 (out ((s3.trans s4).trans s5)) rv fr
    · exact gs.nx e5 σ5 H5 w5 (out ((s3.trans s4).trans s5))
  · rintro σ2 H2 ⟨e2, s, go⟩
    rw [List.drop_length] at go
    exact gs.nx e2 σ2 H2 go.2 (out s)
end

/-! ### a def -/
def outs (env : DEnv) (n : Nat) : List D := (env.take n).map fun o => o.getD .non
def env0 (ds : List D) (n : Nat) : DEnv := ds.map some ++ List.replicate n none
theorem RpVs.get {K : PySem.W.Frag} {H : Hp} : ∀ {ds : List D} {vs : List V} {i : Nat} {d : D}, RpVs K H ds vs → ds[i]? = some d → ∃ v, vs[i]? = some v ∧ RpV K H d v
  | [], vs, i, d, _, e => by simp at e
  | d0 :: ds, vs, 0, d, h, e => by
    obtain ⟨v, r, rfl, h1, _⟩ := h
    simp at e
    subst e
    exact ⟨v, rfl, h1⟩
  | d0 :: ds, vs, i + 1, d, h, e => by
    obtain ⟨v, r, rfl, _, h2⟩ := h
    obtain ⟨u, e1, e2⟩ := RpVs.get h2 (by simpa using e)
    exact ⟨u, by simpa using e1, e2⟩
theorem apA_get : ∀ {ds : List D} {vs : List V} {i j : Nat} {xs ys : List D} {v : V}, apA ds vs → ds[i]? = some (.lst xs) → ds[j]? = some (.lst ys) → vs[i]? = some v → vs[j]? = some v → i = j
  | [], vs, i, j, xs, ys, v, _, e, _, _, _ => by simp at e
  | d :: ds, [], i, j, xs, ys, v, _, _, _, e, _ => by simp at e
  | d :: ds, w :: vs, i, j, xs, ys, v, h, e1, e2, s1, s2 => by
    have tl : apA ds vs := by
      cases d with
      | lst zs => exact h.2
      | _ => exact h
    cases i with
    | zero =>
      cases j with
      | zero => rfl
      | succ j =>
        simp at e1 s1
        subst e1 s1
        exact absurd (by simpa using s2) (h.1 j ys (by simpa using e2))
    | succ i =>
      cases j with
      | zero =>
        simp at e2 s2
        subst e2 s2
        exact absurd (by simpa using s1) (h.1 i xs (by simpa using e1))
      | succ j =>
        congr 1
        exact apA_get tl (by simpa using e1) (by simpa using e2) (by simpa using s1) (by simpa using s2)
section
variable {P : Program} {w : World} {K : PySem.W.Frag} {mg : Str → Option Value} {base : Heap}
theorem env0_get {ds : List D} {n i : Nat} {d : D} (h : (env0 ds n)[i]? = some (some d)) : ds[i]? = some d := by
  unfold env0 at h
  by_cases hi : i < ds.length
  · rw [List.getElem?_append_left (by simpa using hi)] at h
    simpa using h
  · rw [List.getElem?_append_right (by simpa using hi)] at h
    by_cases h2 : i - (ds.map some).length < n
    · rw [List.getElem?_replicate_of_lt h2] at h
      cases h
    · rw [List.getElem?_eq_none (by simpa using h2)] at h
      cases h
theorem start_get {N : List Str} {vs : List V} {i : Nat} {v : V} (h : vs[i]? = some v) : (L2.start N vs)[i]? = some (some v) := by
  unfold L2.start
  have hi : i < vs.length := (List.getElem?_eq_some_iff.mp h).1
  rw [List.getElem?_append_left (by simpa using hi)]
  simp [h]
theorem start_at {N : List Str} {vs : List V} {i : Nat} {v : V} (h : (L2.start N vs)[i]? = some (some v)) : vs[i]? = some v := by
  unfold L2.start at h
  by_cases hi : i < vs.length
  · rw [List.getElem?_append_left (by simpa using hi)] at h
    simpa using h
  · rw [List.getElem?_append_right (by simpa using hi)] at h
    by_cases h2 : i - (vs.map some).length < N.length - vs.length
    · rw [List.getElem?_replicate_of_lt h2] at h
      cases h
    · rw [List.getElem?_eq_none (by simpa using h2)] at h
      cases h
theorem fn_ok {x : Str} {st : Stmt} {f : Addr} {fd : FuncData} {N ps : List Str} {k : Nat} {sp : FSpec} (wS : WS) (F : Fun K x x st f fd) (S : FnScope N ps (defScope st))
    (deriv : ∀ (cdv : Value) (A : Around) (outer : List Env) (s : Shared) (H : Hp) (E : XK), Room k (A.deeper (envOfC x (defScope st) s.heap.objs.size f cdv)) →
      DSs (cxOf CX0 P w K mg base N x (defScope st) f cdv A outer s H E).nox ps.length H (List.range ps.length) (defBody st) wS)
    (pure : ∀ ds, ds.length = ps.length → sp.pre ds → wS (env0 ds (N.length - ps.length)) { nx := fun e => sp.post ds .non (outs e ps.length), rt := fun d e => sp.post ds d (outs e ps.length) }) :
    FnOk P w K mg base CX0 (k + 1) f fd ps (spOf K ps.length sp) := by
  have hNl : ps.length ≤ N.length := by
    have := congrArg List.length S.pre
    rw [List.length_take] at this
    omega
  refine F.ok S (fun vs H Q E h => ?_) (fun cdv A outer s H vs Q E hr h => ?_)
  · obtain ⟨ds, hl, _⟩ := h
    exact hl
  · obtain ⟨ds, hl, rv, ap, pre, q⟩ := h
    have hdl : ds.length = ps.length := by rw [rv.length]; exact hl
    refine ⟨_, deriv cdv A outer s H E hr, ?_⟩
    have R : Rep K ps.length H (L2.start N vs) H (env0 ds (N.length - ps.length)) := by
      refine ⟨?_, fun i d e => ?_, fun i j xs ys a e1 e2 s1 s2 => ?_, fun i xs a hi e s' => ?_, fun _ h => h⟩
      · unfold L2.start env0
        simp [hl, hdl]
      · obtain ⟨v, e1, r1⟩ := rv.get (env0_get e)
        exact ⟨v, start_get e1, r1⟩
      · exact apA_get ap (env0_get e1) (env0_get e2) (start_at s1) (start_at s2)
      · have := env0_get e
        have hi' : i < ds.length := (List.getElem?_eq_some_iff.mp this).1
        omega
    have A1 : ∀ {σ' : L2.St} {H' : Hp} {env' : DEnv}, SS K ps.length H (List.range ps.length) (L2.start N vs) H (env0 ds (N.length - ps.length)) σ' H' env' → After K H H' ds (outs env' ps.length) vs := fun {σ' H' env'} st => by
      have el : env'.length = ds.length + (N.length - ps.length) := by
        rw [st.len]
        unfold env0
        simp
      refine ⟨?_, fun b o h n => ?_, st.dom, fun i xs v e ev => ?_⟩
      · unfold outs
        rw [List.length_map, List.length_take]
        omega
      · refine (st.keep b o h fun z => ?_).1
        obtain ⟨i, xs, e, s1⟩ := z
        exact n i xs (env0_get e) (start_at s1)
      · have hi : i < ds.length := (List.getElem?_eq_some_iff.mp e).1
        have e0 : (env0 ds (N.length - ps.length))[i]? = some (some (D.lst xs)) := by
          unfold env0
          rw [List.getElem?_append_left (by simpa using hi)]
          simp [e]
        obtain ⟨q1, ys, q2⟩ := st.par i xs (List.mem_range.mpr (by omega)) e0
        rw [start_get ev] at q1
        obtain ⟨u, q3, ru⟩ := st.rep.val i _ q2
        rw [q1] at q3
        have euv : v = u := by simpa using q3
        subst euv
        refine ⟨ys, ?_, ru⟩
        unfold outs
        rw [List.getElem?_map, List.getElem?_take_of_lt (by omega), q2]
        rfl
    refine ⟨_, _, R, pure ds hdl pre, ⟨fun env' σ' H' h st => ?_, fun d env' σ' H' v h st rv fr => ?_, fun _ _ _ h _ => h.elim, fun _ _ _ h _ => h.elim⟩⟩
    · exact q .non _ .non H' h (A1 st) rfl fun n => by simp [isL] at n
    · exact q d _ v H' h (A1 st) rv fr
end
end DL

namespace DL
open PySem PySem.Spec PyProof.Rows L2
/-! ### reasoning over data -/
theorem ifb_t {A B : Prop} (h : A) : ifb (.bl true) A B := .t h
theorem ifb_f {A B : Prop} (h : B) : ifb (.bl false) A B := .f h
theorem ifb_dec {p : Prop} {_ : Decidable p} {A B : Prop} (h1 : p → A) (h2 : ¬ p → B) : ifb (.bl (decide p)) A B := by
  by_cases h : p
  · rw [decide_eq_true h]; exact .t (h1 h)
  · rw [decide_eq_false h]; exact .f (h2 h)
theorem ifb_ndec {p : Prop} {_ : Decidable p} {A B : Prop} (h1 : ¬ p → A) (h2 : p → B) : ifb (.bl (!decide p)) A B := by
  by_cases h : p
  · rw [decide_eq_true h]; exact .f (h2 h)
  · rw [decide_eq_false h]; exact .t (h1 h)
theorem ifb_b {b : Bool} {A B : Prop} (h1 : b = true → A) (h2 : b = false → B) : ifb (.bl b) A B := by
  cases b with
  | true => exact .t (h1 rfl)
  | false => exact .f (h2 rfl)
theorem ifb_nr {α : Type} {x : α} {_ : Decidable (x = x)} {A B : Prop} (h : B) : ifb (.bl (!decide (x = x))) A B := by
  rw [decide_eq_true (rfl : x = x)]; exact ifb_f h
theorem ifb_er {α : Type} {x : α} {_ : Decidable (x = x)} {A B : Prop} (h : A) : ifb (.bl (decide (x = x))) A B := by
  rw [decide_eq_true (rfl : x = x)]; exact ifb_t h
theorem goFor_ind {g : G} {wb : WS} {chk : List (Nat × List D)} {K : Kt} (I : List D → DEnv → Prop)
    (hs : ∀ x r env nxt, I (x :: r) env → (∀ e, I r e → nxt e) → chkE chk env ∧ g x env fun e2 => wb e2 { nx := nxt, rt := K.rt, bk := K.nx, ct := nxt })
    (hd : ∀ env, I [] env → chkE chk env ∧ K.nx env) : ∀ xs env, I xs env → goFor g wb chk K xs env
  | [], env, h => hd env h
  | x :: r, env, h => hs x r env _ h fun e he => goFor_ind I hs hd r e he
theorem goFor_rng {g : G} {wb : WS} {chk : List (Nat × List D)} {K : Kt} (I : Int → DEnv → Prop) : ∀ (n : Nat) (lo : Int) (env : DEnv), I lo env →
    (∀ j env nxt, lo ≤ j → j < lo + n → I j env → (∀ e, I (j + 1) e → nxt e) → chkE chk env ∧ g (.int j) env fun e2 => wb e2 { nx := nxt, rt := K.rt, bk := K.nx, ct := nxt }) →
    (∀ env, I (lo + n) env → chkE chk env ∧ K.nx env) → goFor g wb chk K (rngD lo n) env
  | 0, lo, env, h, _, hd => hd env (by simpa using h)
  | n + 1, lo, env, h, hs, hd => by
    refine hs lo env _ (Int.le_refl _) (by omega) h fun e he => ?_
    exact goFor_rng I n (lo + 1) e he (fun j env nxt h1 h2 => hs j env nxt (by omega) (by omega)) (fun env h => hd env (by rw [show lo + ((n + 1 : Nat) : Int) = lo + 1 + (n : Int) by omega]; exact h))
theorem loop_rng {g : G} {wb : WS} {chk : List (Nat × List D)} {K : Kt} {n : Nat} {lo : Int} {env : DEnv} (I : Int → DEnv → Prop) (h0 : I lo env)
    (hs : ∀ j env nxt, lo ≤ j → j < lo + n → I j env → (∀ e, I (j + 1) e → nxt e) → chkE chk env ∧ g (.int j) env fun e2 => wb e2 { nx := nxt, rt := K.rt, bk := K.nx, ct := nxt })
    (hd : ∀ env, I (lo + n) env → chkE chk env ∧ K.nx env) : Loop (goFor g wb chk K (rngD lo n) env) := .mk (goFor_rng I n lo env h0 hs hd)
theorem loop_for {g : G} {wb : WS} {chk : List (Nat × List D)} {K : Kt} {xs : List D} {env : DEnv} (I : List D → DEnv → Prop) (h0 : I xs env)
    (hs : ∀ x r env nxt, I (x :: r) env → (∀ e, I r e → nxt e) → chkE chk env ∧ g x env fun e2 => wb e2 { nx := nxt, rt := K.rt, bk := K.nx, ct := nxt })
    (hd : ∀ env, I [] env → chkE chk env ∧ K.nx env) : Loop (goFor g wb chk K xs env) := .mk (goFor_ind I hs hd xs env h0)
theorem lcGo_ind {g : G} {wt we : W} {own : List Nat} {chk : List (Nat × List D)} {k : List D → DEnv → Prop} (I : List D → List D → DEnv → Prop)
    (hs : ∀ x r acc env (nxt : List D → DEnv → Prop), I (x :: r) acc env → (∀ a e, I r a e → nxt a e) → chkE chk env ∧ g x env fun e2 => wt e2 fun rb e3 => rs e3 rb fun b =>
      ifb b (we e3 fun r e4 => rs e4 r fun y => isL y = false ∧ nxt (acc ++ [y]) (wipeE e4 own)) (nxt acc (wipeE e3 own)))
    (hd : ∀ acc env, I [] acc env → chkE chk env ∧ k acc env) : ∀ xs acc env, I xs acc env → lcGo g wt we own chk k xs acc env
  | [], acc, env, h => hd acc env h
  | x :: r, acc, env, h => hs x r acc env _ h fun a e he => lcGo_ind I hs hd r a e he
/-- each item gives f of it, the slots stay -/
theorem lcGo_map {g : G} {wt we : W} {own : List Nat} {chk : List (Nat × List D)} {k : List D → DEnv → Prop} (f : D → D) (env : DEnv) (xs0 : List D)
    (hs : ∀ x (nxt : List D → DEnv → Prop) acc, x ∈ xs0 → nxt (acc ++ [f x]) env → chkE chk env ∧ g x env fun e2 => wt e2 fun rb e3 => rs e3 rb fun b =>
      ifb b (we e3 fun r e4 => rs e4 r fun y => isL y = false ∧ nxt (acc ++ [y]) (wipeE e4 own)) (nxt acc (wipeE e3 own)))
    (hd : chkE chk env ∧ k (xs0.map f) env) : Loop (lcGo g wt we own chk k xs0 [] env) := by
  refine Loop.mk ?_
  refine lcGo_ind (fun r acc e => e = env ∧ acc ++ r.map f = xs0.map f ∧ ∀ x ∈ r, x ∈ xs0) ?_ ?_ xs0 [] env ⟨rfl, by simp, fun _ h => h⟩
  · rintro x r acc e nxt ⟨rfl, h, hm⟩ hn
    exact hs x nxt acc (hm x (by simp)) (hn _ _ ⟨rfl, by simpa using h, fun y hy => hm y (by simp [hy])⟩)
  · rintro acc e ⟨rfl, h, _⟩
    have : acc = xs0.map f := by simpa using h
    rw [this]
    exact hd
/-- the items that pass p -/
theorem lcGo_filter {g : G} {wt we : W} {own : List Nat} {chk : List (Nat × List D)} {k : List D → DEnv → Prop} (p : D → Bool) (f : D → D) (env : DEnv) (xs0 : List D)
    (hs : ∀ x (nxt : List D → DEnv → Prop) acc, x ∈ xs0 → nxt (acc ++ if p x then [f x] else []) env → chkE chk env ∧ g x env fun e2 => wt e2 fun rb e3 => rs e3 rb fun b =>
      ifb b (we e3 fun r e4 => rs e4 r fun y => isL y = false ∧ nxt (acc ++ [y]) (wipeE e4 own)) (nxt acc (wipeE e3 own)))
    (hd : chkE chk env ∧ k ((xs0.filter p).map f) env) : Loop (lcGo g wt we own chk k xs0 [] env) := by
  refine Loop.mk ?_
  refine lcGo_ind (fun r acc e => e = env ∧ acc ++ (r.filter p).map f = (xs0.filter p).map f ∧ ∀ x ∈ r, x ∈ xs0) ?_ ?_ xs0 [] env ⟨rfl, by simp, fun _ h => h⟩
  · rintro x r acc e nxt ⟨rfl, h, hm⟩ hn
    refine hs x nxt acc (hm x (by simp)) (hn _ _ ⟨rfl, ?_, fun y hy => hm y (by simp [hy])⟩)
    rw [← h]
    by_cases hp : p x = true
    · simp [hp, List.filter_cons]
    · simp [hp, List.filter_cons]
  · rintro acc e ⟨rfl, h, _⟩
    have : acc = (xs0.filter p).map f := by simpa using h
    rw [this]
    exact hd
def IsInts (xs : List D) : Prop := ∃ ns : List Int, xs = ns.map D.int
theorem loop_lc {g : G} {wt we : W} {own : List Nat} {chk : List (Nat × List D)} {k : List D → DEnv → Prop} {xs : List D} {env : DEnv} (I : List D → List D → DEnv → Prop) (h0 : I xs [] env)
    (hs : ∀ x r acc env (nxt : List D → DEnv → Prop), I (x :: r) acc env → (∀ a e, I r a e → nxt a e) → chkE chk env ∧ g x env fun e2 => wt e2 fun rb e3 => rs e3 rb fun b =>
      ifb b (we e3 fun r e4 => rs e4 r fun y => isL y = false ∧ nxt (acc ++ [y]) (wipeE e4 own)) (nxt acc (wipeE e3 own)))
    (hd : ∀ acc env, I [] acc env → chkE chk env ∧ k acc env) : Loop (lcGo g wt we own chk k xs [] env) := .mk (lcGo_ind I hs hd xs [] env h0)
theorem fn_false {P : Program} {w : World} {K : PySem.W.Frag} {mg : Str → Option Value} {base : Heap} {k n : Nat} {f : Addr} {fd : FuncData} {ps : List Str} {sp : FSpec} (h : ∀ ds, sp.pre ds → False) : FnOk P w K mg base CX0 k f fd ps (spOf K n sp) :=
  ⟨fun vs H Q E ⟨ds, _, _, _, pre, _⟩ => (h ds pre).elim, fun A outer s H args us vs Q E _ _ _ _ ⟨ds, _, _, _, pre, _⟩ => (h ds pre).elim⟩
/-- the law's own start -/
def sp_law : FSpec where
  pre := fun ds => ∃ ns : List Int, ds = [.rol (ns.map D.int)] ∧ ns.length ≤ 63
  post := fun _ r _ => r = .bl true
theorem RpIs.ints {K : PySem.W.Frag} {H : Hp} : ∀ ns : List Int, RpIs K H (ns.map D.int) (ns.map V.int)
  | [] => by simp [RpIs]
  | n :: r => by
    simp only [List.map_cons, RpIs, RpI]
    exact ⟨_, _, rfl, rfl, RpIs.ints r⟩
theorem law_start {K : PySem.W.Frag} {H : Hp} {a : Addr} {ns : List Int} (hl : ns.length ≤ 63) (hO : Only H) (hS : SqL K H a (ns.map V.int)) : spOf K 1 sp_law [.ref a] H (fun v _ => v = .bl true) fun _ _ _ => False := by
  have hr : SqR K H a (ns.map V.int) := by
    rcases hS with (h | ⟨o, h⟩) | h
    · rcases hO a with n | ⟨o, xs, n⟩
      · rw [n] at h; cases h
      · rw [n] at h; cases h
    · exact .inl ⟨o, h⟩
    · exact .inr h
  refine ⟨[.rol (ns.map D.int)], rfl, ⟨_, [], rfl, ?_, rfl⟩, trivial, ⟨ns, rfl, hl⟩, fun r ds' v H' po _ rv _ => ?_⟩
  · show RpI _ _ _ _
    simp only [RpI]
    exact ⟨a, _, rfl, hr, RpIs.ints ns⟩
  · cases (show r = .bl true from po)
    exact rv
end DL

namespace DL
open PySem PySem.Spec PyProof.Rows L2
section
variable {X : Cx} {np : Nat} {He : Hp} {pos : Pos} {a b c d : Expr}
/-! ### a op b op' c op'' d -/
def tChain3 (r r' r'' : R2) (ta tb tc td : TE) : TE := fun σ H Q => ta σ H fun x H1 => tb σ H1 fun y H2 => r x y H2 fun z H3 => ∃ k, z = .bl k ∧
  (if k = true then tc σ H3 fun w' H4 => r' y w' H4 fun z2 H5 => ∃ k2, z2 = .bl k2 ∧ (if k2 = true then td σ H5 fun u' H6 => r'' w' u' H6 Q else Q (.bl false) H5) else Q (.bl false) H3)
theorem pt_chain3 {op op' op'' : CmpOp} {r r' r'' : R2} {ta tb tc td : TE} (ho : OpR X (compareOp op) r) (ho' : OpR X (compareOp op') r') (ho'' : OpR X (compareOp op'') r'') (ha : PE X a ta) (hb : PE X b tb) (hc : PE X c tc) (hd : PE X d td)
    (hm : lastMarks [op, op', op''] [b, c, d] = false := by with_unfolding_all rfl) : PT X (.Compare a [op, op', op''] [b, c, d] pos) (tTest (tChain3 r r' r'' ta tb tc td)) := by
  refine ⟨fun pins s σ H Q I h => ?_⟩
  refine isTrue_chain (thn (ha.run pins s σ H _ I h) fun v s1 ⟨x, H1, I1, r1, q1⟩ => test_link (thn (hb.run pins s1 σ H1 _ I1 q1) fun u s2 ⟨y, H2, I2, r2, q2⟩ =>
    thn (ho pins s2 σ H2 x y v u _ I2 r1 r2 q2) fun dd s3 ⟨z, H3, I3, r3, k, e, q3⟩ => ?_)) hm
  subst e
  cases r3
  refine wpAny_truthy_bool ?_
  cases k with
  | false =>
    obtain ⟨k', e', q'⟩ := q3
    cases e'
    exact ite_ff ⟨H3, I3, q'⟩
  | true =>
    refine ite_tt (test_link (thn (hc.run pins s3 σ H3 _ I3 q3) fun w' s4 ⟨z', H4, I4, r4, q4⟩ => thn (ho' pins s4 σ H4 y z' u w' _ I4 r2 r4 q4) fun d5 s5 ⟨z5, H5, I5, r5, k5, e5, q5⟩ => ?_))
    subst e5
    cases r5
    refine wpAny_truthy_bool ?_
    cases k5 with
    | false =>
      obtain ⟨k', e', q'⟩ := q5
      cases e'
      exact ite_ff ⟨H5, I5, q'⟩
    | true =>
      refine ite_tt (test_last (thn (hd.run pins s5 σ H5 _ I5 q5) fun w6 s6 ⟨z6, H6, I6, r6, q6⟩ => thn (ho'' pins s6 σ H6 z' z6 w' w6 _ I6 r4 r6 q6) fun d7 s7 ⟨z7, H7, I7, r7, k7, e7, q7⟩ => ?_))
      subst e7
      cases r7
      exact wpAny_truthy_bool ⟨H7, I7, q7⟩
def cChain3 (f g h : F2) (wa wb wc wd : W) : W := fun env Q => wa env fun ra e1 => wb e1 fun rb e2 => rs e2 ra fun x => rs e2 rb fun y => f x y fun z => ifb z
  (wc e2 fun rc e3 => rs e3 rb fun y' => rs e3 rc fun u => g y' u fun z' => ifb z' (wd e3 fun rd e4 => rs e4 rc fun u' => rs e4 rd fun t => h u' t fun z'' => Q (.val z'') e4) (Q (.val (.bl false)) e3)) (Q (.val (.bl false)) e2)
theorem chain3_core {wa wb wc wd : W} {r r' r'' : R2} {f g g' : F2} (h : OpD X.K r f) (h' : OpD X.K r' g) (h'' : OpD X.K r'' g') : ∀ σ H Q, rE X.K np He (cChain3 f g g' wa wb wc wd) σ H Q → tChain3 r r' r'' (rE X.K np He wa) (rE X.K np He wb) (rE X.K np He wc) (rE X.K np He wd) σ H Q := by
  intro σ H Q ⟨env, Q0, R, w, q⟩
  refine ⟨env, _, R, w, fun ra e1 v1 H1 w1 s1 r1 => ⟨e1, _, s1.rep, w1, fun rb e2 v2 H2 w2 s2 r2 => ?_⟩⟩
  have r1' := r1.keep R s1 s2
  have s12 := s1.trans s2
  obtain ⟨x, hx, w2⟩ := r1'.rs s2.rep w2
  obtain ⟨y, hy, w2⟩ := r2.rs s2.rep w2
  refine h H2 x y v1 v2 _ _ hx hy w2 fun z u H' k ex rz fz => ?_
  have s3 : SE X.K np He σ H2 e2 H' e2 := .ext s2.rep ex
  have kz := ifb_of k; clear k; rcases kz with ⟨rfl, k⟩ | ⟨rfl, k⟩
  · refine ⟨true, rz, ?_⟩
    rw [if_pos rfl]
    refine ⟨e2, _, s3.rep, k, fun rc e3 v3 H3 w3 s4 r3 => ?_⟩
    have r2' := r2.keep s1.rep s2 (s3.trans s4)
    obtain ⟨y', hy', w3⟩ := r2'.rs s4.rep w3
    obtain ⟨u', hu', w3⟩ := r3.rs s4.rep w3
    have s14 := (s12.trans s3).trans s4
    refine h' H3 y' u' v2 v3 _ _ hy' hu' w3 fun z u H' k ex rz fz => ?_
    have s5 : SE X.K np He σ H3 e3 H' e3 := .ext s4.rep ex
    have kz := ifb_of k; clear k; rcases kz with ⟨rfl, k⟩ | ⟨rfl, k⟩
    · refine ⟨true, rz, ?_⟩
      rw [if_pos rfl]
      refine ⟨e3, _, s5.rep, k, fun rd e4 v4 H4 w4 s6 r4 => ?_⟩
      have r3' := r3.keep s3.rep s4 (s5.trans s6)
      obtain ⟨u2, hu2, w4⟩ := r3'.rs s6.rep w4
      obtain ⟨t, ht, w4⟩ := r4.rs s6.rep w4
      have s16 := (s14.trans s5).trans s6
      refine h'' H4 u2 t v3 v4 _ Q hu2 ht w4 fun z u H' k ex rz fz => ?_
      exact q _ e4 u H' k (s16.trans (.ext s6.rep ex)) ⟨rz, fun n c e => s16.dom c (fz n c e)⟩
    · refine ⟨false, rz, ?_⟩
      rw [if_neg Bool.false_ne_true]
      exact q _ e3 _ H' k (s14.trans s5) ⟨rfl, fun n => by simp [isL] at n⟩
  · refine ⟨false, rz, ?_⟩
    rw [if_neg Bool.false_ne_true]
    exact q _ e2 _ H' k (s12.trans s3) ⟨rfl, fun n => by simp [isL] at n⟩
theorem t_chain3 {op op' op'' : CmpOp} {r r' r'' : R2} {f g g' : F2} {wa wb wc wd : W} (ho : OpR X (compareOp op) r) (ho' : OpR X (compareOp op') r') (ho'' : OpR X (compareOp op'') r'') (h : OpD X.K r f) (h' : OpD X.K r' g) (h'' : OpD X.K r'' g') (ha : DE X np He a wa) (hb : DE X np He b wb) (hc : DE X np He c wc) (hd : DE X np He d wd)
    (hm : lastMarks [op, op', op''] [b, c, d] = false := by with_unfolding_all rfl) : DT X np He (.Compare a [op, op', op''] [b, c, d] pos) (cChain3 f g g' wa wb wc wd) :=
  PT.weak (pt_chain3 ho ho' ho'' ha hb hc hd hm) fun σ H Q h0 => chain3_core h h' h'' σ H _ h0
end
end DL

namespace DL
open PySem PySem.Spec PyProof.Rows L2
/-! ### every other item -/
def ev {α : Type} : List α → List α
  | [] => []
  | [x] => [x]
  | x :: _ :: r => x :: ev r
theorem ev_get {α : Type} : ∀ (xs : List α) (k : Nat), (ev xs)[k]? = xs[2 * k]?
  | [], k => by simp [ev]
  | [x], 0 => rfl
  | [x], k + 1 => by simp [ev]
  | x :: y :: r, 0 => rfl
  | x :: y :: r, k + 1 => by
    have := ev_get r k
    simp only [ev, List.getElem?_cons_succ, this]
    rw [show 2 * (k + 1) = 2 * k + 1 + 1 by omega, List.getElem?_cons_succ, List.getElem?_cons_succ]
theorem ev_len {α : Type} : ∀ (xs : List α), (ev xs).length = (xs.length + 1) / 2
  | [] => by simp [ev]
  | [x] => by simp [ev]
  | x :: y :: r => by
    simp only [ev, List.length_cons, ev_len r]
    omega
theorem ev_le {α : Type} (xs : List α) : (ev xs).length ≤ xs.length := by rw [ev_len]; omega
theorem RpIs.ev {K : PySem.W.Frag} {H : Hp} : ∀ {ds : List D} {vs : List V}, RpIs K H ds vs → RpIs K H (DL.ev ds) (DL.ev vs)
  | [], vs, h => by simp only [RpIs] at h; subst h; simp [DL.ev, RpIs]
  | [d], vs, h => by
    simp only [RpIs] at h
    obtain ⟨v, r, rfl, h1, rfl⟩ := h
    exact ⟨v, [], rfl, h1, rfl⟩
  | d :: e :: ds, vs, h => by
    simp only [RpIs] at h
    obtain ⟨v, r, rfl, h1, w, r2, rfl, h2, h3⟩ := h
    exact ⟨v, _, rfl, h1, RpIs.ev h3⟩
theorem vals_ev : ∀ {xs : List V} {us : List Value}, Vals xs us → Vals (DL.ev xs) (DL.ev us)
  | [], _, .nil => .nil
  | [_], _, .cons r .nil => .cons r .nil
  | _ :: _ :: _, _, .cons r (.cons _ t) => .cons r (vals_ev t)
theorem picks {α : Type} (xs : Array α) (a : Nat) : ∀ c : Nat, ((List.range c).map fun k => a + 2 * k).filterMap (xs[·]?) = (ev (xs.toList.drop a)).take c
  | 0 => by simp
  | c + 1 => by
    rw [List.range_succ, List.map_append, List.filterMap_append, picks xs a c, List.take_add_one, ev_get, List.getElem?_drop, Array.getElem?_toList]
    cases h : xs[a + 2 * c]? <;> simp [h]
theorem pick2 (items : Array Value) (lo : Option Int) (m : Nat) (hm : (lo = none ∧ m = 0) ∨ lo = some (m : Int)) : slicePick items lo none (some 2) = (ev (items.toList.drop m)).toArray := by
  have e : sliceBounds lo none (some 2) items.size = (((min m items.size : Nat) : Int), (items.size : Int), (2 : Int)) := by
    rcases hm with ⟨rfl, rfl⟩ | rfl
    · simp [sliceBounds]
    · have h : ¬ ((m : Int) < 0) := by omega
      simp [sliceBounds, h]
      omega
  have e2 : ∀ (a n : Nat), a ≤ n → sliceRange (a : Int) (n : Int) 2 = (List.range ((n - a + 1) / 2)).map fun k => a + 2 * k := by
    intro a n h
    unfold sliceRange
    have hc : (if (2 : Int) > 0 then (if (a : Int) < n then ((n : Int) - a + 2 - 1) / 2 else 0) else (if (a : Int) > n then ((a : Int) - n - 2 - 1) / (-2) else 0)).toNat = (n - a + 1) / 2 := by
      rw [if_pos (by decide)]
      by_cases h2 : (a : Int) < n
      · rw [if_pos h2]; omega
      · rw [if_neg h2]; omega
    simp only [hc]
    apply List.map_congr_left
    intro k _
    omega
  unfold slicePick
  rw [e]
  simp only []
  rw [e2 _ _ (Nat.min_le_right _ _), picks]
  congr 1
  by_cases h : m ≤ items.size
  · rw [Nat.min_eq_left h, List.take_of_length_le]
    rw [ev_len, List.length_drop, Array.length_toList]
    omega
  · rw [Nat.min_eq_right (by omega), List.drop_of_length_le (by simp), List.drop_of_length_le (by simp; omega)]
    simp [ev]
section
variable {X : Cx} {np : Nat} {He : Hp} {a b : Expr} {wa wb : W} {pos : Pos}
def tStp (K : PySem.W.Frag) (m : Nat) (te : TE) : TE := fun σ H Q => te σ H fun x H1 => ∃ l xs, x = .ref l ∧ SqL K H1 l xs ∧ ∀ p, H1 p = none → Q (.ref p) (upd H1 p (.lst (ev (xs.drop m))))
theorem pe_stp {e : Expr} {te : TE} {lower : Option Expr} {tl : TO} {lo : Option Int} {m kk : Nat} {q1 q2 : Pos} (hm : (lo = none ∧ m = 0) ∨ lo = some (m : Int)) (he : PE X e te) (hl : PO X lower tl) (hq : ∀ σ H, tl σ H fun o H' => o = lo ∧ H' = H) :
    PE X (.Subscript e (.Slice lower none (some (.Constant (.int 2) kk q1)) q2) pos) (tStp X.K m te) := by
  refine ⟨fun pins s σ H Q J0 g0 => ?_⟩
  refine Subscript_ (thn (he.run pins s σ H _ J0 g0) fun vv sA ⟨xx, HA, JA, rA, qA⟩ => ?_)
  obtain ⟨ad, xs, rfl, sq, fin⟩ := qA
  cases rA
  refine wpAny_Slice (thn (hl.run pins sA σ HA _ JA (hq σ HA)) fun wl sB ⟨ol, HB, JB, pB, eB⟩ => ?_)
  obtain ⟨rfl, rfl⟩ := eB
  refine thn (po_none.run pins sB σ HB (fun o H' => o = none ∧ H' = HB) JB ⟨rfl, rfl⟩) fun wu sC ⟨ou, HC, JC, pC, eC⟩ => ?_
  obtain ⟨rfl, rfl⟩ := eC
  refine thn ((po_some pe_int).run pins sC σ HC (fun o H' => o = some 2 ∧ H' = HC) JC ⟨2, rfl, rfl, rfl⟩) fun ws sD ⟨os, HD, JD, pD, eD⟩ => ?_
  obtain ⟨rfl, rfl⟩ := eD
  have JE : Inv X pins σ HD { sD with heap := sD.heap.push { cls := .type "slice", data := .fields #[wl, wu, ws] } } := JD.kept (t' := sD.toks) fun c oc h => Heap.get?_push_of_some _ h
  obtain ⟨its, rv, pl, hz⟩ := JE.list sq
  have hlen := rv.length
  show wpAny (model X.prog X.w) X.A (subscriptTail e (.Slice lower none (some (.Constant (.int 2) kk q1)) q2) (.ref ad) (.ref sD.heap.objs.size)) (EP X pins σ Q) X.xe { sD with heap := sD.heap.push { cls := .type "slice", data := .fields #[wl, wu, ws] } }
  refine tail_any (ops := [.ref ad, .ref sD.heap.objs.size]) pl.isList.typeIs (PySem.slot_list_getitem.lookup) ?_ (by with_unfolding_all rfl)
  refine wpAny_getItem_list_slice pl.isList (Heap.IsSliceOf.new _ wl wu ws) pB pC pD (by decide) ?_ (by simp only [List.size_toArray]; omega)
  rw [pick2 _ ol m hm]
  refine ⟨.ref _, _, JE.laid (t' := sD.toks) (o := .lst (ev (xs.drop m))) (fun c oc h => Heap.get?_push_of_some _ h) (Nat.le_refl _) ?_, rfl, fin _ (JE.hok.fresh (Nat.le_refl _))⟩
  refine ⟨?_, _, 0, vals_ev (rv.drop m), Heap.get?_push_size _ rfl⟩
  have := ev_le (xs.drop m)
  rw [List.length_drop] at this
  omega
def fStp (m : Nat) : F1 := fun x k => match x with
  | .lst xs => k (.lst (ev (xs.drop m)))
  | .rol xs => k (.lst (ev (xs.drop m)))
  | _ => False
theorem stp_core (m : Nat) : ∀ σ H Q, rE X.K np He (cUn (fStp m) wa) σ H Q → tStp X.K m (rE X.K np He wa) σ H Q := by
  intro σ H Q ⟨env, Q0, R, w, q⟩
  refine ⟨env, _, R, w, fun ra e1 v1 H1 w1 s1 r1 => ?_⟩
  obtain ⟨x, hx, w1⟩ := r1.rs s1.rep w1
  have fin : ∀ {l : Addr} {vs : List V} {xs : List D}, v1 = .ref l → SqL X.K H1 l vs → RpIs X.K H1 xs vs → Q0 (.val (.lst (ev (xs.drop m)))) e1 → ∃ l xs, v1 = .ref l ∧ SqL X.K H1 l xs ∧ ∀ p, H1 p = none → Q (.ref p) (upd H1 p (.lst (ev (xs.drop m)))) := by
    intro l vs xs e sq r k
    refine ⟨l, vs, e, sq, fun p np' => ?_⟩
    have ex : Ext H1 (upd H1 p (.lst (ev (vs.drop m)))) := .new np'
    refine q _ e1 _ _ k (s1.trans (.ext s1.rep ex)) ⟨⟨p, _, rfl, upd_same, RpIs.kp ex.kp _ _ (r.drop m).ev⟩, fun _ c e => ?_⟩
    cases e
    exact s1.dom p np'
  cases x with
  | lst xs => obtain ⟨a, vs, rfl, e, r⟩ := hx; exact fin rfl (.of e) r w1
  | rol xs =>
    obtain ⟨a, vs, rfl, s, r⟩ := (show ∃ a vs, v1 = .ref a ∧ SqR X.K H1 a vs ∧ RpIs X.K H1 xs vs by simpa only [RpV, RpI] using hx)
    exact fin rfl s.seq r w1
  | _ => exact False.elim w1
theorem e_stp0 {kk : Nat} {q1 q2 : Pos} (ha : DE X np He a wa) : DE X np He (.Subscript a (.Slice none none (some (.Constant (.int 2) kk q1)) q2) pos) (cUn (fStp 0) wa) :=
  PE.weak (pe_stp (.inl ⟨rfl, rfl⟩) ha po_none fun σ H => ⟨rfl, rfl⟩) (stp_core 0)
theorem e_stp {m kk k2 : Nat} {q1 q2 q3 : Pos} (ha : DE X np He a wa) : DE X np He (.Subscript a (.Slice (some (.Constant (.int (m : Int)) k2 q3)) none (some (.Constant (.int 2) kk q1)) q2) pos) (cUn (fStp m) wa) :=
  PE.weak (pe_stp (.inr rfl) ha (po_some pe_int) fun σ H => ⟨_, rfl, rfl, rfl⟩) (stp_core m)
end
end DL

namespace DL
open PySem PySem.Spec PyProof.Rows L2
/-! ### tuple(zip(xs, ys)) of two lists -/
theorem zip_no_len : typeLookup (.type "zip") "__len__" = pure none := by rw [typeLookup_type, builtinLookup_eq_fast]; kernel_rfl
theorem zip_no_hint : typeLookup (.type "zip") "__length_hint__" = pure none := by rw [typeLookup_type, builtinLookup_eq_fast]; kernel_rfl
/-- what the list has got so far -/
def Got (H : Hp) (xs ys : List V) (acc : Array Value) (i : Nat) : Prop := acc.size = i ∧ ∀ (j : Nat) (v : Value), acc[j]? = some v → ∃ (T : Addr) (x y : V), v = Value.ref T ∧ H T = some (.tup [x, y]) ∧ xs[j]? = some x ∧ ys[j]? = some y
theorem Got.ext {H H' : Hp} {xs ys : List V} {acc : Array Value} {i : Nat} (x : Ext H H') (g : Got H xs ys acc i) : Got H' xs ys acc i :=
  ⟨g.1, fun j v h => let ⟨T, a, b, e1, e2, e3, e4⟩ := g.2 j v h; ⟨T, a, b, e1, x _ _ e2, e3, e4⟩⟩
theorem Got.push {H : Hp} {xs ys : List V} {acc : Array Value} {i : Nat} {T : Addr} {x y : V} (g : Got H xs ys acc i) (h : H T = some (.tup [x, y])) (hx : xs[i]? = some x) (hy : ys[i]? = some y) : Got H xs ys (acc.push (.ref T)) (i + 1) := by
  refine ⟨by rw [Array.size_push, g.1], fun j v e => ?_⟩
  rw [Array.getElem?_push] at e
  split at e
  · rename_i e1
    rw [g.1] at e1
    cases e
    subst e1
    exact ⟨T, x, y, rfl, h, hx, hy⟩
  · exact g.2 j v e
def LObj (acc : Array Value) (c : Nat) : Obj := { cls := .type "list", dict := none, data := .seq acc c, slots := #[] }
/-- the zip between two turns: its tuple is out or not -/
def ZAt (h : Heap) (z TI TO i1 i2 l1 l2 S : Addr) (i : Nat) : Prop := IsPair h TI (.ref i1) (.ref i2) ∧ h.IsListIter i1 l1 i ∧ h.IsListIter i2 l2 i ∧
  ((IsZip h z TI TO .none ∧ ∃ a b, IsPair h TO a b) ∨ ∃ T f oT, IsZipHeld h z TI TO T f ∧ h.get? T = some oT ∧ T ≠ z ∧ T ≠ i1 ∧ T ≠ i2 ∧ T ≠ S)
theorem ZAt.but {h h' : Heap} {z TI TO i1 i2 l1 l2 S : Addr} {i : Nat} (Z : ZAt h z TI TO i1 i2 l1 l2 S i) (d : S ≠ TI ∧ S ≠ i1 ∧ S ≠ i2 ∧ S ≠ z ∧ S ≠ TO) (k : ∀ b o, b ≠ S → h.get? b = some o → h'.get? b = some o) : ZAt h' z TI TO i1 i2 l1 l2 S i := by
  obtain ⟨hTI, h1, h2, hz⟩ := Z
  refine ⟨k _ _ d.1.symm hTI, h1.at fun o e => k _ o d.2.1.symm e, h2.at fun o e => k _ o d.2.2.1.symm e, ?_⟩
  rcases hz with ⟨hz, a, b, hTO⟩ | ⟨T, f, oT, hz, hT, r1, r2, r3, r4⟩
  · exact .inl ⟨k _ _ d.2.2.2.1.symm hz, a, b, k _ _ d.2.2.2.2.symm hTO⟩
  · exact .inr ⟨T, f, oT, k _ _ d.2.2.2.1.symm hz, k _ _ r4 hT, r1, r2, r3, r4⟩
section
variable {X : Cx} {pins : List (Addr × Obj)} {σ : L2.St}
theorem fp_ext {H H' : Hp} {b : Addr} (f : FpOk X pins H b) (h : H' b = none) : FpOk X pins H' b := ⟨h, f.2⟩
theorem SqL.ext' {K : PySem.W.Frag} {H H' : Hp} {a : Addr} {xs : List V} (e : Ext H H') (h : SqL K H a xs) : SqL K H' a xs := by
  rcases h with (h | ⟨o, h⟩) | h
  · exact .inl (.inl (e _ _ h))
  · exact .inl (.inr ⟨o, e _ _ h⟩)
  · exact .inr h
theorem zip_loop (hc : X.calm = true) {A : Around} (hA : A.handled = none) {z TI TO i1 i2 l1 l2 S : Addr} (D : ZipApart z TI TO i1 i2 l1 l2) (dS : S ≠ TI ∧ S ≠ i1 ∧ S ≠ i2 ∧ S ≠ z ∧ S ≠ TO) {xs ys : List V} {H0 : Hp} (q1 : SqL X.K H0 l1 xs) (q2 : SqL X.K H0 l2 ys)
    (hlen : xs.length ≤ sizeLine) (res : Value) {R : Result → Shared → Prop} :
    ∀ (k i : Nat) (s : Shared) (H : Hp) (acc : Array Value) (c : Nat), min xs.length ys.length - i = k → i ≤ min xs.length ys.length → Inv X pins σ H s → Ext H0 H → (∀ b ∈ [z, TO, i1, i2, S], FpOk X pins H b) → (∀ b ∈ [z, TO, i1, i2, S], b < s.heap.objs.size) →
      ZAt s.heap z TI TO i1 i2 l1 l2 S i → s.heap.get? S = some (LObj acc c) → Got H xs ys acc i →
      (∀ s' H' acc' c', Inv X pins σ H' s' → Ext H0 H' → (∀ b ∈ [z, TO, i1, i2, S], FpOk X pins H' b) → s'.heap.get? S = some (LObj acc' c') → Got H' xs ys acc' (min xs.length ys.length) → R (.ok (.ret res)) s') →
      codeAny (model X.prog X.w) A (.builtin "list.extend.loop" ⟨[.ref S, .ref z, res], []⟩) R s := by
  intro k
  induction k with
  | zero =>
    intro i s H acc c hk hi J ex fp lt Z hS G fin
    obtain rfl : i = min xs.length ys.length := by omega
    obtain ⟨hTI, h1, h2, hz⟩ := Z
    have q1' := SqL.ext' ex q1
    have q2' := SqL.ext' ex q2
    obtain ⟨us, ru, p1, _⟩ := J.list q1'
    obtain ⟨vs, rv, p2, _⟩ := J.list q2'
    have e1 := ru.length
    have e2 := rv.length
    have hend : us.toArray[min xs.length ys.length]? = none ∨ vs.toArray[min xs.length ys.length]? = none := by
      by_cases h : xs.length ≤ ys.length
      · exact .inl (by simp; omega)
      · exact .inr (by simp; omega)
    refine codeAny_builtin F.entry_extend_loop ?_
    rw [Around.under_plainId F.plain_extend_loop _]
    show wpAny _ A.in1 (pyNext (.ref z) >>= _) _ _ s
    have done : ∀ h', (∀ b o, b ∉ [z, TO, i1, i2] → s.heap.get? b = some o → h'.get? b = some o) → R (.ok (.ret res)) { s with heap := h' } := fun h' kp =>
      fin _ H acc c (J.turnedL (t' := s.toks) (ch := [z, TO, i1, i2]) kp fun b hb => fp b (by simp at hb ⊢; rcases hb with r | r | r | r <;> simp [r])) ex fp (kp _ _ (by simp [dS.2.2.2.1, dS.2.2.2.2, dS.2.1, dS.2.2.1]) hS) G
    rcases hz with ⟨hz, a, b, hTO⟩ | ⟨T, f, oT, hz, hT, r1, r2, r3, r4⟩
    · exact wpAny_bind (wpAny_pyNext_zip_end (A := A.in1) hA D hz hTI hTO h1 h2 p1.isList p2.isList hend fun h' kp => wpAny_pure (done h' fun b o hb e => kp b o (fun x => hb (by simp [x])) (fun x => hb (by simp [x])) (fun x => hb (by simp [x])) (fun x => hb (by simp [x])) e))
    · exact wpAny_bind (wpAny_pyNext_zip_end_held (A := A.in1) hA D hz hT hTI h1 h2 p1.isList p2.isList hend fun h' kp => wpAny_pure (done h' fun b o hb e => kp b o (fun x => hb (by simp [x])) (fun x => hb (by simp [x])) (fun x => hb (by simp [x])) e))
  | succ k ih =>
    intro i s H acc c hk hi J ex fp lt Z hS G fin
    have hlt : i < min xs.length ys.length := by omega
    obtain ⟨hTI, h1, h2, hz⟩ := Z
    have q1' := SqL.ext' ex q1
    have q2' := SqL.ext' ex q2
    obtain ⟨us, ru, p1, _⟩ := J.list q1'
    obtain ⟨vs, rv, p2, _⟩ := J.list q2'
    have hx : xs[i]? = some xs[i] := List.getElem?_eq_getElem (by omega)
    have hy : ys[i]? = some ys[i] := List.getElem?_eq_getElem (by omega)
    obtain ⟨u, hu, rx⟩ := ru.get hx
    obtain ⟨v, hv, ry⟩ := rv.get hy
    have ex1 : us.toArray[i]? = some u := by simpa using hu
    have ey1 : vs.toArray[i]? = some v := by simpa using hv
    refine codeAny_builtin F.entry_extend_loop ?_
    rw [Around.under_plainId F.plain_extend_loop _]
    show wpAny _ A.in1 (pyNext (.ref z) >>= _) _ _ s
    have sne : ∀ {b o}, s.heap.get? b = some o → s.heap.objs.size ≠ b := fun e => Nat.ne_of_gt (Heap.lt_size e)
    have step : ∀ h' : Heap, h'.objs.size = s.heap.objs.size + 1 → (∀ b o, b ∉ [z, TO, i1, i2] → s.heap.get? b = some o → h'.get? b = some o) → IsPair h' s.heap.objs.size u v → ZAt h' z TI TO i1 i2 l1 l2 S (i + 1) →
        h'.get? S = some (LObj acc c) ∧ codeAny (model X.prog X.w) A (.builtin "list.extend.loop" ⟨[.ref S, .ref z, res], []⟩) R { s with heap := h'.update S (Obj.mapSeq (·.push (.ref s.heap.objs.size))) } := by
      intro h' hsz kp hT Z'
      have hn : H s.heap.objs.size = none := J.hok.fresh (Nat.le_refl _)
      have new : ObjOk X.prog X.w (upd H s.heap.objs.size (.tup [xs[i], ys[i]])) h' s.heap.objs.size (.tup [xs[i], ys[i]]) := ⟨by show 2 ≤ sizeLine; decide, [u, v], .cons rx (.cons ry .nil), ⟨_, hT, rfl, _, rfl⟩⟩
      have J' := J.turnedNew (t' := s.toks) (ch := [z, TO, i1, i2]) kp (fun b hb => fp b (by simp at hb ⊢; rcases hb with r | r | r | r <;> simp [r])) (Nat.le_refl _) new
      have fp' : ∀ b ∈ [z, TO, i1, i2, S], FpOk X pins (upd H s.heap.objs.size (.tup [xs[i], ys[i]])) b := fun b hb => fp_ext (fp b hb) (by
        rw [upd_ne (Nat.ne_of_lt (lt b hb))]
        exact (fp b hb).1)
      have hS' : h'.get? S = some (LObj acc c) := kp _ _ (by simp [dS.2.2.2.1, dS.2.2.2.2, dS.2.1, dS.2.2.1]) hS
      have oth : ∀ b o, b ≠ S → h'.get? b = some o → (h'.update S (Obj.mapSeq (·.push (.ref s.heap.objs.size)))).get? b = some o := fun b o hb e => (Heap.get?_update_other _ _ (Ne.symm hb)).trans e
      refine ⟨hS', ih (i + 1) _ _ (acc.push (.ref s.heap.objs.size)) _ (by omega) (by omega) (J'.turnedL (s := { s with heap := h' }) (t' := s.toks) (ch := [S]) (fun b o hb e => oth b o (by simpa using hb) e) fun b hb => fp' b (by simp at hb ⊢; simp [hb])) (fun b o e => by rw [upd_ne (ne_of_none (ex b o e) hn)]; exact ex b o e) fp' (fun b hb => ?_) (Z'.but dS oth) (Heap.get?_update_self _ hS' rfl) ((G.ext (.new hn)).push upd_same hx hy) fin⟩
      show b < (h'.update S _).objs.size
      rw [Heap.size_update, hsz]
      exact Nat.lt_succ_of_lt (lt b hb)
    have eG : acc.size = i := G.1
    rcases hz with ⟨hz, a, b, hTO⟩ | ⟨T, f, oT, hz, hT, r1, r2, r3, r4⟩
    · refine wpAny_bind (wpAny_pyNext_zip_item (A := A.in1) D hz hTI hTO h1 h2 p1.isList p2.isList ex1 ey1 fun h' a1 a2 a3 a4 a5 a6 kp => ?_)
      obtain ⟨hS', run⟩ := step h' a6 (fun b o hb e => kp b o (fun x => hb (by simp [x])) (fun x => hb (by simp [x])) (fun x => hb (by simp [x])) (fun x => hb (by simp [x])) e) a5
        ⟨kp _ _ D.TIz D.TITO D.TIi1 D.TIi2 hTI, a3, a4, .inr ⟨s.heap.objs.size, false, _, a1, a5, sne hz, Nat.ne_of_gt (lt i1 (by simp)), Nat.ne_of_gt (lt i2 (by simp)), sne hS⟩⟩
      show wpAny _ A.in1 (updateSeq S (·.push _) >>= _) _ _ _
      exact wpAny_bind (wpAny_updateSeq hS' rfl (wpAny_pure ⟨plainId_quiet F.plain_extend_loop _, run⟩) (by omega) (by show (acc.push _).size ≤ _; rw [Array.size_push]; omega))
    · refine wpAny_bind (wpAny_pyNext_zip_item_held (A := A.in1) D hz hT hTI h1 h2 p1.isList p2.isList ex1 ey1 fun h' a1 a3 a4 a5 a6 kp => ?_)
      obtain ⟨hS', run⟩ := step h' a6 (fun b o hb e => kp b o (fun x => hb (by simp [x])) (fun x => hb (by simp [x])) (fun x => hb (by simp [x])) e) a5
        ⟨kp _ _ D.TIz D.TIi1 D.TIi2 hTI, a3, a4, .inr ⟨T, true, _, a1, kp _ _ r1 r2 r3 hT, r1, r2, r3, r4⟩⟩
      show wpAny _ A.in1 (updateSeq S (·.push _) >>= _) _ _ _
      exact wpAny_bind (wpAny_updateSeq hS' rfl (wpAny_pure ⟨plainId_quiet F.plain_extend_loop _, run⟩) (by omega) (by show (acc.push _).size ≤ _; rw [Array.size_push]; omega))
theorem zip_collect (hc : X.calm = true) {A : Around} (hA : A.handled = none) {z TI TO i1 i2 l1 l2 : Addr} (D : ZipApart z TI TO i1 i2 l1 l2) {xs ys : List V} {H : Hp} (q1 : SqL X.K H l1 xs) (q2 : SqL X.K H l2 ys) (hlen : xs.length ≤ sizeLine) {s : Shared} {Q : List Value → Shared → Prop} {E : Value → Shared → Prop}
    (J : Inv X pins σ H s) (fp : ∀ b ∈ [z, TO, i1, i2], FpOk X pins H b) (lt : ∀ b ∈ [z, TI, TO, i1, i2], b < s.heap.objs.size) (Z : ∀ S, ZAt s.heap z TI TO i1 i2 l1 l2 S 0 ∧ IsZip s.heap z TI TO .none)
    (fin : ∀ s' H' acc, Inv X pins σ H' s' → Ext H H' → Got H' xs ys acc (min xs.length ys.length) → Q acc.toList s') : wpAny (model X.prog X.w) A (collect (.ref z)) Q E s := by
  have hSz : s.heap.objs.size ≠ z := Nat.ne_of_gt (lt z (by simp))
  have dS : s.heap.objs.size ≠ TI ∧ s.heap.objs.size ≠ i1 ∧ s.heap.objs.size ≠ i2 ∧ s.heap.objs.size ≠ z ∧ s.heap.objs.size ≠ TO :=
    ⟨Nat.ne_of_gt (lt TI (by simp)), Nat.ne_of_gt (lt i1 (by simp)), Nat.ne_of_gt (lt i2 (by simp)), hSz, Nat.ne_of_gt (lt TO (by simp))⟩
  unfold collect
  refine wpAny_bind (wpAny_runValue (codeAny_builtin F.entry_proto_collect ?_))
  rw [Around.under_plainId F.plain_proto_collect _]
  show wpAny _ A.in1 (newList [] >>= fun nl => again (.builtin "list.__iadd__" ⟨[nl, .ref z], []⟩)) _ _ s
  refine wpAny_bind (wpAny_newObj_type ?_)
  refine wpAny_pure ⟨plainId_quiet F.plain_list_iadd _, codeAny_builtin F.entry_list_iadd ?_⟩
  rw [Around.under_plainId F.plain_list_iadd _]
  show wpAny _ A.in1 (Builtin.List.listExtendWith (.ref s.heap.objs.size) (.ref z) (.ref s.heap.objs.size)) _ _ _
  have k1 : ∀ b o, s.heap.get? b = some o → (s.heap.push (LObj ([] : List Value).toArray 0)).get? b = some o := fun b o e => Heap.get?_push_of_some _ e
  have hz1 : IsZip (s.heap.push (LObj ([] : List Value).toArray 0)) z TI TO .none := k1 _ _ (Z 0).2
  have hT : ({ s with heap := s.heap.push (LObj ([] : List Value).toArray 0) } : Shared).TypeIs (.ref z) "zip" := ⟨_, hz1, rfl⟩
  unfold Builtin.List.listExtendWith
  refine wpAny_bind (wpAny_typeOf hT ?_)
  have h1 : Builtin.List.listSameRef (.ref s.heap.objs.size) (.ref z) = false := by simp [Builtin.List.listSameRef, hSz]
  have h2 : (Value.type "zip" == Value.type "list") = false := by decide
  have h3 : (Value.type "zip" == Value.type "tuple") = false := by decide
  simp only [h1, h2, h3, Bool.or_false, Bool.false_eq_true, if_false]
  refine wpAny_bind (wpAny_pyIter_zip (s := { s with heap := s.heap.push (LObj ([] : List Value).toArray 0) }) hz1 ?_)
  refine wpAny_bind (wpAny_holding ?_)
  unfold Builtin.List.listLengthHint
  refine wpAny_bind (wpAny_specialOf hT zip_no_len ?_)
  show wpAny _ A.in1 (specialOf (Value.ref z) (Str.ofString "__length_hint__") >>= _) _ _ _
  refine wpAny_bind (wpAny_specialOf hT zip_no_hint ?_)
  refine wpAny_pure ?_
  show wpAny _ A.in1 (rule "list.extend.makes-room" >>= fun _ => Builtin.List.listTouch (.ref s.heap.objs.size) >>= fun _ => again (.builtin "list.extend.loop" ⟨[.ref s.heap.objs.size, .ref z, .ref s.heap.objs.size], []⟩)) _ _ _
  refine wpAny_bind (wpAny_rule (wpAny_bind ?_))
  have hS1 : (s.heap.push (LObj ([] : List Value).toArray 0)).get? s.heap.objs.size = some (LObj ([] : List Value).toArray 0) := Heap.get?_push_size _ rfl
  show wpAny _ A.in1 (updateSeq s.heap.objs.size (·.push .none) >>= fun _ => updateSeq s.heap.objs.size (·.pop)) _ _ _
  refine wpAny_bind (wpAny_updateSeq hS1 rfl ?_)
  have hS2 := Heap.get?_update_self (Obj.mapSeq (·.push Value.none)) hS1 rfl
  refine wpAny_updateSeq hS2 rfl ?_
  have hS3 := Heap.get?_update_self (Obj.mapSeq (·.pop)) hS2 rfl
  have k2 : ∀ b o, b ≠ s.heap.objs.size → s.heap.get? b = some o → (((s.heap.push (LObj ([] : List Value).toArray 0)).update s.heap.objs.size (Obj.mapSeq (·.push Value.none))).update s.heap.objs.size (Obj.mapSeq (·.pop))).get? b = some o :=
    fun b o hb e => ((Heap.get?_update_other _ _ (Ne.symm hb)).trans (Heap.get?_update_other _ _ (Ne.symm hb))).trans (k1 b o e)
  have k3 : ∀ b o, s.heap.get? b = some o → (((s.heap.push (LObj ([] : List Value).toArray 0)).update s.heap.objs.size (Obj.mapSeq (·.push Value.none))).update s.heap.objs.size (Obj.mapSeq (·.pop))).get? b = some o := fun b o e => k2 b o (Nat.ne_of_lt (Heap.lt_size e)) e
  have J1 : Inv X pins σ H { s with heap := (((s.heap.push (LObj ([] : List Value).toArray 0)).update s.heap.objs.size (Obj.mapSeq (·.push Value.none))).update s.heap.objs.size (Obj.mapSeq (·.pop))) } := J.kept (t' := s.toks) k3
  refine wpAny_pure ⟨plainId_quiet F.plain_extend_loop _, zip_loop hc hA D dS q1 q2 hlen _ _ 0 _ H _ _ rfl (Nat.zero_le _) J1 (.refl H) (fun b hb => ?_) (fun b hb => ?_) ?_ hS3 ⟨rfl, fun j v e => by simp at e⟩ fun s' H' acc' c' J' ex _ hS' G => ?_⟩
  · by_cases e : b = s.heap.objs.size
    · subst e; exact J.fpOk (Nat.le_refl _) (J.hok.fresh (Nat.le_refl _))
    · exact fp b (by simp at hb ⊢; rcases hb with r | r | r | r | r <;> simp_all)
  · show b < (Heap.update _ _ _).objs.size
    rw [Heap.size_update, Heap.size_update, Heap.size_push]
    simp at hb
    rcases hb with r | r | r | r | r
    · exact Nat.lt_succ_of_lt (lt b (by simp [r]))
    · exact Nat.lt_succ_of_lt (lt b (by simp [r]))
    · exact Nat.lt_succ_of_lt (lt b (by simp [r]))
    · exact Nat.lt_succ_of_lt (lt b (by simp [r]))
    · rw [r]; exact Nat.lt_succ_self _
  · obtain ⟨a1, a2, a3, a4⟩ := (Z s.heap.objs.size).1
    refine ⟨k3 _ _ a1, a2.at fun o e => k3 _ o e, a3.at fun o e => k3 _ o e, ?_⟩
    rcases a4 with ⟨z1, a, b, z2⟩ | ⟨T, f, oT, z1, z2, z3⟩
    · exact .inl ⟨k3 _ _ z1, a, b, k3 _ _ z2⟩
    · exact .inr ⟨T, f, oT, k3 _ _ z1, k3 _ _ z2, z3⟩
  · show wpAny _ A (load s.heap.objs.size >>= _) _ _ s'
    exact wpAny_bind (wpAny_load hS' (wpAny_pure (fin s' H' acc' J' ex G)))
end
end DL

namespace DL
open PySem PySem.Spec PyProof.Rows L2
section
variable {X : Cx} {pins : List (Addr × Obj)} {σ : L2.St}
theorem zip_tuple (hc : X.calm = true) {A : Around} (hA : A.handled = none) {z TI TO i1 i2 l1 l2 : Addr} (D : ZipApart z TI TO i1 i2 l1 l2) {xs ys : List V} {H : Hp} (q1 : SqL X.K H l1 xs) (q2 : SqL X.K H l2 ys) (hlen : xs.length ≤ sizeLine) {s : Shared} {Q : Value → Shared → Prop} {E : Value → Shared → Prop}
    (J : Inv X pins σ H s) (fp : ∀ b ∈ [z, TO, i1, i2], FpOk X pins H b) (lt : ∀ b ∈ [z, TI, TO, i1, i2], b < s.heap.objs.size) (Z : ∀ S, ZAt s.heap z TI TO i1 i2 l1 l2 S 0 ∧ IsZip s.heap z TI TO .none)
    (fin : ∀ s' H' acc, Inv X pins σ H' s' → Ext H H' → Got H' xs ys acc (min xs.length ys.length) → Q (.ref s'.heap.objs.size) { s' with heap := s'.heap.push { cls := .type "tuple", data := .seq acc } }) :
    wpAny (model X.prog X.w) A (call (.type "tuple") [.ref z]) Q E s := by
  refine callType_codes (Q₁ := fun obj s₁ => s₁.TypeIs obj "tuple" ∧ Q obj s₁) F.called_tuple (F.typeCall_tuple_1 _) F.entry_object_init ?_ fun obj s₁ g => ?_
  · refine codeAny_of_tree ?_
    show wpAny _ _ (do checkBuiltinCall "tuple.__new__" ⟨[.type "tuple", .ref z], []⟩; again (.builtin "tuple.__new__" ⟨[.type "tuple", .ref z], []⟩)) _ _ s
    refine wpAny_bind (wpAny_of_eq (F.newCall_tuple_1 _) (wpAny_pure ⟨plainId_quiet F.plain_tuple_new _, codeAny_builtin F.entry_tuple_new ?_⟩))
    rw [Around.under_plainId F.plain_tuple_new _]
    have e1 := sub_tuple_self
    have e2 := init_tuple_lookup
    have e3 := madeHere_tuple
    have hT : s.TypeIs (.ref z) "zip" := ⟨_, (Z 0).2, rfl⟩
    wp_walk using wpAny_typeOf hT, zip_collect (A := A.in1.in1) hc hA D q1 q2 hlen J fp lt Z
    intro s' H' acc J' ex G
    show wpAny _ _ (Builtin.Tuple.tupleExact acc.toList.toArray >>= fun v => ret v) _ _ _
    unfold Builtin.Tuple.tupleExact
    refine wpAny_bind (wpAny_newObj_type ?_ (by show acc.toList.toArray.size ≤ sizeLine; simp only [Array.toArray_toList]; rw [G.1]; omega))
    refine wpAny_pure ?_
    have e : acc.toList.toArray = acc := by simp
    rw [e]
    exact ⟨⟨_, Heap.get?_push_size _ rfl, rfl⟩, fin s' H' acc J' ex G⟩
  · exact ⟨g.1, F.args_object_init_2 obj _, object_init_meets F.called_tuple.init.lookup F.called_tuple.made (by decide) _ _ A.in1 _ s₁ ⟨g.1, rfl, g.2⟩⟩
end
theorem RpIs.of_get {K : PySem.W.Frag} {H : Hp} : ∀ {ds : List D} {vs : List V}, ds.length = vs.length → (∀ (j : Nat) (d : D) (v : V), ds[j]? = some d → vs[j]? = some v → RpI K H d v) → RpIs K H ds vs
  | [], [], _, _ => by simp [RpIs]
  | [], _ :: _, h, _ => by simp at h
  | _ :: _, [], h, _ => by simp at h
  | d :: ds, v :: vs, h, g => by
    simp only [RpIs]
    exact ⟨v, vs, rfl, g 0 d v rfl rfl, RpIs.of_get (by simpa using h) fun j d' v' h1 h2 => g (j + 1) d' v' (by simpa using h1) (by simpa using h2)⟩
def refV : Value → V
  | .ref T => .ref T
  | _ => .non
theorem vals_refs : ∀ l : List Value, (∀ v ∈ l, ∃ T, v = .ref T) → Vals (l.map refV) l
  | [], _ => .nil
  | v :: l, h => by
    obtain ⟨T, rfl⟩ := h v (by simp)
    exact .cons rfl (vals_refs l fun u hu => h u (by simp [hu]))
def PairsAt (H : Hp) (xs ys ts : List V) : Prop := ts.length = min xs.length ys.length ∧ ∀ (j : Nat) (v : V), ts[j]? = some v → ∃ (T : Addr) (x y : V), v = .ref T ∧ H T = some (.tup [x, y]) ∧ xs[j]? = some x ∧ ys[j]? = some y
def rTZ (K : PySem.W.Frag) : List V → Hp → VK → Prop := fun vs H Q => ∃ l1 l2 xs ys, vs = [.ref l1, .ref l2] ∧ SqL K H l1 xs ∧ SqL K H l2 ys ∧ xs.length ≤ sizeLine ∧
  ∀ H' T ts, Ext H H' → H' T = some (.tup ts) → PairsAt H' xs ys ts → Q (.ref T) H'
section
variable {X : Cx} {np : Nat} {He : Hp} {a b : Expr} {wa wb : W} {pos : Pos}
theorem pe_tzip {ta : TA} {p p2 pos2 : Pos} (hc : X.calm = true) (hm : X.mg "tuple" = none) (hm2 : X.mg "zip" = none) (ha : PA X [a, b] ta) (hg : Gl X "tuple" := by rfl) (hg2 : Gl X "zip" := by rfl)
    (hs : starEach [a, b] X.env = (false, eval a X.env) :: starEach [b] X.env := by rfl) (hpl : (backTo pos2 (starEach [b] X.env)).any (·.1) = false := by rfl)
    (hs2 : starEach [.Call (.Name "zip" p2) [a, b] [] pos2] X.env = (false, eval (.Call (.Name "zip" p2) [a, b] [] pos2) X.env) :: starEach [] X.env := by rfl) :
    PE X (.Call (.Name "tuple" p) [.Call (.Name "zip" p2) [a, b] [] pos2] [] pos) (tCB (rTZ X.K) ta) := by
  refine ⟨fun pins s σ H Q J0 h0 => ?_⟩
  refine Call_ (ld_blt J0 hg hm boot_tuple (PyProof.Rows.callWith_type1 (args_cons (Call_ (ld_blt J0 hg2 hm2 PyProof.Rows.boot_zip (PyProof.Rows.callWith_type1 (thn (ha.run pos2 pins s σ H _ J0 h0) fun us s1 ⟨vs, H1, J, r1, q⟩ => ?_) hs hpl))) hs2) hs2 rfl))
  obtain ⟨l1, l2, xs, ys, rfl, q1, q2, hlen, fin⟩ := q
  cases r1 with
  | cons ra rr =>
    cases rr with
    | cons rb rr =>
      cases rr
      cases ra
      cases rb
      obtain ⟨its, rv, p1, _⟩ := J.list q1
      obtain ⟨its2, rv2, p2', _⟩ := J.list q2
      refine call_zip_2 p1.isList p2'.isList fun h' hz hTI hTO h1 h2 hsz hk => args_nil ?_
      have J1 : Inv X pins σ H1 { s1 with heap := h' } := J.kept (t' := s1.toks) hk
      refine zip_tuple (s := { s1 with heap := h' }) hc (J.ok.hd hc) (PySem.W.ktu_apart s1.heap.objs.size l1 l2 p1.lt p2'.lt) q1 q2 hlen J1 (fun c hcm => ?_) (fun c hcm => ?_) (fun S => ⟨⟨hTI, h1, h2, .inl ⟨hz, _, _, hTO⟩⟩, hz⟩) fun s' H' acc J2 ex G => ?_
      · have hle : s1.heap.objs.size ≤ c := by
          simp at hcm
          rcases hcm with z | z | z | z
          · rw [z]; exact Nat.le_add_right _ _
          · rw [z]; exact Nat.le_add_right _ _
          · rw [z]; exact Nat.le_refl _
          · rw [z]; exact Nat.le_add_right _ _
        exact J.fpOk hle (J.hok.fresh hle)
      · show c < h'.objs.size
        rw [hsz]
        simp at hcm
        rcases hcm with z | z | z | z | z
        · rw [z]; exact Nat.add_lt_add_left (by decide) _
        · rw [z]; exact Nat.add_lt_add_left (by decide) _
        · rw [z]; exact Nat.add_lt_add_left (by decide) _
        · rw [z]; exact Nat.lt_add_of_pos_right (by decide)
        · rw [z]; exact Nat.add_lt_add_left (by decide) _
      · have hr : ∀ v ∈ acc.toList, ∃ T, v = Value.ref T := fun v hv => by
          obtain ⟨j, hj⟩ := List.mem_iff_getElem?.mp hv
          obtain ⟨T, _, _, e, _⟩ := G.2 j v (by simpa using hj)
          exact ⟨T, e⟩
        have hl : (acc.toList.map refV).length = min xs.length ys.length := by rw [List.length_map, Array.length_toList, G.1]
        have hn : H' s'.heap.objs.size = none := J2.hok.fresh (Nat.le_refl _)
        have J3 := J2.laid (t' := s'.toks) (a := s'.heap.objs.size) (o := .tup (acc.toList.map refV)) (h' := s'.heap.push { cls := .type "tuple", data := .seq acc }) (fun c o e => Heap.get?_push_of_some _ e) (Nat.le_refl _)
          ⟨by rw [hl]; omega, acc.toList, vals_refs _ hr, by have := IsTup.new s'.heap acc; simpa using this⟩
        refine ⟨.ref _, _, J3, rfl, fin _ _ _ (fun c o e => ?_) upd_same ⟨hl, fun j v e => ?_⟩⟩
        · rw [upd_ne (ne_of_none (ex c o e) hn)]; exact ex c o e
        · rw [List.getElem?_map] at e
          obtain ⟨u, hu, rfl⟩ := Option.map_eq_some_iff.mp e
          obtain ⟨T, x, y, rfl, e1, e2, e3⟩ := G.2 j u (by simpa using hu)
          exact ⟨T, x, y, rfl, by rw [upd_ne (ne_of_none e1 hn)]; exact e1, e2, e3⟩
def lstD : D → Option (List D)
  | .lst xs => some xs
  | .rol xs => some xs
  | _ => none
theorem RpV.lsts {K : PySem.W.Frag} {H : Hp} {d : D} {v : V} {ds : List D} (h : RpV K H d v) (e : lstD d = some ds) : ∃ a vs, v = .ref a ∧ SqL K H a vs ∧ RpIs K H ds vs := by
  cases d with
  | rol es =>
    simp only [lstD, Option.some.injEq] at e
    subst e
    obtain ⟨a, vs, e1, s, r⟩ := (show ∃ a vs, v = .ref a ∧ SqR K H a vs ∧ RpIs K H es vs by simpa only [RpV, RpI] using h)
    exact ⟨a, vs, e1, s.seq, r⟩
  | lst es =>
    simp only [lstD, Option.some.injEq] at e
    subst e
    obtain ⟨a, vs, e1, s, r⟩ := h
    exact ⟨a, vs, e1, .of s, r⟩
  | _ => simp [lstD] at e
def fTZ : FA := fun ds k => match ds with
  | [x, y] => (match lstD x, lstD y with
    | some xs, some ys => xs.length ≤ 1000000 ∧ k (.tup (zipD xs ys))
    | _, _ => False)
  | _ => False
theorem zipD_get' {xs ys : List D} {j : Nat} {d : D} (h : (zipD xs ys)[j]? = some d) : ∃ x y, xs[j]? = some x ∧ ys[j]? = some y ∧ d = .tup [x, y] := by
  have hj : j < (zipD xs ys).length := (List.getElem?_eq_some_iff.mp h).1
  rw [zipD_len] at hj
  have hx : xs[j]? = some xs[j] := List.getElem?_eq_getElem (by omega)
  have hy : ys[j]? = some ys[j] := List.getElem?_eq_getElem (by omega)
  rw [zipD_get xs ys j _ _ hx hy] at h
  exact ⟨_, _, hx, hy, (Option.some.inj h).symm⟩
theorem cad_tz : CaD X.K (rTZ X.K) fTZ := by
  intro H ds vs k Q r h q
  unfold fTZ at h
  split at h
  · split at h
    · rename_i x y xs ys e1 e2
      obtain ⟨v, w, rfl, r1, r2⟩ := RpVs.two r
      obtain ⟨a1, us, rfl, s1, u1⟩ := r1.lsts e1
      obtain ⟨a2, ws, rfl, s2, u2⟩ := r2.lsts e2
      have l1 := u1.length
      have l2 := u2.length
      refine ⟨a1, a2, us, ws, rfl, s1, s2, by rw [← l1]; exact line_of h.1, fun H' T ts ex hT P => ?_⟩
      refine q _ _ H' h.2 ex ?_ (fun n => by simp [isL] at n)
      show RpI _ _ _ _
      simp only [RpI]
      refine ⟨T, ts, rfl, hT, RpIs.of_get (by rw [zipD_len, P.1, l1, l2]) fun j d v h1 h2 => ?_⟩
      obtain ⟨x', y', hx, hy, rfl⟩ := zipD_get' h1
      obtain ⟨T', a, b, rfl, g1, g2, g3⟩ := P.2 j v h2
      obtain ⟨a', ga, ra⟩ := u1.get hx
      obtain ⟨b', gb, rb⟩ := u2.get hy
      rw [g2] at ga; cases ga
      rw [g3] at gb; cases gb
      simp only [RpI]
      exact ⟨T', [a, b], rfl, g1, by simp only [RpIs]; exact ⟨a, [b], rfl, RpI.kp ex.kp _ _ ra, b, [], rfl, RpI.kp ex.kp _ _ rb, rfl⟩⟩
    · exact h.elim
  · exact h.elim
theorem e_tzip {p p2 pos2 : Pos} (hc : X.calm = true) (hm : X.mg "tuple" = none) (hm2 : X.mg "zip" = none) (ha : DE X np He a wa) (hb : DE X np He b wb) (hg : Gl X "tuple" := by rfl) (hg2 : Gl X "zip" := by rfl)
    (hs : starEach [a, b] X.env = (false, eval a X.env) :: starEach [b] X.env := by rfl) (hs' : starEach [b] X.env = (false, eval b X.env) :: starEach [] X.env := by rfl) (hpl : (backTo pos2 (starEach [b] X.env)).any (·.1) = false := by rfl)
    (hs2 : starEach [.Call (.Name "zip" p2) [a, b] [] pos2] X.env = (false, eval (.Call (.Name "zip" p2) [a, b] [] pos2) X.env) :: starEach [] X.env := by rfl) :
    DE X np He (.Call (.Name "tuple" p) [.Call (.Name "zip" p2) [a, b] [] pos2] [] pos) (cBi fTZ (cCons wa (cCons wb cNil))) :=
  PE.weak (pe_tzip hc hm hm2 (a_cons ha (a_cons hb a_nil hs') hs) hg hg2 hs hpl hs2) (bi_core cad_tz)
end
end DL

namespace DL
open PySem PySem.Spec PyProof.Rows L2
/-! ### zip of lists and tuples in any mix -/
def SqG (k : Bool) (K : PySem.W.Frag) (H : Hp) (a : Addr) (xs : List V) : Prop := match k with
  | true => SqT K H a xs
  | false => SqL K H a xs
def ItA (k : Bool) (h : Heap) (it a : Addr) (i : Nat) : Prop := match k with
  | true => h.IsTupleIter it a i
  | false => h.IsListIter it a i
def ArA (k : Bool) (h : Heap) (a : Addr) (its : Array Value) : Prop := match k with
  | true => h.IsTuple a its
  | false => h.IsList a its
theorem draws_any {prog : Program} {w : World} {A : Around} (hh : A.handled = none) (k : Bool) (it a : Addr) (hne : a ≠ it) (its : Array Value) :
    Draws prog w A it [it, a] its.size (fun i v => its[i]? = some v) (fun i h => ItA k h it a i ∧ ArA k h a its) := by
  cases k
  · exact Draws.list hh it a hne its
  · exact Draws.tuple hh it a hne its
section
variable {X : Cx} {pins : List (Addr × Obj)} {σ : L2.St} {H : Hp} {s : Shared}
theorem inv_any (J : Inv X pins σ H s) {k : Bool} {a : Addr} {xs : List V} (h : SqG k X.K H a xs) : ∃ its : List Value, Vals xs its ∧ ArA k s.heap a its.toArray ∧ a < s.heap.objs.size := by
  cases k
  · obtain ⟨its, r, p, _⟩ := J.list h
    exact ⟨its, r, p.isList, p.lt⟩
  · obtain ⟨its, r, p, _⟩ := J.tuple h
    obtain ⟨o, ho, _⟩ := id p
    exact ⟨its, r, p, Heap.lt_size ho⟩
theorem sq_inj (J : Inv X pins σ H s) {k : Bool} {a : Addr} {xs ys : List V} (h : SqG k X.K H a xs) (g : SqG k X.K H a ys) : xs = ys := by
  cases k
  · exact J.list_inj h g
  · exact J.tuple_inj h g
theorem ita_at {k : Bool} {h h' : Heap} {it a : Addr} {i : Nat} (x : ItA k h it a i) (e : ∀ o, h.get? it = some o → h'.get? it = some o) : ItA k h' it a i := by
  cases k
  · exact Heap.IsListIter.at x e
  · exact Heap.IsTupleIter.at x e
theorem ita_obj {k : Bool} {h : Heap} {it a : Addr} {i : Nat} (x : ItA k h it a i) : ∃ o, h.get? it = some o ∧ ∀ v, o.data ≠ .cell v := by
  cases k
  · obtain ⟨o, e, _, d⟩ := x; exact ⟨o, e, fun v q => by rw [d] at q; cases q⟩
  · obtain ⟨o, e, _, d⟩ := x; exact ⟨o, e, fun v q => by rw [d] at q; cases q⟩
end
def ItzG (ka kb : Bool) (K : PySem.W.Frag) (a b : Addr) : It where
  go := fun i H => ∃ (xs ys : List V) (x y : V), SqG ka K H a xs ∧ SqG kb K H b ys ∧ xs[i]? = some x ∧ ys[i]? = some y
  yld := fun i H v H' => ∃ T x y, v = .ref T ∧ H T = none ∧ H' = upd H T (.tup [x, y]) ∧ (∀ xs, SqG ka K H a xs → xs[i]? = some x) ∧ ∀ ys, SqG kb K H b ys → ys[i]? = some y
  stop := fun i H => ∃ xs ys : List V, SqG ka K H a xs ∧ SqG kb K H b ys ∧ ((i = xs.length ∧ i ≤ ys.length) ∨ (i = ys.length ∧ i ≤ xs.length))
theorem sep_of {z TI TO i1 i2 a b : Addr} (D : ZipApart z TI TO i1 i2 a b) : ZipSep2 z TI TO i1 i2 [i1, a] [i2, b] where
  TIz := D.TIz
  TOz := D.TOz
  TITO := D.TITO
  TIi1 := D.TIi1
  mem1 := by simp
  zf1 := by simp [D.i1z.symm, D.l1z.symm]
  Tf1 := by simp [D.TOi1, D.l1TO.symm]
  TIi2 := D.TIi2
  mem2 := by simp
  zf2 := by simp [D.i2z.symm, D.l2z.symm]
  Tf2 := by simp [D.TOi2, D.l2TO.symm]
  sep1_2 := by simp [D.i12, D.l2i1.symm]
  sep2_1 := by simp [D.i12.symm, D.l1i2.symm]
theorem turn_any {P : Program} {w : World} {K : PySem.W.Frag} {elts : List Expr} {kk : Nat} {tpos : Pos} {ka kb : Bool} {a b z TI TO i1 i2 : Addr} (D : ZipApart z TI TO i1 i2 a b) :
    Turn P w K (.Tuple elts kk tpos) (ItzG ka kb K a b) [z, TI, TO, i1, i2] z (fun i h => IsZip h z TI TO .none ∧ IsPair h TI (.ref i1) (.ref i2) ∧ (∃ x y, IsPair h TO x y) ∧ ItA ka h i1 a i ∧ ItA kb h i2 b i) where
  mem := List.mem_cons_self
  obj := fun i h ⟨hz, hTI, ⟨x, y, hTO⟩, h1, h2⟩ c hc => by
    simp only [List.mem_cons, List.not_mem_nil, or_false] at hc
    rcases hc with q | q | q | q | q <;> subst q
    · exact ⟨_, hz, fun v q => nomatch q⟩
    · exact ⟨_, hTI, fun v q => nomatch q⟩
    · exact ⟨_, hTO, fun v q => nomatch q⟩
    · exact ita_obj h1
    · exact ita_obj h2
  keep := fun i h h' ⟨hz, hTI, ⟨x, y, hTO⟩, h1, h2⟩ k => ⟨k z (by simp) _ hz, k TI (by simp) _ hTI, ⟨x, y, k TO (by simp) _ hTO⟩, ita_at h1 fun o q => k i1 (by simp) o q, ita_at h2 fun o q => k i2 (by simp) o q⟩
  item := by
    rintro X rfl rfl rfl hc i pins s σ H E J hf ⟨hz, hTI, ⟨x0, y0, hTO⟩, h1, h2⟩ ⟨xs, ys, x, y, q1, q2, hx, hy⟩
    obtain ⟨us, ru, p1, _⟩ := inv_any J q1
    obtain ⟨vs, rv, p2, _⟩ := inv_any J q2
    obtain ⟨u, hu, rx⟩ := ru.get hx
    obtain ⟨v, hv, ry⟩ := rv.get hy
    have S := sep_of D
    have lu : i < us.toArray.size := by rw [List.size_toArray]; exact (List.getElem?_eq_some_iff.mp hu).1
    have lv : i < vs.toArray.size := by rw [List.size_toArray]; exact (List.getElem?_eq_some_iff.mp hv).1
    have hzl : z < s.heap.objs.size := Heap.lt_size hz
    refine wpAny_pyNext_zipD2_item S (draws_any (A := X.A.in1) (J.ok.hd hc) ka i1 a D.l1i1 us.toArray) (draws_any (A := X.A.in1) (J.ok.hd hc) kb i2 b D.l2i2 vs.toArray) hz hTI hTO ⟨h1, p1⟩ ⟨h2, p2⟩ lu lv fun u' v' h' tk e1 e2 z' TO' st1 st2 hT hsz hk => ?_
    obtain rfl : u' = u := by rw [List.getElem?_toArray, hu] at e1; exact (Option.some.inj e1).symm
    obtain rfl : v' = v := by rw [List.getElem?_toArray, hv] at e2; exact (Option.some.inj e2).symm
    refine ⟨_, rfl, wpAny_letOwnedTupleGo_zip (s := { s with heap := h', toks := tk }) z' fun h'' z'' sb => ?_⟩
    have hT2 : h''.get? s.heap.objs.size = some { cls := .type "tuple", data := .seq #[u', v'] } := (sb.2 _ (Nat.ne_of_gt hzl)).trans hT
    have new : ObjOk X.prog X.w (upd H s.heap.objs.size (.tup [x, y])) h'' s.heap.objs.size (.tup [x, y]) := ⟨by show 2 ≤ sizeLine; decide, [u', v'], .cons rx (.cons ry .nil), ⟨_, hT2, rfl, _, rfl⟩⟩
    have kp : ∀ c o, c ∉ [z, TI, TO, i1, i2] → s.heap.get? c = some o → h''.get? c = some o := fun c o hb q => by
      simp only [List.mem_cons, List.not_mem_nil, or_false, not_or] at hb
      exact (sb.2 c hb.1).trans (hk c o hb.1 hb.2.2.1 hb.2.2.2.1 hb.2.2.2.2 q)
    have J1 : Inv X pins σ (upd H s.heap.objs.size (.tup [x, y])) { s with heap := h'', toks := tk } := J.turnedNew (t' := tk) (ch := [z, TI, TO, i1, i2]) kp hf (Nat.le_refl _) new
    refine ⟨.ref s.heap.objs.size, _, J1, rfl, ⟨_, x, y, rfl, J.hok.fresh (Nat.le_refl _), rfl, fun l hl => by rw [sq_inj J hl q1]; exact hx, fun l hl => by rw [sq_inj J hl q2]; exact hy⟩,
      ⟨z'', (sb.2 _ D.TIz).trans (hk _ _ D.TIz D.TITO D.TIi1 D.TIi2 hTI), ⟨u', v', (sb.2 _ D.TOz).trans TO'⟩, ita_at st1.1 fun o q => (sb.2 _ D.i1z).trans q, ita_at st2.1 fun o q => (sb.2 _ D.i2z).trans q⟩, fun c hc2 => ?_⟩
    have hlt : c < s.heap.objs.size := by
      simp only [List.mem_cons, List.not_mem_nil, or_false] at hc2
      rcases hc2 with q | q | q | q | q <;> subst q
      · exact hzl
      · exact Heap.lt_size hTI
      · exact Heap.lt_size hTO
      · obtain ⟨_, e, _⟩ := ita_obj h1; exact Heap.lt_size e
      · obtain ⟨_, e, _⟩ := ita_obj h2; exact Heap.lt_size e
    rw [upd_ne (Nat.ne_of_lt hlt)]
    exact (hf c hc2).1
  done := by
    rintro X rfl rfl rfl hc i pins s σ H E J hf ⟨hz, hTI, ⟨x0, y0, hTO⟩, h1, h2⟩ ⟨xs, ys, q1, q2, hend⟩
    obtain ⟨us, ru, p1, _⟩ := inv_any J q1
    obtain ⟨vs, rv, p2, _⟩ := inv_any J q2
    have e1 := ru.length
    have e2 := rv.length
    refine wpAny_pyNext_zipD2_end (sep_of D) (draws_any (A := X.A.in1) (J.ok.hd hc) ka i1 a D.l1i1 us.toArray) (draws_any (A := X.A.in1) (J.ok.hd hc) kb i2 b D.l2i2 vs.toArray) hz hTI hTO ⟨h1, p1⟩ ⟨h2, p2⟩ (by simp only [List.size_toArray]; omega) (by simp only [List.size_toArray]; omega) (by simp only [List.size_toArray]; omega) fun h' tk hk => ⟨rfl, ?_⟩
    exact J.turnedL (t' := tk) (ch := [z, TI, TO, i1, i2]) (fun c o hb q => by
      simp only [List.mem_cons, List.not_mem_nil, or_false, not_or] at hb
      exact hk c o hb.1 hb.2.2.1 hb.2.2.2.1 hb.2.2.2.2 q) hf
  self := fun A i s Q E st h => wpAny_pyIter_zip st.1 h
theorem begins_any (k : Bool) (a : Addr) (its : Array Value) : ∃ o, Begins (.ref a) o (fun h => ArA k h a its) ∧ ∀ (h : Heap) (it : Addr), h.get? it = some o → ItA k h it a 0 := by
  cases k
  · exact ⟨_, begins_list a its, fun h it e => ⟨_, e, rfl, rfl⟩⟩
  · exact ⟨_, begins_tuple a its, fun h it e => ⟨_, e, rfl, rfl⟩⟩
def iZipG (K : PySem.W.Frag) (ta : TA) : L2.TI := fun σ H R => ta σ H fun vs H1 => ∃ a b xs ys ka kb, vs = [.ref a, .ref b] ∧ SqG ka K H1 a xs ∧ SqG kb K H1 b ys ∧ R (ItzG ka kb K a b) H1
theorem pi_zipG {X : Cx} {e e2 : Expr} {ta : TA} {p pos tpos : Pos} {elts : List Expr} {kk : Nat} (hg : Gl X "zip") (hm : X.mg "zip" = none) (ha : PA X [e, e2] ta)
    (hs : starEach [e, e2] X.env = (false, eval e X.env) :: starEach [e2] X.env := by rfl) (hpl : (backTo pos (starEach [e2] X.env)).any (·.1) = false := by rfl) :
    PI X (.Tuple elts kk tpos) (.Call (.Name "zip" p) [e, e2] [] pos) (iZipG X.K ta) := by
  refine ⟨fun pins s σ H R J h => ?_⟩
  refine Call_ (ld_blt J hg hm PyProof.Rows.boot_zip (PyProof.Rows.callWith_type1 (thn (ha.run pos pins s σ H _ J h) fun us s1 ⟨vs, H1, J1, r1, q⟩ => ?_) hs hpl))
  obtain ⟨a, b, xs, ys, ka, kb, rfl, q1, q2, fin⟩ := q
  cases r1 with
  | cons ra rr =>
    cases rr with
    | cons rb rr =>
      cases rr
      cases ra
      cases rb
      obtain ⟨us, ru, p1, l1⟩ := inv_any J1 q1
      obtain ⟨vs, rv, p2, l2⟩ := inv_any J1 q2
      obtain ⟨o1, B1, f1⟩ := begins_any ka a us.toArray
      obtain ⟨o2, B2, f2⟩ := begins_any kb b vs.toArray
      refine zip_begins2 B1 B2 p1 p2 fun h' hz hTI hTO g1 g2 hsz hk => wpAny_pyIter_zip hz ?_
      have J2 : Inv X pins σ H1 { s1 with heap := h' } := J1.kept (t' := s1.toks) hk
      refine ⟨s1.heap.objs.size + 4, [s1.heap.objs.size + 4, s1.heap.objs.size + 2, s1.heap.objs.size + 3, s1.heap.objs.size, s1.heap.objs.size + 1], _, _, H1, rfl, J2, turn_any (PySem.W.ktu_apart s1.heap.objs.size a b l1 l2), ⟨hz, hTI, ⟨_, _, hTO⟩, f1 _ _ g1, f2 _ _ g2⟩, fun c hcm => ?_, fin⟩
      have hle : s1.heap.objs.size ≤ c := by
        simp only [List.mem_cons, List.not_mem_nil, or_false] at hcm
        rcases hcm with z | z | z | z | z
        · rw [z]; exact Nat.le_add_right _ _
        · rw [z]; exact Nat.le_add_right _ _
        · rw [z]; exact Nat.le_add_right _ _
        · rw [z]; exact Nat.le_refl _
        · rw [z]; exact Nat.le_add_right _ _
      exact J1.fpOk hle (J1.hok.fresh hle)
theorem walk_any {ka kb : Bool} {K : PySem.W.Frag} {a b : Addr} {xs ys : List D} : Walk (ItzG ka kb K a b) (zipD xs ys).length (fun H => (∃ vs, SqG ka K H a vs ∧ RpIs K H xs vs) ∧ ∃ vs, SqG kb K H b vs ∧ RpIs K H ys vs)
    (fun i H v H' => Ext H H' ∧ ∃ d, (zipD xs ys)[i]? = some d ∧ RpI K H' d v) := by
  rw [zipD_len]
  refine ⟨fun i H hi ⟨⟨vs, s, r⟩, us, s2, r2⟩ => ?_, fun H ⟨⟨vs, s, r⟩, us, s2, r2⟩ => ⟨vs, us, s, s2, by rw [← r.length, ← r2.length]; omega⟩, fun i H v H' hi ⟨⟨vs, s, r⟩, us, s2, r2⟩ y => ?_⟩
  · obtain ⟨v, e, _⟩ := r.get (List.getElem?_eq_getElem (show i < xs.length by omega))
    obtain ⟨u, e2, _⟩ := r2.get (List.getElem?_eq_getElem (show i < ys.length by omega))
    exact ⟨vs, us, v, u, s, s2, e, e2⟩
  · obtain ⟨T, x, z, rfl, hT, rfl, h4, h5⟩ := y
    obtain ⟨d1, e1, r1⟩ := r.get' (h4 vs s)
    obtain ⟨d2, e2, r2'⟩ := r2.get' (h5 us s2)
    have ex : Ext H (upd H T (.tup [x, z])) := .new hT
    refine ⟨ex, _, zipD_get xs ys i d1 d2 e1 e2, ?_⟩
    simp only [RpI, RpIs]
    exact ⟨T, _, rfl, upd_same, x, _, rfl, RpI.kp ex.kp _ _ r1, z, _, rfl, RpI.kp ex.kp _ _ r2', rfl⟩
theorem src_any {K : PySem.W.Frag} {np : Nat} {He : Hp} {σ : L2.St} {H H1 : Hp} {env e1 : DEnv} {v : V} {r : RV} {k : List D → List (Nat × List D) → Prop} (R : Rep K np He σ H env) (s1 : SE K np He σ H env H1 e1) (h : RpR K σ H H1 e1 v r) (g : srcR e1 r k) :
    ∃ ds chk a kd, k ds chk ∧ v = .ref a ∧ (∀ p ∈ chk, e1[p.1]? = some (some (D.lst p.2))) ∧ ∀ H' : Hp, Stay K np He σ H H1 e1 chk H' → ∃ vs, SqG kd K H' a vs ∧ RpIs K H' ds vs := by
  obtain ⟨ds, chk, a, h1, h2, h3, h4⟩ := src_at R s1 h g
  rcases h4 with h4 | h4
  · exact ⟨ds, chk, a, false, h1, h2, h3, h4⟩
  · exact ⟨ds, chk, a, true, h1, h2, h3, h4⟩
section
variable {X : Cx} {np : Nat} {He : Hp} {a b : Expr} {wa wb : W} {pos : Pos}
def iZG (wa wb : W) : WI := fun env Q => wa env fun ra e1 => wb e1 fun rb e2 => srcR e2 ra fun xs c1 => srcR e2 rb fun ys c2 => Q ⟨zipD xs ys, c1 ++ c2⟩ e2
theorem i_zipG {elts : List Expr} {kk : Nat} {tpos p : Pos} (hm : X.mg "zip" = none) (ha : DE X np He a wa) (hb : DE X np He b wb) (hg : Gl X "zip" := by rfl) (hs : starEach [a, b] X.env = (false, eval a X.env) :: starEach [b] X.env := by rfl) (hs2 : starEach [b] X.env = (false, eval b X.env) :: starEach [] X.env := by rfl) (hpl : (backTo pos (starEach [b] X.env)).any (·.1) = false := by rfl) :
    DI X np He (.Tuple elts kk tpos) (.Call (.Name "zip" p) [a, b] [] pos) (iZG wa wb) := by
  refine PI.weak (pi_zipG hg hm (pa_cons ha (pa_cons hb pa_nil hs2) hs) hs hpl) fun σ H R ⟨env, Q0, Rp, w, q⟩ => ⟨env, _, Rp, w, fun ra e1 v1 H1 w1 s1 r1 => ⟨e1, _, s1.rep, w1, fun rb e2 v2 H2 w2 s2 r2 => ?_⟩⟩
  have s12 := s1.trans s2
  obtain ⟨xs, c1, a1, ka, w2, rfl, hc1, st1⟩ := src_any Rp s12 (r1.keep Rp s1 s2) w2
  obtain ⟨ys, c2, a2, kb, w2, rfl, hc2, st2⟩ := src_any Rp s12 (r2.start s1) w2
  obtain ⟨vs, sv, _⟩ := st1 H2 (Stay.here s12.rep hc1)
  obtain ⟨us, su, _⟩ := st2 H2 (Stay.here s12.rep hc2)
  refine ⟨a1, a2, vs, us, ka, kb, rfl, sv, su, q ⟨zipD xs ys, c1 ++ c2⟩ e2 H2 _ _ _ w2 s12 walk_any (fun p hp => ?_) (fun i H3 x H4 hi y _ => y) (fun H' st => ?_)⟩
  · rcases List.mem_append.mp hp with z | z
    · exact hc1 p z
    · exact hc2 p z
  · exact ⟨st1 H' (st.sub fun p z => List.mem_append_left _ z), st2 H' (st.sub fun p z => List.mem_append_right _ z)⟩
end
end DL

namespace DL
open PySem PySem.Spec PyProof.Rows L2
/-! ### == and != of data at any depth -/
mutual
def toP : D → PyData
  | .non => .none
  | .bl b => .bool b
  | .int i => .int i
  | .str x => .str x
  | .tup ds => .tuple (toPs ds)
  | .lst ds => .list (toPs ds)
  | .rol ds => .list (toPs ds)
  | .tpd ds => .tuple (toPs ds)
  | .rod _ _ => .dict []
  | .obj _ _ => .dict []
def toPs : List D → List PyData
  | [] => []
  | d :: ds => toP d :: toPs ds
end
theorem lay_cons {d : D} {ds : List D} (h : PyData.canLayAll0 (toPs (d :: ds)) = true) : (toP d).canLay0 = true ∧ PyData.canLayAll0 (toPs ds) = true := by
  simpa only [toPs, PyData.canLayAll0, Bool.and_eq_true] using h
mutual
theorem RpI.dp {K : PySem.W.Frag} {H : Hp} : ∀ (d : D) (v : V), (toP d).canLay0 = true → RpI K H d v → Dp K H v (toP d)
  | .non, v, _, h => by cases h; exact .non
  | .bl b, v, _, h => by cases h; exact .bl b
  | .int i, v, _, h => by cases h; exact .int i
  | .str x, v, _, h => by cases h; exact .str x
  | .tup ds, v, l, h => by
    simp only [RpI] at h
    obtain ⟨a, vs, rfl, s, r⟩ := h
    exact .tup (.of s) (RpIs.dp ds vs (by simpa only [toP, PyData.canLay0] using l) r)
  | .tpd ds, v, l, h => by
    simp only [RpI] at h
    obtain ⟨a, vs, rfl, s, r⟩ := h
    exact .tup s.t (RpIs.dp ds vs (by simpa only [toP, PyData.canLay0] using l) r)
  | .rol ds, v, l, h => by
    simp only [RpI] at h
    obtain ⟨a, vs, rfl, s, r⟩ := h
    exact .lst s.seq (RpIs.dp ds vs (by simpa only [toP, PyData.canLay0] using l) r)
  | .lst ds, v, _, h => by simp only [RpI] at h
  | .rod _ _, v, l, h => by simp [toP, PyData.canLay0] at l
  | .obj _ _, v, l, h => by simp [toP, PyData.canLay0] at l
theorem RpIs.dp {K : PySem.W.Frag} {H : Hp} : ∀ (ds : List D) (vs : List V), PyData.canLayAll0 (toPs ds) = true → RpIs K H ds vs → DpAll K H vs (toPs ds)
  | [], vs, _, h => by simp only [RpIs] at h; subst h; exact .nil
  | d :: ds, vs, l, h => by
    simp only [RpIs] at h
    obtain ⟨v, r, rfl, h1, h2⟩ := h
    exact .cons (RpI.dp d v (lay_cons l).1 h1) (RpIs.dp ds r (lay_cons l).2 h2)
end
theorem RpV.dp {K : PySem.W.Frag} {H : Hp} {d : D} {v : V} (h : RpV K H d v) (l : (toP d).canLay0 = true) : Dp K H v (toP d) := by
  cases d with
  | lst ds =>
    obtain ⟨a, vs, rfl, e, r⟩ := h
    exact .lst (.of e) (RpIs.dp ds vs (by simpa only [toP, PyData.canLay0] using l) r)
  | _ => exact RpI.dp _ v l (h.imm rfl)
section
variable {X : Cx} {np : Nat} {He : Hp} {a b : Expr} {wa wb : W} {pos : Pos}
variable (hu : X.A.units + 64 < cLine) (ha : DE X np He a wa) (hb : DE X np He b wb)
include hu ha hb
end
/-! ### trees of ints and None -/
end DL

namespace DL
open PySem PySem.Spec PyProof.Rows L2
/-! ### sorted: lists of triples of ints, of any length -/
abbrev T3 := Int × Int × Int
def lt3 (p q : T3) : Bool := if p.1 = q.1 then (if p.2.1 = q.2.1 then decide (p.2.2 < q.2.2) else decide (p.2.1 < q.2.1)) else decide (p.1 < q.1)
theorem lt3_iff {p q : T3} : lt3 p q = true ↔ p.1 < q.1 ∨ (p.1 = q.1 ∧ (p.2.1 < q.2.1 ∨ (p.2.1 = q.2.1 ∧ p.2.2 < q.2.2))) := by
  unfold lt3
  by_cases e : p.1 = q.1
  · by_cases e2 : p.2.1 = q.2.1
    · rw [if_pos e, if_pos e2, decide_eq_true_eq]; omega
    · rw [if_pos e, if_neg e2, decide_eq_true_eq]; omega
  · rw [if_neg e, decide_eq_true_eq]; omega
theorem lt3_no {p q : T3} : lt3 p q = false ↔ ¬ (p.1 < q.1 ∨ (p.1 = q.1 ∧ (p.2.1 < q.2.1 ∨ (p.2.1 = q.2.1 ∧ p.2.2 < q.2.2)))) := by
  rw [← lt3_iff]
  cases lt3 p q <;> simp
theorem swo3 {α : Type} (k : α → T3) : SrtO.Swo fun v u => lt3 (k v) (k u) := by
  refine ⟨fun x y h => lt3_no.mpr ?_, fun x y z h1 h2 => lt3_no.mpr ?_⟩
  · have a := lt3_iff.mp h
    omega
  · have a := lt3_no.mp h1
    have b := lt3_no.mp h2
    omega
def IsT3 (h : Heap) (v : Value) (q : T3) : Prop := ∃ a o t u w n, v = .ref a ∧ h.get? a = some o ∧ o.cls = .type "tuple" ∧ o.data = .seq #[.int q.1 t, .int q.2.1 u, .int q.2.2 w] n
theorem IsT3.on {h h' : Heap} {v : Value} {q : T3} (x : IsT3 h v q) (k : ∀ b o, h.get? b = some o → o.cls = .type "tuple" → h'.get? b = some o) : IsT3 h' v q := by
  obtain ⟨a, o, t, u, w, n, e, ho, hc, hd⟩ := x
  exact ⟨a, o, t, u, w, n, e, k a o ho hc, hc, hd⟩
section
variable {prog : Program} {w : World} {A : Around} {E : Value → Shared → Prop} {s : Shared}
theorem cmp3 {vs : List Value} {k : Value → T3} (hp : ∀ v ∈ vs, IsT3 s.heap v (k v)) : SrtO.Cmp prog w A s (tuples' true) (fun p => p.1 ∈ vs) (SrtO.lt2 fun v u => lt3 (k v) (k u)) := by
  intro p q hm hm'
  have h1 := hp _ hm
  have h2 := hp _ hm'
  show wpAny (model prog w) A (keyLt' (tuples' true) p.1 q.1) (fun r s' => s' = s ∧ r = lt3 (k p.1) (k q.1)) (fun _ _ => False) s
  unfold lt3
  generalize (k p.1) = x at h1 ⊢
  generalize (k q.1) = y at h2 ⊢
  obtain ⟨x1, x2, x3⟩ := x
  obtain ⟨y1, y2, y3⟩ := y
  obtain ⟨a, o, t1, t2, t3, n, e, ho, hc, hd⟩ := h1
  obtain ⟨b, o', u1, u2, u3, n', e', ho', hc', hd'⟩ := h2
  rw [e, e']
  refine PySem.W.kat_lt ho hd ho' hd' ?_
  show PySem.W.KatLex prog w A true (decide (3 < 3)) _ [(.int x1 t1, .int y1 u1), (.int x2 t2, .int y2 u2), (.int x3 t3, .int y3 u3)] 0 s
  refine PySem.W.kat_cons (SeqAt.EqAt.int_int x1 t1 y1 u1 prog w _ _ (PySem.W.kat_go (fun c1 => ?_) (fun c1 => ?_)))
  · have d1 : x1 = y1 := by simpa using c1
    refine PySem.W.kat_yes (PySem.W.kat_cons (SeqAt.EqAt.int_int x2 t2 y2 u2 prog w _ _ (PySem.W.kat_go (fun c2 => ?_) (fun c2 => ?_))))
    · have d2 : x2 = y2 := by simpa using c2
      refine PySem.W.kat_yes (PySem.W.kat_cons (SeqAt.EqAt.int_int x3 t3 y3 u3 prog w _ _ (PySem.W.kat_go (fun c3 => ?_) (fun c3 => ?_))))
      · have d3 : x3 = y3 := by simpa using c3
        refine PySem.W.kat_yes (PySem.W.kat_nil ⟨rfl, ?_⟩)
        simp [d1, d2, d3]
      · exact PySem.W.kat_no (TS.oneLt_ints _ ⟨rfl, by simp [d1, d2]⟩)
    · have d2 : ¬ x2 = y2 := by simpa using c2
      exact PySem.W.kat_no (TS.oneLt_ints _ ⟨rfl, by simp [d1, d2]⟩)
  · have d1 : ¬ x1 = y1 := by simpa using c1
    exact PySem.W.kat_no (TS.oneLt_ints _ ⟨rfl, by simp [d1]⟩)
theorem heads3 {h : Heap} : ∀ {vs : List Value}, (∀ v ∈ vs, ∃ q, IsT3 h v q) → ∃ fs : List Value, PySem.W.KatTups h vs fs ∧ fs.length = vs.length ∧ ∀ f ∈ fs, ∃ x t, f = Value.int x t
  | [], _ => ⟨[], PySem.W.KatTups.nil, rfl, fun _ hm => nomatch hm⟩
  | v :: vs, hp => by
    obtain ⟨fs, g1, g2, g3⟩ := heads3 (vs := vs) fun v' hm => hp v' (List.mem_cons_of_mem _ hm)
    obtain ⟨q, a, o, t, u, w, n, rfl, ho, hc, hd⟩ := hp v List.mem_cons_self
    refine ⟨.int q.1 t :: fs, PySem.W.KatTups.cons ho hc hd rfl g1, congrArg (· + 1) g2, fun f hm => ?_⟩
    rcases List.mem_cons.mp hm with rfl | hm
    · exact ⟨_, t, rfl⟩
    · exact g3 f hm
theorem sortable3 {a : Addr} {vs : List Value} {k : Value → T3} (h0 : 0 < vs.length) (hp : ∀ v ∈ vs, IsT3 s.heap v (k v)) (ha : ∀ o, s.heap.get? a = some o → o.cls ≠ .type "tuple") : SrtO.SortableO prog w A s a vs fun v u => lt3 (k v) (k u) := by
  intro h' kp
  have hp' : ∀ v ∈ vs, IsT3 h' v (k v) := fun v hm => (hp v hm).on fun b o e c => kp b o (fun z => ha o (z ▸ e) c) e
  obtain ⟨fs, g1, g2, g3⟩ := heads3 fun v hm => ⟨_, hp' v hm⟩
  refine ⟨tuples' true, fun Q E hq => PySem.W.kat_kind (T := .type "int") g1 (by omega) (fun f hm => ?_) (by rfl) ?_, cmp3 hp'⟩
  · obtain ⟨x, t, rfl⟩ := g3 f hm
    exact PySem.W.Looks.now
  · have e : (Value.type "int" != Value.type "tuple") = true := by decide
    rw [e]
    exact hq
theorem sorted3 {l : Addr} {vs : List Value} {k : Value → T3} {Q : Value → Shared → Prop} (hl : s.heap.IsList l vs.toArray) (hz : vs.length ≤ sizeLine) (hp : ∀ v ∈ vs, IsT3 s.heap v (k v))
    (h : ∀ (h' : Heap) (d : Addr) (out : List Value), SrtO.Srtd (fun v u => lt3 (k v) (k u)) out → out.Perm vs → (∀ b o, s.heap.get? b = some o → h'.get? b = some o) → s.heap.objs.size ≤ d → (∃ n, h'.get? d = some (seqObj "list" out.toArray n)) → Q (.ref d) { s with heap := h' }) :
    wpAny (model prog w) A (call (.builtin "sorted") [.ref l]) Q E s := by
  refine SrtO.sorted_ord (swo3 k) hl hz (fun h2 h₁ a ha kk => ?_) fun out g1 g2 => ?_
  · refine sortable3 (s := { s with heap := h₁ }) (by omega) (fun v hm => (hp v hm).on fun b o e _ => (kk b o e).2) fun o e => ?_
    have e' : some o = some (seqObj "list" vs.toArray 0) := e.symm.trans ha
    cases e'
    intro c
    exact absurd (Value.type.inj c) (by decide)
  · exact h _ _ out g1 g2.perm (fun b o e => sortedAll_old e) (Nat.le_succ _) (sortedAll_at s.heap vs out.toArray)
end
theorem IsT3.inj {h : Heap} {v : Value} {q r : T3} (x : IsT3 h v q) (y : IsT3 h v r) : q = r := by
  obtain ⟨a, o, t, u, w, n, e, ho, hc, hd⟩ := x
  obtain ⟨a', o', t', u', w', n', e', ho', hc', hd'⟩ := y
  rw [e] at e'
  cases e'
  rw [ho] at ho'
  cases ho'
  rw [hd] at hd'
  obtain ⟨q1, q2, q3⟩ := q
  obtain ⟨r1, r2, r3⟩ := r
  simp at hd'
  obtain ⟨⟨⟨h1, _⟩, ⟨h2, _⟩, h3, _⟩, _⟩ := hd'
  rw [h1, h2, h3]
open Classical in
noncomputable def key3 (h : Heap) (v : Value) : T3 := if x : ∃ q, IsT3 h v q then x.choose else (0, 0, 0)
theorem key3_of {h : Heap} {v : Value} {q : T3} (x : IsT3 h v q) : key3 h v = q := by
  have e : ∃ q, IsT3 h v q := ⟨q, x⟩
  unfold key3
  rw [dif_pos e]
  exact e.choose_spec.inj x
def Trp (K : PySem.W.Frag) (H : Hp) (x : V) (q : T3) : Prop := ∃ t, x = V.ref t ∧ SqT K H t [.int q.1, .int q.2.1, .int q.2.2]
def rSorted3 (K : PySem.W.Frag) : List V → Hp → VK → Prop := fun vs H Q => ∃ (a : Addr) (xs : List V) (ks : List T3), vs = [.ref a] ∧ SqL K H a xs ∧ xs.length = ks.length ∧ (∀ (j : Nat) (x : V) (q : T3), xs[j]? = some x → ks[j]? = some q → Trp K H x q) ∧
  ∀ (zs : List (V × T3)) (p : Addr), zs.Perm (xs.zip ks) → (zs.map (·.2)).Pairwise (fun a b => lt3 b a = false) → H p = none → Q (.ref p) (upd H p (.lst (zs.map (·.1))))
section
variable {X : Cx}
theorem Trp.at {pins : List (Addr × Obj)} {σ : L2.St} {H : Hp} {s : Shared} (J : Inv X pins σ H s) {x : V} {u : Value} {q : T3} (t : Trp X.K H x q) (r : RelV x u) : IsT3 s.heap u q := by
  obtain ⟨a, rfl, h⟩ := t
  obtain rfl : u = Value.ref a := r
  obtain ⟨its, rv, ⟨o, ho, hc, n, hd⟩, _⟩ := J.tuple h
  cases rv with
  | cons r1 rr =>
    cases rr with
    | cons r2 rr =>
      cases rr with
      | cons r3 rr =>
        cases rr
        obtain ⟨t1, rfl⟩ := r1
        obtain ⟨t2, rfl⟩ := r2
        obtain ⟨t3, rfl⟩ := r3
        exact ⟨a, o, t1, t2, t3, n, rfl, ho, hc, hd⟩
theorem cr_sorted3 : CallR X (.builtin "sorted") (rSorted3 X.K) := by
  intro pins s σ H vs us Q J r h
  obtain ⟨a, xs, ks, rfl, hs, hl, hx, q⟩ := h
  obtain ⟨its, rv, pl, hz⟩ := J.list hs
  obtain ⟨u, rfl, ru⟩ := vals1 r
  obtain rfl : u = Value.ref a := ru
  have hlen := rv.length
  have at3 : ∀ (j : Nat) (v : Value), its[j]? = some v → ∃ x q, xs[j]? = some x ∧ ks[j]? = some q ∧ IsT3 s.heap v q ∧ RelV x v := by
    intro j v hv
    have hj : j < its.length := (List.getElem?_eq_some_iff.mp hv).1
    have h1 : xs[j]? = some xs[j] := List.getElem?_eq_getElem (by omega)
    have h2 : ks[j]? = some ks[j] := List.getElem?_eq_getElem (by omega)
    obtain ⟨v', hv', rx⟩ := rv.get h1
    rw [hv] at hv'
    cases hv'
    exact ⟨_, _, h1, h2, (hx j _ _ h1 h2).at J rx, rx⟩
  have mem3 : ∀ v ∈ its, IsT3 s.heap v (key3 s.heap v) := fun v hv => by
    obtain ⟨j, hj⟩ := List.mem_iff_getElem?.mp hv
    obtain ⟨x, q, _, _, h3, _⟩ := at3 j v hj
    rw [key3_of h3]; exact h3
  have refs : ∀ v ∈ its, ∃ a, v = Value.ref a := fun v hv => by
    obtain ⟨a, _, _, _, _, _, e, _⟩ := mem3 v hv
    exact ⟨a, e⟩
  refine sorted3 (k := key3 s.heap) pl.isList (by rw [← hlen]; exact hz) mem3 fun h' d out g1 g2 kp hd hn => ?_
  have ez : its.map (fun u => (backV u, key3 s.heap u)) = xs.zip ks := by
    apply List.ext_getElem?
    intro j
    by_cases hj : j < its.length
    · have hv : its[j]? = some its[j] := List.getElem?_eq_getElem hj
      obtain ⟨x, q, h1, h2, h3, h4⟩ := at3 j _ hv
      obtain ⟨a, e⟩ := refs _ (List.getElem_mem hj)
      rw [List.getElem?_map, hv, (show (xs.zip ks)[j]? = some (x, q) from List.getElem?_zip_eq_some.mpr ⟨h1, h2⟩), Option.map_some, key3_of h3]
      rw [e] at h4 ⊢
      cases x <;> first | (cases h4; rfl) | (obtain ⟨_, h4⟩ := h4; cases h4) | cases h4
    · rw [List.getElem?_eq_none (by simpa using Nat.le_of_not_lt hj), List.getElem?_eq_none (by simp; omega)]
  have ro : ∀ u ∈ out, ∃ a, u = Value.ref a := fun u hu => refs u (g2.mem_iff.mp hu)
  obtain ⟨n, hn⟩ := hn
  have ho := q (out.map fun u => (backV u, key3 s.heap u)) d (by rw [← ez]; exact g2.map _) (by rw [List.map_map]; exact List.pairwise_map.mpr g1) (J.hok.fresh hd)
  have e1 : (out.map fun u => (backV u, key3 s.heap u)).map (·.1) = out.map backV := by rw [List.map_map]; rfl
  rw [e1] at ho
  refine ⟨.ref d, upd H d (.lst (out.map backV)), J.laid (t' := s.toks) kp hd ⟨?_, out, n, vals_back ro, hn⟩, rfl, ho⟩
  rw [List.length_map, g2.length_eq, ← hlen]
  exact hz
end
def enc3 (q : T3) : D := .tup [.int q.1, .int q.2.1, .int q.2.2]
def fSort3 : FA := fun ds k => match ds with
  | [x] => (match lstD x with
    | some xs => ∃ ks : List T3, xs = ks.map enc3 ∧ ∀ ls : List T3, ls.Perm ks → ls.Pairwise (fun a b => lt3 b a = false) → k (.lst (ls.map enc3))
    | none => False)
  | _ => False
section
variable {X : Cx} {np : Nat} {He : Hp} {a : Expr} {wa : W} {pos : Pos}
theorem cad_sort3 : CaD X.K (rSorted3 X.K) fSort3 := by
  intro H ds vs k Q r h q
  unfold fSort3 at h
  split at h
  · split at h
    · rename_i x xs e1
      obtain ⟨v, rfl, r1⟩ := RpVs.one r
      obtain ⟨a1, us, rfl, s1, u1⟩ := r1.lsts e1
      obtain ⟨ks, rfl, hk⟩ := h
      have hlen := u1.length
      have tri : ∀ (j : Nat) (x : V) (q : T3), us[j]? = some x → ks[j]? = some q → Trp X.K H x q ∧ RpI X.K H (enc3 q) x := by
        intro j x q h1 h2
        obtain ⟨d, e, rd⟩ := u1.get' h1
        rw [List.getElem?_map, h2] at e
        cases e
        refine ⟨?_, rd⟩
        simp only [enc3, RpI, RpIs] at rd
        obtain ⟨b, ws, rfl, st, v1, r1, rfl, rfl, v2, r2, rfl, rfl, v3, r3, rfl, rfl, rfl⟩ := rd
        exact ⟨b, rfl, .of st⟩
      refine ⟨a1, us, ks, rfl, s1, by rw [← hlen, List.length_map], fun j x q h1 h2 => (tri j x q h1 h2).1, fun zs p hp hs np' => ?_⟩
      have ex : Ext H (upd H p (.lst (zs.map (·.1)))) := .new np'
      have pk : (zs.map (·.2)).Perm ks := by
        have := hp.map Prod.snd
        rwa [List.map_snd_zip (by rw [← hlen, List.length_map]; exact Nat.le_refl _)] at this
      refine q _ _ _ (hk _ pk hs) ex ⟨p, _, rfl, upd_same, RpIs.of_get (by simp) fun j d v h1 h2 => ?_⟩ (fun _ c e => by cases e; exact np')
      simp only [List.getElem?_map, Option.map_map] at h1 h2
      obtain ⟨z, hz, rfl⟩ := Option.map_eq_some_iff.mp h2
      rw [hz] at h1
      cases h1
      have hm := hp.mem_iff.mp (List.mem_of_getElem? hz)
      obtain ⟨i, hi⟩ := List.mem_iff_getElem?.mp hm
      obtain ⟨i1, i2⟩ := List.getElem?_zip_eq_some.mp hi
      exact RpI.kp ex.kp _ _ (tri i _ _ i1 i2).2
    · exact h.elim
  · exact h.elim
theorem e_sorted {p : Pos} (hc : X.calm = true) (hm : X.mg "sorted" = none) (ha : DE X np He a wa) (hg : Gl X "sorted" := by rfl) (he : starEach [a] X.env = (false, eval a X.env) :: starEach [] X.env := by rfl) :
    DE X np He (.Call (.Name "sorted" p) [a] [] pos) (cBi fSort3 (cCons wa cNil)) := e_bi cr_sorted3 cad_sort3 hm PyProof.Rows.boot_sorted (a_cons ha a_nil he) hg (he := he)
end
end DL

namespace DL
open PySem PySem.Spec PyProof.Rows L2
/-! ### defs with one keyword-only parameter whose default is None -/
structure FnKD (P : Program) (w : World) (K : PySem.W.Frag) (mg : Str → Option Value) (base : Heap) (k : Nat) (x : Str) (ps ks : List Str) (sp : FSpec) : Prop where
  ex : ∃ f fd u, FnOk P w K mg base CX0 k f fd ps (spOf K ps.length sp) ∧ mg x = some (.ref f) ∧ PySem.W.keepIn K (.ref f) = true ∧ KBn K fd ps 1 ks (fun us ws => us ++ ws) (fun vs zs => vs ++ zs) ∧ Binds K fd ps [u] ∧ RelV V.non u
section
variable {X : Cx} {np : Nat} {He : Hp} {a b : Expr} {wa wb : W} {pos : Pos}
end
end DL

set_option maxHeartbeats 2000000
/-! ### ranges of any size, from either end -/
namespace PySem
open Sem (wp)
section
variable {prog : Program} {w : World} {A : Around} {E : Value → Shared → Prop} {s : Shared} {r : Addr} {a b c : Int} {t u v : Tok}
end
end PySem
namespace DL
open PySem PySem.Spec PyProof.Rows L2
section
variable {X : Cx} {np : Nat} {He : Hp} {tg a b : Expr} {wa wb : W} {pos : Pos}
end
end DL

set_option maxHeartbeats 2000000
/-! ### an int's bits as a text, and how many of them are 1 -/
namespace DL
open PySem PySem.Spec PyProof.Rows L2 Builtin Float
section
variable {prog : Program} {w : World} {A : Around} {E : Value → Shared → Prop} {s : Shared}
end
end DL

set_option maxHeartbeats 2000000
namespace DL
open PySem PySem.Spec PyProof.Rows L2 Builtin
section
variable {X : Cx} {np : Nat} {He : Hp} {a : Expr} {wa : W} {pos : Pos}
end
/-! ### how many -/
end DL

namespace DL
open PySem PySem.Spec PyProof.Rows L2
/-! ### instances of own classes that are not changed -/
/-- the class at C -/
structure ClsT (K : PySem.W.Frag) (mg : Str → Option Value) (n : Nat) (C : Addr) : Prop where
  ns : PySem.W.nsIn K mainGlobals (cNm n) = some (some (.ref C))
  mg : mg (cNm n) = some (.ref C)
  ic : C8.InsC K C
  sf : PySem.W.selfFirst K C = true
/-- a method: the def at f keeps its promise -/
structure FnM (P : Program) (w : World) (K : PySem.W.Frag) (mg : Str → Option Value) (base : Heap) (k : Nat) (C : Addr) (m : Str) (ps : List Str) (sp : FSpec) : Prop where
  ex : ∃ f fd, FnOk P w K mg base CX0 k f fd ps (spOf K ps.length sp) ∧ Binds K fd ps [] ∧ PySem.W.findIn K (.ref C) m = some (some (.ref f)) ∧ PySem.W.isFn K (.ref f) = true
section
variable {X : Cx} {np k n : Nat} {He : Hp} {C : Addr} {a b : Expr} {wa wb : W} {ws : WA} {pos : Pos} {sp : FSpec} {ps : List Str} {m : Str}
/-- what a method of values without lists leaves -/
theorem After.ext {K : PySem.W.Frag} {H H' : Hp} {ds ds' : List D} {vs : List V} (A : After K H H' ds ds' vs) (h : ∀ d ∈ ds, isL d = false) : Ext H H' := fun c o e => A.keep c o e fun i xs hx _ => by
  have := h _ (List.mem_of_getElem? hx)
  simp [isL] at this
/-- what a number on the right asks -/
structure IntR (K : PySem.W.Frag) (C : Addr) (op : Operator) : Prop where
  hr : ∃ rc, PySem.W.findIn K (.ref C) (PySem.dunderR op.info.2) = some rc ∧ (rc = none ∨ ∃ g : Addr, rc = some (.ref g))
  h1 : ∃ fo, PySem.W.findIn K (.type "int") (PySem.dunder op.info.2) = some fo
  h2 : ∃ ro, PySem.W.findIn K (.type "int") (PySem.dunderR op.info.2) = some ro
  hs : PySem.W.subIn K (.type "int") (.ref C) = some false
/-- C(e): what __init__ promises -/
def spIni (K : PySem.W.Frag) (n : Nat) (C : Addr) (pre : D → Prop) (post : D → List D → Prop) : Sp := fun vs H Q _ => ∃ (a dx : Addr) (v : V) (d : D), vs = [.ref a, v] ∧ H a = some (.ins C dx []) ∧ RpI K H d v ∧ pre d ∧
  ∀ ds H', post d ds → (∀ b o, H b = some o → b ≠ a → H' b = some o) → (∃ kvs, H' a = some (.ins C dx kvs) ∧ kvs.map (·.1) = cAt n ∧ RpIs K H' ds (kvs.map (·.2))) → Q .non H'
def cMk (n : Nat) (pre : D → Prop) (post : D → List D → Prop) (wa : W) : W := fun env Q => wa env fun ra e1 => rs e1 ra fun x => isL x = false ∧ pre x ∧ ∀ ds, post x ds → Q (.val (.obj n ds)) e1
theorem e_mk {pre : D → Prop} {post : D → List D → Prop} {f : Addr} {fd : FuncData} {p : Pos} (T : ClsT X.K X.mg n C) (M : Mk X.K C f) (F : FnOk X.prog X.w X.K X.mg X.base CX0 k f fd ps (spIni X.K n C pre post)) (hr : Room (k + 1) X.A) (hb : Binds X.K fd ps [])
    (ha : DE X np He a wa) (hg : Gl X (cNm n) := by rfl) (hd : (cNm n == ("__debug__" : Str)) = false := by decide) (he : starEach [a] X.env = (false, eval a X.env) :: starEach [] X.env := by rfl) (hpl : (backTo pos (starEach [] X.env)).any (·.1) = false := by rfl) :
    DE X np He (.Call (.Name (cNm n) p) [a] [] pos) (cMk n pre post wa) := by
  refine PE.weak (pe_make M F hr hg T.mg hb .nil pass0 (pa_cons ha pa_nil he) hd he hpl) fun σ H Q ⟨env, Q0, R, w, q⟩ => ⟨env, _, R, w, fun ra e1 v1 H1 w1 s1 r1 => ?_⟩
  obtain ⟨x, hx, hl, pre', po⟩ := r1.rs s1.rep w1
  intro p dx np' nd' ne
  have ex : Ext H1 (upd (upd H1 dx (.own p)) p (.ins C dx [])) := fun b o h => by
    rw [upd_ne (fun z => by rw [z, np'] at h; cases h), upd_ne (fun z => by rw [z, nd'] at h; cases h)]
    exact h
  have hi := hx.imm hl
  refine ⟨p, dx, v1, x, rfl, upd_same, RpI.kp ex.kp _ _ hi, pre', fun ds H' hp keep ⟨kvs, k1, k2, k3⟩ => ⟨rfl, ?_⟩⟩
  · have ex' : Ext H1 H' := fun b o h => keep b o (ex b o h) fun z => by rw [z, np'] at h; cases h
    refine q _ e1 _ H' (po ds hp) (s1.trans (.ext s1.rep ex')) ⟨.of ?_, fun z => by simp [isL] at z⟩
    simp only [RpI]
    exact ⟨p, C, dx, kvs, rfl, T.ns, k1, k2, k3⟩
end
/-! ### __init__ that stores once, at its end -/
def KpI (H H' : Hp) : Prop := ∀ b o, H b = some o → (∀ xs, o ≠ .lst xs) → (∀ C dx, o ≠ .ins C dx []) → H' b = some o
theorem cAt_ne (n : Nat) : cAt n ≠ [] := by
  match n with
  | 0 => decide
  | _ + 1 => simp [cAt]
mutual
theorem RpI.kpi {K : PySem.W.Frag} {H H' : Hp} (k : KpI H H') : ∀ (d : D) (v : V), RpI K H d v → RpI K H' d v
  | .non, v, h => h
  | .bl _, v, h => h
  | .int _, v, h => h
  | .str _, v, h => h
  | .tup ds, v, h => by
    simp only [RpI] at h ⊢
    obtain ⟨a, vs, e, s, r⟩ := h
    exact ⟨a, vs, e, k _ _ s (fun _ z => nomatch z) (fun _ _ z => nomatch z), RpIs.kpi k ds vs r⟩
  | .tpd ds, v, h => by
    simp only [RpI] at h ⊢
    obtain ⟨a, vs, e, s, r⟩ := h
    refine ⟨a, vs, e, ?_, RpIs.kpi k ds vs r⟩
    rcases s with ⟨o, s, d⟩ | s
    · exact .inl ⟨o, k _ _ s (fun _ z => nomatch z) (fun _ _ z => nomatch z), d⟩
    · exact .inr s
  | .rod ks ds, v, h => by
    simp only [RpI] at h ⊢
    obtain ⟨a, kvs, e, s, m, r⟩ := h
    obtain ⟨o, s⟩ := s
    exact ⟨a, kvs, e, ⟨o, k _ _ s (fun _ z => nomatch z) (fun _ _ z => nomatch z)⟩, m, RpIs.kpi k ds _ r⟩
  | .rol ds, v, h => by
    simp only [RpI] at h ⊢
    obtain ⟨a, vs, e, s, r⟩ := h
    refine ⟨a, vs, e, ?_, RpIs.kpi k ds vs r⟩
    rcases s with ⟨o, s⟩ | s
    · exact .inl ⟨o, k _ _ s (fun _ z => nomatch z) (fun _ _ z => nomatch z)⟩
    · exact .inr s
  | .obj n ds, v, h => by
    simp only [RpI] at h ⊢
    obtain ⟨a, C, dx, kvs, e, c, s, m, r⟩ := h
    refine ⟨a, C, dx, kvs, e, c, k _ _ s (fun _ z => nomatch z) (fun C' dx' z => ?_), m, RpIs.kpi k ds _ r⟩
    have hk : kvs = [] := by injection z
    rw [hk] at m
    exact cAt_ne n m.symm
  | .lst _, v, h => by simp only [RpI] at h
theorem RpIs.kpi {K : PySem.W.Frag} {H H' : Hp} (k : KpI H H') : ∀ (ds : List D) (vs : List V), RpIs K H ds vs → RpIs K H' ds vs
  | [], vs, h => by simp only [RpIs] at h ⊢; exact h
  | d :: ds, vs, h => by
    simp only [RpIs] at h ⊢
    obtain ⟨v, r, e, h1, h2⟩ := h
    exact ⟨v, r, e, RpI.kpi k d v h1, RpIs.kpi k ds r h2⟩
end
section
variable {P : Program} {w : World} {K : PySem.W.Frag} {mg : Str → Option Value} {base : Heap}
def oneV (k : D → Prop) : RV → Prop
  | .val d' => isL d' = false ∧ k d'
  | .ref _ => False
theorem init_ok {x y : Str} {st : Stmt} {c e : Expr} {bd : List Stmt} {f : Addr} {fd : FuncData} {N ps : List Str} {k n : Nat} {C : Addr} {fl : Str} {w1 : W} {w2 : W} {p0 p1 p2 p3 : Pos} {pre : D → Prop} {post : D → List D → Prop}
    (F : Fun K x y st f fd) (S : FnScope N ps (defScope st)) (T : ClsT K mg n C) (na : NoAttr K C fl) (hps : ps.length = 2 := by rfl) (hN : N.length = 2 := by rfl) (hat : cAt n = [fl] := by rfl)
    (hb : defBody st = [.If c bd [] p0, .Assign [.Attribute (.Name "self" p1) fl p2] e p3] := by rfl) (hs : N[0]? = some (PySem.Str.ofString "self") := by rfl)
    (hv : ∀ (cdv : Value) (A : Around) (outer : List Env) (s : Shared) (H : Hp) (E : XK), Vis ((cxOf CX0 P w K mg base N y (defScope st) f cdv A outer s H E).nox).env.scope "self" := by intros; first | exact Or.inl rfl | exact Or.inr (Or.inl rfl) | exact Or.inr (Or.inr rfl))
    (hsw : ∀ (cdv : Value) (A : Around) (outer : List Env) (s : Shared) (H : Hp) (E : XK), swapsWith e (some (.Attribute (.Name "self" p1) fl p2)) p3.line ((cxOf CX0 P w K mg base N y (defScope st) f cdv A outer s H E).nox).env = pure false := by intros; rfl)
    (d1 : ∀ (cdv : Value) (A : Around) (outer : List Env) (s : Shared) (H : Hp) (E : XK), Room k (A.deeper (envOfC y (defScope st) s.heap.objs.size f cdv)) → DT (cxOf CX0 P w K mg base N y (defScope st) f cdv A outer s H E).nox 2 H c w1)
    (d2 : ∀ (cdv : Value) (A : Around) (outer : List Env) (s : Shared) (H : Hp) (E : XK), Room k (A.deeper (envOfC y (defScope st) s.heap.objs.size f cdv)) → DE (cxOf CX0 P w K mg base N y (defScope st) f cdv A outer s H E).nox 2 H e w2)
    (pure : ∀ d, pre d → w1 [none, some d] fun r e1 => rs e1 r fun d1 => ifb d1 False (w2 e1 fun r _ => oneV (fun d' => post d [d']) r)) :
    FnOk P w K mg base CX0 (k + 1) f fd ps (spIni K n C pre post) := by
  refine F.ok S (fun vs H Q E h => ?_) (fun cdv A outer s H vs Q E hr h => ?_)
  · obtain ⟨a, dx, v, d, rfl, _⟩ := h
    exact hps.symm
  · obtain ⟨a, dx, v, d, rfl, ha, hd, hp, q⟩ := h
    rw [hb]
    refine ⟨_, pss_cons (ps_if (d1 cdv A outer s H E hr) (pss_never (sts := bd)) pss_nil) (pss_one (ps_fld (pe_var (i := 0) hs (hv cdv A outer s H E)) (d2 cdv A outer s H E hr) (hsw cdv A outer s H E))), ?_⟩
    have hst : L2.start N [V.ref a, v] = [some (.ref a), some v] := by
      unfold L2.start
      simp [hN]
    rw [hst]
    have R : Rep K 2 H [some (.ref a), some v] H [none, some d] := by
      refine ⟨rfl, fun i d' e => ?_, fun i j xs ys b e1 e2 => ?_, fun i xs b hi e => ?_, fun _ h => h⟩
      · match i, e with
        | 1, e =>
          simp at e
          subst e
          exact ⟨v, rfl, .of hd⟩
        | i + 2, e => simp at e
      · match i, e1 with
        | 1, e1 =>
          simp at e1
          subst e1
          simp only [RpI] at hd
        | i + 2, e1 => simp at e1
      · match i, e with
        | 1, e => omega
        | i + 2, e => simp at e
    refine ⟨_, _, R, pure d hp, fun r e1 v1 H1 hw s1 r1 => ?_⟩
    obtain ⟨d1, hd1, hw⟩ := r1.rs s1.rep hw
    rcases ifb_of hw with ⟨_, hw2⟩ | ⟨rfl, hw2⟩
    · exact hw2.elim
    refine ⟨false, hd1, ?_⟩
    dsimp only
    rw [if_neg Bool.false_ne_true]
    refine ⟨e1, _, s1.rep, hw2, fun r e2 v2 H2 hr2 s2 r2 => ?_⟩
    cases r with
    | ref i => exact hr2.elim
    | val d' =>
      obtain ⟨hl, hpo⟩ := hr2
      have ha1 := (s1.kp R) a _ ha (fun _ z => nomatch z)
      have ha2 := (s2.kp s1.rep) a _ ha1 (fun _ z => nomatch z)
      refine ⟨_, rfl, a, C, dx, [], rfl, ha2, T.ic.cl, na, by decide, ?_⟩
      have nl : ∀ b, ¬ LA [some (.ref a), some v] [none, some d] b := fun b ⟨i, xs, e, _⟩ => by
        match i, e with
        | 1, e =>
          simp at e
          subst e
          simp only [RpI] at hd
        | i + 2, e => simp at e
      have nl1 : ∀ b, ¬ LA [some (.ref a), some v] e1 b := fun b z => nl b (s1.la.mp z)
      have ki : KpI H2 (upd H2 a (.ins C dx (putF fl v2 []))) := fun b o hb' _ hi => by
        rw [upd_ne fun z => ?_]
        · exact hb'
        · subst z
          rw [ha2] at hb'
          cases hb'
          exact hi _ _ rfl
      refine q [d'] _ hpo (fun b o hb' ne => ?_) ⟨[(fl, v2)], ?_, by rw [hat]; rfl, ?_⟩
      · rw [upd_ne ne]
        exact s2.keep b o (s1.keep b o hb' (nl b)) (nl1 b)
      · rw [upd_same]
        rfl
      · exact ⟨v2, [], rfl, RpI.kpi ki _ _ (r2.1.imm hl), rfl⟩
/-- a property's getter, the class's __init__ -/
structure FnP (P : Program) (w : World) (K : PySem.W.Frag) (mg : Str → Option Value) (base : Heap) (k : Nat) (C : Addr) (m : Str) (ps : List Str) (sp : FSpec) : Prop where
  ex : ∃ p f fd, PropOf K C m p f ∧ FnOk P w K mg base CX0 k f fd ps (spOf K ps.length sp) ∧ Binds K fd ps []
structure FnI (P : Program) (w : World) (K : PySem.W.Frag) (mg : Str → Option Value) (base : Heap) (k n : Nat) (C : Addr) (pre : D → Prop) (post : D → List D → Prop) : Prop where
  ex : ∃ f fd ps, Mk K C f ∧ FnOk P w K mg base CX0 k f fd ps (spIni K n C pre post) ∧ Binds K fd ps []
theorem fn_okM {x y : Str} {st : Stmt} {f : Addr} {fd : FuncData} {N ps : List Str} {k : Nat} {sp : FSpec} (wS : WS) (F : Fun K x y st f fd) (S : FnScope N ps (defScope st))
    (deriv : ∀ (cdv : Value) (A : Around) (outer : List Env) (s : Shared) (H : Hp) (E : XK), Room k (A.deeper (envOfC y (defScope st) s.heap.objs.size f cdv)) →
      DSs (cxOf CX0 P w K mg base N y (defScope st) f cdv A outer s H E).nox ps.length H (List.range ps.length) (defBody st) wS)
    (pure : ∀ ds, ds.length = ps.length → sp.pre ds → wS (env0 ds (N.length - ps.length)) { nx := fun e => sp.post ds .non (outs e ps.length), rt := fun d e => sp.post ds d (outs e ps.length) }) :
    FnOk P w K mg base CX0 (k + 1) f fd ps (spOf K ps.length sp) := by
  have hNl : ps.length ≤ N.length := by
    have := congrArg List.length S.pre
    rw [List.length_take] at this
    omega
  refine F.ok S (fun vs H Q E h => ?_) (fun cdv A outer s H vs Q E hr h => ?_)
  · obtain ⟨ds, hl, _⟩ := h
    exact hl
  · obtain ⟨ds, hl, rv, ap, pre, q⟩ := h
    have hdl : ds.length = ps.length := by rw [rv.length]; exact hl
    refine ⟨_, deriv cdv A outer s H E hr, ?_⟩
    have R : Rep K ps.length H (L2.start N vs) H (env0 ds (N.length - ps.length)) := by
      refine ⟨?_, fun i d e => ?_, fun i j xs ys a e1 e2 s1 s2 => ?_, fun i xs a hi e s' => ?_, fun _ h => h⟩
      · unfold L2.start env0
        simp [hl, hdl]
      · obtain ⟨v, e1, r1⟩ := rv.get (env0_get e)
        exact ⟨v, start_get e1, r1⟩
      · exact apA_get ap (env0_get e1) (env0_get e2) (start_at s1) (start_at s2)
      · have := env0_get e
        have hi' : i < ds.length := (List.getElem?_eq_some_iff.mp this).1
        omega
    have A1 : ∀ {σ' : L2.St} {H' : Hp} {env' : DEnv}, SS K ps.length H (List.range ps.length) (L2.start N vs) H (env0 ds (N.length - ps.length)) σ' H' env' → After K H H' ds (outs env' ps.length) vs := fun {σ' H' env'} st => by
      have el : env'.length = ds.length + (N.length - ps.length) := by
        rw [st.len]
        unfold env0
        simp
      refine ⟨?_, fun b o h n => ?_, st.dom, fun i xs v e ev => ?_⟩
      · unfold outs
        rw [List.length_map, List.length_take]
        omega
      · refine (st.keep b o h fun z => ?_).1
        obtain ⟨i, xs, e, s1⟩ := z
        exact n i xs (env0_get e) (start_at s1)
      · have hi : i < ds.length := (List.getElem?_eq_some_iff.mp e).1
        have e0 : (env0 ds (N.length - ps.length))[i]? = some (some (D.lst xs)) := by
          unfold env0
          rw [List.getElem?_append_left (by simpa using hi)]
          simp [e]
        obtain ⟨q1, ys, q2⟩ := st.par i xs (List.mem_range.mpr (by omega)) e0
        rw [start_get ev] at q1
        obtain ⟨u, q3, ru⟩ := st.rep.val i _ q2
        rw [q1] at q3
        have euv : v = u := by simpa using q3
        subst euv
        refine ⟨ys, ?_, ru⟩
        unfold outs
        rw [List.getElem?_map, List.getElem?_take_of_lt (by omega), q2]
        rfl
    refine ⟨_, _, R, pure ds hdl pre, ⟨fun env' σ' H' h st => ?_, fun d env' σ' H' v h st rv fr => ?_, fun _ _ _ h _ => h.elim, fun _ _ _ h _ => h.elim⟩⟩
    · exact q .non _ .non H' h (A1 st) rfl fun n => by simp [isL] at n
    · exact q d _ v H' h (A1 st) rv fr
end
section
variable {X : Cx} {np k n : Nat} {He : Hp} {C : Addr} {a : Expr} {wa : W} {pos : Pos} {sp : FSpec} {ps : List Str} {m : Str}
theorem e_mkF (n : Nat) {pre : D → Prop} {post : D → List D → Prop} {p : Pos} (T : ClsT X.K X.mg n C) (F : FnI X.prog X.w X.K X.mg X.base k n C pre post) (hr : Room (k + 1) X.A) (ha : DE X np He a wa) (hg : Gl X (cNm n) := by rfl) (hd : (cNm n == ("__debug__" : Str)) = false := by decide)
    (he : starEach [a] X.env = (false, eval a X.env) :: starEach [] X.env := by rfl) (hpl : (backTo pos (starEach [] X.env)).any (·.1) = false := by rfl) : DE X np He (.Call (.Name (cNm n) p) [a] [] pos) (cMk n pre post wa) := by
  obtain ⟨f, fd, ps, M, F, hb⟩ := F.ex
  exact e_mk T M F hr hb ha hg hd he hpl
end
theorem ClsT.mk' {K : PySem.W.Frag} {mg : Str → Option Value} {n : Nat} {C : Addr} (m : mg (cNm n) = some (.ref C)) (ns : PySem.W.nsIn K mainGlobals (cNm n) = some (some (.ref C))) (c1 : PySem.W.plainGet K C Str.empty = true) (c2 : PySem.W.hasDictIn K C = true) (c3 : PySem.W.plainOver K C = true)
    (c4 : PySem.W.findIn K (.ref C) "__setattr__" = some (some (.builtin "object.__setattr__"))) (ha : PySem.W.findIn K (.ref C) "__class__" = some (some (.builtin "object.__class__"))) (hn : PySem.W.specialIn K (.builtin "object.__class__") "__get__" = some (some (.builtin "getset_descriptor.__get__")))
    (ht : PySem.W.takesIn K (.builtin "object.__class__") = some true) (hm : PySem.W.mroIn K C (.type "object") = some true) (sf : PySem.W.selfFirst K C = true) : ClsT K mg n C := ⟨ns, m, ⟨⟨c1, c2, c3, c4⟩, ha, hn, ht, hm, by unfold PySem.W.kitOne; rw [if_pos (by simp)]⟩, sf⟩
theorem IntR.mk' {K : PySem.W.Frag} {C : Addr} {op : Operator} {fo ro : Option Value} (h0 : PySem.W.findIn K (.ref C) (PySem.dunderR op.info.2) = some none) (h1 : PySem.W.findIn K (.type "int") (PySem.dunder op.info.2) = some fo) (h2 : PySem.W.findIn K (.type "int") (PySem.dunderR op.info.2) = some ro) (hs : PySem.W.subIn K (.type "int") (.ref C) = some false) : IntR K C op := ⟨⟨none, h0, .inl rfl⟩, ⟨fo, h1⟩, ⟨ro, h2⟩, hs⟩
/-- a class's row j, of a text's row -/
def clsS (st : Stmt) (j : Nat) : Stmt := match st with
  | .ClassDef _ _ _ body _ _ _ _ _ _ _ => body.getD j (.Pass ⟨0, 0, 0, 0⟩)
  | _ => .Pass ⟨0, 0, 0, 0⟩
end DL

namespace DL
open PySem PySem.Spec PyProof.Rows L2
/-! ### a staticmethod, called through its class -/
structure SMet (K : PySem.W.Frag) (C : Addr) (m : Str) (g : Addr) : Prop where
  ex : ∃ (mc : Value) (p : Addr) (rest : List Value), PySem.W.readsIn K C mc = true ∧ PySem.W.specialIn K (.ref C) "__getattribute__" = some (some (.builtin "type.__getattribute__")) ∧
    PySem.W.findCls K (.ref C) mc m = some (.get (.builtin "staticmethod.__get__") (.ref p) .none (.ref C)) ∧ PySem.W.recIn K p "staticmethod" = some (.ref g :: rest)
  kp : PySem.W.keepIn K (.ref g) = true
structure FnS (P : Program) (w : World) (K : PySem.W.Frag) (mg : Str → Option Value) (base : Heap) (k : Nat) (C : Addr) (m : Str) (ps : List Str) (sp : FSpec) : Prop where
  ex : ∃ f fd, FnOk P w K mg base CX0 k f fd ps (spOf K ps.length sp) ∧ Binds K fd ps [] ∧ SMet K C m f
section
variable {X : Cx} {np k n : Nat} {He : Hp} {C : Addr} {o e a : Expr} {es : List Expr} {wa wb : W} {ws : WA} {pos apos : Pos} {sp : FSpec} {ps : List Str} {m : Str} {ta : TE} {t : TA} {pl : Sem Bool} {g : Addr} {fd : FuncData}
end
end DL

namespace DL
open PySem PySem.Spec PyProof.Rows L2
section
variable {X : Cx} {np : Nat} {He : Hp} {a : Expr} {wa : W} {pos : Pos}
/-! ### the least and the greatest of a list of ints -/
end
end DL

namespace DL
open PySem PySem.Spec PyProof.Rows L2
/-! ### an error of the program's own class, out of calls, caught -/
/-- two tuples whose first items are unequal ints: the error of the class C -/
def spX (K : PySem.W.Frag) (C : Addr) : Sp := fun vs H Q E => ∃ (a b : Addr) (c c' : Int) (r1 r2 : List V), vs = [V.ref a, V.ref b] ∧ SqT K H a (.int c :: r1) ∧ SqT K H b (.int c' :: r2) ∧ c ≠ c' ∧ E (.ref C) none H
structure XC (K : PySem.W.Frag) (mg : Str → Option Value) (x : Str) (C : Addr) : Prop where
  gC : mg x = some (.ref C)
  xP : PySem.W.excIn K C [.type "ValueError", .type "Exception", .type "BaseException", .type "object"] "ValueError.__new__" = true
  kP : PySem.W.keepIn K (.ref C) = true
  bP : PySem.W.subIn K (.ref C) (.type "BaseException") = some true
  tP : PySem.W.typeIn K (.ref C) = some (.type "type")
  eP : PySem.W.exmOne K (.ref C) (.ref C) = some true
/-- a def that raises so -/
structure FnX (P : Program) (w : World) (K : PySem.W.Frag) (mg : Str → Option Value) (base : Heap) (k : Nat) (x : Str) (ps : List Str) (C : Addr) : Prop where
  ex : ∃ f fd, FnOk P w K mg base (L2.CX P w) k f fd ps (spX K C) ∧ mg x = some (.ref f) ∧ PySem.W.keepIn K (.ref f) = true ∧ Binds K fd ps []
end DL

namespace DL
open PySem PySem.Spec PyProof.Rows L2
/-! ### an error of the program's own class, for data out of the domain -/
theorem rep0 {K : PySem.W.Frag} {N : List Str} {n : Nat} {ds : List D} {vs : List V} {H : Hp} (hN : n ≤ N.length) (hv : vs.length = n) (r : RpVs K H ds vs) (ap : apA ds vs) : Rep K n H (L2.start N vs) H (env0 ds (N.length - n)) := by
  have hdl : ds.length = n := by rw [r.length]; exact hv
  refine ⟨?_, fun i d e => ?_, fun i j xs ys a e1 e2 s1 s2 => ?_, fun i xs a hi e s' => ?_, fun _ h => h⟩
  · unfold L2.start env0
    simp [hv, hdl]
  · obtain ⟨v, e1, r1⟩ := r.get (env0_get e)
    exact ⟨v, start_get e1, r1⟩
  · exact apA_get ap (env0_get e1) (env0_get e2) (start_at s1) (start_at s2)
  · have := env0_get e
    have hi' : i < ds.length := (List.getElem?_eq_some_iff.mp this).1
    omega
/-- a call x(a, b) that raises the own error C: the data a, b meet Bad -/
def spXB (K : PySem.W.Frag) (C : Addr) (Bad : D → D → Prop) : Sp := fun vs H _ E => ∃ (a b : D) (u v : V), vs = [u, v] ∧ isL a = false ∧ isL b = false ∧ RpI K H a u ∧ RpI K H b v ∧ Bad a b ∧ ∀ H', Ext H H' → E (.ref C) none H'
theorem SS.hid {K : PySem.W.Frag} {np m : Nat} {He : Hp} {pr : List Nat} {σ : L2.St} {H H' : Hp} {env : DEnv} {v : V} (R : Rep K np He σ H env) (nl : ∀ (i : Nat) (xs : List D), env[i]? ≠ some (some (D.lst xs))) (hm : env[m]? = some none) (x : Ext H H') :
    SS K np He pr σ H env (σ.set m (some v)) H' env where
  rep := ⟨by rw [List.length_set]; exact R.len, fun i d e => by
      have hi : m ≠ i := by
        rintro rfl
        rw [hm] at e
        cases e
      obtain ⟨u, e1, r⟩ := R.val i d e
      refine ⟨u, by rw [List.getElem?_set_ne hi]; exact e1, ?_⟩
      cases d with
      | lst ys => exact absurd e (nl i ys)
      | _ => exact .of (RpI.kp x.kp _ _ (r.imm rfl)), fun i j xs ys a e => absurd e (nl i xs), fun i xs a _ e => absurd e (nl i xs), fun b h => R.dom b (by
      cases hb : H b with
      | none => rfl
      | some o => rw [x b o hb] at h; cases h)⟩
  keep := fun b o h _ => ⟨x b o h, fun ⟨i, xs, e, _⟩ => nl i xs e⟩
  par := fun i xs _ e => absurd e (nl i xs)
  dom := fun b h => by
    cases hb : H b with
    | none => rfl
    | some o => rw [x b o hb] at h; cases h
  len := rfl
/-- a def of two parameters that raises C on data that meet Bad -/
structure FnB (P : Program) (w : World) (K : PySem.W.Frag) (mg : Str → Option Value) (base : Heap) (k : Nat) (x : Str) (ps : List Str) (C : Addr) (Bad : D → D → Prop) : Prop where
  ex : ∃ f fd, FnOk P w K mg base (L2.CX P w) k f fd ps (spXB K C Bad) ∧ mg x = some (.ref f) ∧ PySem.W.keepIn K (.ref f) = true ∧ Binds K fd ps []
/-- what the classes are to the error of class C -/
structure XIs (K : PySem.W.Frag) (mg : Str → Option Value) (C S c1 c2 c3 : Addr) (s1 x1 x2 x3 : Str) : Prop where
  ec : ExcC K C
  gS : mg s1 = some (.ref S)
  kS : PySem.W.kitOne K (.ref C) (.ref S) = some true
  kV : PySem.W.kitOne K (.ref C) (.type "ValueError") = some true
  g1 : mg x1 = some (.ref c1)
  g2 : mg x2 = some (.ref c2)
  g3 : mg x3 = some (.ref c3)
  k3 : PySem.W.kitAny K (.ref C) [.ref c1, .ref c2, .ref c3] = some false
theorem kit_own {K : PySem.W.Frag} {C S : Addr} {b : Bool} (hd : PySem.W.hasDictIn K S = true) (ht : PySem.W.typeIn K (.ref S) = some (.type "type")) (hs : PySem.W.subIn K (.ref C) (.ref S) = some b) (hc : PySem.W.subIn K (.ref C) (.ref C) = some true) : PySem.W.kitOne K (.ref C) (.ref S) = some b := by
  obtain ⟨cd, hcl, _⟩ := PySem.W.any_some hd
  unfold PySem.W.kitOne
  by_cases e : C = S
  · subst e
    rw [hs] at hc
    rw [if_pos (beq_self_eq_true _), hc]
  · rw [if_neg (fun q => e (Value.ref.inj (beq_iff_eq.mp q)))]
    show (if ((PySem.W.clsIn K S).isSome && PySem.W.typeIn K (.ref S) == some (.type "type")) = true then PySem.W.subIn K (.ref C) (.ref S) else none) = some b
    have e2 : ((PySem.W.clsIn K S).isSome && PySem.W.typeIn K (.ref S) == some (.type "type")) = true := by rw [hcl, ht] <;> rfl
    rw [if_pos e2, hs]
theorem kit_val {K : PySem.W.Frag} {C : Addr} {b : Bool} (hs : PySem.W.subIn K (.ref C) (.type "ValueError") = some b) : PySem.W.kitOne K (.ref C) (.type "ValueError") = some b := by
  unfold PySem.W.kitOne
  rw [if_neg (by simp)]
  show (if PySem.W.kitMeta "ValueError" = true then PySem.W.subIn K (.ref C) (.type "ValueError") else none) = some b
  rw [if_pos (by decide +kernel), hs]
theorem kit_no {K : PySem.W.Frag} {t : Value} {c1 c2 c3 : Addr} (h1 : PySem.W.kitOne K t (.ref c1) = some false) (h2 : PySem.W.kitOne K t (.ref c2) = some false) (h3 : PySem.W.kitOne K t (.ref c3) = some false) : PySem.W.kitAny K t [.ref c1, .ref c2, .ref c3] = some false := by
  unfold PySem.W.kitAny
  rw [h1]
  show PySem.W.kitAny K t [.ref c2, .ref c3] = _
  unfold PySem.W.kitAny
  rw [h2]
  show PySem.W.kitAny K t [.ref c3] = _
  unfold PySem.W.kitAny
  rw [h3]
  rfl
theorem XIs.mk' {K : PySem.W.Frag} {mg : Str → Option Value} {C S c1 c2 c3 : Addr} {s1 x1 x2 x3 : Str} (gS : mg s1 = some (.ref S)) (g1 : mg x1 = some (.ref c1)) (g2 : mg x2 = some (.ref c2)) (g3 : mg x3 = some (.ref c3))
    (hg : PySem.W.findIn K (.ref C) "__getattribute__" = some (some (.builtin "BaseException.__getattribute__"))) (hk : PySem.W.findIn K (.ref C) "__getattr__" = some none) (hs : PySem.W.subIn K (.ref C) (.type "BaseException") = some true) (hd : PySem.W.hasDictIn K C = true)
    (ha : PySem.W.findIn K (.ref C) "__class__" = some (some (.builtin "object.__class__"))) (hn : PySem.W.specialIn K (.builtin "object.__class__") "__get__" = some (some (.builtin "getset_descriptor.__get__"))) (ht : PySem.W.takesIn K (.builtin "object.__class__") = some true) (hm : PySem.W.mroIn K C (.type "object") = some true)
    (sC : PySem.W.subIn K (.ref C) (.ref C) = some true) (dS : PySem.W.hasDictIn K S = true) (tS : PySem.W.typeIn K (.ref S) = some (.type "type")) (sS : PySem.W.subIn K (.ref C) (.ref S) = some true) (sV : PySem.W.subIn K (.ref C) (.type "ValueError") = some true)
    (d1 : PySem.W.hasDictIn K c1 = true) (t1 : PySem.W.typeIn K (.ref c1) = some (.type "type")) (s1' : PySem.W.subIn K (.ref C) (.ref c1) = some false) (d2 : PySem.W.hasDictIn K c2 = true) (t2 : PySem.W.typeIn K (.ref c2) = some (.type "type")) (s2' : PySem.W.subIn K (.ref C) (.ref c2) = some false)
    (d3 : PySem.W.hasDictIn K c3 = true) (t3 : PySem.W.typeIn K (.ref c3) = some (.type "type")) (s3' : PySem.W.subIn K (.ref C) (.ref c3) = some false) : XIs K mg C S c1 c2 c3 s1 x1 x2 x3 :=
  ⟨⟨hg, hk, hs, hd, ha, hn, ht, hm⟩, gS, kit_own dS tS sS sC, kit_val sV, g1, g2, g3, kit_no (kit_own d1 t1 s1' sC) (kit_own d2 t2 s2' sC) (kit_own d3 t3 s3' sC)⟩
theorem nl2 {a b : D} {n l : Nat} {xs : List D} (la : isL a = false) (lb : isL b = false) : (env0 [a, b] n)[l]? ≠ some (some (.lst xs)) := fun e => by
  have e2 := env0_get e
  match l, e2 with
  | 0, e2 => simp at e2; subst e2; simp [isL] at la
  | 1, e2 => simp at e2; subst e2; simp [isL] at lb
  | l + 2, e2 => simp at e2
theorem ext_of {K : PySem.W.Frag} {np n : Nat} {He H H1 : Hp} {σ : L2.St} {a b : D} {e1 : DEnv} (la : isL a = false) (lb : isL b = false) (s : SE K np He σ H (env0 [a, b] n) H1 e1) : Ext H H1 := fun c o e => s.keep c o e fun ⟨_, _, h, _⟩ => nl2 la lb h
theorem apA2 {a b : D} {u v : V} (la : isL a = false) (lb : isL b = false) : apA [a, b] [u, v] := by
  cases a <;> first | (simp [isL] at la; done) | skip
  all_goals (cases b <;> first | (simp [isL] at lb; done) | trivial)
end DL

namespace DL
open PySem PySem.Spec PyProof.Rows L2
/-! ### errors out of calls with tables and instances -/
def BadT (a b : D) : Prop := ∃ (c c' : Int) (r1 r2 : List D), a = .tup (.int c :: r1) ∧ b = .tup (.int c' :: r2) ∧ c ≠ c'
theorem BadT.nl {a b : D} (h : BadT a b) : isL a = false ∧ isL b = false := by
  obtain ⟨c, c', r1, r2, rfl, rfl, _⟩ := h
  exact ⟨rfl, rfl⟩
def spXE (K : PySem.W.Frag) (C : Addr) : Sp := fun vs H _ E => ∃ (a b : D) (u v : V), vs = [u, v] ∧ RpI K H a u ∧ RpI K H b v ∧ BadT a b ∧ ∀ H', Ext H H' → E (.ref C) none H'
structure FnXE (P : Program) (w : World) (K : PySem.W.Frag) (mg : Str → Option Value) (base : Heap) (k : Nat) (x : Str) (ps : List Str) (C : Addr) : Prop where
  ex : ∃ f fd, FnOk P w K mg base (L2.CX P w) k f fd ps (spXE K C) ∧ mg x = some (.ref f) ∧ PySem.W.keepIn K (.ref f) = true ∧ Binds K fd ps []
section
variable {P : Program} {w : World} {K : PySem.W.Frag} {mg : Str → Option Value} {base : Heap} {k n : Nat} {C CT : Addr} {x : Str} {ps : List Str} {H : Hp} {a b : D} {u v : V}
theorem BadT.sq (ra : RpI K H a u) (rb : RpI K H b v) (h : BadT a b) : ∃ (p q : Addr) (c c' : Int) (r1 r2 : List V), u = .ref p ∧ v = .ref q ∧ SqT K H p (.int c :: r1) ∧ SqT K H q (.int c' :: r2) ∧ c ≠ c' := by
  obtain ⟨c, c', r1, r2, rfl, rfl, ne⟩ := h
  simp only [RpI, RpIs] at ra rb
  obtain ⟨p, vs, rfl, h1, _, s1, rfl, rfl, _⟩ := ra
  obtain ⟨q, us, rfl, h2, _, s2, rfl, rfl, _⟩ := rb
  exact ⟨p, q, c, c', s1, s2, rfl, rfl, .of h1, .of h2, ne⟩
theorem FnX.e (F : FnX P w K mg base k x ps C) : FnXE P w K mg base k x ps C := by
  obtain ⟨f, fd, F, h1, h2, h3⟩ := F.ex
  refine ⟨f, fd, F.imp fun vs H Q E h => ?_, h1, h2, h3⟩
  obtain ⟨a, b, u, v, rfl, ra, rb, bad, hE⟩ := h
  obtain ⟨p, q, c, c', r1, r2, rfl, rfl, h1, h2, ne⟩ := bad.sq ra rb
  exact ⟨p, q, c, c', r1, r2, rfl, h1, h2, ne, hE H (Ext.refl H)⟩
/-- two instances whose tables are so -/
def spXO (K : PySem.W.Frag) (n : Nat) (C : Addr) : Sp := fun vs H _ E => ∃ (a b : D) (u v : V), vs = [u, v] ∧ RpI K H (.obj n [a]) u ∧ RpI K H (.obj n [b]) v ∧ BadT a b ∧ ∀ H', Ext H H' → E (.ref C) none H'
structure FnMX (P : Program) (w : World) (K : PySem.W.Frag) (mg : Str → Option Value) (base : Heap) (k n : Nat) (CT : Addr) (m : Str) (C : Addr) : Prop where
  ex : ∃ f fd ps, FnOk P w K mg base (L2.CX P w) k f fd ps (spXO K n C) ∧ Binds K fd ps [] ∧ PySem.W.findIn K (.ref CT) m = some (some (.ref f)) ∧ PySem.W.isFn K (.ref f) = true
/-- making an instance, as it is read -/
theorem mk_read {pre : D → Prop} {post : D → List D → Prop} {R : V → Hp → Prop} {d : D} (T : ClsT K mg n CT) (rd : RpI K H d u) (hp : pre d) (kk : ∀ x H2 ds, post d ds → Ext H H2 → RpI K H2 (.obj n ds) x → R x H2) :
    ∀ x dx, H x = none → H dx = none → dx ≠ x → spIni K n CT pre post (.ref x :: ([u] ++ [])) (upd (upd H dx (.own x)) x (.ins CT dx [])) (fun v H2 => v = .non ∧ R (.ref x) H2) E0 := by
  intro p dx np' nd' ne
  have ex : Ext H (upd (upd H dx (.own p)) p (.ins CT dx [])) := fun b o h => by
    rw [upd_ne (fun z => by rw [z, np'] at h; cases h), upd_ne (fun z => by rw [z, nd'] at h; cases h)]
    exact h
  refine ⟨p, dx, u, d, rfl, upd_same, RpI.kp ex.kp _ _ rd, hp, fun ds H' hp keep ⟨kvs, k1, k2, k3⟩ => ⟨rfl, ?_⟩⟩
  have ex' : Ext H H' := fun b o h => keep b o (ex b o h) fun z => by rw [z, np'] at h; cases h
  refine kk _ H' ds hp ex' ?_
  simp only [RpI]
  exact ⟨p, CT, dx, kvs, rfl, T.ns, k1, k2, k3⟩
end
section
variable {X : Cx} {k n : Nat} {C CT : Addr}
end
/-- the call by a door's number -/
def spXC (K : PySem.W.Frag) (C : Addr) (Bad : Int → D → D → Prop) : Sp := fun vs H _ E => ∃ (d : Int) (a b : D) (u v : V), vs = [.int d, u, v] ∧ isL a = false ∧ isL b = false ∧ RpI K H a u ∧ RpI K H b v ∧ Bad d a b ∧ ∀ H', Ext H H' → E (.ref C) none H'
structure FnXC (P : Program) (w : World) (K : PySem.W.Frag) (mg : Str → Option Value) (base : Heap) (k : Nat) (x : Str) (ps : List Str) (C : Addr) (Bad : Int → D → D → Prop) : Prop where
  ex : ∃ f fd, FnOk P w K mg base (L2.CX P w) k f fd ps (spXC K C Bad) ∧ mg x = some (.ref f) ∧ PySem.W.keepIn K (.ref f) = true ∧ Binds K fd ps []
/-- what a class is to the error of class C -/
structure XIn (K : PySem.W.Frag) (mg : Str → Option Value) (C : Addr) (x : Str) (b : Bool) : Prop where
  ex : ∃ S : Addr, mg x = some (.ref S) ∧ PySem.W.kitOne K (.ref C) (.ref S) = some b
theorem XIn.mk' {K : PySem.W.Frag} {mg : Str → Option Value} {C S : Addr} {x : Str} {b : Bool} (g : mg x = some (.ref S)) (hd : PySem.W.hasDictIn K S = true) (ht : PySem.W.typeIn K (.ref S) = some (.type "type")) (hs : PySem.W.subIn K (.ref C) (.ref S) = some b) (hc : PySem.W.subIn K (.ref C) (.ref C) = some true) : XIn K mg C x b := ⟨S, g, kit_own hd ht hs hc⟩
/-- isinstance(e, x), e the caught error -/
theorem pe_isx {X : Cx} {a C : Addr} {oe : Obj} {pn : List (Addr × Obj)} {m : Nat} {n x : Str} {b : Bool} {q1 q2 q3 q4 : Pos} (ec : ExcC X.K C) (Z : XIn X.K X.mg C x b) (hz : Zc (.ref C) none oe) (hf : ∃ vs, oe.data = .fields vs) (hmi : X.mg "isinstance" = none) (hgi : Gl X "isinstance") (hg : Gl X x) (hd : (x == ("__debug__" : Str)) = false)
    (hn : PE (X.suite a ((a, oe) :: pn)) (.Name n q2) (tVar m)) (he : starEach [.Name n q2, .Name x q3] (X.suite a ((a, oe) :: pn)).env = (false, eval (.Name n q2) (X.suite a ((a, oe) :: pn)).env) :: starEach [.Name x q3] (X.suite a ((a, oe) :: pn)).env) (hpl : (backTo q4 (starEach [.Name x q3] (X.suite a ((a, oe) :: pn)).env)).any (·.1) = false) :
    PE (X.suite a ((a, oe) :: pn)) (.Call (.Name "isinstance" q1) [.Name n q2, .Name x q3] [] q4) (fun σ H Q => σ[m]? = some (some (.ref a)) ∧ Q (.bl b) H) := by
  obtain ⟨S, gS, kS⟩ := Z.ex
  refine PE.weak (pe_callB (call_isE ec hz hf) hgi hmi (by decide +kernel) (pa_cons hn (pa_cons (pe_glob (v := .ref S) hg gS rfl hd) pa_nil) he) (he := he) (hpl := hpl)) fun σ H Q ⟨e, q⟩ => ?_
  exact ⟨.ref a, e, .ref S, .ref S, b, rfl, fun u r => by cases r; rfl, kS, q⟩
structure XEv (K : PySem.W.Frag) (C : Addr) : Prop where
  ec : ExcC K C
  kV : PySem.W.kitOne K (.ref C) (.type "ValueError") = some true
theorem XEv.mk' {K : PySem.W.Frag} {C : Addr} (hg : PySem.W.findIn K (.ref C) "__getattribute__" = some (some (.builtin "BaseException.__getattribute__"))) (hk : PySem.W.findIn K (.ref C) "__getattr__" = some none) (hs : PySem.W.subIn K (.ref C) (.type "BaseException") = some true) (hd : PySem.W.hasDictIn K C = true)
    (ha : PySem.W.findIn K (.ref C) "__class__" = some (some (.builtin "object.__class__"))) (hn : PySem.W.specialIn K (.builtin "object.__class__") "__get__" = some (some (.builtin "getset_descriptor.__get__"))) (ht : PySem.W.takesIn K (.builtin "object.__class__") = some true) (hm : PySem.W.mroIn K C (.type "object") = some true)
    (sV : PySem.W.subIn K (.ref C) (.type "ValueError") = some true) : XEv K C := ⟨⟨hg, hk, hs, hd, ha, hn, ht, hm⟩, kit_val sV⟩
end DL

namespace DL
open PySem PySem.Spec PyProof.Rows L2
/-! ### calls that may raise or not -/
section
variable {P : Program} {w : World} {K : PySem.W.Frag} {mg : Str → Option Value} {base : Heap} {k : Nat} {f C : Addr} {fd : FuncData} {ps : List Str} {sp sp' : Sp}
theorem okOr (F : FnOk P w K mg base CX0 k f fd ps sp) (G : FnOk P w K mg base (L2.CX P w) k f fd ps sp') : FnOk P w K mg base (L2.CX P w) k f fd ps (fun vs H Q E => sp vs H Q E ∨ sp' vs H Q E) := by
  refine ⟨fun vs H Q E h => h.elim (F.len vs H Q E) (G.len vs H Q E), fun A outer s H args us vs Q E hr he hb hv h => ?_⟩
  rcases h with h | h
  · refine codeAny_mono (F.run A outer s H args us vs Q E hr he hb hv h) fun r s' hq => ?_
    cases r with
    | error e => exact False.elim hq
    | ok fl => cases fl <;> exact hq
  · exact G.run A outer s H args us vs Q E hr he hb hv h
end
section
variable {X : Cx} {CX : CXT} {k : Nat} {f C g : Addr} {fd : FuncData} {ps : List Str} {sp : Sp} {E : L2.St → XK} {x m : Str} {p pos apos : Pos} {o e : Expr} {es : List Expr} {t : TA} {pl : Sem Bool}
theorem mkS_run {pins : List (Addr × Obj)} {σ : L2.St} {H : Hp} {s : Shared} {Q : VK} {args : List Value} {vs : List V} (Mc : Mk X.K C f) (Fi : FnOk X.prog X.w X.K X.mg X.base CX k f fd ps sp) (hr : Room (k + 1) X.A) (bi : Binds X.K fd ps []) (hx : PassesAt CX X σ (E σ))
    (I : Inv X pins σ H s) (ra : Vals vs args) (h : ∀ y dy, H y = none → H dy = none → dy ≠ y → sp (.ref y :: vs) (upd (upd H dy (.own y)) y (.ins C dy [])) (fun v H2 => v = .non ∧ Q (.ref y) H2) (E σ)) :
    wpAny (model X.prog X.w) X.A (call (.ref C) args) (EP X pins σ Q) X.xe s := by
  have want := h (s.heap.objs.size + 1) s.heap.objs.size (I.hok.fresh (Nat.le_succ _)) (I.hok.fresh (Nat.le_refl _)) (Nat.ne_of_lt (Nat.lt_succ_self _))
  have J := Inv.made (C := C) I
  have rz : Vals (V.ref (s.heap.objs.size + 1) :: vs) (Value.ref (s.heap.objs.size + 1) :: args) := .cons rfl ra
  have hz : (Value.ref (s.heap.objs.size + 1) :: args).length = ps.length := by rw [← rz.length]; exact Fi.len _ _ _ _ want
  have bz := bi _ (Value.ref (s.heap.objs.size + 1) :: args) J.kIn (by rw [List.append_nil]; exact hz)
  rw [List.append_nil] at bz
  refine wpAny_call (make_map (f := f) I.kIn Mc.makes Mc.init (beq_iff_eq.mp Mc.fn) (codeAny_mono (Fi.run _ X.stack _ _ ⟨_, []⟩ _ _ _ (E σ) (hr.make C args []) (J.env0.make C args []) bz rz want) fun res s2 got => ?_))
  cases res with
  | error er => exact hx pins _ _ er s2 J got
  | ok fl =>
    cases fl with
    | ret u2 =>
      obtain ⟨v2, H2, J2, rv2, e2, q2⟩ := J.after got
      subst e2
      exact ⟨rv2, ⟨V.ref (s.heap.objs.size + 1), H2, J2, rfl, q2⟩⟩
    | _ => exact False.elim got
theorem pe_mkS (Mc : Mk X.K C f) (Fi : FnOk X.prog X.w X.K X.mg X.base CX k f fd ps sp) (hr : Room (k + 1) X.A) (hg : Gl X x) (hm : X.mg x = some (.ref C)) (bi : Binds X.K fd ps []) (hx : ∀ σ, PassesAt CX X σ (E σ)) (ha : PA X (e :: es) t)
    (hdb : (x == ("__debug__" : Str)) = false := by decide) (he : starEach (e :: es) X.env = (false, eval e X.env) :: starEach es X.env := by rfl) (hpl : (backTo pos (starEach es X.env)).any (·.1) = false := by rfl) :
    PE X (.Call (.Name x p) (e :: es) [] pos) (fun σ H Q => t σ H fun vs H1 => ∀ y dy, H1 y = none → H1 dy = none → dy ≠ y → sp (.ref y :: vs) (upd (upd H1 dy (.own y)) y (.ins C dy [])) (fun v H2 => v = .non ∧ Q (.ref y) H2) (E σ)) :=
  ⟨fun pins s σ H Q I h => wpAny_Call_Name_kw (ld_glob I hg hm (PySem.W.callWith_K (h₀ := X.base) I.ok.mod.kin Mc.kp (thn (ha.run pos pins s σ H _ I h) fun args s1 ⟨vs, H1, I1, r1, q1⟩ => ⟨I1.kIn, mkS_run Mc Fi hr bi (hx σ) I1 r1 q1⟩) he hpl) hdb)⟩
theorem pe_smS (he : PE X o (tC (.ref C))) (c : SMet X.K C m g) (F : FnOk X.prog X.w X.K X.mg X.base CX k g fd ps sp) (hr : Room k X.A) (hb : Binds X.K fd ps []) (hx : ∀ σ, PassesAt CX X σ (E σ)) (ha : PA X (e :: es) t)
    (hst : starEach (e :: es) X.env = (false, eval e X.env) :: starEach es X.env := by rfl) (hpl : (backTo pos (starEach es X.env)).any (·.1) = false := by rfl)
    (ht : eval (.Call (.Attribute o m apos) (e :: es) [] pos) X.env = (do
      let ov ← eval o X.env
      standAt apos.atName
      let (f, first) ← holding [ov] (getMethod ov m pl)
      callWith pos f first (backTo pos (starEach (e :: es) X.env)) (backToKw pos (keywordEach [] X.env))) := by rfl) :
    PE X (.Call (.Attribute o m apos) (e :: es) [] pos) (fun σ H Q => t σ H fun vs H1 => sp vs H1 Q (E σ)) := by
  refine ⟨fun pins s σ H Q I h => ?_⟩
  refine PySem.W.methodCall_KW (pl := pl) (thn (he.run pins s σ H (fun x H1 => x = .ref C ∧ H1 = H) I ⟨rfl, rfl⟩) fun u s1 ⟨x, H1, I1, rx, ex, eH⟩ => ?_) ht
  subst ex eH
  obtain rfl : u = Value.ref C := rx
  obtain ⟨mc, p, rest, c1, c2, c3, c4⟩ := c.ex
  refine PySem.W.method_cls I1.kIn c2 (PySem.W.cls_bind I1.kIn c1 c3 (wpAny_call (PySem.W.sm_get (s := { s1 with toks := s1.toks + 1 }) I1.kIn c4 (PySem.W.handed_on rfl ?_))))
  have I2 := I1.tok (s1.toks + 1)
  exact PySem.W.callWith_K (h₀ := X.base) I.ok.mod.kin c.kp (thn (ha.run pos pins _ σ _ _ I2 h) fun us s3 ⟨vs, H2, I3, rv, q2⟩ => ⟨I3.kIn, run_fnS F hr hb (hx σ) I3 rv q2⟩) hst hpl
end
/-- what __init__ raises -/
def spXI (K : PySem.W.Frag) (CT C : Addr) (Bad : D → Prop) : Sp := fun vs H _ E => ∃ (p dx : Addr) (v : V) (d : D), vs = [.ref p, v] ∧ H p = some (.ins CT dx []) ∧ RpI K H d v ∧ Bad d ∧ ∀ H', Ext H H' → E (.ref C) none H'
/-- what made raises -/
def spXM (K : PySem.W.Frag) (C0 C2 : Addr) (BadC OkC : D → Prop) (Bw : D → D → Prop) : Sp := fun vs H _ E => ∃ (b c : D) (u v : V), vs = [u, v] ∧ isL b = false ∧ isL c = false ∧ RpI K H b u ∧ RpI K H c v ∧
  ((BadC b ∧ ∀ H', Ext H H' → E (.ref C0) none H') ∨ (OkC b ∧ Bw b c ∧ ∀ H', Ext H H' → E (.ref C2) none H'))
theorem rep01 {K : PySem.W.Frag} {N : List Str} {H : Hp} {u v : V} {d : D} (hN : N.length = 2) (r : RpI K H d v) : Rep K 2 H (L2.start N [u, v]) H [none, some d] := by
  have hst : L2.start N [u, v] = [some u, some v] := by
    unfold L2.start
    simp [hN]
  rw [hst]
  have nl : isL d = false := r.immL
  refine ⟨rfl, fun i d' e => ?_, fun i j xs ys b e1 e2 => ?_, fun i xs b hi e => ?_, fun _ h => h⟩
  · match i, e with
    | 1, e =>
      simp at e
      subst e
      exact ⟨v, rfl, .of r⟩
    | i + 2, e => simp at e
  · match i, e1 with
    | 1, e1 =>
      simp at e1
      subst e1
      simp [isL] at nl
    | i + 2, e1 => simp at e1
  · match i, e with
    | 1, e => omega
    | i + 2, e => simp at e
theorem ext01 {K : PySem.W.Frag} {He H H1 : Hp} {σ : L2.St} {d : D} {e1 : DEnv} (nl : isL d = false) (s : SE K 2 He σ H [none, some d] H1 e1) : Ext H H1 := fun c o e => s.keep c o e fun ⟨i, xs, h, _⟩ => by
  match i, h with
  | 1, h =>
    simp at h
    subst h
    simp [isL] at nl
  | i + 2, h => simp at h
/-- what the classes are to an error of class C: which of the first three it is -/
structure XRow (K : PySem.W.Frag) (mg : Str → Option Value) (C S : Addr) (n : Nat) : Prop where
  ec : ExcC K C
  eS : PySem.W.exmOne K (.ref C) (.ref S) = some true
  kV : PySem.W.kitOne K (.ref C) (.type "ValueError") = some true
  NoCycle : XIn K mg C "NoCycle" (n == 0)
  NoTable : XIn K mg C "NoTable" (n == 1)
  NoWhen : XIn K mg C "NoWhen" (n == 2)
  DifferentCycles : XIn K mg C "DifferentCycles" false
  NoRow : XIn K mg C "NoRow" false
  OtherColumns : XIn K mg C "OtherColumns" false
  NoQuestion : XIn K mg C "NoQuestion" false
  BadText : XIn K mg C "BadText" false
  NoFact : XIn K mg C "NoFact" false
  NoKept : XIn K mg C "NoKept" false
  NoGuard : XIn K mg C "NoGuard" false
  Forbidden : XIn K mg C "Forbidden" false
theorem pss_alt3 {X : Cx} {b : List Stmt} {t1 t2 t3 : L2.TS} {p1 p2 p3 : Prop} (h1 : p1 → PSs X b t1) (h2 : p2 → PSs X b t2) (h3 : p3 → PSs X b t3) : PSs X b (fun D σ H => (p1 ∧ t1 D σ H) ∨ (p2 ∧ t2 D σ H) ∨ (p3 ∧ t3 D σ H)) :=
  ⟨fun pins s σ H D I q => q.elim (fun q => (h1 q.1).run pins s σ H D I q.2) fun q => q.elim (fun q => (h2 q.1).run pins s σ H D I q.2) fun q => (h3 q.1).run pins s σ H D I q.2⟩
theorem XRow.mk' {K : PySem.W.Frag} {mg : Str → Option Value} {C S : Addr} {n : Nat} (hg : PySem.W.findIn K (.ref C) "__getattribute__" = some (some (.builtin "BaseException.__getattribute__"))) (hk : PySem.W.findIn K (.ref C) "__getattr__" = some none) (hs : PySem.W.subIn K (.ref C) (.type "BaseException") = some true) (hd : PySem.W.hasDictIn K C = true)
    (ha : PySem.W.findIn K (.ref C) "__class__" = some (some (.builtin "object.__class__"))) (hn : PySem.W.specialIn K (.builtin "object.__class__") "__get__" = some (some (.builtin "getset_descriptor.__get__"))) (ht : PySem.W.takesIn K (.builtin "object.__class__") = some true) (hm : PySem.W.mroIn K C (.type "object") = some true)
    (sV : PySem.W.subIn K (.ref C) (.type "ValueError") = some true) (bS : PySem.W.subIn K (.ref S) (.type "BaseException") = some true) (dS : PySem.W.hasDictIn K S = true) (tS : PySem.W.typeIn K (.ref S) = some (.type "type")) (sS : PySem.W.subIn K (.ref C) (.ref S) = some true)
    (x0 : XIn K mg C "NoCycle" (n == 0)) (x1 : XIn K mg C "NoTable" (n == 1)) (x2 : XIn K mg C "NoWhen" (n == 2)) (x3 : XIn K mg C "DifferentCycles" false) (x4 : XIn K mg C "NoRow" false) (x5 : XIn K mg C "OtherColumns" false) (x6 : XIn K mg C "NoQuestion" false) (x7 : XIn K mg C "BadText" false) (x8 : XIn K mg C "NoFact" false) (x9 : XIn K mg C "NoKept" false) (x10 : XIn K mg C "NoGuard" false) (x11 : XIn K mg C "Forbidden" false) : XRow K mg C S n := ⟨⟨hg, hk, hs, hd, ha, hn, ht, hm⟩, PySem.W.exm_ref bS dS tS sS, kit_val sV, x0, x1, x2, x3, x4, x5, x6, x7, x8, x9, x10, x11⟩
def errT (n : Nat) : Str := if n = 0 then "cycle" else if n = 1 then "table" else "when"
/-- try: made(b, c) or C((b, c)); except ex as e: which class, in words -/
def cTryN (i j l m q : Nat) (Nm : D → D → Prop) (Ni : D → Prop) (BadC OkC : D → Prop) (Bw : D → D → Prop) (BadI : D → Prop) : WS := fun env K => ∃ (mk : Bool) (b c : D), env[i]? = some (some (.bl mk)) ∧ env[j]? = some (some b) ∧ env[l]? = some (some c) ∧ env[m]? = some none ∧ env[q]? = some none ∧ m ≠ q ∧ isL b = false ∧ isL c = false ∧ (∀ (l : Nat) (xs : List D), env[l]? ≠ some (some (D.lst xs))) ∧
  (if mk = true then (Nm b c ∧ K.nx env) ∨ (BadC b ∧ K.rt (.str (errT 0)) env) ∨ (OkC b ∧ Bw b c ∧ K.rt (.str (errT 2)) env)
   else (Ni (.tup [b, c]) ∧ K.nx env) ∨ (BadI (.tup [b, c]) ∧ K.rt (.str (errT 1)) env))
theorem SS.hid2 {K : PySem.W.Frag} {np m q : Nat} {He : Hp} {pr : List Nat} {σ : L2.St} {H H' : Hp} {env : DEnv} {v u : V} (R : Rep K np He σ H env) (nl : ∀ (i : Nat) (xs : List D), env[i]? ≠ some (some (D.lst xs))) (hm : env[m]? = some none) (hq : env[q]? = some none) (x : Ext H H') :
    SS K np He pr σ H env ((σ.set m (some v)).set q (some u)) H' env := by
  have s1 : SS K np He pr σ H env (σ.set m (some v)) H' env := SS.hid R nl hm x
  exact s1.trans (SS.hid s1.rep nl hq (Ext.refl H'))
theorem s_tryN {X : Cx} {np : Nat} {He : Hp} {pr : List Nat} {ki : Nat} {i j l m q : Nat} {C0 C1 C2 S CT fi : Addr} {fdi : FuncData} {psi : List Str} {BadC OkC BadI : D → Prop} {Bw : D → D → Prop} {spm : FSpec} {pre : D → Prop} {post : D → List D → Prop} {ex y z y0 n nn : Str} {p0 p1 p2 p3 p4 p5 p6 p7 p8 p9 p10 p11 p12 p13 p14 p15 p16 z0 z1 z2 z3 z4 z5 z6 z7 z8 z9 z10 z11 z12 z13 z14 z15 z16 z17 z18 z19 z20 z21 z22 z23 z24 z25 z26 z27 z28 z29 z30 z31 z32 z33 z34 z35 z36 z37 z38 z39 z40 z41 z42 z43 z44 z45 z46 z47 z48 z49 z50 z51 z52 z53 z54 z55 z56 z57 z58 z59 z60 z61 z62 z63 z64 z65 z66 z67 z68 z69 z70 z71 z72 z73 z74 z75 z76 z77 z78 z79 z80 z81 z82 z83 z84 z85 z86 z87 z88 z89 z90 z91 z92 z93 z94 z95 z96 z97 z98 z99 z100 z101 z102 : Pos} {j0 j1 j2 j3 j4 j5 j6 j7 t0 : Nat}
    (gS : X.mg ex = some (.ref S)) (Z0 : XRow X.K X.mg C0 S 0) (Z1 : XRow X.K X.mg C1 S 1) (Z2 : XRow X.K X.mg C2 S 2) (T : ClsT X.K X.mg 0 CT)
    (Mc : Mk X.K CT fi) (Fi : FnOk X.prog X.w X.K X.mg X.base (L2.CX X.prog X.w) ki fi fdi psi (fun vs H Q E => spIni X.K 0 CT pre post vs H Q E ∨ spXI X.K CT C1 BadI vs H Q E)) (bi : Binds X.K fdi psi []) (hri : Room (ki + 1) X.A) (hmi : X.mg "isinstance" = none) (hmv : X.mg "ValueError" = none)
    (hN : X.N.Nodup) (hi : X.N[m]? = some n := by rfl) (hln : X.env.kindOf n = some .local := by rfl) (hiq : X.N[q]? = some nn := by rfl) (hlq : Loc X.env.scope nn := by first | exact Or.inl rfl | exact Or.inr rfl) (hfq : X.fn nn = true ∨ X.env.scope.names.lookup nn = some .local := by first | exact .inl rfl | exact .inr rfl)
    (hs : X.stack = X.env :: X.outer := by rfl) (hf : X.env.frame = some X.env.locals := by rfl) (hg : Gl X ex := by rfl) (hde : (ex == ("__debug__" : Str)) = false := by decide) (hgt : Gl X "Times" := by rfl)
    (hgi : Gl X "isinstance" := by rfl) (hgv : Gl X "ValueError" := by rfl) (hgNoCycle : Gl X "NoCycle" := by rfl) (hgNoTable : Gl X "NoTable" := by rfl) (hgNoWhen : Gl X "NoWhen" := by rfl) (hgDifferentCycles : Gl X "DifferentCycles" := by rfl) (hgNoRow : Gl X "NoRow" := by rfl) (hgOtherColumns : Gl X "OtherColumns" := by rfl) (hgNoQuestion : Gl X "NoQuestion" := by rfl) (hgBadText : Gl X "BadText" := by rfl) (hgNoFact : Gl X "NoFact" := by rfl) (hgNoKept : Gl X "NoKept" := by rfl) (hgNoGuard : Gl X "NoGuard" := by rfl) (hgForbidden : Gl X "Forbidden" := by rfl)
    (hw : ∀ (W : WX) (pn : List (Addr × Obj)) (xe : Value → Shared → Prop), PE (X.tr pn xe) (.Name y0 p0) (tVar i)) (hy : ∀ (W : WX) (pn : List (Addr × Obj)) (xe : Value → Shared → Prop) (p : Pos), PE (X.tr pn xe) (.Name y p) (tVar j)) (hz : ∀ (W : WX) (pn : List (Addr × Obj)) (xe : Value → Shared → Prop) (p : Pos), PE (X.tr pn xe) (.Name z p) (tVar l))
    (hcal : ∀ (W : WX) (pn : List (Addr × Obj)) (xe : Value → Shared → Prop), Takes (X.tr pn xe) W → PE (X.tr pn xe) (.Call (.Attribute (.Name "Times" p3) "made" p4) [.Name y p1, .Name z p2] [] p5) (fun σ H Q => tCons (tVar j) (tCons (tVar l) tNil) σ H fun vs H1 => (fun vs H Q E => spOf X.K 2 spm vs H Q E ∨ spXM X.K C0 C2 BadC OkC Bw vs H Q E) vs H1 Q (WE W σ)))
    (hn : ∀ (a : Addr) (oe : Obj) (pn : List (Addr × Obj)) (q : Pos), PE (X.suite a ((a, oe) :: pn)) (.Name n q) (tVar m)) (hq : ∀ (a : Addr) (oe : Obj) (pn : List (Addr × Obj)) (p : Pos), PE (X.suite a ((a, oe) :: pn)) (.Name nn p) (tVar q)) :
    DS X np He pr (.Try [.If (.Name y0 p0) [.Expr (.Call (.Attribute (.Name "Times" p3) "made" p4) [.Name y p1, .Name z p2] [] p5) p7] [.Expr (.Call (.Name "Times" p8) [.Tuple [.Name y p11, .Name z p12] t0 p13] [] p14) p15] p16] [.ExceptHandler (some (.Name ex p6)) (some n)
      [.Assign [.Name nn z0] (.Constant (.str "") j0 z1) z2,
      .If (.Call (.Name "isinstance" z3) [.Name n z4, .Name "NoCycle" z5] [] z6) [.Assign [.Name nn z7] (.BinOp (.Name nn z8) .Add (.Constant (.str "cycle") j1 z9) z10) z11] [] z12,
      .If (.Call (.Name "isinstance" z13) [.Name n z14, .Name "NoTable" z15] [] z16) [.Assign [.Name nn z17] (.BinOp (.Name nn z18) .Add (.Constant (.str "table") j2 z19) z20) z21] [] z22,
      .If (.Call (.Name "isinstance" z23) [.Name n z24, .Name "NoWhen" z25] [] z26) [.Assign [.Name nn z27] (.BinOp (.Name nn z28) .Add (.Constant (.str "when") j3 z29) z30) z31] [] z32,
      .If (.BoolOp .Or [(.Call (.Name "isinstance" z33) [.Name n z34, .Name "DifferentCycles" z35] [] z36), (.Call (.Name "isinstance" z37) [.Name n z38, .Name "NoRow" z39] [] z40), (.Call (.Name "isinstance" z41) [.Name n z42, .Name "OtherColumns" z43] [] z44)] z45) [.Assign [.Name nn z46] (.BinOp (.Name nn z47) .Add (.Constant (.str "other") j4 z48) z49) z50] [] z51,
      .If (.BoolOp .Or [(.Call (.Name "isinstance" z52) [.Name n z53, .Name "NoQuestion" z54] [] z55), (.Call (.Name "isinstance" z56) [.Name n z57, .Name "BadText" z58] [] z59), (.Call (.Name "isinstance" z60) [.Name n z61, .Name "NoFact" z62] [] z63), (.Call (.Name "isinstance" z64) [.Name n z65, .Name "NoKept" z66] [] z67)] z68) [.Assign [.Name nn z69] (.BinOp (.Name nn z70) .Add (.Constant (.str "strange") j5 z71) z72) z73] [] z74,
      .If (.BoolOp .Or [(.Call (.Name "isinstance" z75) [.Name n z76, .Name "NoGuard" z77] [] z78), (.Call (.Name "isinstance" z79) [.Name n z80, .Name "Forbidden" z81] [] z82)] z83) [.Assign [.Name nn z84] (.BinOp (.Name nn z85) .Add (.Constant (.str "wrong") j6 z86) z87) z88] [] z89,
      .If (.UnaryOp .Not (.Call (.Name "isinstance" z90) [.Name n z91, .Name "ValueError" z92] [] z93) z94) [.Assign [.Name nn z95] (.BinOp (.Name nn z96) .Add (.Constant (.str "odd") j7 z97) z98) z99] [] z100,
      .Return (some (.Name nn z101)) z102] p9] [] [] p10) (cTryN i j l m q (fun b c => spm.pre [b, c]) pre BadC OkC Bw BadI) := by
  refine PS.weak (ps_try_as (i := m) hs hf hN hi hln ⟨hg, hde, .inl gS⟩ takes0 (fun W pn xe tk _ => pss_one (ps_if (pt_val (hw W pn xe)) (pss_one (ps_expr (hcal W pn xe tk)))
      (pss_one (ps_expr (pe_mkS Mc Fi hri hgt T.mg bi (fun σ => passAt tk σ) (pa_cons (pe_tup (pa_cons (hy W pn xe p11) (pa_cons (hz W pn xe p12) pa_nil))) pa_nil))))))
    (fun a oe cls d pn hzc hfc => pss_alt3 (p1 := cls = .ref C0 ∧ d = none) (p2 := cls = .ref C1 ∧ d = none) (p3 := cls = .ref C2 ∧ d = none) (fun ⟨e1, e2⟩ => by
      subst e1 e2
      exact pss_cons (ps_set (i := q) hN hiq hlq pe_str rfl hfq) (pss_cons (ps_if (pt_val (pe_isx Z0.ec Z0.NoCycle hzc hfc hmi hgi hgNoCycle (by decide) (hn a oe pn _) rfl rfl)) (pss_one (ps_set (i := q) hN hiq hlq (pe_op op_add_str (hq a oe pn _) pe_str) rfl hfq)) pss_nil) (pss_cons (ps_if (pt_val (pe_isx Z0.ec Z0.NoTable hzc hfc hmi hgi hgNoTable (by decide) (hn a oe pn _) rfl rfl)) (pss_one (ps_set (i := q) hN hiq hlq (pe_op op_add_str (hq a oe pn _) pe_str) rfl hfq)) pss_nil) (pss_cons (ps_if (pt_val (pe_isx Z0.ec Z0.NoWhen hzc hfc hmi hgi hgNoWhen (by decide) (hn a oe pn _) rfl rfl)) (pss_one (ps_set (i := q) hN hiq hlq (pe_op op_add_str (hq a oe pn _) pe_str) rfl hfq)) pss_nil) (pss_cons (ps_if (PW.pt (pw_or (pt_val (pe_isx Z0.ec Z0.DifferentCycles hzc hfc hmi hgi hgDifferentCycles (by decide) (hn a oe pn _) rfl rfl)) (pw_or (pt_val (pe_isx Z0.ec Z0.NoRow hzc hfc hmi hgi hgNoRow (by decide) (hn a oe pn _) rfl rfl)) (pw_or1 (pt_val (pe_isx Z0.ec Z0.OtherColumns hzc hfc hmi hgi hgOtherColumns (by decide) (hn a oe pn _) rfl rfl)))))) (pss_one (ps_set (i := q) hN hiq hlq (pe_op op_add_str (hq a oe pn _) pe_str) rfl hfq)) pss_nil) (pss_cons (ps_if (PW.pt (pw_or (pt_val (pe_isx Z0.ec Z0.NoQuestion hzc hfc hmi hgi hgNoQuestion (by decide) (hn a oe pn _) rfl rfl)) (pw_or (pt_val (pe_isx Z0.ec Z0.BadText hzc hfc hmi hgi hgBadText (by decide) (hn a oe pn _) rfl rfl)) (pw_or (pt_val (pe_isx Z0.ec Z0.NoFact hzc hfc hmi hgi hgNoFact (by decide) (hn a oe pn _) rfl rfl)) (pw_or1 (pt_val (pe_isx Z0.ec Z0.NoKept hzc hfc hmi hgi hgNoKept (by decide) (hn a oe pn _) rfl rfl))))))) (pss_one (ps_set (i := q) hN hiq hlq (pe_op op_add_str (hq a oe pn _) pe_str) rfl hfq)) pss_nil) (pss_cons (ps_if (PW.pt (pw_or (pt_val (pe_isx Z0.ec Z0.NoGuard hzc hfc hmi hgi hgNoGuard (by decide) (hn a oe pn _) rfl rfl)) (pw_or1 (pt_val (pe_isx Z0.ec Z0.Forbidden hzc hfc hmi hgi hgForbidden (by decide) (hn a oe pn _) rfl rfl))))) (pss_one (ps_set (i := q) hN hiq hlq (pe_op op_add_str (hq a oe pn _) pe_str) rfl hfq)) pss_nil) (pss_cons (ps_if (pt_not (pt_val (pe_callB (call_isE Z0.ec hzc hfc) hgi hmi (by decide +kernel) (pa_cons (hn a oe pn _) (pa_cons (pe_bltn (v := .ty "ValueError") hgv hmv (by decide +kernel) rfl (by decide) (by decide)) pa_nil))))) (pss_one (ps_set (i := q) hN hiq hlq (pe_op op_add_str (hq a oe pn _) pe_str) rfl hfq)) pss_nil) (pss_one (ps_ret (hq a oe pn _))))))))))) (fun ⟨e1, e2⟩ => by
      subst e1 e2
      exact pss_cons (ps_set (i := q) hN hiq hlq pe_str rfl hfq) (pss_cons (ps_if (pt_val (pe_isx Z1.ec Z1.NoCycle hzc hfc hmi hgi hgNoCycle (by decide) (hn a oe pn _) rfl rfl)) (pss_one (ps_set (i := q) hN hiq hlq (pe_op op_add_str (hq a oe pn _) pe_str) rfl hfq)) pss_nil) (pss_cons (ps_if (pt_val (pe_isx Z1.ec Z1.NoTable hzc hfc hmi hgi hgNoTable (by decide) (hn a oe pn _) rfl rfl)) (pss_one (ps_set (i := q) hN hiq hlq (pe_op op_add_str (hq a oe pn _) pe_str) rfl hfq)) pss_nil) (pss_cons (ps_if (pt_val (pe_isx Z1.ec Z1.NoWhen hzc hfc hmi hgi hgNoWhen (by decide) (hn a oe pn _) rfl rfl)) (pss_one (ps_set (i := q) hN hiq hlq (pe_op op_add_str (hq a oe pn _) pe_str) rfl hfq)) pss_nil) (pss_cons (ps_if (PW.pt (pw_or (pt_val (pe_isx Z1.ec Z1.DifferentCycles hzc hfc hmi hgi hgDifferentCycles (by decide) (hn a oe pn _) rfl rfl)) (pw_or (pt_val (pe_isx Z1.ec Z1.NoRow hzc hfc hmi hgi hgNoRow (by decide) (hn a oe pn _) rfl rfl)) (pw_or1 (pt_val (pe_isx Z1.ec Z1.OtherColumns hzc hfc hmi hgi hgOtherColumns (by decide) (hn a oe pn _) rfl rfl)))))) (pss_one (ps_set (i := q) hN hiq hlq (pe_op op_add_str (hq a oe pn _) pe_str) rfl hfq)) pss_nil) (pss_cons (ps_if (PW.pt (pw_or (pt_val (pe_isx Z1.ec Z1.NoQuestion hzc hfc hmi hgi hgNoQuestion (by decide) (hn a oe pn _) rfl rfl)) (pw_or (pt_val (pe_isx Z1.ec Z1.BadText hzc hfc hmi hgi hgBadText (by decide) (hn a oe pn _) rfl rfl)) (pw_or (pt_val (pe_isx Z1.ec Z1.NoFact hzc hfc hmi hgi hgNoFact (by decide) (hn a oe pn _) rfl rfl)) (pw_or1 (pt_val (pe_isx Z1.ec Z1.NoKept hzc hfc hmi hgi hgNoKept (by decide) (hn a oe pn _) rfl rfl))))))) (pss_one (ps_set (i := q) hN hiq hlq (pe_op op_add_str (hq a oe pn _) pe_str) rfl hfq)) pss_nil) (pss_cons (ps_if (PW.pt (pw_or (pt_val (pe_isx Z1.ec Z1.NoGuard hzc hfc hmi hgi hgNoGuard (by decide) (hn a oe pn _) rfl rfl)) (pw_or1 (pt_val (pe_isx Z1.ec Z1.Forbidden hzc hfc hmi hgi hgForbidden (by decide) (hn a oe pn _) rfl rfl))))) (pss_one (ps_set (i := q) hN hiq hlq (pe_op op_add_str (hq a oe pn _) pe_str) rfl hfq)) pss_nil) (pss_cons (ps_if (pt_not (pt_val (pe_callB (call_isE Z1.ec hzc hfc) hgi hmi (by decide +kernel) (pa_cons (hn a oe pn _) (pa_cons (pe_bltn (v := .ty "ValueError") hgv hmv (by decide +kernel) rfl (by decide) (by decide)) pa_nil))))) (pss_one (ps_set (i := q) hN hiq hlq (pe_op op_add_str (hq a oe pn _) pe_str) rfl hfq)) pss_nil) (pss_one (ps_ret (hq a oe pn _))))))))))) (fun ⟨e1, e2⟩ => by
      subst e1 e2
      exact pss_cons (ps_set (i := q) hN hiq hlq pe_str rfl hfq) (pss_cons (ps_if (pt_val (pe_isx Z2.ec Z2.NoCycle hzc hfc hmi hgi hgNoCycle (by decide) (hn a oe pn _) rfl rfl)) (pss_one (ps_set (i := q) hN hiq hlq (pe_op op_add_str (hq a oe pn _) pe_str) rfl hfq)) pss_nil) (pss_cons (ps_if (pt_val (pe_isx Z2.ec Z2.NoTable hzc hfc hmi hgi hgNoTable (by decide) (hn a oe pn _) rfl rfl)) (pss_one (ps_set (i := q) hN hiq hlq (pe_op op_add_str (hq a oe pn _) pe_str) rfl hfq)) pss_nil) (pss_cons (ps_if (pt_val (pe_isx Z2.ec Z2.NoWhen hzc hfc hmi hgi hgNoWhen (by decide) (hn a oe pn _) rfl rfl)) (pss_one (ps_set (i := q) hN hiq hlq (pe_op op_add_str (hq a oe pn _) pe_str) rfl hfq)) pss_nil) (pss_cons (ps_if (PW.pt (pw_or (pt_val (pe_isx Z2.ec Z2.DifferentCycles hzc hfc hmi hgi hgDifferentCycles (by decide) (hn a oe pn _) rfl rfl)) (pw_or (pt_val (pe_isx Z2.ec Z2.NoRow hzc hfc hmi hgi hgNoRow (by decide) (hn a oe pn _) rfl rfl)) (pw_or1 (pt_val (pe_isx Z2.ec Z2.OtherColumns hzc hfc hmi hgi hgOtherColumns (by decide) (hn a oe pn _) rfl rfl)))))) (pss_one (ps_set (i := q) hN hiq hlq (pe_op op_add_str (hq a oe pn _) pe_str) rfl hfq)) pss_nil) (pss_cons (ps_if (PW.pt (pw_or (pt_val (pe_isx Z2.ec Z2.NoQuestion hzc hfc hmi hgi hgNoQuestion (by decide) (hn a oe pn _) rfl rfl)) (pw_or (pt_val (pe_isx Z2.ec Z2.BadText hzc hfc hmi hgi hgBadText (by decide) (hn a oe pn _) rfl rfl)) (pw_or (pt_val (pe_isx Z2.ec Z2.NoFact hzc hfc hmi hgi hgNoFact (by decide) (hn a oe pn _) rfl rfl)) (pw_or1 (pt_val (pe_isx Z2.ec Z2.NoKept hzc hfc hmi hgi hgNoKept (by decide) (hn a oe pn _) rfl rfl))))))) (pss_one (ps_set (i := q) hN hiq hlq (pe_op op_add_str (hq a oe pn _) pe_str) rfl hfq)) pss_nil) (pss_cons (ps_if (PW.pt (pw_or (pt_val (pe_isx Z2.ec Z2.NoGuard hzc hfc hmi hgi hgNoGuard (by decide) (hn a oe pn _) rfl rfl)) (pw_or1 (pt_val (pe_isx Z2.ec Z2.Forbidden hzc hfc hmi hgi hgForbidden (by decide) (hn a oe pn _) rfl rfl))))) (pss_one (ps_set (i := q) hN hiq hlq (pe_op op_add_str (hq a oe pn _) pe_str) rfl hfq)) pss_nil) (pss_cons (ps_if (pt_not (pt_val (pe_callB (call_isE Z2.ec hzc hfc) hgi hmi (by decide +kernel) (pa_cons (hn a oe pn _) (pa_cons (pe_bltn (v := .ty "ValueError") hgv hmv (by decide +kernel) rfl (by decide) (by decide)) pa_nil))))) (pss_one (ps_set (i := q) hN hiq hlq (pe_op op_add_str (hq a oe pn _) pe_str) rfl hfq)) pss_nil) (pss_one (ps_ret (hq a oe pn _))))))))))))) fun D σ H ⟨env, K0, R, ⟨mk, b, c, e0, e1, e2, em, eq, mq, lb, lc, nl, w⟩, g⟩ => ?_
  obtain ⟨v0, s0, r0⟩ := R.val i _ e0
  obtain ⟨v1, s1, r1⟩ := R.val j _ e1
  obtain ⟨v2, s2, r2⟩ := R.val l _ e2
  cases r0
  have hml : m < σ.length := by
    rw [R.len]
    exact (List.getElem?_eq_some_iff.mp em).1
  have hql : q < σ.length := by
    rw [R.len]
    exact (List.getElem?_eq_some_iff.mp eq).1
  have i1 := r1.imm lb
  have i2 := r2.imm lc
  refine ⟨.bl mk, s0, ?_⟩
  have fr : ∀ (H2 : Hp), Ext H H2 → SS X.K np He pr σ H env σ H2 env := fun H2 x => (SE.ext R x).ss R
  have emA : ∀ (a0 : Addr) (x : V), ((σ.set m (some (.ref a0))).set q (some x))[m]? = some (some (.ref a0)) := fun a0 x => by rw [List.getElem?_set_ne (fun e => mq e.symm)]; exact List.getElem?_set_self hml
  have emB : ∀ (a0 : Addr) (x y : V), (((σ.set m (some (.ref a0))).set q (some x)).set q (some y))[m]? = some (some (.ref a0)) := fun a0 x y => by rw [List.getElem?_set_ne (fun e => mq e.symm)]; exact emA a0 x
  have eqA : ∀ (a0 : Addr) (x : V), ((σ.set m (some (.ref a0))).set q (some x))[q]? = some (some x) := fun a0 x => List.getElem?_set_self (by rw [List.length_set]; exact hql)
  have eqB : ∀ (a0 : Addr) (x y : V), (((σ.set m (some (.ref a0))).set q (some x)).set q (some y))[q]? = some (some y) := fun a0 x y => List.getElem?_set_self (by rw [List.length_set, List.length_set]; exact hql)
  have fin : ∀ (H' : Hp) (a0 : Addr) (x y : V), Ext H H' → SS X.K np He pr σ H env (((σ.set m (some (.ref a0))).set q (some x)).set q (some y)) H' env := fun H' a0 x y e => by
    have t2 := SS.hid2 (pr := pr) (v := .ref a0) (u := x) R nl em eq e
    exact t2.trans (SS.hid t2.rep nl eq (Ext.refl H'))
  cases mk
  · refine ⟨false, rfl, ?_⟩
    dsimp only
    rw [if_neg Bool.false_ne_true]
    rw [if_neg Bool.false_ne_true] at w
    refine ⟨v1, s1, v2, s2, by show 2 ≤ sizeLine; decide, fun tp htp => ?_⟩
    intro y dy hy' hdy hne
    have x1 : Ext H (upd H tp (.tup [v1, v2])) := .new htp
    have rd : RpI X.K (upd H tp (.tup [v1, v2])) (.tup [b, c]) (.ref tp) := by
      simp only [RpI, RpIs]
      exact ⟨tp, _, rfl, upd_same, v1, [v2], rfl, RpI.kp x1.kp _ _ i1, v2, [], rfl, RpI.kp x1.kp _ _ i2, rfl⟩
    rcases w with ⟨ni, w⟩ | ⟨bad, w⟩
    · exact .inl (mk_read T (R := fun _ H2 => D.nx σ H2) rd ni (fun x H2 ds po ex rx => g.nx env σ H2 w (fr H2 fun b o z => ex b o (x1 b o z))) y dy hy' hdy hne)
    · have x2 : Ext (upd H tp (.tup [v1, v2])) (upd (upd (upd H tp (.tup [v1, v2])) dy (.own y)) y (.ins CT dy [])) := fun b o h => by
        rw [upd_ne (fun z => by rw [z, hy'] at h; cases h), upd_ne (fun z => by rw [z, hdy] at h; cases h)]
        exact h
      refine .inr ⟨y, dy, .ref tp, .tup [b, c], rfl, upd_same, RpI.kp x2.kp _ _ rd, bad, fun H' e3 => ?_⟩
      have ext : Ext H H' := fun b o z => e3 b o (x2 b o (x1 b o z))
      refine ⟨true, Z1.eS, fun _ a0 ha0 => ?_, fun q => nomatch q⟩
      refine .inr (.inl ⟨⟨rfl, rfl⟩, ?_⟩)
      refine ⟨(emA a0 (.str "")), false, rfl, ?_⟩
      dsimp only
      rw [if_neg Bool.false_ne_true]
      refine ⟨(emA a0 (.str "")), true, rfl, ?_⟩
      dsimp only
      rw [if_pos rfl]
      refine ⟨.str "", eqA a0 _, ?_⟩
      refine ⟨_, _, rfl, rfl, by decide, ?_⟩
      refine ⟨(emB a0 (.str "") (.str ("" ++ "table"))), false, rfl, ?_⟩
      dsimp only
      rw [if_neg Bool.false_ne_true]
      refine ⟨(emB a0 (.str "") (.str ("" ++ "table"))), false, rfl, ?_⟩
      dsimp only
      rw [if_neg Bool.false_ne_true]
      refine ⟨(emB a0 (.str "") (.str ("" ++ "table"))), false, rfl, ?_⟩
      dsimp only
      rw [if_neg Bool.false_ne_true]
      refine ⟨(emB a0 (.str "") (.str ("" ++ "table"))), false, rfl, ?_⟩
      dsimp only
      rw [if_neg Bool.false_ne_true]
      refine ⟨(emB a0 (.str "") (.str ("" ++ "table"))), false, rfl, ?_⟩
      dsimp only
      rw [if_neg Bool.false_ne_true]
      refine ⟨(emB a0 (.str "") (.str ("" ++ "table"))), false, rfl, ?_⟩
      dsimp only
      rw [if_neg Bool.false_ne_true]
      refine ⟨(emB a0 (.str "") (.str ("" ++ "table"))), false, rfl, ?_⟩
      dsimp only
      rw [if_neg Bool.false_ne_true]
      refine ⟨(emB a0 (.str "") (.str ("" ++ "table"))), false, rfl, ?_⟩
      dsimp only
      rw [if_neg Bool.false_ne_true]
      refine ⟨(emB a0 (.str "") (.str ("" ++ "table"))), false, rfl, ?_⟩
      dsimp only
      rw [if_neg Bool.false_ne_true]
      refine ⟨(emB a0 (.str "") (.str ("" ++ "table"))), false, rfl, ?_⟩
      dsimp only
      rw [if_neg Bool.false_ne_true]
      refine ⟨.ref a0, emB a0 (.str "") (.str ("" ++ "table")), .ty "ValueError", .type "ValueError", true, rfl, fun u r => by cases r; rfl, Z1.kV, true, rfl, ?_⟩
      dsimp only [Bool.not_true]
      rw [if_neg (by decide)]
      refine ⟨.str ("" ++ "table"), eqB a0 (.str "") (.str ("" ++ "table")), ?_⟩
      exact g.rt (.str (errT 1)) env _ H' _ w (fin H' a0 (.str "") (.str ("" ++ "table")) ext) (by rfl) fun n => by simp [isL] at n
  · refine ⟨true, rfl, ?_⟩
    dsimp only
    rw [if_pos rfl]
    rw [if_pos rfl] at w
    refine ⟨v1, s1, v2, s2, ?_⟩
    rcases w with ⟨nm, w⟩ | ⟨bad, w⟩ | ⟨ok, bad, w⟩
    · exact .inl ⟨[b, c], rfl, ⟨v1, [v2], rfl, r1, v2, [], rfl, r2, rfl⟩, apA2 lb lc, nm, fun r ds' v' H' po A rv frs => g.nx env σ H' w (fr H' (A.ext (by
        intro d hd
        simp only [List.mem_cons, List.not_mem_nil, or_false] at hd
        rcases hd with rfl | rfl
        · exact lb
        · exact lc)))⟩
    · refine .inr ⟨b, c, v1, v2, rfl, lb, lc, i1, i2, .inl ⟨bad, fun H' ext => ?_⟩⟩
      refine ⟨true, Z0.eS, fun _ a0 ha0 => ?_, fun q => nomatch q⟩
      refine .inl ⟨⟨rfl, rfl⟩, ?_⟩
      refine ⟨(emA a0 (.str "")), true, rfl, ?_⟩
      dsimp only
      rw [if_pos rfl]
      refine ⟨.str "", eqA a0 _, ?_⟩
      refine ⟨_, _, rfl, rfl, by decide, ?_⟩
      refine ⟨(emB a0 (.str "") (.str ("" ++ "cycle"))), false, rfl, ?_⟩
      dsimp only
      rw [if_neg Bool.false_ne_true]
      refine ⟨(emB a0 (.str "") (.str ("" ++ "cycle"))), false, rfl, ?_⟩
      dsimp only
      rw [if_neg Bool.false_ne_true]
      refine ⟨(emB a0 (.str "") (.str ("" ++ "cycle"))), false, rfl, ?_⟩
      dsimp only
      rw [if_neg Bool.false_ne_true]
      refine ⟨(emB a0 (.str "") (.str ("" ++ "cycle"))), false, rfl, ?_⟩
      dsimp only
      rw [if_neg Bool.false_ne_true]
      refine ⟨(emB a0 (.str "") (.str ("" ++ "cycle"))), false, rfl, ?_⟩
      dsimp only
      rw [if_neg Bool.false_ne_true]
      refine ⟨(emB a0 (.str "") (.str ("" ++ "cycle"))), false, rfl, ?_⟩
      dsimp only
      rw [if_neg Bool.false_ne_true]
      refine ⟨(emB a0 (.str "") (.str ("" ++ "cycle"))), false, rfl, ?_⟩
      dsimp only
      rw [if_neg Bool.false_ne_true]
      refine ⟨(emB a0 (.str "") (.str ("" ++ "cycle"))), false, rfl, ?_⟩
      dsimp only
      rw [if_neg Bool.false_ne_true]
      refine ⟨(emB a0 (.str "") (.str ("" ++ "cycle"))), false, rfl, ?_⟩
      dsimp only
      rw [if_neg Bool.false_ne_true]
      refine ⟨(emB a0 (.str "") (.str ("" ++ "cycle"))), false, rfl, ?_⟩
      dsimp only
      rw [if_neg Bool.false_ne_true]
      refine ⟨(emB a0 (.str "") (.str ("" ++ "cycle"))), false, rfl, ?_⟩
      dsimp only
      rw [if_neg Bool.false_ne_true]
      refine ⟨.ref a0, emB a0 (.str "") (.str ("" ++ "cycle")), .ty "ValueError", .type "ValueError", true, rfl, fun u r => by cases r; rfl, Z0.kV, true, rfl, ?_⟩
      dsimp only [Bool.not_true]
      rw [if_neg (by decide)]
      refine ⟨.str ("" ++ "cycle"), eqB a0 (.str "") (.str ("" ++ "cycle")), ?_⟩
      exact g.rt (.str (errT 0)) env _ H' _ w (fin H' a0 (.str "") (.str ("" ++ "cycle")) ext) (by rfl) fun n => by simp [isL] at n
    · refine .inr ⟨b, c, v1, v2, rfl, lb, lc, i1, i2, .inr ⟨ok, bad, fun H' ext => ?_⟩⟩
      refine ⟨true, Z2.eS, fun _ a0 ha0 => ?_, fun q => nomatch q⟩
      refine .inr (.inr ⟨⟨rfl, rfl⟩, ?_⟩)
      refine ⟨(emA a0 (.str "")), false, rfl, ?_⟩
      dsimp only
      rw [if_neg Bool.false_ne_true]
      refine ⟨(emA a0 (.str "")), false, rfl, ?_⟩
      dsimp only
      rw [if_neg Bool.false_ne_true]
      refine ⟨(emA a0 (.str "")), true, rfl, ?_⟩
      dsimp only
      rw [if_pos rfl]
      refine ⟨.str "", eqA a0 _, ?_⟩
      refine ⟨_, _, rfl, rfl, by decide, ?_⟩
      refine ⟨(emB a0 (.str "") (.str ("" ++ "when"))), false, rfl, ?_⟩
      dsimp only
      rw [if_neg Bool.false_ne_true]
      refine ⟨(emB a0 (.str "") (.str ("" ++ "when"))), false, rfl, ?_⟩
      dsimp only
      rw [if_neg Bool.false_ne_true]
      refine ⟨(emB a0 (.str "") (.str ("" ++ "when"))), false, rfl, ?_⟩
      dsimp only
      rw [if_neg Bool.false_ne_true]
      refine ⟨(emB a0 (.str "") (.str ("" ++ "when"))), false, rfl, ?_⟩
      dsimp only
      rw [if_neg Bool.false_ne_true]
      refine ⟨(emB a0 (.str "") (.str ("" ++ "when"))), false, rfl, ?_⟩
      dsimp only
      rw [if_neg Bool.false_ne_true]
      refine ⟨(emB a0 (.str "") (.str ("" ++ "when"))), false, rfl, ?_⟩
      dsimp only
      rw [if_neg Bool.false_ne_true]
      refine ⟨(emB a0 (.str "") (.str ("" ++ "when"))), false, rfl, ?_⟩
      dsimp only
      rw [if_neg Bool.false_ne_true]
      refine ⟨(emB a0 (.str "") (.str ("" ++ "when"))), false, rfl, ?_⟩
      dsimp only
      rw [if_neg Bool.false_ne_true]
      refine ⟨(emB a0 (.str "") (.str ("" ++ "when"))), false, rfl, ?_⟩
      dsimp only
      rw [if_neg Bool.false_ne_true]
      refine ⟨.ref a0, emB a0 (.str "") (.str ("" ++ "when")), .ty "ValueError", .type "ValueError", true, rfl, fun u r => by cases r; rfl, Z2.kV, true, rfl, ?_⟩
      dsimp only [Bool.not_true]
      rw [if_neg (by decide)]
      refine ⟨.str ("" ++ "when"), eqB a0 (.str "") (.str ("" ++ "when")), ?_⟩
      exact g.rt (.str (errT 2)) env _ H' _ w (fin H' a0 (.str "") (.str ("" ++ "when")) ext) (by rfl) fun n => by simp [isL] at n
theorem cal_sm {X : Cx} {W : WX} {pn : List (Addr × Obj)} {xe : Value → Shared → Prop} {C0 C2 CT fm : Addr} {fdm : FuncData} {psm : List Str} {km j l : Nat} {spm : FSpec} {BadC OkC : D → Prop} {Bw : D → D → Prop} {y z : Str} {p1 p2 p3 p4 p5 : Pos} {pl : Sem Bool} (T : ClsT X.K X.mg 0 CT) (SM : SMet X.K CT "made" fm)
    (Fm : FnOk X.prog X.w X.K X.mg X.base (L2.CX X.prog X.w) km fm fdm psm (fun vs H Q E => spOf X.K 2 spm vs H Q E ∨ spXM X.K C0 C2 BadC OkC Bw vs H Q E)) (bm : Binds X.K fdm psm []) (hr : Room km X.A) (tk : Takes (X.tr pn xe) W)
    (hj : PE (X.tr pn xe) (.Name y p1) (tVar j)) (hl : PE (X.tr pn xe) (.Name z p2) (tVar l)) (hg : Gl (X.tr pn xe) "Times" := by rfl) (h1 : starEach [.Name y p1, .Name z p2] (X.tr pn xe).env = (false, eval (.Name y p1) (X.tr pn xe).env) :: starEach [.Name z p2] (X.tr pn xe).env := by rfl)
    (h2 : starEach [.Name z p2] (X.tr pn xe).env = (false, eval (.Name z p2) (X.tr pn xe).env) :: starEach [] (X.tr pn xe).env := by rfl) (h3 : (backTo p5 (starEach [.Name z p2] (X.tr pn xe).env)).any (·.1) = false := by rfl)
    (ht : eval (.Call (.Attribute (.Name "Times" p3) "made" p4) [.Name y p1, .Name z p2] [] p5) (X.tr pn xe).env = (do
      let ov ← eval (.Name "Times" p3) (X.tr pn xe).env
      standAt p4.atName
      let (f, first) ← holding [ov] (getMethod ov "made" pl)
      callWith p5 f first (backTo p5 (starEach [.Name y p1, .Name z p2] (X.tr pn xe).env)) (backToKw p5 (keywordEach [] (X.tr pn xe).env))) := by rfl) :
    PE (X.tr pn xe) (.Call (.Attribute (.Name "Times" p3) "made" p4) [.Name y p1, .Name z p2] [] p5) (fun σ H Q => tCons (tVar j) (tCons (tVar l) tNil) σ H fun vs H1 => (fun vs H Q E => spOf X.K 2 spm vs H Q E ∨ spXM X.K C0 C2 BadC OkC Bw vs H Q E) vs H1 Q (WE W σ)) :=
  pe_smS (X := X.tr pn xe) (E := WE W) (sp := fun vs H Q E => spOf X.K 2 spm vs H Q E ∨ spXM X.K C0 C2 BadC OkC Bw vs H Q E) (C8.pe_gc (X := X.tr pn xe) (x := "Times") (v := V.ref CT) hg ⟨_, T.mg, rfl⟩ (by decide)) SM Fm hr bm (fun σ => passAt tk σ) (pa_cons hj (pa_cons hl pa_nil h2) h1) h1 h3 ht
theorem XRow.mk0 {K : PySem.W.Frag} {mg : Str → Option Value} {C S : Addr} (hg : PySem.W.findIn K (.ref C) "__getattribute__" = some (some (.builtin "BaseException.__getattribute__"))) (hk : PySem.W.findIn K (.ref C) "__getattr__" = some none) (hs : PySem.W.subIn K (.ref C) (.type "BaseException") = some true) (hd : PySem.W.hasDictIn K C = true)
    (ha : PySem.W.findIn K (.ref C) "__class__" = some (some (.builtin "object.__class__"))) (hn : PySem.W.specialIn K (.builtin "object.__class__") "__get__" = some (some (.builtin "getset_descriptor.__get__"))) (ht : PySem.W.takesIn K (.builtin "object.__class__") = some true) (hm : PySem.W.mroIn K C (.type "object") = some true)
    (sV : PySem.W.subIn K (.ref C) (.type "ValueError") = some true) (bS : PySem.W.subIn K (.ref S) (.type "BaseException") = some true) (dS : PySem.W.hasDictIn K S = true) (tS : PySem.W.typeIn K (.ref S) = some (.type "type")) (sS : PySem.W.subIn K (.ref C) (.ref S) = some true)
    (x0 : XIn K mg C "NoCycle" true) (x1 : XIn K mg C "NoTable" false) (x2 : XIn K mg C "NoWhen" false) (x3 : XIn K mg C "DifferentCycles" false) (x4 : XIn K mg C "NoRow" false) (x5 : XIn K mg C "OtherColumns" false) (x6 : XIn K mg C "NoQuestion" false) (x7 : XIn K mg C "BadText" false) (x8 : XIn K mg C "NoFact" false) (x9 : XIn K mg C "NoKept" false) (x10 : XIn K mg C "NoGuard" false) (x11 : XIn K mg C "Forbidden" false) : XRow K mg C S 0 := XRow.mk' hg hk hs hd ha hn ht hm sV bS dS tS sS x0 x1 x2 x3 x4 x5 x6 x7 x8 x9 x10 x11
theorem XRow.mk1 {K : PySem.W.Frag} {mg : Str → Option Value} {C S : Addr} (hg : PySem.W.findIn K (.ref C) "__getattribute__" = some (some (.builtin "BaseException.__getattribute__"))) (hk : PySem.W.findIn K (.ref C) "__getattr__" = some none) (hs : PySem.W.subIn K (.ref C) (.type "BaseException") = some true) (hd : PySem.W.hasDictIn K C = true)
    (ha : PySem.W.findIn K (.ref C) "__class__" = some (some (.builtin "object.__class__"))) (hn : PySem.W.specialIn K (.builtin "object.__class__") "__get__" = some (some (.builtin "getset_descriptor.__get__"))) (ht : PySem.W.takesIn K (.builtin "object.__class__") = some true) (hm : PySem.W.mroIn K C (.type "object") = some true)
    (sV : PySem.W.subIn K (.ref C) (.type "ValueError") = some true) (bS : PySem.W.subIn K (.ref S) (.type "BaseException") = some true) (dS : PySem.W.hasDictIn K S = true) (tS : PySem.W.typeIn K (.ref S) = some (.type "type")) (sS : PySem.W.subIn K (.ref C) (.ref S) = some true)
    (x0 : XIn K mg C "NoCycle" false) (x1 : XIn K mg C "NoTable" true) (x2 : XIn K mg C "NoWhen" false) (x3 : XIn K mg C "DifferentCycles" false) (x4 : XIn K mg C "NoRow" false) (x5 : XIn K mg C "OtherColumns" false) (x6 : XIn K mg C "NoQuestion" false) (x7 : XIn K mg C "BadText" false) (x8 : XIn K mg C "NoFact" false) (x9 : XIn K mg C "NoKept" false) (x10 : XIn K mg C "NoGuard" false) (x11 : XIn K mg C "Forbidden" false) : XRow K mg C S 1 := XRow.mk' hg hk hs hd ha hn ht hm sV bS dS tS sS x0 x1 x2 x3 x4 x5 x6 x7 x8 x9 x10 x11
theorem XRow.mk2 {K : PySem.W.Frag} {mg : Str → Option Value} {C S : Addr} (hg : PySem.W.findIn K (.ref C) "__getattribute__" = some (some (.builtin "BaseException.__getattribute__"))) (hk : PySem.W.findIn K (.ref C) "__getattr__" = some none) (hs : PySem.W.subIn K (.ref C) (.type "BaseException") = some true) (hd : PySem.W.hasDictIn K C = true)
    (ha : PySem.W.findIn K (.ref C) "__class__" = some (some (.builtin "object.__class__"))) (hn : PySem.W.specialIn K (.builtin "object.__class__") "__get__" = some (some (.builtin "getset_descriptor.__get__"))) (ht : PySem.W.takesIn K (.builtin "object.__class__") = some true) (hm : PySem.W.mroIn K C (.type "object") = some true)
    (sV : PySem.W.subIn K (.ref C) (.type "ValueError") = some true) (bS : PySem.W.subIn K (.ref S) (.type "BaseException") = some true) (dS : PySem.W.hasDictIn K S = true) (tS : PySem.W.typeIn K (.ref S) = some (.type "type")) (sS : PySem.W.subIn K (.ref C) (.ref S) = some true)
    (x0 : XIn K mg C "NoCycle" false) (x1 : XIn K mg C "NoTable" false) (x2 : XIn K mg C "NoWhen" true) (x3 : XIn K mg C "DifferentCycles" false) (x4 : XIn K mg C "NoRow" false) (x5 : XIn K mg C "OtherColumns" false) (x6 : XIn K mg C "NoQuestion" false) (x7 : XIn K mg C "BadText" false) (x8 : XIn K mg C "NoFact" false) (x9 : XIn K mg C "NoKept" false) (x10 : XIn K mg C "NoGuard" false) (x11 : XIn K mg C "Forbidden" false) : XRow K mg C S 2 := XRow.mk' hg hk hs hd ha hn ht hm sV bS dS tS sS x0 x1 x2 x3 x4 x5 x6 x7 x8 x9 x10 x11
end DL

namespace DL
open PySem PySem.Spec PyProof.Rows L2
/-! ### spans, lines, tables as data -/
abbrev Sp2 := List (Int × Int)
abbrev Ln := Int × Sp2
def encP (p : Int × Int) : D := .tup [.int p.1, .int p.2]
def encS (s : Sp2) : D := .tup (s.map encP)
def encL (l : Ln) : D := .tup [.int l.1, encS l.2]
def encT (c : Int) (ls : List Ln) : D := .tup [.int c, .tup (ls.map encL)]
def SpOk (c : Int) : Int → Sp2 → Prop
  | _, [] => True
  | lo, (a, b) :: r => lo ≤ a ∧ a < b ∧ b ≤ c ∧ SpOk c (b + 1) r
def LsOk (c : Int) : Int → List Ln → Prop
  | _, [] => True
  | p, (s, sp) :: r => p < s ∧ SpOk c 0 sp ∧ LsOk c s r
def TbOk (c : Int) (ls : List Ln) : Prop := (1 ≤ c ∧ c ≤ 60) ∧ ∃ sp r, ls = (0, sp) :: r ∧ SpOk c 0 sp ∧ LsOk c 0 r
def inS (p : Int) (s : Sp2) : Bool := s.any fun q => decide (q.1 ≤ p) && decide (p < q.2)

/-! ### draws -/
def sp_law_take : FSpec where
  pre := fun ds => match ds with
    | [.lst xs, .int m] => IsInts xs ∧ 0 < m
    | _ => False
  post := fun ds r ds' => match ds with
    | [.lst _, .int m] => ∃ ns v, r = .int v ∧ ds' = [.lst (List.map D.int ns), .int m] ∧ 0 ≤ v ∧ v < m
    | _ => False
/-- slots: 0 draws, 1 many -/
def w_law_take : WS :=
    (cSeq (cIte (cOp fEqS (cBi fLen (cCons (cVar 0) cNil)) (cC (.int 0)))
      (cRet 2 (cC (.int 0)))
      cNilS)
    (cRet 2 (cOp fMod (cBi fInt (cCons (cMeth 0 fPop cNil) cNil)) (cVar 1))))
theorem of_take {ds : List D} (h : sp_law_take.pre ds) : ∃ (ns : List Int) (m : Int), ds = [.lst (ns.map D.int), .int m] ∧ 0 < m := by
  unfold sp_law_take at h
  dsimp only at h
  split at h
  · obtain ⟨⟨ns, rfl⟩, h⟩ := h
    exact ⟨ns, _, rfl, h⟩
  · exact h.elim
local macro_rules | `(tactic| walk_at "Ddl") => `(tactic| ((conv => whnf); (repeat ((first | refine And.intro rfl ?_ | refine And.intro trivial ?_ | refine And.intro ⟨rfl, trivial⟩ ?_ | refine And.intro ⟨rfl, rfl, trivial⟩ ?_ | refine ifb_t ?_ | refine ifb_f ?_ | refine ifb_nr ?_ | refine ifb_er ?_ | refine And.intro (by first | decide | omega | (unfold CMul; omega) | (unfold CDiv; omega) | (unfold CPow; decide) | (exact cpow1 (by omega) (by omega)) | (exact cpow1 (by dsimp only; omega) (by dsimp only; omega)) | (simp only [rngD_len, List.length_replicate, List.length_map, List.length_append, List.length_cons, List.length_nil, List.length_set] at *; omega)) ?_); conv => whnf))))
theorem pure_law_take : ∀ ds, ds.length = 2 → sp_law_take.pre ds → w_law_take (env0 ds 0) { nx := fun e => sp_law_take.post ds .non (outs e 2), rt := fun d e => sp_law_take.post ds d (outs e 2) } := by
  intro ds _ h
  obtain ⟨ns, m, rfl, hm⟩ := of_take h
  walk_at "Ddl"
  refine ifb_dec (fun e => ?_) (fun e => ?_)
  · walk_at "Ddl"
    exact ⟨ns, 0, rfl, rfl, Int.le_refl _, hm⟩
  · have hne : ns ≠ [] := fun z => by subst z; exact e rfl
    obtain ⟨xs, x, rfl⟩ : ∃ xs x, ns = xs ++ [x] := ⟨_, _, (List.dropLast_concat_getLast hne).symm⟩
    have el : (List.map D.int (xs ++ [x])).getLast? = some (D.int x) := by simp
    have ed : (List.map D.int (xs ++ [x])).dropLast = xs.map D.int := by simp
    walk_at "Ddl"
    rw [el, ed]
    walk_at "Ddl"
    exact ⟨xs, x % m, rfl, rfl, Int.emod_nonneg _ (by omega), Int.emod_lt_of_pos _ hm⟩
def sp_law_cycle : FSpec where
  pre := fun ds => match ds with
    | [.lst xs] => IsInts xs
    | _ => False
  post := fun _ r ds' => ∃ ns c, r = .int c ∧ ds' = [.lst (List.map D.int ns)] ∧ 1 ≤ c ∧ c ≤ 60
/-- slots: 0 draws -/
def w_law_cycle : WS :=
    (cSeq (cIte (cOp fEqS (cCallN 2 sp_law_take (cCons (cVar 0) (cCons (cC (.int 8)) cNil))) (cC (.int 0)))
      (cRet 1 (cOp fAddG (cC (.int 1)) (cCallN 2 sp_law_take (cCons (cVar 0) (cCons (cC (.int 60)) cNil)))))
      cNilS)
    (cRet 1 (cOp fAddG (cC (.int 1)) (cCallN 2 sp_law_take (cCons (cVar 0) (cCons (cC (.int 6)) cNil))))))
theorem pure_law_cycle : ∀ ds, ds.length = 1 → sp_law_cycle.pre ds → w_law_cycle (env0 ds 0) { nx := fun e => sp_law_cycle.post ds .non (outs e 1), rt := fun d e => sp_law_cycle.post ds d (outs e 1) } := by
  intro ds _ h
  unfold sp_law_cycle at h
  dsimp only at h
  split at h
  · obtain ⟨ns, rfl⟩ := h
    walk_at "Ddl"
    refine ⟨⟨⟨_, rfl⟩, by first | decide | omega⟩, ?_⟩; rintro _ _ ⟨ns1, v, rfl, rfl, h0, h1⟩; walk_at "Ddl"
    refine ifb_dec (fun e => ?_) (fun e => ?_)
    · walk_at "Ddl"
      refine ⟨⟨⟨_, rfl⟩, by first | decide | omega⟩, ?_⟩; rintro _ _ ⟨ns2, v2, rfl, rfl, h2, h3⟩; walk_at "Ddl"
      exact ⟨ns2, 1 + v2, rfl, rfl, by omega, by omega⟩
    · walk_at "Ddl"
      refine ⟨⟨⟨_, rfl⟩, by first | decide | omega⟩, ?_⟩; rintro _ _ ⟨ns2, v2, rfl, rfl, h2, h3⟩; walk_at "Ddl"
      exact ⟨ns2, 1 + v2, rfl, rfl, by omega, by omega⟩
  · exact h.elim
def sp_law_size : FSpec where
  pre := fun ds => match ds with
    | [.lst xs, .rol ys] => IsInts xs ∧ IsInts ys
    | _ => False
  post := fun ds r ds' => match ds with
    | [_, .rol ys] => ∃ ns v, r = .int v ∧ ds' = [.lst (List.map D.int ns), .rol ys] ∧ 0 ≤ v
    | _ => False
/-- slots: 0 draws, 1 script, 2 kind, 3 number, 4 k -/
def w_law_size : WS :=
    (cSeq (cAsg 2 [0, 1] 2 (cCallN 2 sp_law_take (cCons (cVar 0) (cCons (cC (.int 8)) cNil))))
    (cSeq (cIte (cOp fLt (cVar 2) (cC (.int 5)))
      (cRet 2 (cCallN 2 sp_law_take (cCons (cVar 0) (cCons (cC (.int 12)) cNil))))
      cNilS)
    (cSeq (cIte (cOp fEqS (cVar 2) (cC (.int 5)))
      (cRet 2 (cCallN 2 sp_law_take (cCons (cVar 0) (cCons (cC (.int 100)) cNil))))
      cNilS)
    (cSeq (cIte (cOr (cOp fEqS (cVar 2) (cC (.int 6))) (cOp fEqS (cBi fLen (cCons (cVar 1) cNil)) (cC (.int 0))))
      (cSeq (cAsg 2 [0, 1] 3 (cC (.int 0)))
        (cSeq (cFor [0, 1] (iR1 (cC (.int 5))) (gN 2 [0, 1] 4)
          (cAsg 2 [0, 1] 3 (cOp fAddG (cOp fMul (cVar 3) (cC (.int 1000))) (cCallN 2 sp_law_take (cCons (cVar 0) (cCons (cC (.int 1000)) cNil))))))
        (cRet 2 (cVar 3))))
      cNilS)
    (cRet 2 (cBi fAbs (cCons (cBi fInt (cCons (cOp fIx (cVar 1) (cCallN 2 sp_law_take (cCons (cVar 0) (cCons (cBi fLen (cCons (cVar 1) cNil)) cNil)))) cNil)) cNil)))))))
theorem pure_law_size : ∀ ds, ds.length = 2 → sp_law_size.pre ds → w_law_size (env0 ds 3) { nx := fun e => sp_law_size.post ds .non (outs e 2), rt := fun d e => sp_law_size.post ds d (outs e 2) } := by
  intro ds _ h
  unfold sp_law_size at h
  dsimp only at h
  split at h
  · obtain ⟨⟨ns, rfl⟩, ms, rfl⟩ := h
    walk_at "Ddl"
    refine ⟨⟨⟨_, rfl⟩, by first | decide | omega⟩, ?_⟩; rintro _ _ ⟨ns1, v, rfl, rfl, h0, h1⟩; walk_at "Ddl"
    refine ifb_dec (fun e => ?_) (fun e => ?_)
    · walk_at "Ddl"
      refine ⟨⟨⟨_, rfl⟩, by first | decide | omega⟩, ?_⟩; rintro _ _ ⟨ns2, v2, rfl, rfl, h2, h3⟩; walk_at "Ddl"
      exact ⟨ns2, v2, rfl, rfl, h2⟩
    · walk_at "Ddl"
      refine ifb_dec (fun e2 => ?_) (fun e2 => ?_)
      · walk_at "Ddl"
        refine ⟨⟨⟨_, rfl⟩, by first | decide | omega⟩, ?_⟩; rintro _ _ ⟨ns2, v2, rfl, rfl, h2, h3⟩; walk_at "Ddl"
        exact ⟨ns2, v2, rfl, rfl, h2⟩
      · walk_at "Ddl"
        have neg : ∀ e, e = [some (D.lst (ns1.map D.int)), some (D.rol (ms.map D.int)), some (D.int v), none, none] → ms ≠ [] → (cRet 2 (cBi fAbs (cCons (cBi fInt (cCons (cOp fIx (cVar 1) (cCallN 2 sp_law_take (cCons (cVar 0) (cCons (cBi fLen (cCons (cVar 1) cNil)) cNil)))) cNil)) cNil))) e { nx := fun e => sp_law_size.post [.lst (ns.map D.int), .rol (ms.map D.int)] .non (outs e 2), rt := fun d e => sp_law_size.post [.lst (ns.map D.int), .rol (ms.map D.int)] d (outs e 2) } := by
          rintro e rfl hms
          walk_at "Ddl"
          have hp : 0 < ((List.map D.int ms).length : Int) := by
            have := List.length_pos_iff.mpr hms
            simpa using this
          refine ⟨⟨⟨_, rfl⟩, hp⟩, ?_⟩
          rintro _ _ ⟨ns2, x, rfl, rfl, hx0, hx1⟩
          walk_at "Ddl"
          have hx2 : x.toNat < ms.length := by
            have : x < (ms.length : Int) := by simpa using hx1
            omega
          have ea : atI (List.map D.int ms) x = some (D.int ms[x.toNat]) := by
            have := atI_nat (xs := List.map D.int ms) (j := x.toNat) (v := D.int ms[x.toNat]) (by simp [hx2])
            rwa [Int.toNat_of_nonneg hx0] at this
          rw [ea]
          walk_at "Ddl"
          refine ⟨ns2, _, rfl, rfl, ?_⟩
          split <;> omega
        have big : ∀ N e, e = [some (D.lst (ns1.map D.int)), some (D.rol (ms.map D.int)), some (D.int v), none, none] → (cSeq (cAsg 2 [0, 1] 3 (cC (.int 0)))
        (cSeq (cFor [0, 1] (iR1 (cC (.int 5))) (gN 2 [0, 1] 4)
          (cAsg 2 [0, 1] 3 (cOp fAddG (cOp fMul (cVar 3) (cC (.int 1000))) (cCallN 2 sp_law_take (cCons (cVar 0) (cCons (cC (.int 1000)) cNil))))))
        (cRet 2 (cVar 3)))) e { nx := N, rt := fun d e => sp_law_size.post [.lst (ns.map D.int), .rol (ms.map D.int)] d (outs e 2) } := by
          rintro N e rfl
          walk_at "Ddl"
          refine loop_rng (fun _ e => ∃ (ks : List Int) (num : Int) (o : Option D), 0 ≤ num ∧ e = [some (D.lst (ks.map D.int)), some (D.rol (ms.map D.int)), some (D.int v), some (D.int num), o]) ⟨ns1, 0, none, Int.le_refl _, rfl⟩ ?_ ?_
          · rintro j env nxt h1 h2 ⟨ks, num, o, hn, rfl⟩ hx
            walk_at "Ddl"
            refine ⟨⟨⟨_, rfl⟩, by first | decide | omega⟩, ?_⟩; rintro _ _ ⟨ks2, d, rfl, rfl, hd0, hd1⟩; walk_at "Ddl"
            exact hx _ ⟨ks2, num * 1000 + d, _, by omega, rfl⟩
          · rintro env ⟨ks, num, o, hn, rfl⟩
            walk_at "Ddl"
            exact ⟨ks, num, rfl, rfl, hn⟩
        refine ifb_dec (fun e6 => ?_) (fun e6 => ?_)
        · (conv => whnf); refine ifb_t ?_
          exact big _ _ rfl
        · walk_at "Ddl"
          refine ifb_dec (fun e7 => ?_) (fun e7 => ?_)
          · exact big _ _ rfl
          · exact neg _ rfl (fun z => by subst z; exact e7 rfl)
  · exact h.elim
theorem cut {u v : WS} {env : DEnv} {K : Kt} (J : DEnv → Prop) (h1 : ∀ nxt, (∀ e, J e → nxt e) → u env { K with nx := nxt }) (h2 : ∀ e, J e → v e K) : cSeq u v env K := h1 _ h2
def sp_law_draws : FSpec where
  pre := fun ds => match ds with
    | [.rol xs, .int m] => IsInts xs ∧ xs.length ≤ 63 ∧ 0 ≤ m ∧ m ≤ 5000
    | _ => False
  post := fun ds r ds' => ds' = ds ∧ ∃ ns : List Int, r = .lst (ns.map D.int)
/-- slots: 0 script, 1 many, 2 cells, 3 rest, 4 draws, 5 k, 6 at, 7 mixed, 8 cell -/
def w_law_draws : WS :=
    (cSeq (cAsg 2 [0, 1] 2 (cLc [8] (iE (cVar 0)) (gN 2 [] 8) tTrue (cBi fInt (cCons (cVar 8) cNil))))
    (cSeq (cIte (cOp fEqS (cBi fLen (cCons (cVar 2) cNil)) (cC (.int 0)))
      (cEx (cMeth 2 fAppend (cCons (cC (.int 0)) cNil)))
      cNilS)
    (cSeq (cAsg 2 [0, 1] 3 (cBi fList (cCons (cVar 2) cNil)))
    (cSeq (cAsg 2 [0, 1] 4 (cLst cNil))
    (cSeq (cFor [0, 1] (iR1 (cVar 1)) (gN 2 [0, 1] 5)
      (cSeq (cAsg 2 [0, 1] 6 (cOp fMod (cVar 5) (cBi fLen (cCons (cVar 2) cNil))))
        (cIte (cOp fGe (cOp fIx (cVar 2) (cVar 6)) (cOp fPow (cC (.int 10)) (cC (.int 18))))
          (cSeq (cEx (cMeth 4 fAppend (cCons (cOp fMod (cBi fInt (cCons (cOp fIx (cVar 3) (cVar 6)) cNil)) (cC (.int 1000))) cNil)))
            (cSet 3 (cOp fFdiv (cOp fIx (cVar 3) (cVar 6)) (cC (.int 1000))) (cVar 6)))
          (cSeq (cAsg 2 [0, 1] 7 (cOp fMod (cBi fInt (cCons (cOp fAddG (cOp fAddG (cOp fMul (cOp fIx (cVar 2) (cVar 6)) (cC (.int 48271))) (cOp fMul (cVar 5) (cC (.int 69621)))) (cC (.int 11))) cNil)) (cC (.int 2147483647))))
            (cEx (cMeth 4 fAppend (cCons (cOp fMod (cBi fInt (cCons (cOp fAddG (cOp fAddG (cOp fMul (cVar 7) (cVar 7)) (cOp fMul (cC (.int 3)) (cVar 7))) (cVar 5)) cNil)) (cC (.int 1000003))) cNil)))))))
    (cSeq (cEx (cMeth 4 fReverse cNil))
    (cRet 2 (cVar 4))))))))
theorem atI_lt {α : Type} {xs : List α} {j : Int} (h0 : 0 ≤ j) (h1 : j < xs.length) : ∃ (h : j.toNat < xs.length), atI xs j = some xs[j.toNat] := by
  have h : j.toNat < xs.length := by omega
  refine ⟨h, ?_⟩
  have := atI_nat (xs := xs) (j := j.toNat) (v := xs[j.toNat]) (List.getElem?_eq_getElem h)
  rwa [Int.toNat_of_nonneg h0] at this
theorem atI_map {α : Type} {f : α → D} {xs : List α} {j : Int} (h0 : 0 ≤ j) (h1 : j < xs.length) : ∃ v, v ∈ xs ∧ atI (xs.map f) j = some (f v) := by
  obtain ⟨h, e⟩ := atI_lt (xs := xs.map f) h0 (by simpa using h1)
  have h' : j.toNat < xs.length := by omega
  exact ⟨xs[j.toNat], List.getElem_mem h', by rw [e]; simp⟩
theorem ixN_lt {n : Nat} {j : Int} (h0 : 0 ≤ j) (h1 : j < n) : ixN n j = some j.toNat := by
  unfold ixN
  rw [if_pos h0, if_pos h1]
theorem pure_law_draws : ∀ ds, ds.length = 2 → sp_law_draws.pre ds → w_law_draws (env0 ds 7) { nx := fun e => sp_law_draws.post ds .non (outs e 2), rt := fun d e => sp_law_draws.post ds d (outs e 2) } := by
  intro ds _ h
  unfold sp_law_draws at h
  dsimp only at h
  split at h
  · obtain ⟨⟨ns, rfl⟩, hlen, hm0, hm1⟩ := h
    rename_i m _
    walk_at "Ddl"
    have hlen : ns.length ≤ 63 := by simpa using hlen
    refine lcGo_map (fun x => x) _ (List.map D.int ns) ?_ ?_
    · rintro x nxt acc hx hn
      obtain ⟨i, _, rfl⟩ := List.mem_map.mp hx
      walk_at "Ddl"
      exact hn
    · refine ⟨trivial, rfl, ?_⟩
      rw [List.map_id']
      dsimp only
      refine cut (fun e => ∃ cs : List Int, cs ≠ [] ∧ cs.length ≤ 63 ∧ e = [some (D.rol (ns.map D.int)), some (D.int m), some (D.lst (cs.map D.int)), none, none, none, none, none, none]) (fun nxt hn => ?_) ?_
      · walk_at "Ddl"
        refine ifb_dec (fun e => ?_) (fun e => ?_)
        · walk_at "Ddl"
          refine hn _ ⟨[0], by simp, by simp, ?_⟩
          have : ns = [] := by
            cases ns with
            | nil => rfl
            | cons a b => simp at e; omega
          subst this
          rfl
        · walk_at "Ddl"
          refine hn _ ⟨ns, fun z => ?_, hlen, rfl⟩
          subst z
          exact e rfl
      · rintro e ⟨cs, hne, hlc, rfl⟩
        have hpos := List.length_pos_iff.mpr hne
        walk_at "Ddl"
        refine loop_rng (fun j e => ∃ (rs : List Int) (dr : List Int) (o5 o6 o7 : Option D), (rs.length = cs.length ∧ (dr.length : Int) = j) ∧ e = [some (D.rol (ns.map D.int)), some (D.int m), some (D.lst (cs.map D.int)), some (D.lst (rs.map D.int)), some (D.lst (dr.map D.int)), o5, o6, o7, none]) ⟨cs, [], none, none, none, ⟨rfl, rfl⟩, rfl⟩ ?_ ?_
        · rintro j env nxt hj0 hj1 ⟨rs, dr, o5, o6, o7, ⟨hrl, hdl⟩, rfl⟩ hx
          have hpi : (0:Int) < cs.length := by omega
          have hm0 := Int.emod_nonneg j (show (cs.length : Int) ≠ 0 by omega)
          have hm1 := Int.emod_lt_of_pos j hpi
          obtain ⟨c, _, ec⟩ := atI_map (f := D.int) (xs := cs) hm0 hm1
          obtain ⟨r, _, er⟩ := atI_map (f := D.int) (xs := rs) hm0 (by omega)
          have ei : ixN (List.map D.int rs).length (j % (cs.length : Int)) = some (j % (cs.length : Int)).toNat := ixN_lt hm0 (by simp; omega)
          walk_at "Ddl"
          simp only [List.length_map]
          walk_at "Ddl"
          rw [ec]
          walk_at "Ddl"
          refine ifb_dec (fun e => ?_) (fun e => ?_)
          · walk_at "Ddl"
            rw [er]
            walk_at "Ddl"
            rw [er]
            walk_at "Ddl"
            rw [ei]
            walk_at "Ddl"
            exact hx _ ⟨rs.set (j % (cs.length : Int)).toNat (r / 1000), dr ++ [r % 1000], _, _, _, ⟨by simpa using hrl, by simp; omega⟩, by (first | rfl | (simp only [List.map_append, List.map_set, List.map_cons, List.map_nil]; done) | (simp only [List.map_append, List.map_set, List.map_cons, List.map_nil]; rfl))⟩
          · walk_at "Ddl"
            rw [ec]
            walk_at "Ddl"
            exact hx _ ⟨rs, dr ++ [_], _, _, _, ⟨hrl, by simp; omega⟩, by (first | rfl | (simp only [List.map_append, List.map_set, List.map_cons, List.map_nil]; done) | (simp only [List.map_append, List.map_set, List.map_cons, List.map_nil]; rfl))⟩
        · rintro env ⟨rs, dr, o5, o6, o7, ⟨hrl, hdl⟩, rfl⟩
          walk_at "Ddl"
          exact ⟨dr.reverse, by simp⟩
  · exact h.elim
end DL

namespace DL
open PySem PySem.Spec PyProof.Rows L2
theorem SpOk.mono {c c' : Int} (h : c ≤ c') : ∀ {lo : Int} {s : Sp2}, SpOk c lo s → SpOk c' lo s
  | _, [], _ => trivial
  | _, (a, b) :: r, ⟨h1, h2, h3, h4⟩ => ⟨h1, h2, by omega, SpOk.mono h h4⟩
theorem SpOk.snoc {c : Int} : ∀ {lo : Int} {s : Sp2} {a b : Int}, SpOk c lo (s ++ [(a, b)]) ↔ SpOk c lo s ∧ lo ≤ a ∧ (∀ q ∈ s, q.2 < a) ∧ a < b ∧ b ≤ c
  | lo, [], a, b => by simp [SpOk]
  | lo, (x, y) :: r, a, b => by
    simp only [List.cons_append, SpOk, SpOk.snoc (lo := y + 1) (s := r), List.forall_mem_cons]
    constructor
    · rintro ⟨h1, h2, h3, h4, h5, h6, h7, h8⟩
      exact ⟨⟨h1, h2, h3, h4⟩, by omega, ⟨by omega, h6⟩, h7, h8⟩
    · rintro ⟨⟨h1, h2, h3, h4⟩, h5, ⟨h6, h7⟩, h8, h9⟩
      exact ⟨h1, h2, h3, h4, by omega, h7, h8, h9⟩
theorem SpOk.le {c : Int} : ∀ {lo : Int} {s : Sp2}, SpOk c lo s → ∀ q ∈ s, lo ≤ q.1 ∧ q.1 < q.2 ∧ q.2 ≤ c
  | _, [], _, q, h => by simp at h
  | lo, (a, b) :: r, ⟨h1, h2, h3, h4⟩, q, h => by
    rcases List.mem_cons.mp h with rfl | h
    · exact ⟨h1, h2, h3⟩
    · have := SpOk.le h4 q h
      exact ⟨by omega, this.2⟩
theorem inS_app (p : Int) (s t : Sp2) : inS p (s ++ t) = (inS p s || inS p t) := by simp [inS]
theorem inS_one (p a b : Int) : inS p [(a, b)] = (decide (a ≤ p) && decide (p < b)) := by simp [inS]
theorem ixN_last (n : Nat) : ixN (n + 1) (-1) = some n := by
  unfold ixN
  rw [if_neg (by decide), if_pos (by omega)]
  congr 1
  omega
theorem atI_last {α : Type} (xs : List α) (x : α) : atI (xs ++ [x]) (-1) = some x := by
  unfold atI
  rw [show ixN (xs ++ [x]).length (-1) = some xs.length by rw [List.length_append]; exact ixN_last _]
  simp
def sp_law_spans : FSpec where
  pre := fun ds => ∃ bs : List Bool, ds = [.lst (bs.map D.bl)] ∧ bs.length ≤ 1000
  post := fun ds r ds' => ds' = ds ∧ ∀ bs : List Bool, ds = [.lst (bs.map D.bl)] → ∃ s, r = encS s ∧ SpOk bs.length 0 s ∧ ∀ p : Nat, inS p s = bs.getD p false
/-- slots: 0 cells, 1 spans, 2 k -/
def w_law_spans : WS :=
    (cSeq (cAsg 1 [0] 1 (cLst cNil))
    (cSeq (cFor [0] (iR1 (cBi fLen (cCons (cVar 0) cNil))) (gN 1 [0] 2)
      (cIte (cAnd (cOp fIx (cVar 0) (cVar 2)) (cAnd (cOp fGt (cBi fLen (cCons (cVar 1) cNil)) (cC (.int 0))) (cOp fEqS (cOp fIx (cOp fIx (cVar 1) (cUn fNeg (cC (.int 1)))) (cC (.int 1))) (cVar 2))))
          (cSet 1 (cTup (cCons (cOp fIx (cOp fIx (cVar 1) (cUn fNeg (cC (.int 1)))) (cC (.int 0))) (cCons (cOp fAddG (cVar 2) (cC (.int 1))) cNil))) (cUn fNeg (cC (.int 1))))
          (cIte (cOp fIx (cVar 0) (cVar 2))
              (cEx (cMeth 1 fAppend (cCons (cTup (cCons (cVar 2) (cCons (cOp fAddG (cVar 2) (cC (.int 1))) cNil))) cNil)))
              cNilS)))
    (cRet 1 (cBi fTuple (cCons (cVar 1) cNil)))))
local macro_rules | `(tactic| walk_at "Ddl") => `(tactic| ((conv => whnf); (repeat ((first | refine And.intro rfl ?_ | refine And.intro trivial ?_ | refine And.intro ⟨rfl, trivial⟩ ?_ | refine And.intro ⟨rfl, rfl, trivial⟩ ?_ | refine ifb_t ?_ | refine ifb_f ?_ | refine ifb_nr ?_ | refine ifb_er ?_ | refine And.intro (by first | decide | omega | (unfold CMul; omega) | (unfold CDiv; omega) | (unfold CPow; decide) | (exact cpow1 (by omega) (by omega)) | (exact cpow1 (by dsimp only; omega) (by dsimp only; omega)) | (simp only [rngD_len, List.length_replicate, List.length_map, List.length_append, List.length_cons, List.length_nil, List.length_set] at *; omega)) ?_); conv => whnf))))
theorem pure_law_spans : ∀ ds, ds.length = 1 → sp_law_spans.pre ds → w_law_spans (env0 ds 2) { nx := fun e => sp_law_spans.post ds .non (outs e 1), rt := fun d e => sp_law_spans.post ds d (outs e 1) } := by
  rintro ds _ ⟨bs, rfl, hl⟩
  walk_at "Ddl"
  simp only [List.length_map]
  refine loop_rng (fun j e => ∃ (s : Sp2) (o : Option D), (SpOk j 0 s ∧ (s.length : Int) ≤ j ∧ ∀ p : Nat, inS p s = (decide (p < j) && bs.getD p false)) ∧ e = [some (D.lst (bs.map D.bl)), some (D.lst (s.map encP)), o]) ⟨[], none, ⟨trivial, by simp, fun p => by rw [show decide ((p : Int) < 0) = false from decide_eq_false (by omega)]; rfl⟩, rfl⟩ ?_ ?_
  · rintro j env nxt hj0 hj1 ⟨s, o, ⟨hs, hsl, hp⟩, rfl⟩ hx
    have hj2 : j < (bs.length : Int) := by simpa using hj1
    have ec : atI (List.map D.bl bs) j = some (D.bl (bs.getD j.toNat false)) := by
      obtain ⟨h, e⟩ := atI_lt (xs := bs.map D.bl) hj0 (by simpa using hj2)
      rw [e]
      have h' : j.toNat < bs.length := by omega
      simp [List.getD, h']
    have key : ∀ t : Sp2, SpOk (j + 1) 0 t → (t.length : Int) ≤ j + 1 → (∀ p : Nat, inS p t = (inS p s || (decide ((p : Int) = j) && bs.getD j.toNat false))) → ∀ o, nxt [some (D.lst (bs.map D.bl)), some (D.lst (t.map encP)), o] := by
      intro t h1 h2 h3 o
      refine hx _ ⟨t, o, ⟨h1, h2, fun p => ?_⟩, rfl⟩
      rw [h3, hp]
      by_cases e1 : (p : Int) = j
      · have : p = j.toNat := by omega
        subst this
        have e2 : ¬ ((j.toNat : Int) < j) := by omega
        have e3 : ((j.toNat : Int) < j + 1) := by omega
        simp only [e1, e2, e3]
        simp; omega
      · by_cases e2 : (p : Int) < j
        · have e3 : ((p : Int) < j + 1) := by omega
          simp [e1, e2, e3]
        · have e3 : ¬ ((p : Int) < j + 1) := by omega
          simp [e1, e2, e3]
    have add : bs.getD j.toNat false = true → (∀ q ∈ s, q.2 < j) → ∀ o, nxt [some (D.lst (bs.map D.bl)), some (D.lst ((s ++ [(j, j + 1)]).map encP)), o] := by
      intro hb hq o
      refine key _ (SpOk.snoc.mpr ⟨hs.mono (by omega), hj0, hq, by omega, Int.le_refl _⟩) (by simp; omega) (fun p => ?_) o
      rw [inS_app, inS_one, hb]
      have : (decide (j ≤ (p : Int)) && decide ((p : Int) < j + 1)) = decide ((p : Int) = j) := by
        by_cases e : (p : Int) = j
        · simp [e]; omega
        · simp [e]; omega
      rw [this]; simp
    cases ecc : bs.getD j.toNat false with
    | true =>
      rw [ecc] at ec
      walk_at "Ddl"
      rw [ec]
      walk_at "Ddl"
      refine ifb_dec (fun e2 => ?_) (fun e2 => ?_)
      · obtain ⟨t, ⟨a, b⟩, rfl⟩ : ∃ t q, s = t ++ [q] := by
          have : s ≠ [] := fun z => by subst z; simp at e2
          exact ⟨_, _, (List.dropLast_concat_getLast this).symm⟩
        have el : atI (List.map encP (t ++ [(a, b)])) (-1) = some (encP (a, b)) := by rw [List.map_append]; exact atI_last _ _
        obtain ⟨hs1, hs2, hs3, hs4, hs5⟩ := SpOk.snoc.mp hs
        walk_at "Ddl"
        rw [el]
        walk_at "Ddl"
        refine ifb_dec (fun e3 => ?_) (fun e3 => ?_)
        · have e3 : b = j := e3
          subst e3
          walk_at "Ddl"
          rw [el]
          walk_at "Ddl"
          have ei : ixN (List.map encP (t ++ [(a, b)])).length (-1) = some t.length := by rw [show (List.map encP (t ++ [(a, b)])).length = t.length + 1 by simp]; exact ixN_last _
          rw [ei]
          walk_at "Ddl"
          have es : (List.map encP (t ++ [(a, b)])).set t.length (D.tup [D.int a, D.int (b + 1)]) = List.map encP (t ++ [(a, b + 1)]) := by simp [encP]
          have := key (t ++ [(a, b + 1)]) (SpOk.snoc.mpr ⟨hs1.mono (by omega), hs2, hs3, by omega, Int.le_refl _⟩) (by simp at hsl ⊢; omega) (fun p => by
            rw [inS_app, inS_app, inS_one, inS_one, ecc, Bool.and_true, Bool.or_assoc]
            congr 1
            by_cases h1 : (p : Int) = b
            · simp [h1]; omega
            · by_cases h2 : (p : Int) < b
              · have h3 : (p : Int) < b + 1 := by omega
                simp [h1, h2, h3]
              · have h3 : ¬ (p : Int) < b + 1 := by omega
                simp [h1, h2, h3]) (some (.int b))
          rw [← es] at this
          exact this
        · have e3 : b ≠ j := e3
          walk_at "Ddl"
          rw [ec]
          walk_at "Ddl"
          have := add ecc (fun q hq => by
            rcases List.mem_append.mp hq with hq | hq
            · have := hs3 q hq; omega
            · rw [List.mem_singleton.mp hq]; show b < j; omega) (some (.int j))
          rw [List.map_append] at this
          exact this
      · have e2 : s = [] := by
          cases s with
          | nil => rfl
          | cons x y => exact absurd (by simp) e2
        subst e2
        walk_at "Ddl"
        rw [ec]
        walk_at "Ddl"
        exact add ecc (by simp) (some (.int j))
    | false =>
      rw [ecc] at ec
      walk_at "Ddl"
      rw [ec]
      walk_at "Ddl"
      rw [ec]
      walk_at "Ddl"
      refine hx _ ⟨s, _, ⟨hs.mono (by omega), by omega, fun p => ?_⟩, rfl⟩
      rw [hp]
      by_cases h1 : (p : Int) = j
      · have : p = j.toNat := by omega
        rw [this, ecc]; simp
      · by_cases h2 : (p : Int) < j
        · have h3 : (p : Int) < j + 1 := by omega
          simp [h2, h3]
        · have h3 : ¬ (p : Int) < j + 1 := by omega
          simp [h2, h3]
  · rintro env ⟨s, o, ⟨hs, hsl, hp⟩, rfl⟩
    walk_at "Ddl"
    intro bs' h
    have : bs' = bs := by
      simp only [List.cons.injEq, and_true, D.lst.injEq] at h
      exact (List.map_inj_right (fun a b h => by cases h; rfl)).mp h.symm
    subst this
    refine ⟨s, rfl, by simpa using hs, fun p => ?_⟩
    rw [hp]
    by_cases h1 : p < bs'.length
    · have : (p : Int) < 0 + ((bs'.length : Int).toNat : Int) := by omega
      rw [decide_eq_true this]; rfl
    · have : bs'.getD p false = false := by simp [List.getD, List.getElem?_eq_none (by omega : bs'.length ≤ p)]
      rw [this]; simp
def sp_law_phases : FSpec where
  pre := fun ds => ∃ (ns : List Int) (c : Int), ds = [.lst (ns.map D.int), .int c] ∧ 1 ≤ c ∧ c ≤ 60
  post := fun ds r ds' => ∀ (xs : List D) (c : Int), ds = [.lst xs, .int c] → ∃ (ns : List Int) (s : Sp2), r = encS s ∧ ds' = [.lst (ns.map D.int), .int c] ∧ SpOk c 0 s
/-- slots: 0 draws, 1 cycle, 2 kind, 3 cells, 4 bits, 5 k, 6 low, 7 high, 8 j -/
def w_law_phases : WS :=
    (cSeq (cAsg 2 [0, 1] 2 (cCallN 2 sp_law_take (cCons (cVar 0) (cCons (cC (.int 5)) cNil))))
    (cSeq (cIte (cOp fEqS (cVar 2) (cC (.int 0)))
      (cRet 2 (cTup cNil))
      cNilS)
    (cSeq (cIte (cOp fEqS (cVar 2) (cC (.int 1)))
      (cRet 2 (cTup (cCons (cTup (cCons (cC (.int 0)) (cCons (cVar 1) cNil))) cNil)))
      cNilS)
    (cSeq (cAsg 2 [0, 1] 3 (cLc [5] (iR1 (cVar 1)) (gN 2 [] 5) tTrue (cC (.bl false))))
    (cSeq (cIte (cOp fEqS (cVar 2) (cC (.int 2)))
      (cSeq (cAsg 2 [0, 1] 4 (cCallN 2 sp_law_take (cCons (cVar 0) (cCons (cC (.int 1000003)) cNil))))
        (cSeq (cFor [0, 1] (iR1 (cVar 1)) (gN 2 [0, 1] 5)
          (cSeq (cSet 3 (cOp fEqS (cOp fMod (cBi fInt (cCons (cVar 4) cNil)) (cC (.int 2))) (cC (.int 1))) (cVar 5))
            (cAsg 2 [0, 1] 4 (cOp fAddG (cOp fFdiv (cVar 4) (cC (.int 2))) (cOp fMul (cC (.int 524288)) (cBi fInt (cCons (cOp fIx (cVar 3) (cVar 5)) cNil)))))))
        (cRet 2 (cCallN 1 sp_law_spans (cCons (cVar 3) cNil)))))
      cNilS)
    (cSeq (cFor [0, 1] (iR1 (cOp fAddG (cC (.int 1)) (cCallN 2 sp_law_take (cCons (cVar 0) (cCons (cC (.int 4)) cNil))))) (gN 2 [0, 1] 5)
      (cSeq (cAsg 2 [0, 1] 6 (cCallN 2 sp_law_take (cCons (cVar 0) (cCons (cVar 1) cNil))))
        (cSeq (cAsg 2 [0, 1] 7 (cOp fAddG (cOp fAddG (cVar 6) (cC (.int 1))) (cCallN 2 sp_law_take (cCons (cVar 0) (cCons (cOp fAddG (cC (.int 1)) (cOp fFdiv (cVar 1) (cC (.int 3)))) cNil)))))
        (cAsg 2 [0, 1] 3 (cLc [8] (iR1 (cVar 1)) (gN 2 [] 8) tTrue (cOr (cOp fIx (cVar 3) (cVar 8)) (cAnd (cOp fLe (cVar 6) (cVar 8)) (cOp fLt (cVar 8) (cVar 7)))))))))
    (cRet 2 (cCallN 1 sp_law_spans (cCons (cVar 3) cNil)))))))))
theorem phases_post {ns xs : List Int} {c : Int} {s : Sp2} (h : SpOk c 0 s) : sp_law_phases.post [.lst (ns.map D.int), .int c] (encS s) [.lst (xs.map D.int), .int c] := by
  intro ys c' e
  simp only [List.cons.injEq, and_true, D.lst.injEq, D.int.injEq] at e
  obtain ⟨_, rfl⟩ := e
  exact ⟨xs, s, rfl, rfl, h⟩
theorem rng_mem {lo : Int} : ∀ {n : Nat} {d : D}, d ∈ rngD lo n → ∃ i, d = .int i ∧ lo ≤ i ∧ i < lo + n
  | 0, d, h => by simp [rngD] at h
  | n + 1, d, h => by
    simp only [rngD, List.mem_cons] at h
    rcases h with rfl | h
    · exact ⟨lo, rfl, Int.le_refl _, by omega⟩
    · obtain ⟨i, rfl, h1, h2⟩ := rng_mem h
      exact ⟨i, rfl, by omega, by omega⟩
theorem map_const {α β : Type} (b : β) : ∀ xs : List α, xs.map (fun _ => b) = List.replicate xs.length b
  | [] => rfl
  | x :: r => by rw [List.map_cons, map_const b r]; rfl
theorem map_bl {α : Type} {f : α → D} : ∀ (xs : List α), (∀ d ∈ xs, ∃ b, f d = .bl b) → ∃ bs : List Bool, xs.map f = bs.map D.bl ∧ bs.length = xs.length
  | [], _ => ⟨[], rfl, rfl⟩
  | x :: r, h => by
    obtain ⟨bs, e, l⟩ := map_bl r fun d hd => h d (List.mem_cons_of_mem _ hd)
    obtain ⟨b, eb⟩ := h x (by simp)
    exact ⟨b :: bs, by simp [e, eb], by simp [l]⟩
theorem pure_law_phases : ∀ ds, ds.length = 2 → sp_law_phases.pre ds → w_law_phases (env0 ds 7) { nx := fun e => sp_law_phases.post ds .non (outs e 2), rt := fun d e => sp_law_phases.post ds d (outs e 2) } := by
  rintro ds _ ⟨ns, c, rfl, h0, h1⟩
  walk_at "Ddl"
  refine ⟨⟨⟨_, rfl⟩, by first | decide | omega⟩, ?_⟩; rintro _ _ ⟨ns1, v, rfl, rfl, h2, h3⟩; walk_at "Ddl"
  refine ifb_dec (fun e1 => ?_) (fun e1 => ?_)
  · walk_at "Ddl"
    exact phases_post (s := []) trivial
  · walk_at "Ddl"
    refine ifb_dec (fun e2 => ?_) (fun e2 => ?_)
    · walk_at "Ddl"
      exact phases_post (s := [(0, c)]) ⟨by omega, by omega, by omega, trivial⟩
    · walk_at "Ddl"
      refine lcGo_map (fun _ => .bl false) _ _ ?_ ?_
      · intro x nxt acc hx hn
        obtain ⟨i, rfl, _, _⟩ := rng_mem hx
        walk_at "Ddl"
        exact hn
      · rw [map_const, rngD_len]
        have er : List.replicate c.toNat (D.bl false) = (List.replicate c.toNat false).map D.bl := by simp
        walk_at "Ddl"
        rw [er]
        refine ifb_dec (fun e3 => ?_) (fun e3 => ?_)
        · walk_at "Ddl"
          refine ⟨⟨⟨_, rfl⟩, by first | decide | omega⟩, ?_⟩; rintro _ _ ⟨ns2, v2, rfl, rfl, h4, h5⟩; walk_at "Ddl"
          refine loop_rng (fun j e => ∃ (bs : List Bool) (b : Int) (o : Option D), bs.length = c.toNat ∧ e = [some (.lst (ns2.map D.int)), some (.int c), some (.int v), some (.lst (bs.map D.bl)), some (.int b), o, none, none, none]) ⟨List.replicate c.toNat false, v2, none, by simp, rfl⟩ ?_ ?_
          · rintro j env nxt hj0 hj1 ⟨bs, b, o, hb, rfl⟩ hx
            have hj2 : j < (bs.length : Int) := by omega
            have ei : ixN (bs.map D.bl).length j = some j.toNat := ixN_lt hj0 (by simpa using hj2)
            have ea : ∀ x : Bool, atI ((bs.map D.bl).set j.toNat (.bl x)) j = some (.bl x) := fun x => by
              obtain ⟨h, e⟩ := atI_lt (xs := (bs.map D.bl).set j.toNat (.bl x)) hj0 (by simpa using hj2)
              rw [e, List.getElem_set_self]
            walk_at "Ddl"
            rw [ei]
            walk_at "Ddl"
            rw [ea]
            walk_at "Ddl"
            refine hx _ ⟨bs.set j.toNat _, _, _, by simpa using hb, by (first | rfl | (simp only [List.map_append, List.map_set, List.map_cons, List.map_nil]; done) | (simp only [List.map_append, List.map_set, List.map_cons, List.map_nil]; rfl))⟩
          · rintro env ⟨bs, b, o, hb, rfl⟩
            walk_at "Ddl"
            refine ⟨⟨bs, rfl, by omega⟩, ?_⟩
            rintro _ _ ⟨rfl, h⟩
            obtain ⟨s, rfl, hs, _⟩ := h bs rfl
            walk_at "Ddl"
            exact phases_post (by rw [hb] at hs; rwa [show ((c.toNat : Nat) : Int) = c by omega] at hs)
        · walk_at "Ddl"
          refine ⟨⟨⟨_, rfl⟩, by first | decide | omega⟩, ?_⟩; rintro _ _ ⟨ns2, v2, rfl, rfl, h4, h5⟩; walk_at "Ddl"
          refine loop_rng (fun j e => ∃ (ks : List Int) (bs : List Bool) (o6 o7 o5 : Option D), bs.length = c.toNat ∧ e = [some (.lst (ks.map D.int)), some (.int c), some (.int v), some (.lst (bs.map D.bl)), none, o5, o6, o7, none]) ⟨ns2, List.replicate c.toNat false, none, none, none, by simp, rfl⟩ ?_ ?_
          · rintro j env nxt hj0 hj1 ⟨ks, bs, o6, o7, o5, hb, rfl⟩ hx
            walk_at "Ddl"
            refine ⟨⟨⟨_, rfl⟩, by first | decide | omega⟩, ?_⟩; rintro _ _ ⟨ns3, low, rfl, rfl, hl0, hl1⟩; walk_at "Ddl"
            refine ⟨⟨⟨_, rfl⟩, by omega⟩, ?_⟩
            rintro _ _ ⟨ns4, hi, rfl, rfl, hi0, hi1⟩
            walk_at "Ddl"
            refine lcGo_map (fun d => match d with | .int j => .bl (bs.getD j.toNat false || (decide (low ≤ j) && decide (j < low + 1 + hi))) | _ => .non) _ _ ?_ ?_
            · intro x nxt acc hx hn
              obtain ⟨i, rfl, hi2, hi3⟩ := rng_mem hx
              have hi4 : i < (bs.length : Int) := by omega
              have ec : atI (List.map D.bl bs) i = some (D.bl (bs.getD i.toNat false)) := by
                obtain ⟨h, e⟩ := atI_lt (xs := bs.map D.bl) hi2 (by simpa using hi4)
                rw [e]
                have h' : i.toNat < bs.length := by omega
                simp [List.getD, h']
              walk_at "Ddl"
              rw [ec]
              cases ecc : bs.getD i.toNat false with
              | true =>
                walk_at "Ddl"
                dsimp only at hn
                rw [ecc] at hn
                exact hn
              | false =>
                dsimp only at hn
                rw [ecc] at hn
                walk_at "Ddl"
                refine ifb_dec (fun e5 => ?_) (fun e5 => ?_)
                · walk_at "Ddl"
                  rw [decide_eq_true e5] at hn
                  exact hn
                · walk_at "Ddl"
                  rw [decide_eq_false e5] at hn
                  exact hn
            · obtain ⟨bs', e', hl'⟩ := map_bl (f := fun d => match d with | .int j => .bl (bs.getD j.toNat false || (decide (low ≤ j) && decide (j < low + 1 + hi))) | _ => .non) (rngD 0 c.toNat) (fun d hd => by obtain ⟨i, rfl, _, _⟩ := rng_mem hd; exact ⟨_, rfl⟩)
              walk_at "Ddl"
              rw [rngD_len] at hl'
              rw [e']
              exact hx _ ⟨ns4, bs', _, _, _, hl', rfl⟩
          · rintro env ⟨ks, bs, o6, o7, o5, hb, rfl⟩
            walk_at "Ddl"
            refine ⟨⟨bs, rfl, by omega⟩, ?_⟩
            rintro _ _ ⟨rfl, h⟩
            obtain ⟨s, rfl, hs, _⟩ := h bs rfl
            walk_at "Ddl"
            exact phases_post (by rw [hb] at hs; rwa [show ((c.toNat : Nat) : Int) = c by omega] at hs)
end DL

namespace DL
open PySem PySem.Spec PyProof.Rows L2
theorem LsOk.snoc {c : Int} : ∀ {lo : Int} {ls : List Ln} {a : Int} {s : Sp2}, LsOk c lo ls → lo < a → (∀ l ∈ ls, l.1 < a) → SpOk c 0 s → LsOk c lo (ls ++ [(a, s)])
  | lo, [], a, s, _, h1, h2, h3 => ⟨h1, h3, trivial⟩
  | lo, (x, y) :: r, a, s, ⟨g1, g2, g3⟩, h1, h2, h3 => ⟨g1, g2, LsOk.snoc g3 (h2 (x, y) (by simp)) (fun l hl => h2 l (by simp [hl])) h3⟩
theorem TbOk.snoc {c : Int} {ls : List Ln} {a : Int} {s : Sp2} (h : TbOk c ls) (h2 : ∀ l ∈ ls, l.1 < a) (h3 : SpOk c 0 s) : TbOk c (ls ++ [(a, s)]) := by
  obtain ⟨hc, sp, r, rfl, h4, h5⟩ := h
  refine ⟨hc, sp, r ++ [(a, s)], rfl, h4, LsOk.snoc h5 (h2 (0, sp) (by simp)) (fun l hl => h2 l (by simp [hl])) h3⟩
theorem TbOk.one {c : Int} {s : Sp2} (hc : 1 ≤ c ∧ c ≤ 60) (h : SpOk c 0 s) : TbOk c [(0, s)] := ⟨hc, s, [], rfl, h, trivial⟩
def spT (B : Nat) : FSpec where
  pre := fun ds => ∃ (ns ms : List Int) (c : Int), ds = [.lst (ns.map D.int), .rol (ms.map D.int), .int c] ∧ 1 ≤ c ∧ c ≤ 60
  post := fun ds r ds' => ∀ (xs ys : List D) (c : Int), ds = [.lst xs, .rol ys, .int c] → ∃ (ns : List Int) (ls : List Ln), r = encT c ls ∧ ds' = [.lst (ns.map D.int), .rol ys, .int c] ∧ TbOk c ls ∧ ls.length ≤ B
abbrev sp_law_table : FSpec := spT 4
/-- slots: 0 draws, 1 script, 2 cycle, 3 lines, 4 start, 5 k -/
def w_law_table : WS :=
    (cSeq (cAsg 3 [0, 1, 2] 3 (cLst (cCons (cTup (cCons (cC (.int 0)) (cCons (cCallN 2 sp_law_phases (cCons (cVar 0) (cCons (cVar 2) cNil))) cNil))) cNil)))
    (cSeq (cAsg 3 [0, 1, 2] 4 (cC (.int 0)))
    (cSeq (cFor [0, 1, 2] (iR1 (cCallN 2 sp_law_take (cCons (cVar 0) (cCons (cC (.int 4)) cNil)))) (gN 3 [0, 1, 2] 5)
      (cSeq (cAsg 3 [0, 1, 2] 4 (cOp fAddG (cOp fAddG (cVar 4) (cC (.int 1))) (cCallN 2 sp_law_size (cCons (cVar 0) (cCons (cVar 1) cNil)))))
        (cEx (cMeth 3 fAppend (cCons (cTup (cCons (cVar 4) (cCons (cCallN 2 sp_law_phases (cCons (cVar 0) (cCons (cVar 2) cNil))) cNil))) cNil)))))
    (cRet 3 (cTup (cCons (cVar 2) (cCons (cBi fTuple (cCons (cVar 3) cNil)) cNil)))))))
theorem table_post {B : Nat} {ns xs ms : List Int} {c : Int} {ls : List Ln} (h : TbOk c ls) (hl : ls.length ≤ B) : (spT B).post [.lst (ns.map D.int), .rol (ms.map D.int), .int c] (encT c ls) [.lst (xs.map D.int), .rol (ms.map D.int), .int c] := by
  intro xs ys c' e
  simp only [List.cons.injEq, and_true, D.lst.injEq, D.int.injEq, D.rol.injEq] at e
  obtain ⟨_, rfl, rfl⟩ := e
  exact ⟨_, ls, rfl, rfl, h, hl⟩
local macro_rules | `(tactic| walk_at "Ddl") => `(tactic| ((conv => whnf); (repeat ((first | refine And.intro rfl ?_ | refine And.intro trivial ?_ | refine And.intro ⟨rfl, trivial⟩ ?_ | refine And.intro ⟨rfl, rfl, trivial⟩ ?_ | refine ifb_t ?_ | refine ifb_f ?_ | refine ifb_nr ?_ | refine ifb_er ?_ | refine And.intro (by first | decide | omega | (unfold CMul; omega) | (unfold CDiv; omega) | (unfold CPow; decide) | (exact cpow1 (by omega) (by omega)) | (exact cpow1 (by dsimp only; omega) (by dsimp only; omega)) | (simp only [rngD_len, List.length_replicate, List.length_map, List.length_append, List.length_cons, List.length_nil, List.length_set] at *; omega)) ?_); conv => whnf))))
theorem pure_law_table : ∀ ds, ds.length = 3 → sp_law_table.pre ds → w_law_table (env0 ds 3) { nx := fun e => sp_law_table.post ds .non (outs e 3), rt := fun d e => sp_law_table.post ds d (outs e 3) } := by
  rintro ds _ ⟨ns, ms, c, rfl, h0, h1⟩
  walk_at "Ddl"
  refine ⟨⟨_, _, rfl, h0, h1⟩, ?_⟩
  intro r ds' hp
  obtain ⟨ns1, s, rfl, rfl, hs⟩ := hp _ _ rfl
  walk_at "Ddl"
  refine ⟨⟨⟨_, rfl⟩, by first | decide | omega⟩, ?_⟩; rintro _ _ ⟨ns2, v, rfl, rfl, h2, h3⟩; walk_at "Ddl"
  refine loop_rng (fun j e => ∃ (ks : List Int) (ls : List Ln) (st : Int) (o : Option D), (TbOk c ls ∧ (ls.length : Int) = j + 1 ∧ 0 ≤ st ∧ ∀ l ∈ ls, l.1 ≤ st) ∧ e = [some (.lst (ks.map D.int)), some (.rol (ms.map D.int)), some (.int c), some (.lst (ls.map encL)), some (.int st), o]) ⟨ns2, [(0, s)], 0, none, ⟨TbOk.one ⟨h0, h1⟩ hs, by simp, Int.le_refl _, by simp⟩, rfl⟩ ?_ ?_
  · rintro j env nxt hj0 hj1 ⟨ks, ls, st, o, ⟨ht, hl, hs0, hle⟩, rfl⟩ hx
    walk_at "Ddl"
    refine ⟨⟨⟨_, rfl⟩, _, rfl⟩, ?_⟩
    rintro _ _ ⟨ns3, v3, rfl, rfl, hv3⟩
    walk_at "Ddl"
    refine ⟨⟨_, _, rfl, h0, h1⟩, ?_⟩
    intro r ds' hp
    obtain ⟨ns4, s4, rfl, rfl, hs4⟩ := hp _ _ rfl
    walk_at "Ddl"
    exact hx _ ⟨ns4, ls ++ [(st + 1 + v3, s4)], st + 1 + v3, _, ⟨ht.snoc (fun l hl => by have := hle l hl; omega) hs4, by simp; omega, by omega, fun l hl => by
      rcases List.mem_append.mp hl with h | h
      · have := hle l h; omega
      · rw [List.mem_singleton.mp h]; exact Int.le_refl _⟩, by (first | rfl | (simp only [List.map_append, List.map_set, List.map_cons, List.map_nil]; done) | (simp only [List.map_append, List.map_set, List.map_cons, List.map_nil]; rfl))⟩
  · rintro env ⟨ks, ls, st, o, ⟨ht, hl, hs0, hle⟩, rfl⟩
    walk_at "Ddl"
    exact table_post ht (by omega)
abbrev sp_law_long_table : FSpec := spT 12
/-- slots: 0 draws, 1 script, 2 cycle, 3 lines, 4 start, 5 k -/
def w_law_long_table : WS :=
    (cSeq (cIte (cOp fGt (cCallN 2 sp_law_take (cCons (cVar 0) (cCons (cC (.int 8)) cNil))) (cC (.int 0)))
      (cRet 3 (cCallN 3 sp_law_table (cCons (cVar 0) (cCons (cVar 1) (cCons (cVar 2) cNil)))))
      cNilS)
    (cSeq (cAsg 3 [0, 1, 2] 3 (cLst (cCons (cTup (cCons (cC (.int 0)) (cCons (cCallN 2 sp_law_phases (cCons (cVar 0) (cCons (cVar 2) cNil))) cNil))) cNil)))
    (cSeq (cAsg 3 [0, 1, 2] 4 (cC (.int 0)))
    (cSeq (cFor [0, 1, 2] (iR1 (cOp fAddG (cC (.int 4)) (cCallN 2 sp_law_take (cCons (cVar 0) (cCons (cC (.int 8)) cNil))))) (gN 3 [0, 1, 2] 5)
      (cSeq (cAsg 3 [0, 1, 2] 4 (cOp fAddG (cOp fAddG (cVar 4) (cC (.int 1))) (cCallN 2 sp_law_take (cCons (cVar 0) (cCons (cOp fAddG (cVar 2) (cC (.int 6))) cNil)))))
        (cEx (cMeth 3 fAppend (cCons (cTup (cCons (cVar 4) (cCons (cCallN 2 sp_law_phases (cCons (cVar 0) (cCons (cVar 2) cNil))) cNil))) cNil)))))
    (cRet 3 (cTup (cCons (cVar 2) (cCons (cBi fTuple (cCons (cVar 3) cNil)) cNil))))))))
theorem pure_law_long_table : ∀ ds, ds.length = 3 → sp_law_long_table.pre ds → w_law_long_table (env0 ds 3) { nx := fun e => sp_law_long_table.post ds .non (outs e 3), rt := fun d e => sp_law_long_table.post ds d (outs e 3) } := by
  rintro ds _ ⟨ns, ms, c, rfl, h0, h1⟩
  walk_at "Ddl"
  refine ⟨⟨⟨_, rfl⟩, by first | decide | omega⟩, ?_⟩; rintro _ _ ⟨ns1, v1, rfl, rfl, h2, h3⟩; walk_at "Ddl"
  refine ifb_dec (fun e1 => ?_) (fun e1 => ?_)
  · walk_at "Ddl"
    refine ⟨⟨_, _, _, rfl, h0, h1⟩, ?_⟩
    intro r ds' hp
    obtain ⟨ns2, ls, rfl, rfl, hls, hll⟩ := hp _ _ _ rfl
    walk_at "Ddl"
    exact table_post hls (by omega)
  · walk_at "Ddl"
    refine ⟨⟨_, _, rfl, h0, h1⟩, ?_⟩
    intro r ds' hp
    obtain ⟨ns1, s, rfl, rfl, hs⟩ := hp _ _ rfl
    walk_at "Ddl"
    refine ⟨⟨⟨_, rfl⟩, by first | decide | omega⟩, ?_⟩; rintro _ _ ⟨ns2, v, rfl, rfl, h2, h3⟩; walk_at "Ddl"
    refine loop_rng (fun j e => ∃ (ks : List Int) (ls : List Ln) (st : Int) (o : Option D), (TbOk c ls ∧ (ls.length : Int) = j + 1 ∧ 0 ≤ st ∧ ∀ l ∈ ls, l.1 ≤ st) ∧ e = [some (.lst (ks.map D.int)), some (.rol (ms.map D.int)), some (.int c), some (.lst (ls.map encL)), some (.int st), o]) ⟨ns2, [(0, s)], 0, none, ⟨TbOk.one ⟨h0, h1⟩ hs, by simp, Int.le_refl _, by simp⟩, rfl⟩ ?_ ?_
    · rintro j env nxt hj0 hj1 ⟨ks, ls, st, o, ⟨ht, hl, hs0, hle⟩, rfl⟩ hx
      walk_at "Ddl"
      refine ⟨⟨⟨_, rfl⟩, by omega⟩, ?_⟩
      rintro _ _ ⟨ns3, v3, rfl, rfl, hv3, hv4⟩
      walk_at "Ddl"
      refine ⟨⟨_, _, rfl, h0, h1⟩, ?_⟩
      intro r ds' hp
      obtain ⟨ns4, s4, rfl, rfl, hs4⟩ := hp _ _ rfl
      walk_at "Ddl"
      exact hx _ ⟨ns4, ls ++ [(st + 1 + v3, s4)], st + 1 + v3, _, ⟨ht.snoc (fun l hl => by have := hle l hl; omega) hs4, by simp; omega, by omega, fun l hl => by
        rcases List.mem_append.mp hl with h | h
        · have := hle l h; omega
        · rw [List.mem_singleton.mp h]; exact Int.le_refl _⟩, by (first | rfl | (simp only [List.map_append, List.map_set, List.map_cons, List.map_nil]; done) | (simp only [List.map_append, List.map_set, List.map_cons, List.map_nil]; rfl))⟩
    · rintro env ⟨ks, ls, st, o, ⟨ht, hl, hs0, hle⟩, rfl⟩
      walk_at "Ddl"
      exact table_post ht (by omega)
/-! equal data are the same -/
def fitD : Nat → D → Bool
  | _, .non => true
  | _, .bl _ => true
  | _, .int _ => true
  | _, .str _ => true
  | 0, _ => false
  | n + 1, .tup xs => decide (xs.length ≤ 900000) && (xs.all (fun d => !isL d && fitD n d))
  | n + 1, .lst xs => decide (xs.length ≤ 900000) && (xs.all (fun d => !isL d && fitD n d))
  | n + 1, .tpd xs => decide (xs.length ≤ 900000) && (xs.all (fun d => !isL d && fitD n d))
  | _ + 1, .rol _ => false
  | _ + 1, .rod _ _ => false
  | _ + 1, .obj _ _ => false
theorem flatA_rep : ∀ n : Nat, flatA (List.replicate n (D.bl true)) = true
  | 0 => rfl
  | n + 1 => by rw [List.replicate_succ]; simp only [flatA, flatD, flatA_rep n]; rfl
theorem any_rep : ∀ n : Nat, ((List.replicate n (D.bl true)).any fun y => eqF y (D.bl false)) = false
  | 0 => rfl
  | n + 1 => by rw [List.replicate_succ, List.any_cons, any_rep n]; rfl
def spn_law_same : Nat → FSpec
  | 0 => ⟨fun _ => False, fun _ _ _ => False⟩
  | n + 1 => ⟨fun ds => ∃ d, ds = [d, d] ∧ fitD n d = true, fun ds r ds' => r = .bl true ∧ ds' = ds⟩
abbrev sp_law_same : FSpec := spn_law_same 8
/-- slots: 0 actual, 1 due, 2 k -/
def w_law_same (n : Nat) : WS :=
    (cSeq (cIte (cIsi2 .tuple .list (cVar 1))
      (cSeq (cIte (cOr (cOp fNeS (cIsi .tuple (cVar 0)) (cIsi .tuple (cVar 1))) (cOp fNeS (cIsi .list (cVar 0)) (cIsi .list (cVar 1))))
          (cRet 2 (cC (.bl false)))
          cNilS)
        (cSeq (cIte (cOp fNeS (cBi fLen (cCons (cVar 0) cNil)) (cBi fLen (cCons (cVar 1) cNil)))
          (cRet 2 (cC (.bl false)))
          cNilS)
        (cRet 2 (cOp (fIn true) (cC (.bl false)) (cLc [2] (iR1 (cBi fLen (cCons (cVar 1) cNil))) (gN 2 [] 2) tTrue (cCallN 2 (spn_law_same n) (cCons (cOp fIx (cVar 0) (cVar 2)) (cCons (cOp fIx (cVar 1) (cVar 2)) cNil))))))))
      cNilS)
    (cSeq (cIte (cOr (cOp fNeS (cIsi .bool (cVar 0)) (cIsi .bool (cVar 1))) (cOp fNeS (cIsi .int (cVar 0)) (cIsi .int (cVar 1))))
      (cRet 2 (cC (.bl false)))
      cNilS)
    (cSeq (cIte (cOr (cOp fNeS (cIsi .str (cVar 0)) (cIsi .str (cVar 1))) (cOp fNeS (cUn (fIsN false) (cVar 0)) (cUn (fIsN false) (cVar 1))))
      (cRet 2 (cC (.bl false)))
      cNilS)
    (cRet 2 (cOp fEqS (cVar 0) (cVar 1))))))
theorem pure_law_same : ∀ n, ∀ ds, ds.length = 2 → (spn_law_same (n + 1)).pre ds → w_law_same n (env0 ds 1) { nx := fun e => (spn_law_same (n + 1)).post ds .non (outs e 2), rt := fun d e => (spn_law_same (n + 1)).post ds d (outs e 2) } := by
  rintro n ds _ ⟨d, rfl, hf⟩
  cases d with
  | non => walk_at "Ddl"; rfl
  | bl b => walk_at "Ddl"; simp; rfl
  | int i => walk_at "Ddl"; simp; rfl
  | str x => walk_at "Ddl"; simp; rfl
  | tup xs =>
    obtain ⟨n, rfl⟩ : ∃ m, n = m + 1 := by
      cases n with
      | zero => simp [fitD] at hf
      | succ m => exact ⟨m, rfl⟩
    simp only [fitD, Bool.and_eq_true, decide_eq_true_eq, List.all_eq_true] at hf
    obtain ⟨hl, hf⟩ := hf
    walk_at "Ddl"
    refine lcGo_map (fun _ => .bl true) _ _ ?_ ?_
    · intro x nxt acc hx hn
      obtain ⟨i, rfl, h1, h2⟩ := rng_mem hx
      obtain ⟨h, ea⟩ := atI_lt (xs := xs) (j := i) h1 (by omega)
      walk_at "Ddl"
      rw [ea]
      walk_at "Ddl"
      rw [ea]
      walk_at "Ddl"
      have hd := hf _ (List.getElem_mem h)
      have hL : isL xs[i.toNat] = false := by simpa using hd.1
      refine ⟨⟨_, rfl, hd.2⟩, ?_⟩
      rintro _ _ ⟨rfl, rfl⟩
      walk_at "Ddl"
      exact hn
    · rw [map_const]
      refine ⟨trivial, ?_⟩
      walk_at "Ddl"
      refine ⟨flatA_rep _, ?_⟩
      dsimp only
      rw [any_rep]
      walk_at "Ddl"
      rfl
  | lst xs =>
    obtain ⟨n, rfl⟩ : ∃ m, n = m + 1 := by
      cases n with
      | zero => simp [fitD] at hf
      | succ m => exact ⟨m, rfl⟩
    simp only [fitD, Bool.and_eq_true, decide_eq_true_eq, List.all_eq_true] at hf
    obtain ⟨hl, hf⟩ := hf
    walk_at "Ddl"
    refine lcGo_map (fun _ => .bl true) _ _ ?_ ?_
    · intro x nxt acc hx hn
      obtain ⟨i, rfl, h1, h2⟩ := rng_mem hx
      obtain ⟨h, ea⟩ := atI_lt (xs := xs) (j := i) h1 (by omega)
      walk_at "Ddl"
      rw [ea]
      walk_at "Ddl"
      rw [ea]
      walk_at "Ddl"
      have hd := hf _ (List.getElem_mem h)
      have hL : isL xs[i.toNat] = false := by simpa using hd.1
      refine ⟨⟨_, rfl, hd.2⟩, ?_⟩
      rintro _ _ ⟨rfl, rfl⟩
      walk_at "Ddl"
      exact hn
    · rw [map_const]
      refine ⟨trivial, ?_⟩
      walk_at "Ddl"
      refine ⟨flatA_rep _, ?_⟩
      dsimp only
      rw [any_rep]
      walk_at "Ddl"
      rfl
  | tpd xs =>
    obtain ⟨n, rfl⟩ : ∃ m, n = m + 1 := by
      cases n with
      | zero => simp [fitD] at hf
      | succ m => exact ⟨m, rfl⟩
    simp only [fitD, Bool.and_eq_true, decide_eq_true_eq, List.all_eq_true] at hf
    obtain ⟨hl, hf⟩ := hf
    walk_at "Ddl"
    refine lcGo_map (fun _ => .bl true) _ _ ?_ ?_
    · intro x nxt acc hx hn
      obtain ⟨i, rfl, h1, h2⟩ := rng_mem hx
      obtain ⟨h, ea⟩ := atI_lt (xs := xs) (j := i) h1 (by omega)
      walk_at "Ddl"
      rw [ea]
      walk_at "Ddl"
      rw [ea]
      walk_at "Ddl"
      have hd := hf _ (List.getElem_mem h)
      have hL : isL xs[i.toNat] = false := by simpa using hd.1
      refine ⟨⟨_, rfl, hd.2⟩, ?_⟩
      rintro _ _ ⟨rfl, rfl⟩
      walk_at "Ddl"
      exact hn
    · rw [map_const]
      refine ⟨trivial, ?_⟩
      walk_at "Ddl"
      refine ⟨flatA_rep _, ?_⟩
      dsimp only
      rw [any_rep]
      walk_at "Ddl"
      rfl
  | rol xs => cases n <;> simp [fitD] at hf
  | rod _ _ => cases n <;> simp [fitD] at hf
  | obj _ _ => cases n <;> simp [fitD] at hf
end DL

namespace DL
open PySem PySem.Spec PyProof.Rows L2
theorem atI_getD {α : Type} {f : α → D} {xs : List α} {j : Int} (dd : α) (h0 : 0 ≤ j) (h1 : j < xs.length) : atI (xs.map f) j = some (f (xs.getD j.toNat dd)) := by
  obtain ⟨h, e⟩ := atI_lt (xs := xs.map f) h0 (by simpa using h1)
  have h' : j.toNat < xs.length := by omega
  rw [e]
  simp [List.getD, h']
theorem LsOk.pw {c : Int} : ∀ {lo : Int} {ls : List Ln}, LsOk c lo ls → (∀ l ∈ ls, lo < l.1) ∧ ls.Pairwise fun a b => a.1 < b.1
  | _, [], _ => ⟨by simp, .nil⟩
  | lo, (x, y) :: r, ⟨g1, g2, g3⟩ => by
    obtain ⟨h1, h2⟩ := LsOk.pw g3
    refine ⟨fun l hl => ?_, .cons (fun l hl => h1 l hl) h2⟩
    rcases List.mem_cons.mp hl with rfl | hl
    · exact g1
    · have := h1 l hl; omega
theorem TbOk.pw {c : Int} {ls : List Ln} (h : TbOk c ls) : ls.Pairwise fun a b => a.1 < b.1 := by
  obtain ⟨hc, sp, r, rfl, h4, h5⟩ := h
  exact .cons (fun l hl => h5.pw.1 l hl) h5.pw.2
theorem LsOk.sp {c : Int} : ∀ {lo : Int} {ls : List Ln}, LsOk c lo ls → ∀ l ∈ ls, SpOk c 0 l.2
  | _, [], _, l, h => by simp at h
  | lo, (x, y) :: r, ⟨g1, g2, g3⟩, l, h => by
    rcases List.mem_cons.mp h with rfl | h
    · exact g2
    · exact LsOk.sp g3 l h
theorem TbOk.sp {c : Int} {ls : List Ln} (h : TbOk c ls) : ∀ l ∈ ls, SpOk c 0 l.2 ∧ 0 ≤ l.1 := by
  obtain ⟨hc, sp, r, rfl, h4, h5⟩ := h
  intro l hl
  rcases List.mem_cons.mp hl with rfl | hl
  · exact ⟨h4, Int.le_refl _⟩
  · exact ⟨h5.sp l hl, by have := h5.pw.1 l hl; omega⟩
theorem SpOk.len {c : Int} : ∀ {lo : Int} {s : Sp2}, 0 ≤ lo → SpOk c lo s → s = [] ∨ (s.length : Int) + lo ≤ c
  | lo, [], _, _ => .inl rfl
  | lo, (a, b) :: r, h0, ⟨h1, h2, h3, h4⟩ => .inr (by
    rcases SpOk.len (by omega) h4 with rfl | h
    · simp; omega
    · simp; omega)
/-- what holds at a moment -/
def fnd (c m : Int) : Bool → List Ln → Bool
  | f, [] => f
  | f, l :: r => fnd c m (if l.1 ≤ m then inS (m % c) l.2 else f) r
theorem fnd_none (c m : Int) : ∀ (f : Bool) (q : List Ln), (∀ l ∈ q, m < l.1) → fnd c m f q = f
  | f, [], _ => rfl
  | f, l :: r, h => by
    have h1 := h l (by simp)
    simp only [fnd]
    rw [if_neg (by omega)]
    exact fnd_none c m f r fun x hx => h x (by simp [hx])
theorem encL_inj {a b : Ln} (h : encL a = encL b) : a = b := by
  obtain ⟨x, s⟩ := a
  obtain ⟨y, t⟩ := b
  simp only [encL, encS, D.tup.injEq, List.cons.injEq, D.int.injEq, and_true] at h
  obtain ⟨rfl, h⟩ := h
  have : s = t := (List.map_inj_right (fun a b h => by
    obtain ⟨x, s⟩ := a
    obtain ⟨y, t⟩ := b
    simp only [encP, D.tup.injEq, List.cons.injEq, D.int.injEq, and_true] at h
    simp [h])).mp h
  rw [this]
theorem encT_inj {c c' : Int} {ls ls' : List Ln} (h : encT c ls = encT c' ls') : c = c' ∧ ls = ls' := by
  simp only [encT, D.tup.injEq, List.cons.injEq, D.int.injEq, and_true] at h
  exact ⟨h.1, (List.map_inj_right (fun a b h => encL_inj h)).mp h.2⟩
local macro_rules | `(tactic| walk_at "Ddl") => `(tactic| ((conv => whnf); (repeat ((first | refine And.intro rfl ?_ | refine And.intro trivial ?_ | refine And.intro ⟨rfl, trivial⟩ ?_ | refine And.intro ⟨rfl, rfl, trivial⟩ ?_ | refine ifb_t ?_ | refine ifb_f ?_ | refine ifb_nr ?_ | refine ifb_er ?_ | refine And.intro (by first | decide | omega | (unfold CMul; omega) | (unfold CDiv; omega) | (unfold CPow; decide) | (exact cpow1 (by omega) (by omega)) | (exact cpow1 (by dsimp only; omega) (by dsimp only; omega)) | (simp only [rngD_len, List.length_replicate, List.length_map, List.length_append, List.length_cons, List.length_nil, List.length_set] at *; omega)) ?_); conv => whnf))))
end DL

namespace DL
/-! ### masks as naturals -/
theorem full_bit (c p : Nat) : (2 ^ c - 1).testBit p = decide (p < c) := Nat.testBit_two_pow_sub_one c p
def turnN (m c b : Nat) : Nat := ((m >>> b) ||| (m <<< (c - b))) &&& (2 ^ c - 1)
theorem bit_hi {m c p : Nat} (h : m < 2 ^ c) (hp : c ≤ p) : m.testBit p = false := by
  refine Nat.testBit_lt_two_pow (Nat.lt_of_lt_of_le h (Nat.pow_le_pow_right (by decide) hp))
theorem lt_of_bits {m c : Nat} (h : ∀ p, c ≤ p → m.testBit p = false) : m < 2 ^ c := Nat.lt_pow_two_of_testBit m h
theorem turn_bit {m c b : Nat} (hm : m < 2 ^ c) (hb : b < c) (p : Nat) : (turnN m c b).testBit p = (decide (p < c) && m.testBit ((b + p) % c)) := by
  unfold turnN
  rw [Nat.testBit_and, Nat.testBit_or, Nat.testBit_shiftRight, Nat.testBit_shiftLeft, full_bit]
  by_cases hp : p < c
  · simp only [hp, decide_true, Bool.and_true, Bool.true_and]
    by_cases h : b + p < c
    · rw [Nat.mod_eq_of_lt h]
      have : ¬ (p ≥ c - b) := by omega
      simp [this]
    · have e : (b + p) % c = p - (c - b) := by
        rw [Nat.mod_eq_sub_mod (by omega), Nat.mod_eq_of_lt (by omega)]; omega
      rw [bit_hi hm (by omega), e]
      have : p ≥ c - b := by omega
      simp [this]
  · simp [hp]
theorem turn_lt {m c b : Nat} (hm : m < 2 ^ c) (hb : b < c) : turnN m c b < 2 ^ c := lt_of_bits fun p hp => by
  rw [turn_bit hm hb]; simp; omega
/-- the lowest bit -/
theorem and_even (a b : Nat) : (2 * a) &&& (2 * b + 1) = 2 * (a &&& b) := by
  apply Nat.eq_of_testBit_eq
  intro i
  cases i with
  | zero => simp [Nat.testBit_zero]
  | succ i =>
    rw [Nat.testBit_and, Nat.testBit_succ, Nat.testBit_succ, Nat.testBit_succ, show 2 * a / 2 = a by omega, show (2 * b + 1) / 2 = b by omega, show 2 * (a &&& b) / 2 = a &&& b by omega, Nat.testBit_and]
theorem and_odd (a : Nat) : (2 * a + 1) &&& (2 * a) = 2 * a := by
  apply Nat.eq_of_testBit_eq
  intro i
  cases i with
  | zero => simp [Nat.testBit_zero]
  | succ i =>
    rw [Nat.testBit_and, Nat.testBit_succ, Nat.testBit_succ, show 2 * a / 2 = a by omega, show (2 * a + 1) / 2 = a by omega, Bool.and_self]
theorem low_bit : ∀ (n : Nat), 0 < n → ∃ k, n - (n &&& (n - 1)) = 2 ^ k ∧ n.testBit k = true ∧ ∀ j, j < k → n.testBit j = false := by
  intro n
  induction n using Nat.strongRecOn with
  | ind n ih =>
    intro hn
    rcases Nat.mod_two_eq_zero_or_one n with h | h
    · obtain ⟨m, rfl⟩ : ∃ m, n = 2 * m := ⟨n / 2, by omega⟩
      obtain ⟨k, h1, h2, h3⟩ := ih m (by omega) (by omega)
      refine ⟨k + 1, ?_, ?_, ?_⟩
      · rw [show 2 * m - 1 = 2 * (m - 1) + 1 by omega, and_even, Nat.pow_succ, ← h1]
        have : m &&& (m - 1) ≤ m := Nat.and_le_left
        omega
      · rw [Nat.testBit_succ, show 2 * m / 2 = m by omega, h2]
      · intro j hj
        cases j with
        | zero => simp [Nat.testBit_zero]
        | succ j => rw [Nat.testBit_succ, show 2 * m / 2 = m by omega]; exact h3 j (by omega)
    · obtain ⟨m, rfl⟩ : ∃ m, n = 2 * m + 1 := ⟨n / 2, by omega⟩
      refine ⟨0, ?_, by simp [Nat.testBit_zero], fun j hj => absurd hj (by omega)⟩
      rw [show 2 * m + 1 - 1 = 2 * m by omega, and_odd]
      omega
theorem high_bit {n : Nat} (h : n ≠ 0) : n.testBit n.log2 = true ∧ ∀ j, n.log2 < j → n.testBit j = false := by
  refine ⟨Nat.testBit_log2 h, fun j hj => Nat.testBit_lt_two_pow (Nat.lt_of_lt_of_le Nat.lt_log2_self (Nat.pow_le_pow_right (by decide) hj))⟩
theorem run_bit {a b : Nat} (h : a ≤ b) (p : Nat) : (2 ^ b - 2 ^ a).testBit p = (decide (a ≤ p) && decide (p < b)) := by
  have e : 2 ^ b - 2 ^ a = (2 ^ (b - a) - 1) <<< a := by
    rw [Nat.shiftLeft_eq, Nat.sub_mul, ← Nat.pow_add, Nat.one_mul, show b - a + a = b by omega]
  rw [e, Nat.testBit_shiftLeft, full_bit]
  by_cases h1 : a ≤ p
  · by_cases h2 : p < b
    · have : p - a < b - a := by omega
      simp [h1, h2, this]
    · have : ¬ p - a < b - a := by omega
      simp [h1, h2, this]
  · simp [h1]
theorem bit_ne {m : Nat} (h : m ≠ 0) : ∃ p, m.testBit p = true := ⟨_, (high_bit h).1⟩
/-! ### phases -/
theorem ph_lt {c t : Int} (hc : 1 ≤ c) : 0 ≤ t % c ∧ t % c < c := ⟨Int.emod_nonneg _ (by omega), Int.emod_lt_of_pos _ (by omega)⟩
def mb (m : Nat) (c t : Int) : Bool := m.testBit (t % c).toNat
theorem ph_add {c s : Int} (hc : 1 ≤ c) (k : Nat) : (((s % c).toNat + k) % c.toNat : Nat) = ((s + k) % c).toNat := by
  have h1 := ph_lt (c := c) (t := s) hc
  have e : (s + k) % c = ((s % c) + k) % c := by rw [Int.emod_add_emod]
  have this : ((((s % c).toNat + k) % c.toNat : Nat) : Int) = (s % c + k) % c := by
    rw [Int.natCast_emod, Int.natCast_add, Int.toNat_of_nonneg h1.1, Int.toNat_of_nonneg (by omega)]
  rw [e, ← this, Int.toNat_natCast]
theorem ph_eq {c t u : Int} (hc : 1 ≤ c) (h : t % c = u % c) (hlt : t < u) : t + c ≤ u := by
  have h1 := Int.emod_add_mul_ediv t c
  have h2 := Int.emod_add_mul_ediv u c
  have h3 : c * (t / c) < c * (u / c) := by omega
  have h4 : t / c < u / c := Int.lt_of_mul_lt_mul_left h3 (by omega)
  have h5 : c * (t / c + 1) ≤ c * (u / c) := Int.mul_le_mul_of_nonneg_left (by omega) (by omega)
  rw [Int.mul_add, Int.mul_one] at h5
  omega
/-- a moment of a phase at or behind s, within a cycle -/
theorem ph_at {c : Int} (hc : 1 ≤ c) (s p : Int) (hp : 0 ≤ p ∧ p < c) : ∃ t, s ≤ t ∧ t < s + c ∧ t % c = p := by
  refine ⟨s + (p - s) % c, ?_, ?_, ?_⟩
  · have := ph_lt (c := c) (t := p - s) hc; omega
  · have := ph_lt (c := c) (t := p - s) hc; omega
  · rw [Int.add_emod_emod, show s + (p - s) = p by omega, Int.emod_eq_of_lt hp.1 hp.2]
theorem mb_per {m : Nat} {c t u : Int} (h : t % c = u % c) : mb m c t = mb m c u := by unfold mb; rw [h]
theorem mb_zero (c t : Int) : mb 0 c t = false := by simp [mb]
theorem mb_full {c : Int} (hc : 1 ≤ c) (t : Int) : mb (2 ^ c.toNat - 1) c t = true := by
  unfold mb
  rw [full_bit]
  have := ph_lt (c := c) (t := t) hc
  exact decide_eq_true (by omega)
theorem turn_mb {m : Nat} {c s : Int} (hc : 1 ≤ c) (hm : m < 2 ^ c.toNat) (k : Nat) (hk : (k : Int) < c) : (turnN m c.toNat (s % c).toNat).testBit k = mb m c (s + k) := by
  have := ph_lt (c := c) (t := s) hc
  rw [turn_bit hm (by omega), ph_add hc]
  have : k < c.toNat := by omega
  simp [this, mb]
theorem mask_ne {m : Nat} {c : Int} (hc : 1 ≤ c) (hm : m < 2 ^ c.toNat) (h : m ≠ 0) (s : Int) : turnN m c.toNat (s % c).toNat ≠ 0 := by
  obtain ⟨p, hp⟩ := bit_ne h
  have hpc : (p : Int) < c := by
    by_cases h : (p : Int) < c
    · exact h
    · rw [bit_hi hm (by omega)] at hp; cases hp
  obtain ⟨t, h1, h2, h3⟩ := ph_at hc s p ⟨by omega, hpc⟩
  intro e
  have := turn_mb (s := s) hc hm (t - s).toNat (by omega)
  rw [e, show s + ((t - s).toNat : Int) = t by omega] at this
  unfold mb at this
  rw [h3] at this
  simp [hp] at this
/-! ### first and last moments of a mask -/
def FirstW (m : Nat) (c s : Int) (e : Option Int) (r : Option Int) : Prop := match r with
  | none => ∀ t, s ≤ t → (∀ x, e = some x → t < x) → mb m c t = false
  | some f => s ≤ f ∧ (∀ x, e = some x → f < x) ∧ mb m c f = true ∧ ∀ t, s ≤ t → t < f → mb m c t = false
theorem first_w {m : Nat} {c s : Int} (hc : 1 ≤ c) (hm : m < 2 ^ c.toNat) (h : m ≠ 0) {k : Nat} (h1 : (turnN m c.toNat (s % c).toNat).testBit k = true) (h2 : ∀ j, j < k → (turnN m c.toNat (s % c).toNat).testBit j = false) (e : Option Int) :
    (k : Int) < c ∧ FirstW m c s none (some (s + k)) := by
  have hs := ph_lt (c := c) (t := s) hc
  have hk : (k : Int) < c := by
    by_cases h : (k : Int) < c
    · exact h
    · rw [bit_hi (turn_lt hm (by omega)) (by omega)] at h1; cases h1
  refine ⟨hk, (by omega : s ≤ s + (k : Int)), (fun x (hx : none = some x) => nomatch hx), ?_, fun t ht1 ht2 => ?_⟩
  · rw [← turn_mb hc hm k hk, h1]
  · have := turn_mb (s := s) hc hm (t - s).toNat (by omega)
    rw [h2 _ (by omega), show s + ((t - s).toNat : Int) = t by omega] at this
    exact this.symm
/-! ### what a stretch covers -/
def CovW (n : Nat) (c s : Int) (e : Option Int) : Prop := n < 2 ^ c.toNat ∧ ∀ p : Nat, (p : Int) < c → (n.testBit p = true ↔ ∃ t, s ≤ t ∧ (∀ x, e = some x → t < x) ∧ t % c = p)
theorem cov_full {c s : Int} {e : Option Int} (hc : 1 ≤ c) (h : ∀ x, e = some x → s + c ≤ x) : CovW (2 ^ c.toNat - 1) c s e := by
  refine ⟨by have := Nat.two_pow_pos c.toNat; omega, fun p hp => ?_⟩
  rw [full_bit, decide_eq_true (by omega)]
  obtain ⟨t, h1, h2, h3⟩ := ph_at hc s p ⟨by omega, hp⟩
  exact ⟨fun _ => ⟨t, h1, fun x hx => by have := h x hx; omega, h3⟩, fun _ => rfl⟩
theorem cov_part {c s e : Int} (hc : 1 ≤ c) (h0 : s ≤ e) (h : e < s + c) : CovW (turnN (2 ^ (e - s).toNat - 1) c.toNat (-s % c).toNat) c s (some e) := by
  have hlt : 2 ^ (e - s).toNat - 1 < 2 ^ c.toNat := by
    have : 2 ^ (e - s).toNat ≤ 2 ^ c.toNat := Nat.pow_le_pow_right (by decide) (by omega)
    have := Nat.two_pow_pos (e - s).toNat
    omega
  have hs := ph_lt (c := c) (t := -s) hc
  refine ⟨turn_lt hlt (by omega), fun p hp => ?_⟩
  rw [turn_mb hc hlt p hp]
  unfold mb
  rw [full_bit, decide_eq_true_eq]
  have hq := ph_lt (c := c) (t := -s + p) hc
  constructor
  · intro hh
    refine ⟨s + (-s + p) % c, by omega, fun x hx => by cases hx; omega, ?_⟩
    rw [Int.add_emod_emod, show s + (-s + (p : Int)) = p by omega, Int.emod_eq_of_lt (by omega) hp]
  · rintro ⟨t, h1, h2, h3⟩
    have h2 := h2 e rfl
    have : (-s + (p : Int)) % c = t - s := by
      rw [← h3, Int.add_emod_emod, show -s + t = t - s by omega, Int.emod_eq_of_lt (by omega) (by omega)]
    omega
theorem CovW.mb {n : Nat} {c s : Int} {e : Option Int} (hc : 1 ≤ c) (h : CovW n c s e) (u : Int) : mb n c u = true ↔ ∃ t, s ≤ t ∧ (∀ x, e = some x → t < x) ∧ t % c = u % c := by
  have hu := ph_lt (c := c) (t := u) hc
  have := h.2 (u % c).toNat (by omega)
  rwa [Int.toNat_of_nonneg hu.1] at this
end DL

namespace DL
/-! ### spans have one form -/
theorem inS_lo {c : Int} : ∀ {lo : Int} {s : Sp2} {p : Int}, SpOk c lo s → inS p s = true → lo ≤ p ∧ p < c
  | lo, s, p, h, hp => by
    simp only [inS, List.any_eq_true, Bool.and_eq_true, decide_eq_true_eq] at hp
    obtain ⟨q, hq, h1, h2⟩ := hp
    have := SpOk.le h q hq
    omega
theorem inS_cons (p a b : Int) (r : Sp2) : inS p ((a, b) :: r) = (decide (a ≤ p) && decide (p < b) || inS p r) := by simp [inS]
theorem inS_nil (p : Int) : inS p [] = false := rfl
theorem sp_uniq {c : Int} : ∀ {s t : Sp2} {lo lo' : Int}, SpOk c lo s → SpOk c lo' t → (∀ p, inS p s = inS p t) → s = t
  | [], [], _, _, _, _, _ => rfl
  | [], (a, b) :: r, _, _, _, ⟨h1, h2, h3, h4⟩, e => by
    have := e a
    rw [inS_cons] at this
    have h : decide (a ≤ a) = true := by simp
    have h' : decide (a < b) = true := by simpa using h2
    simp [h, h', inS] at this
  | (a, b) :: r, [], _, _, ⟨h1, h2, h3, h4⟩, _, e => by
    have := e a
    rw [inS_cons] at this
    have h : decide (a ≤ a) = true := by simp
    have h' : decide (a < b) = true := by simpa using h2
    simp [h, h', inS] at this
  | (a, b) :: r, (a', b') :: r', lo, lo', ⟨h1, h2, h3, h4⟩, ⟨g1, g2, g3, g4⟩, e => by
    have key : ∀ p, inS p r = true → b + 1 ≤ p := fun p hp => (inS_lo h4 hp).1
    have key' : ∀ p, inS p r' = true → b' + 1 ≤ p := fun p hp => (inS_lo g4 hp).1
    have nr : ∀ p, p < b + 1 → inS p r = false := fun p hp => by
      cases h : inS p r with
      | false => rfl
      | true => have := key p h; omega
    have nr' : ∀ p, p < b' + 1 → inS p r' = false := fun p hp => by
      cases h : inS p r' with
      | false => rfl
      | true => have := key' p h; omega
    have ea : a = a' := by
      have e1 := e a
      have e2 := e a'
      rw [inS_cons, inS_cons] at e1 e2
      by_cases h : a < a'
      · rw [nr' a (by omega)] at e1
        have x1 : ¬ a' ≤ a := by omega
        have x3 : a ≤ a := by omega
        simp [x1, x3, h2] at e1
      · by_cases h' : a' < a
        · rw [nr a' (by omega)] at e2
          have x1 : ¬ a ≤ a' := by omega
          have x3 : a' ≤ a' := by omega
          simp [x1, x3, g2] at e2
        · omega
    subst ea
    have eb : b = b' := by
      have e1 := e b
      have e2 := e b'
      rw [inS_cons, inS_cons] at e1 e2
      by_cases h : b < b'
      · rw [nr b (by omega)] at e1
        have x1 : ¬ b < b := by omega
        have x3 : a ≤ b := by omega
        simp [x1, x3, h] at e1
      · by_cases h' : b' < b
        · rw [nr' b' (by omega)] at e2
          have x1 : ¬ b' < b' := by omega
          have x3 : a ≤ b' := by omega
          simp [x1, x3, h'] at e2
        · omega
    subst eb
    have : r = r' := sp_uniq h4 g4 fun p => by
      by_cases hp : p < b + 1
      · rw [nr p hp, nr' p hp]
      · have := e p
        rw [inS_cons, inS_cons] at this
        have x1 : ¬ p < b := by omega
        simpa [x1] using this
    rw [this]
/-- phases within the cycle are enough -/
theorem sp_uniq' {c : Int} {s t : Sp2} (hs : SpOk c 0 s) (ht : SpOk c 0 t) (e : ∀ p, 0 ≤ p → p < c → inS p s = inS p t) : s = t := sp_uniq hs ht fun p => by
  by_cases h : 0 ≤ p ∧ p < c
  · exact e p h.1 h.2
  · have h1 : inS p s = false := by
      cases h' : inS p s with
      | false => rfl
      | true => exact absurd (inS_lo hs h') h
    have h2 : inS p t = false := by
      cases h' : inS p t with
      | false => rfl
      | true => exact absurd (inS_lo ht h') h
    rw [h1, h2]

/-! ### the shortest table of a set -/
def Shp (c : Int) (S : Int → Bool) : Int → List Ln → Prop
  | _, [] => False
  | b, (s, sp) :: r => s = b ∧ SpOk c 0 sp ∧ match r with
    | [] => ∀ t, s ≤ t → inS (t % c) sp = S t
    | (s', _) :: _ => s + c ≤ s' ∧ (∀ t, s ≤ t → t < s' → inS (t % c) sp = S t) ∧ inS (s' % c) sp ≠ S s' ∧ Shp c S s' r
theorem Shp.one {c : Int} {S : Int → Bool} {b : Int} {sp : Sp2} (h : SpOk c 0 sp) (h2 : ∀ t, b ≤ t → inS (t % c) sp = S t) : Shp c S b [(b, sp)] := ⟨rfl, h, h2⟩
theorem Shp.two {c : Int} {S : Int → Bool} {b b' : Int} {sp sp' : Sp2} {r : List Ln} (h : SpOk c 0 sp) (h1 : b + c ≤ b') (h2 : ∀ t, b ≤ t → t < b' → inS (t % c) sp = S t) (h3 : inS (b' % c) sp ≠ S b') (h4 : Shp c S b' ((b', sp') :: r)) : Shp c S b ((b, sp) :: (b', sp') :: r) := ⟨rfl, h, h1, h2, h3, h4⟩
theorem Shp.uniq {c : Int} (hc : 1 ≤ c) {S S' : Int → Bool} : ∀ {ls ls' : List Ln} {b : Int}, Shp c S b ls → Shp c S' b ls' → (∀ t, b ≤ t → S t = S' t) → ls = ls'
  | [], _, _, h, _, _ => h.elim
  | _ :: _, [], _, _, h, _ => h.elim
  | [(s, sp)], [(s', sp')], _, ⟨rfl, h2, h3⟩, ⟨hs, g2, g3⟩, e => by
    subst hs
    have : sp = sp' := sp_uniq' h2 g2 fun p h0 h1 => by
      obtain ⟨t, k1, k2, rfl⟩ := ph_at hc s' p ⟨h0, h1⟩
      rw [h3 t k1, g3 t k1, e t k1]
    rw [this]
  | [(s, sp)], (s', sp') :: (u, up) :: r, _, ⟨rfl, h2, h3⟩, ⟨hs, g2, g3, g4, g5, g6⟩, e => by
    subst hs
    have : sp = sp' := sp_uniq' h2 g2 fun p h0 h1 => by
      obtain ⟨t, k1, k2, rfl⟩ := ph_at hc s' p ⟨h0, h1⟩
      rw [h3 t k1, g4 t k1 (by omega), e t k1]
    subst this
    exact absurd (by rw [h3 u (by omega), e u (by omega)]) g5
  | (s', sp') :: (u, up) :: r, [(s, sp)], _, ⟨rfl, g2, g3, g4, g5, g6⟩, ⟨hs, h2, h3⟩, e => by
    subst hs
    have : sp = sp' := sp_uniq' h2 g2 fun p h0 h1 => by
      obtain ⟨t, k1, k2, rfl⟩ := ph_at hc s p ⟨h0, h1⟩
      rw [h3 t k1, g4 t k1 (by omega), e t k1]
    subst this
    exact absurd (by rw [h3 u (by omega), e u (by omega)]) g5
  | (s, sp) :: (u, up) :: r, (s', sp') :: (u', up') :: r', _, ⟨rfl, h2, h3, h4, h5, h6⟩, ⟨hs, g2, g3, g4, g5, g6⟩, e => by
    subst hs
    have : sp = sp' := sp_uniq' h2 g2 fun p h0 h1 => by
      obtain ⟨t, k1, k2, rfl⟩ := ph_at hc s' p ⟨h0, h1⟩
      rw [h4 t k1 (by omega), g4 t k1 (by omega), e t k1]
    subst this
    have : u = u' := by
      by_cases h : u < u'
      · exact absurd (by rw [g4 u (by omega) h, e u (by omega)]) h5
      · by_cases h' : u' < u
        · exact absurd (by rw [h4 u' (by omega) h', e u' (by omega)]) g5
        · omega
    subst this
    rw [Shp.uniq hc h6 g6 fun t ht => e t (by omega)]
theorem Shp.congr {c : Int} {S S' : Int → Bool} : ∀ {ls : List Ln} {b : Int}, Shp c S b ls → 1 ≤ c → (∀ t, b ≤ t → S t = S' t) → Shp c S' b ls
  | [], _, h, _, _ => h.elim
  | [(s, sp)], _, ⟨rfl, h2, h3⟩, hc, e => ⟨rfl, h2, fun t ht => by rw [h3 t ht, e t ht]⟩
  | (s, sp) :: (u, up) :: r, _, ⟨rfl, h2, h3, h4, h5, h6⟩, hc, e => ⟨rfl, h2, h3, fun t ht ht2 => by rw [h4 t ht ht2, e t ht], by rw [← e u (by omega)]; exact h5, h6.congr hc fun t ht => e t (by omega)⟩
theorem Shp.ls {c : Int} (hc : 1 ≤ c) {S : Int → Bool} : ∀ {ls : List Ln} {b : Int}, Shp c S b ls → ∃ sp r, ls = (b, sp) :: r ∧ SpOk c 0 sp ∧ LsOk c b r
  | [], _, h => h.elim
  | [(s, sp)], _, ⟨rfl, h2, h3⟩ => ⟨sp, [], rfl, h2, trivial⟩
  | (s, sp) :: (u, up) :: r, _, ⟨rfl, h2, h3, h4, h5, h6⟩ => by
    obtain ⟨sp', r', e, k1, k2⟩ := Shp.ls hc h6
    simp only [List.cons.injEq, Prod.mk.injEq] at e
    obtain ⟨⟨_, rfl⟩, rfl⟩ := e
    exact ⟨sp, _, rfl, h2, (by omega), k1, k2⟩
theorem Shp.tb {c : Int} {S : Int → Bool} {ls : List Ln} (hc : 1 ≤ c ∧ c ≤ 60) (h : Shp c S 0 ls) : TbOk c ls := ⟨hc, Shp.ls hc.1 h⟩
theorem LsOk.gt {c : Int} {lo : Int} {ls : List Ln} (h : LsOk c lo ls) : ∀ l ∈ ls, lo < l.1 := h.pw.1
theorem Shp.holds {c : Int} (hc : 1 ≤ c) {S : Int → Bool} : ∀ {ls : List Ln} {b : Int} (f : Bool), Shp c S b ls → ∀ t, b ≤ t → fnd c t f ls = S t
  | [], _, _, h, _, _ => h.elim
  | [(s, sp)], _, f, ⟨rfl, h2, h3⟩, t, ht => by simp only [fnd]; rw [if_pos ht, h3 t ht]
  | (s, sp) :: (u, up) :: r, _, f, ⟨rfl, h2, h3, h4, h5, h6⟩, t, ht => by
    rw [fnd, if_pos (show (s, sp).1 ≤ t from ht)]
    by_cases h : u ≤ t
    · exact Shp.holds hc _ h6 t h
    · obtain ⟨sp', r', e, k1, k2⟩ := Shp.ls hc h6
      rw [fnd_none, h4 t ht (by omega)]
      intro l hl
      rw [e] at hl
      rcases List.mem_cons.mp hl with rfl | hl
      · show t < u; omega
      · have := k2.gt l hl; omega
/-- lines up to a moment -/
def Pre (c : Int) (S : Int → Bool) : Int → List Ln → Int → Prop
  | b, [], e => b = e
  | b, (s, sp) :: r, e => s = b ∧ SpOk c 0 sp ∧ ∃ s', s + c ≤ s' ∧ (∀ t, s ≤ t → t < s' → inS (t % c) sp = S t) ∧ inS (s' % c) sp ≠ S s' ∧ Pre c S s' r e
theorem Pre.snoc {c : Int} {S : Int → Bool} : ∀ {ls : List Ln} {b e s' : Int} {sp : Sp2}, Pre c S b ls e → SpOk c 0 sp → e + c ≤ s' → (∀ t, e ≤ t → t < s' → inS (t % c) sp = S t) → inS (s' % c) sp ≠ S s' → Pre c S b (ls ++ [(e, sp)]) s'
  | [], _, _, s', sp, rfl, h1, h2, h3, h4 => ⟨rfl, h1, s', h2, h3, h4, rfl⟩
  | (s, q) :: r, _, e, s', sp, ⟨rfl, g1, u, g2, g3, g4, g5⟩, h1, h2, h3, h4 => ⟨rfl, g1, u, g2, g3, g4, g5.snoc h1 h2 h3 h4⟩
theorem Pre.shp {c : Int} {S : Int → Bool} : ∀ {ls : List Ln} {b e : Int} {sp : Sp2}, Pre c S b ls e → SpOk c 0 sp → (∀ t, e ≤ t → inS (t % c) sp = S t) → Shp c S b (ls ++ [(e, sp)])
  | [], _, _, sp, rfl, h1, h2 => ⟨rfl, h1, h2⟩
  | [(s, q)], _, e, sp, ⟨rfl, g1, u, g2, g3, g4, g5⟩, h1, h2 => by
    have : u = e := g5
    subst this
    exact ⟨rfl, g1, g2, g3, g4, rfl, h1, h2⟩
  | (s, q) :: (x, y) :: r, _, e, sp, ⟨rfl, g1, u, g2, g3, g4, g5⟩, h1, h2 => by
    have h := Pre.shp g5 h1 h2
    have : x = u := g5.1
    subst this
    exact ⟨rfl, g1, g2, g3, g4, h⟩

/-! ### pieces -/
abbrev Pcs := List (Int × Nat)
/-- the mask that counts at a moment -/
def pcAt (t : Int) : Nat → Pcs → Nat
  | m, [] => m
  | m, (s, k) :: r => pcAt t (if s ≤ t then k else m) r
def pcS (c : Int) (ps : Pcs) (t : Int) : Bool := mb (pcAt t 0 ps) c t
/-- stretches: start, end, mask -/
abbrev Strs := List (Int × Option Int × Nat)
def StrOk (S : Int → Bool) (c : Int) : Int → Strs → Prop
  | _, [] => False
  | b, (s, e, m) :: r => s = b ∧ m < 2 ^ c.toNat ∧ (∀ t, s ≤ t → (∀ x, e = some x → t < x) → mb m c t = S t) ∧ match r with
    | [] => e = none
    | (s', _, _) :: _ => e = some s' ∧ s < s' ∧ StrOk S c s' r

/-! ### the loop of table_of -/
structure TI (c : Int) (S : Int → Bool) (L : List Ln) (b : Int) (seen ins : Nat) (st : Int) : Prop where
  le : b ≤ st
  pre : Pre c S 0 L b
  cov : CovW seen c b (some st)
  inn : ∀ t, b ≤ t → t < st → mb ins c t = S t
  sub : ∀ p : Nat, Nat.testBit ins p = true → Nat.testBit seen p = true
theorem TI.lt {c : Int} {S : Int → Bool} {L : List Ln} {b : Int} {seen ins : Nat} {st : Int} (h : TI c S L b seen ins st) : ins < 2 ^ c.toNat := lt_of_bits fun p hp => by
  cases e : ins.testBit p with
  | false => rfl
  | true => have := h.sub p e; rw [bit_hi h.cov.1 hp] at this; cases this
theorem mb_and (a b : Nat) (c t : Int) : mb (a &&& b) c t = (mb a c t && mb b c t) := by simp [mb]
theorem mb_or (a b : Nat) (c t : Int) : mb (a ||| b) c t = (mb a c t || mb b c t) := by simp [mb]
theorem mb_xor (a b : Nat) (c t : Int) : mb (a ^^^ b) c t = (mb a c t != mb b c t) := by simp [mb]
theorem lt_and {a b n : Nat} (h : b < 2 ^ n) : a &&& b < 2 ^ n := Nat.lt_of_le_of_lt Nat.and_le_right h
theorem lt_or {a b n : Nat} (h1 : a < 2 ^ n) (h : b < 2 ^ n) : a ||| b < 2 ^ n := Nat.or_lt_two_pow h1 h
theorem lt_xor {a b n : Nat} (h1 : a < 2 ^ n) (h : b < 2 ^ n) : a ^^^ b < 2 ^ n := Nat.xor_lt_two_pow h1 h
/-- no turn in the stretch -/
theorem TI.agree {c : Int} (hc : 1 ≤ c) {S : Int → Bool} {L : List Ln} {b : Int} {seen ins : Nat} {st : Int} (I : TI c S L b seen ins st) {e : Option Int} {m cv : Nat} (hS : ∀ t, st ≤ t → (∀ x, e = some x → t < x) → mb m c t = S t)
    (hn : ∀ t, st ≤ t → (∀ x, e = some x → t < x) → mb ((m ^^^ ins) &&& seen) c t = false) (hcv : CovW cv c st e) :
    ∀ t, b ≤ t → (∀ x, e = some x → t < x) → mb (ins ||| (m &&& cv)) c t = S t := by
  intro t ht hx
  rw [mb_or, mb_and]
  by_cases h : t < st
  · rw [I.inn t ht h]
    by_cases hv : mb cv c t = true
    · rw [hv, Bool.and_true]
      obtain ⟨u, hu1, hu2, hu3⟩ := (hcv.mb hc t).mp hv
      have := hn u hu1 hu2
      rw [mb_and, mb_xor, mb_per hu3, mb_per hu3, mb_per hu3, (I.cov.mb hc t).mpr ⟨t, ht, fun x hx => by cases hx; exact h, rfl⟩, Bool.and_true, bne_eq_false_iff_eq] at this
      rw [this, I.inn t ht h, Bool.or_self]
    · rw [Bool.not_eq_true] at hv
      rw [hv, Bool.and_false, Bool.or_false]
  · have hv : mb cv c t = true := (hcv.mb hc t).mpr ⟨t, by omega, hx, rfl⟩
    rw [hv, Bool.and_true, hS t (by omega) hx]
    cases hi : mb ins c t with
    | false => rfl
    | true =>
      have h2 := hn t (by omega) hx
      have hs : mb seen c t = true := I.sub _ hi
      rw [mb_and, mb_xor, hi, hs, hS t (by omega) hx, Bool.and_true, bne_eq_false_iff_eq] at h2
      rw [h2, Bool.or_self]
theorem TI.on {c : Int} (hc : 1 ≤ c) {S : Int → Bool} {L : List Ln} {b : Int} {seen ins : Nat} {st : Int} (I : TI c S L b seen ins st) {e : Option Int} {m cv : Nat} (hS : ∀ t, st ≤ t → (∀ x, e = some x → t < x) → mb m c t = S t)
    (hn : ∀ t, st ≤ t → (∀ x, e = some x → t < x) → mb ((m ^^^ ins) &&& seen) c t = false) (hcv : CovW cv c st e) :
    (∀ x, e = some x → st < x → TI c S L b (seen ||| cv) (ins ||| (m &&& cv)) x) ∧ (e = none → ∀ t, b ≤ t → mb (ins ||| (m &&& cv)) c t = S t) := by
  have agree := I.agree hc hS hn hcv
  refine ⟨fun x hx hlt => ⟨by have := I.le; omega, I.pre, ⟨lt_or I.cov.1 hcv.1, fun p hp => ?_⟩, fun t ht1 ht2 => agree t ht1 fun y hy => by rw [hx] at hy; cases hy; exact ht2, fun p hp => ?_⟩, fun he t ht => agree t ht fun x hx => by rw [he] at hx; cases hx⟩
  · rw [Nat.testBit_or, Bool.or_eq_true, I.cov.2 p hp, hcv.2 p hp]
    constructor
    · rintro (⟨t, h1, h2, h3⟩ | ⟨t, h1, h2, h3⟩)
      · have := h2 st rfl
        exact ⟨t, h1, fun y hy => by cases hy; omega, h3⟩
      · have := h2 x hx
        exact ⟨t, by have := I.le; omega, fun y hy => by cases hy; exact this, h3⟩
    · rintro ⟨t, h1, h2, h3⟩
      have := h2 x rfl
      by_cases h : t < st
      · exact .inl ⟨t, h1, fun y hy => by cases hy; exact h, h3⟩
      · exact .inr ⟨t, by omega, fun y hy => by rw [hx] at hy; cases hy; exact this, h3⟩
  · rw [Nat.testBit_or, Bool.or_eq_true] at hp ⊢
    rcases hp with hp | hp
    · exact .inl (I.sub p hp)
    · rw [Nat.testBit_and, Bool.and_eq_true] at hp
      exact .inr hp.2
/-- a turn -/
theorem TI.turn {c : Int} (hc : 1 ≤ c) {S : Int → Bool} {L : List Ln} {b : Int} {seen ins : Nat} {st : Int} (I : TI c S L b seen ins st) {e : Option Int} {m cv : Nat} {f : Int} {sp : Sp2} (hS : ∀ t, st ≤ t → (∀ x, e = some x → t < x) → mb m c t = S t)
    (hf : FirstW ((m ^^^ ins) &&& seen) c st e (some f)) (hcv : CovW cv c st (some f)) (hsp : SpOk c 0 sp) (hin : ∀ t, inS (t % c) sp = mb (ins ||| (m &&& cv)) c t) :
    TI c S (L ++ [(b, sp)]) f 0 0 f ∧ st ≤ f ∧ ∀ x, e = some x → f < x := by
  obtain ⟨f1, f2, f3, f4⟩ := hf
  have f3' := f3
  rw [mb_and, Bool.and_eq_true] at f3
  have hbc : b + c ≤ f := by
    obtain ⟨u, hu1, hu2, hu3⟩ := (I.cov.mb hc f).mp f3.2
    have := hu2 st rfl
    have := ph_eq hc hu3 (by omega)
    omega
  have hx : ∀ t, t < f → ∀ x, e = some x → t < x := fun t ht x hx => by have := f2 x hx; omega
  have ag := TI.agree hc I (e := some f) (m := m) (cv := cv) (fun t h1 h2 => hS t h1 (hx t (h2 f rfl))) (fun t h1 h2 => f4 t h1 (h2 f rfl)) hcv
  refine ⟨⟨Int.le_refl _, I.pre.snoc hsp hbc (fun t h1 h2 => by rw [hin, ag t h1 fun x hx => by cases hx; exact h2]) ?_, ⟨Nat.two_pow_pos _, fun p hp => ?_⟩, fun t h1 h2 => by omega, fun p hp => by simp at hp⟩, f1, f2⟩
  · rw [hin, ← hS f f1 f2, mb_or, mb_and]
    have f5 := f3.1
    rw [mb_xor] at f5
    cases hm : mb m c f with
    | false =>
      rw [hm] at f5
      have : mb ins c f = true := by simpa using f5
      rw [this]; simp
    | true =>
      rw [hm] at f5
      have h1 : mb ins c f = false := by simpa using f5
      have h2 : mb cv c f = false := by
        cases hv : mb cv c f with
        | false => rfl
        | true =>
          obtain ⟨t, ht1, ht2, ht3⟩ := (hcv.mb hc f).mp hv
          have := f4 t ht1 (ht2 f rfl)
          rw [mb_per ht3, f3'] at this
          cases this
      rw [h1, h2]; simp
  · constructor
    · intro h; simp at h
    · rintro ⟨t, h1, h2, _⟩
      have := h2 f rfl
      omega
theorem TI.start {c : Int} (hc : 1 ≤ c) (S : Int → Bool) : TI c S [] 0 0 0 0 := ⟨Int.le_refl _, rfl, ⟨Nat.two_pow_pos _, fun p hp => by
  constructor
  · intro h; simp at h
  · rintro ⟨t, h1, h2, _⟩
    have := h2 0 rfl
    omega⟩, fun t h1 h2 => by omega, fun p hp => by simp at hp⟩
theorem TI.done {c : Int} {S : Int → Bool} {L : List Ln} {b : Int} {ins : Nat} {sp : Sp2} (hp : Pre c S 0 L b) (h : ∀ t, b ≤ t → mb ins c t = S t) (hsp : SpOk c 0 sp) (hin : ∀ t, inS (t % c) sp = mb ins c t) : Shp c S 0 (L ++ [(b, sp)]) :=
  hp.shp hsp fun t ht => by rw [hin, h t ht]
end DL

namespace DL
open PySem PySem.Spec PyProof.Rows L2
def spB (c : Int) : Int → Sp2 → Bool
  | _, [] => true
  | lo, q :: r => decide (lo ≤ q.1) && decide (q.1 < q.2) && decide (q.2 ≤ c) && spB c (q.2 + 1) r
theorem spB_iff {c : Int} : ∀ {lo : Int} {s : Sp2}, spB c lo s = true ↔ SpOk c lo s
  | _, [] => by simp [spB, SpOk]
  | lo, (a, b) :: r => by simp only [spB, SpOk, Bool.and_eq_true, decide_eq_true_eq, spB_iff (lo := b + 1) (s := r), and_assoc]
theorem encP_inj {a b : Int × Int} (h : encP a = encP b) : a = b := by
  obtain ⟨x, s⟩ := a
  obtain ⟨y, t⟩ := b
  simp only [encP, D.tup.injEq, List.cons.injEq, D.int.injEq, and_true] at h
  simp [h]
theorem encS_inj {s t : Sp2} (h : encS s = encS t) : s = t := by
  simp only [encS, D.tup.injEq] at h
  exact (List.map_inj_right (fun a b h => encP_inj h)).mp h
def sp_is_spans : FSpec where
  pre := fun ds => ∃ (s : Sp2) (c : Int), ds = [encS s, .int c]
  post := fun ds r ds' => ds' = ds ∧ ∀ (s : Sp2) (c : Int), ds = [encS s, .int c] → r = .bl (spB c 0 s)
theorem spans_post {s : Sp2} {c : Int} {b : Bool} (h : b = spB c 0 s) : ∀ (s' : Sp2) (c' : Int), [encS s, D.int c] = [encS s', .int c'] → D.bl b = .bl (spB c' 0 s') := by
  intro s' c' e
  simp only [List.cons.injEq, and_true, D.int.injEq] at e
  obtain ⟨h', rfl⟩ := e
  cases encS_inj h'
  rw [h]
/-- slots: 0 spans, 1 cycle, 2 end, 3 low, 4 high -/
def w_is_spans : WS :=
    (cSeq (cAsg 2 [0, 1] 2 (cUn fNeg (cC (.int 1))))
    (cSeq (cFor [0, 1] (iE (cVar 0)) (gT 2 (gCons' (gN 2 [0, 1] 3) (gCons' (gN 2 [0, 1] 4) gNil')))
      (cSeq (cIte (cUn fNot (cChain3 fLt fLt fLe (cVar 2) (cVar 3) (cVar 4) (cVar 1)))
          (cRet 2 (cC (.bl false)))
          cNilS)
        (cAsg 2 [0, 1] 2 (cVar 4))))
    (cRet 2 (cC (.bl true)))))
local macro_rules | `(tactic| walk_at "Ddl") => `(tactic| ((conv => whnf); (repeat ((first | refine And.intro rfl ?_ | refine And.intro trivial ?_ | refine And.intro ⟨rfl, trivial⟩ ?_ | refine And.intro ⟨rfl, rfl, trivial⟩ ?_ | refine ifb_t ?_ | refine ifb_f ?_ | refine ifb_nr ?_ | refine ifb_er ?_ | refine And.intro (by first | decide | omega | (unfold CMul; omega) | (unfold CDiv; omega) | (unfold CPow; decide) | (exact cpow1 (by omega) (by omega)) | (exact cpow1 (by dsimp only; omega) (by dsimp only; omega)) | (simp only [rngD_len, List.length_replicate, List.length_map, List.length_append, List.length_cons, List.length_nil, List.length_set] at *; omega)) ?_); conv => whnf))))
theorem pure_is_spans : ∀ ds, ds.length = 2 → sp_is_spans.pre ds → w_is_spans (env0 ds 3) { nx := fun e => sp_is_spans.post ds .non (outs e 2), rt := fun d e => sp_is_spans.post ds d (outs e 2) } := by
  rintro ds _ ⟨s, c, rfl⟩
  walk_at "Ddl"
  refine loop_for (fun xs e => ∃ (q : Sp2) (lo : Int) (o o' : Option D), (xs = q.map encP ∧ spB c 0 s = spB c (lo + 1) q) ∧ e = [some (encS s), some (.int c), some (.int lo), o, o']) ⟨s, -1, none, none, ⟨rfl, rfl⟩, rfl⟩ ?_ ?_
  · rintro x r env nxt ⟨q, lo, o, o', ⟨h1, h2⟩, rfl⟩ hx
    cases q with
    | nil => simp at h1
    | cons l q =>
      obtain ⟨a, b⟩ := l
      simp only [List.map_cons, List.cons.injEq] at h1
      obtain ⟨rfl, rfl⟩ := h1
      simp only [spB] at h2
      walk_at "Ddl"
      refine ifb_dec (fun e => ?_) (fun e => ?_)
      · walk_at "Ddl"
        refine ifb_dec (fun e2 => ?_) (fun e2 => ?_)
        · walk_at "Ddl"
          refine ifb_ndec (fun e3 => ?_) (fun e3 => ?_)
          · walk_at "Ddl"
            refine spans_post ?_
            rw [h2, decide_eq_false e3]; simp
          · walk_at "Ddl"
            refine hx _ ⟨q, b, _, _, ⟨rfl, ?_⟩, rfl⟩
            rw [h2, decide_eq_true e3, decide_eq_true e2, decide_eq_true (show lo + 1 ≤ a by omega)]; rfl
        · walk_at "Ddl"
          refine spans_post ?_
          rw [h2, decide_eq_false e2]; simp
      · walk_at "Ddl"
        refine spans_post ?_
        rw [h2, decide_eq_false (show ¬ lo + 1 ≤ a by omega)]; rfl
  · rintro env ⟨q, lo, o, o', ⟨h1, h2⟩, rfl⟩
    cases q with
    | nil =>
      walk_at "Ddl"
      exact spans_post h2.symm
    | cons _ _ => simp at h1
def isI? : D → Bool
  | .int _ => true
  | _ => false
def sp_law_integer : FSpec where
  pre := fun ds => ∃ d, ds = [d] ∧ isL d = false ∧ isRod d = false
  post := fun ds r ds' => ds' = ds ∧ ∀ d, ds = [d] → r = .bl (isI? d)
/-- slots: 0 x -/
def w_law_integer : WS :=
    (cRet 1 (cAnd (cIsi .int (cVar 0)) (cUn fNot (cIsi .bool (cVar 0)))))
theorem pure_law_integer : ∀ ds, ds.length = 1 → sp_law_integer.pre ds → w_law_integer (env0 ds 0) { nx := fun e => sp_law_integer.post ds .non (outs e 1), rt := fun d e => sp_law_integer.post ds d (outs e 1) } := by
  rintro ds _ ⟨d, rfl, hd, hr⟩
  cases d with
  | lst _ => simp [isL] at hd
  | rod _ _ => simp [isRod] at hr
  | obj _ _ => simp [isRod] at hr
  | _ =>
    walk_at "Ddl"
    intro d' e
    cases e
    rfl
abbrev sp_law_is_spans : FSpec := sp_is_spans
/-- slots: 0 spans, 1 cycle, 2 least, 3 span -/
def w_law_is_spans : WS :=
    (cSeq (cIte (cUn fNot (cIsi .tuple (cVar 0)))
      (cRet 2 (cC (.bl false)))
      cNilS)
    (cSeq (cAsg 2 [0, 1] 2 (cC (.int 0)))
    (cSeq (cFor [0, 1] (iE (cVar 0)) (gN 2 [0, 1] 3)
      (cSeq (cIte (cOr (cUn fNot (cIsi .tuple (cVar 3))) (cOr (cOp fNeS (cBi fLen (cCons (cVar 3) cNil)) (cC (.int 2))) (cOr (cUn fNot (cCallN 1 sp_law_integer (cCons (cOp fIx (cVar 3) (cC (.int 0))) cNil))) (cUn fNot (cCallN 1 sp_law_integer (cCons (cOp fIx (cVar 3) (cC (.int 1))) cNil))))))
          (cRet 2 (cC (.bl false)))
          cNilS)
        (cSeq (cIte (cOr (cOp fLt (cOp fIx (cVar 3) (cC (.int 0))) (cVar 2)) (cOr (cOp fLe (cOp fIx (cVar 3) (cC (.int 1))) (cOp fIx (cVar 3) (cC (.int 0)))) (cOp fGt (cOp fIx (cVar 3) (cC (.int 1))) (cVar 1))))
          (cRet 2 (cC (.bl false)))
          cNilS)
        (cAsg 2 [0, 1] 2 (cOp fAddG (cOp fIx (cVar 3) (cC (.int 1))) (cC (.int 1)))))))
    (cRet 2 (cC (.bl true))))))
theorem pure_law_is_spans : ∀ ds, ds.length = 2 → sp_law_is_spans.pre ds → w_law_is_spans (env0 ds 2) { nx := fun e => sp_law_is_spans.post ds .non (outs e 2), rt := fun d e => sp_law_is_spans.post ds d (outs e 2) } := by
  rintro ds _ ⟨s, c, rfl⟩
  walk_at "Ddl"
  refine loop_for (fun xs e => ∃ (q : Sp2) (lo : Int) (o : Option D), (xs = q.map encP ∧ spB c 0 s = spB c lo q) ∧ e = [some (encS s), some (.int c), some (.int lo), o]) ⟨s, 0, none, ⟨rfl, rfl⟩, rfl⟩ ?_ ?_
  · rintro x r env nxt ⟨q, lo, o, ⟨h1, h2⟩, rfl⟩ hx
    cases q with
    | nil => simp at h1
    | cons l q =>
      obtain ⟨a, b⟩ := l
      simp only [List.map_cons, List.cons.injEq] at h1
      obtain ⟨rfl, rfl⟩ := h1
      simp only [spB] at h2
      walk_at "Ddl"
      (refine ⟨⟨_, rfl, rfl, rfl⟩, ?_⟩; rintro _ _ ⟨rfl, hq⟩; cases hq _ rfl; walk_at "Ddl")
      (refine ⟨⟨_, rfl, rfl, rfl⟩, ?_⟩; rintro _ _ ⟨rfl, hq⟩; cases hq _ rfl; walk_at "Ddl")
      refine ifb_dec (fun e => ?_) (fun e => ?_)
      · walk_at "Ddl"
        refine spans_post ?_
        rw [h2, decide_eq_false (show ¬ lo ≤ a by have : a < lo := e; omega)]; rfl
      · walk_at "Ddl"
        refine ifb_dec (fun e2 => ?_) (fun e2 => ?_)
        · walk_at "Ddl"
          refine spans_post ?_
          rw [h2, decide_eq_false (show ¬ a < b by have : b ≤ a := e2; omega)]; simp
        · walk_at "Ddl"
          refine ifb_dec (fun e3 => ?_) (fun e3 => ?_)
          · walk_at "Ddl"
            refine spans_post ?_
            rw [h2, decide_eq_false (show ¬ b ≤ c by have : c < b := e3; omega)]; simp
          · walk_at "Ddl"
            refine hx _ ⟨q, b + 1, _, ⟨rfl, ?_⟩, rfl⟩
            rw [h2, decide_eq_true (show lo ≤ a by have : ¬ a < lo := e; omega), decide_eq_true (show a < b by have : ¬ b ≤ a := e2; omega), decide_eq_true (show b ≤ c by have : ¬ c < b := e3; omega)]; rfl
  · rintro env ⟨q, lo, o, ⟨h1, h2⟩, rfl⟩
    cases q with
    | nil =>
      walk_at "Ddl"
      exact spans_post h2.symm
    | cons _ _ => simp at h1
def sp_law_signed : FSpec where
  pre := sp_law_size.pre
  post := fun ds r ds' => match ds with
    | [_, .rol ys] => ∃ ns v, r = .int v ∧ ds' = [.lst (List.map D.int ns), .rol ys]
    | _ => False
/-- slots: 0 draws, 1 script, 2 number -/
def w_law_signed : WS :=
    (cSeq (cAsg 2 [0, 1] 2 (cCallN 2 sp_law_size (cCons (cVar 0) (cCons (cVar 1) cNil))))
    (cSeq (cIte (cOp fEqS (cCallN 2 sp_law_take (cCons (cVar 0) (cCons (cC (.int 3)) cNil))) (cC (.int 0)))
      (cRet 2 (cOp fSub (cC (.int 0)) (cVar 2)))
      cNilS)
    (cRet 2 (cVar 2))))
theorem pure_law_signed : ∀ ds, ds.length = 2 → sp_law_signed.pre ds → w_law_signed (env0 ds 1) { nx := fun e => sp_law_signed.post ds .non (outs e 2), rt := fun d e => sp_law_signed.post ds d (outs e 2) } := by
  intro ds _ h
  unfold sp_law_signed sp_law_size at h
  dsimp only at h
  split at h
  · obtain ⟨⟨ns, rfl⟩, ms, rfl⟩ := h
    walk_at "Ddl"
    refine ⟨⟨⟨_, rfl⟩, _, rfl⟩, ?_⟩
    rintro _ _ ⟨ns1, v, rfl, rfl, hv⟩
    walk_at "Ddl"
    refine ⟨⟨⟨_, rfl⟩, by first | decide | omega⟩, ?_⟩; rintro _ _ ⟨ns2, v2, rfl, rfl, h0, h1⟩; walk_at "Ddl"
    refine ifb_dec (fun e => ?_) (fun e => ?_)
    · walk_at "Ddl"
      exact ⟨ns2, _, rfl, rfl⟩
    · walk_at "Ddl"
      exact ⟨ns2, _, rfl, rfl⟩
  · exact h.elim
end DL

set_option maxHeartbeats 4000000
namespace DL
open PySem PySem.Spec PyProof.Rows L2
def encO : Option Int → D
  | none => .non
  | some i => .int i
theorem encO_inj : ∀ {a b : Option Int}, encO a = encO b → a = b
  | none, none, _ => rfl
  | some _, some _, h => by cases h; rfl
  | none, some _, h => by cases h
  | some _, none, h => by cases h
def sp_law_pick : FSpec where
  pre := fun ds => ∃ (ns : List Int) (s : D) (xs : List D), ds = [.lst (ns.map D.int), s] ∧ seqD s = some xs ∧ 0 < xs.length ∧ xs.length ≤ 1000000000000
  post := fun ds r ds' => ∀ l s xs, ds = [l, s] → seqD s = some xs → ∃ ns : List Int, r ∈ xs ∧ ds' = [.lst (ns.map D.int), s]
/-- slots: 0 draws, 1 row -/
def w_law_pick : WS :=
    (cRet 2 (cOp fIx (cVar 1) (cCallN 2 sp_law_take (cCons (cVar 0) (cCons (cBi fLen (cCons (cVar 1) cNil)) cNil)))))
local macro_rules | `(tactic| walk_at "Ddl") => `(tactic| ((conv => whnf); (repeat ((first | refine And.intro rfl ?_ | refine And.intro trivial ?_ | refine And.intro ⟨rfl, trivial⟩ ?_ | refine And.intro ⟨rfl, rfl, trivial⟩ ?_ | refine ifb_t ?_ | refine ifb_f ?_ | refine ifb_nr ?_ | refine ifb_er ?_ | refine And.intro (by first | decide | omega | (unfold CMul; omega) | (unfold CDiv; omega) | (unfold CPow; decide) | (exact cpow1 (by omega) (by omega)) | (exact cpow1 (by dsimp only; omega) (by dsimp only; omega)) | (simp only [rngD_len, List.length_replicate, List.length_map, List.length_append, List.length_cons, List.length_nil, List.length_set] at *; omega)) ?_); conv => whnf))))
theorem pure_law_pick : ∀ ds, ds.length = 2 → sp_law_pick.pre ds → w_law_pick (env0 ds 0) { nx := fun e => sp_law_pick.post ds .non (outs e 2), rt := fun d e => sp_law_pick.post ds d (outs e 2) } := by
  rintro ds _ ⟨ns, s, xs, rfl, hs, h0, h1⟩
  cases s with
  | lst ys =>
    cases hs
    walk_at "Ddl"
    refine ⟨⟨⟨_, rfl⟩, by omega⟩, ?_⟩
    rintro _ _ ⟨ns1, v, rfl, rfl, h2, h3⟩
    obtain ⟨h, ea⟩ := atI_lt (xs := xs) h2 h3
    walk_at "Ddl"
    rw [ea]
    walk_at "Ddl"
    intro l s xs' e e2
    simp only [List.cons.injEq, and_true] at e
    obtain ⟨_, rfl⟩ := e
    cases e2
    exact ⟨ns1, List.getElem_mem h, rfl⟩
  | tup ys =>
    cases hs
    walk_at "Ddl"
    refine ⟨⟨⟨_, rfl⟩, by omega⟩, ?_⟩
    rintro _ _ ⟨ns1, v, rfl, rfl, h2, h3⟩
    obtain ⟨h, ea⟩ := atI_lt (xs := xs) h2 h3
    walk_at "Ddl"
    rw [ea]
    walk_at "Ddl"
    intro l s xs' e e2
    simp only [List.cons.injEq, and_true] at e
    obtain ⟨_, rfl⟩ := e
    cases e2
    exact ⟨ns1, List.getElem_mem h, rfl⟩
  | tpd ys =>
    cases hs
    walk_at "Ddl"
    refine ⟨⟨⟨_, rfl⟩, by omega⟩, ?_⟩
    rintro _ _ ⟨ns1, v, rfl, rfl, h2, h3⟩
    obtain ⟨h, ea⟩ := atI_lt (xs := xs) h2 h3
    walk_at "Ddl"
    rw [ea]
    walk_at "Ddl"
    intro l s xs' e e2
    simp only [List.cons.injEq, and_true] at e
    obtain ⟨_, rfl⟩ := e
    cases e2
    exact ⟨ns1, List.getElem_mem h, rfl⟩
  | rol ys =>
    cases hs
    walk_at "Ddl"
    refine ⟨⟨⟨_, rfl⟩, by omega⟩, ?_⟩
    rintro _ _ ⟨ns1, v, rfl, rfl, h2, h3⟩
    obtain ⟨h, ea⟩ := atI_lt (xs := xs) h2 h3
    walk_at "Ddl"
    rw [ea]
    walk_at "Ddl"
    intro l s xs' e e2
    simp only [List.cons.injEq, and_true] at e
    obtain ⟨_, rfl⟩ := e
    cases e2
    exact ⟨ns1, List.getElem_mem h, rfl⟩
  | _ => cases hs
end DL

namespace DL
open PySem PySem.Spec PyProof.Rows L2
/-! ### a stop ahead of a statement -/
@[irreducible] def Stop (p : Prop) : Prop := p
theorem Stop.mk {p : Prop} (h : p) : Stop p := by unfold Stop; exact h
theorem Stop.eq (p : Prop) : Stop p = p := by unfold Stop; rfl
def cCut (w u : WS) : WS := fun env K => w env { K with nx := fun e => Stop (u e K) }
theorem cCut_eq (w u : WS) : cCut w u = cSeq w u := by
  funext env K
  unfold cCut cSeq
  simp only [Stop.eq]
theorem cutW' {u v : WS} {env : DEnv} {K : Kt} (J : DEnv → Prop) (h1 : ∀ nxt : DEnv → Prop, (∀ e, J e → nxt e) → u env { K with nx := nxt }) (h2 : ∀ e, J e → v e K) : Stop (cCut u v env K) := Stop.mk (h1 _ fun e h => Stop.mk (h2 e h))
/-! ### bits of ints -/
theorem bAnd (a b : Nat) : Builtin.bitAnd (a : Int) (b : Int) = ((a &&& b : Nat) : Int) := by
  unfold Builtin.bitAnd
  rw [decide_eq_true (Int.natCast_nonneg a), decide_eq_true (Int.natCast_nonneg b)]
  rfl
theorem bOr (a b : Nat) : Builtin.bitOr (a : Int) (b : Int) = ((a ||| b : Nat) : Int) := by
  rw [bitOr_nn (Int.natCast_nonneg a) (Int.natCast_nonneg b)]
  rfl
theorem xor_add_and : ∀ a b : Nat, (a ^^^ b) + (a &&& b) = a ||| b := by
  intro a
  induction a using Nat.strongRecOn with
  | ind a ih =>
    intro b
    by_cases h : a = 0
    · subst h; simp
    · have h1 := ih (a / 2) (by omega) (b / 2)
      have e1 : (a ^^^ b) / 2 = a / 2 ^^^ b / 2 := Nat.xor_div_two
      have e2 : (a &&& b) / 2 = a / 2 &&& b / 2 := Nat.and_div_two
      have e3 : (a ||| b) / 2 = a / 2 ||| b / 2 := Nat.or_div_two
      have f1 : (a ^^^ b) % 2 = (a % 2 ^^^ b % 2) := by have := Nat.xor_mod_two_pow (a := a) (b := b) (n := 1); simpa using this
      have f2 : (a &&& b) % 2 = (a % 2 &&& b % 2) := by have := Nat.and_mod_two_pow (a := a) (b := b) (n := 1); simpa using this
      have f3 : (a ||| b) % 2 = (a % 2 ||| b % 2) := by have := Nat.or_mod_two_pow (a := a) (b := b) (n := 1); simpa using this
      have f4 : (a % 2 ^^^ b % 2) + (a % 2 &&& b % 2) = (a % 2 ||| b % 2) := by
        rcases Nat.mod_two_eq_zero_or_one a with h | h <;> rcases Nat.mod_two_eq_zero_or_one b with h' | h' <;> rw [h, h'] <;> rfl
      omega
theorem bXor (a b : Nat) : Builtin.bitXor (a : Int) (b : Int) = ((a ^^^ b : Nat) : Int) := by
  unfold Builtin.bitXor
  rw [bAnd, bOr, ← xor_add_and]
  omega
theorem bAndNeg {n : Nat} (h : 0 < n) : Builtin.bitAnd (n : Int) (-(n : Int)) = ((n - (n &&& (n - 1)) : Nat) : Int) := by
  unfold Builtin.bitAnd
  rw [decide_eq_true (Int.natCast_nonneg n), decide_eq_false (by omega)]
  show (n : Int) - ((n : Int).toNat &&& (Builtin.bitNot (-(n : Int))).toNat : Nat) = _
  have e : (Builtin.bitNot (-(n : Int))).toNat = n - 1 := by unfold Builtin.bitNot; omega
  rw [e, Int.toNat_natCast]
  have : n &&& (n - 1) ≤ n := Nat.and_le_left
  omega
theorem bAndNot (a b : Nat) : Builtin.bitAnd (a : Int) (Builtin.bitNot (b : Int)) = ((a ^^^ (a &&& b) : Nat) : Int) := by
  unfold Builtin.bitAnd
  rw [decide_eq_true (Int.natCast_nonneg a), decide_eq_false (by unfold Builtin.bitNot; omega)]
  show (a : Int) - ((a : Int).toNat &&& (Builtin.bitNot (Builtin.bitNot (b : Int))).toNat : Nat) = _
  have e : (Builtin.bitNot (Builtin.bitNot (b : Int))).toNat = b := by unfold Builtin.bitNot; omega
  rw [e, Int.toNat_natCast]
  have h := xor_add_and a (a &&& b)
  have h1 : a &&& (a &&& b) = a &&& b := by rw [← Nat.and_assoc, Nat.and_self]
  have h2 : a ||| (a &&& b) = a := by
    apply Nat.eq_of_testBit_eq
    intro i
    rw [Nat.testBit_or, Nat.testBit_and]
    cases a.testBit i <;> simp
  rw [h1, h2] at h
  omega
theorem bBits {n : Nat} (h : n ≠ 0) : (Builtin.Int.intBits (n : Int) : Nat) = n.log2 + 1 := by
  unfold Builtin.Int.intBits
  have : ((n : Int) == 0) = false := by simpa using h
  rw [this, if_neg (by decide), Int.natAbs_natCast]
theorem shr_nat (m b : Nat) : (m : Int) / 2 ^ b = ((m >>> b : Nat) : Int) := by
  rw [Nat.shiftRight_eq_div_pow, Int.natCast_ediv, Int.natCast_pow]
  rfl
theorem shl_nat (m b : Nat) : (m : Int) * 2 ^ b = ((m <<< b : Nat) : Int) := by
  rw [Nat.shiftLeft_eq, Int.natCast_mul, Int.natCast_pow]
  rfl
theorem pow_nat (b : Nat) : (2 : Int) ^ b = ((2 ^ b : Nat) : Int) := by rw [Int.natCast_pow]; rfl
theorem one_shl (b : Nat) : (1 : Int) * 2 ^ b - 1 = ((2 ^ b - 1 : Nat) : Int) := by
  rw [Int.one_mul, pow_nat]
  have := Nat.two_pow_pos b
  omega
theorem lt64 {m : Nat} {c : Int} (hc : c ≤ 60) (h : m < 2 ^ c.toNat) : ((m : Int)).natAbs < 2 ^ 64 := by
  rw [Int.natAbs_natCast]
  exact Nat.lt_of_lt_of_le h (Nat.pow_le_pow_right (by decide) (by omega))

theorem cpow1 {j : Int} (h0 : 0 ≤ j) (h1 : j ≤ 1000000) : CPow 1 j := ⟨h0, h1, by decide⟩
/-! ### spans of cells -/
def edg : Bool → Int → List Bool → List Int
  | p, i, [] => if p then [i] else []
  | p, i, b :: r => if p != b then i :: edg b (i + 1) r else edg b (i + 1) r
def pairsL : List Int → Sp2
  | a :: b :: r => (a, b) :: pairsL r
  | _ => []
theorem zip_pairs : ∀ es : List Int, zipD (ev (es.map D.int)) (ev ((es.map D.int).drop 1)) = (pairsL es).map encP
  | [] => rfl
  | [a] => rfl
  | [a, b] => rfl
  | a :: b :: c :: r => by
    have ih := zip_pairs (c :: r)
    simp only [List.map_cons, List.drop_succ_cons, List.drop_zero, ev, pairsL, zipD] at ih ⊢
    rw [ih]
    rfl
theorem edg_ok : ∀ (bs : List Bool) (i : Int), (SpOk (i + bs.length) i (pairsL (edg false i bs)) ∧ ∀ p, inS p (pairsL (edg false i bs)) = (decide (i ≤ p) && bs.getD (p - i).toNat false)) ∧
    ∀ a, a < i → ∃ e r, pairsL (a :: edg true i bs) = (a, e) :: r ∧ i ≤ e ∧ SpOk (i + bs.length) a ((a, e) :: r) ∧ ∀ p, inS p ((a, e) :: r) = (decide (a ≤ p) && (decide (p < i) || bs.getD (p - i).toNat false))
  | [], i => by
    refine ⟨⟨by simp [edg, pairsL, SpOk], fun p => by simp [edg, pairsL, inS]⟩, fun a ha => ⟨i, [], rfl, Int.le_refl _, ⟨Int.le_refl _, ha, by simp, trivial⟩, fun p => ?_⟩⟩
    rw [inS_cons, inS_nil]
    simp
  | b :: bs, i => by
    obtain ⟨⟨f1, f2⟩, t⟩ := edg_ok bs (i + 1)
    have el : i + 1 + (bs.length : Int) = i + ((b :: bs).length : Nat) := by simp; omega
    rw [el] at f1
    have at' : ∀ p : Int, (b :: bs).getD (p - i).toNat false = if p ≤ i then b else bs.getD (p - (i + 1)).toNat false := by
      intro p
      by_cases h : p ≤ i
      · rw [if_pos h, show (p - i).toNat = 0 by omega]; rfl
      · rw [if_neg h, show (p - i).toNat = (p - (i + 1)).toNat + 1 by omega]; rfl
    constructor
    · cases b with
      | false =>
        show SpOk _ i (pairsL (edg false (i + 1) bs)) ∧ ∀ p, inS p (pairsL (edg false (i + 1) bs)) = _
        refine ⟨?_, fun p => ?_⟩
        · cases hq : pairsL (edg false (i + 1) bs) with
          | nil => trivial
          | cons q r =>
            rw [hq] at f1
            obtain ⟨x, y⟩ := q
            exact ⟨by have := f1.1; omega, f1.2⟩
        · rw [f2, at']
          by_cases h : p ≤ i
          · have : ¬ i + 1 ≤ p := by omega
            simp [h, this]
          · have h1 : i + 1 ≤ p := by omega
            have h2 : i ≤ p := by omega
            simp [h, h1, h2]
      | true =>
        obtain ⟨e, r, g1, g2, g3, g4⟩ := t i (by omega)
        rw [el] at g3
        show SpOk _ i (pairsL (i :: edg true (i + 1) bs)) ∧ ∀ p, inS p (pairsL (i :: edg true (i + 1) bs)) = _
        rw [g1]
        refine ⟨g3, fun p => ?_⟩
        rw [g4, at']
        by_cases h : p ≤ i
        · have h1 : p < i + 1 := by omega
          simp [h, h1]
        · have h1 : ¬ p < i + 1 := by omega
          have h2 : i ≤ p := by omega
          simp [h, h1, h2]
    · intro a ha
      cases b with
      | true =>
        obtain ⟨e, r, g1, g2, g3, g4⟩ := t a (by omega)
        rw [el] at g3
        show ∃ e r, pairsL (a :: edg true (i + 1) bs) = _ ∧ _
        refine ⟨e, r, g1, by omega, g3, fun p => ?_⟩
        rw [g4, at']
        by_cases h : p ≤ i
        · have h1 : p < i + 1 := by omega
          simp [h, h1]
        · have h1 : ¬ p < i + 1 := by omega
          have h2 : ¬ p < i := by omega
          simp [h, h1, h2]
      | false =>
        show ∃ e r, pairsL (a :: i :: edg false (i + 1) bs) = _ ∧ _
        refine ⟨i, _, rfl, Int.le_refl _, ⟨Int.le_refl _, ha, by simp; omega, f1⟩, fun p => ?_⟩
        rw [inS_cons, f2, at']
        by_cases h : p ≤ i
        · have h1 : ¬ i + 1 ≤ p := by omega
          simp [h, h1]
        · have h1 : i + 1 ≤ p := by omega
          have h2 : ¬ p < i := by omega
          have h3 : a ≤ p := by omega
          simp [h, h1, h2, h3]
def edgeP (pad : List Bool) : D → Bool
  | .int j => pad.getD j.toNat false != pad.getD (j + 1).toNat false
  | _ => false
theorem edg_rng (pad : List Bool) : ∀ (bs pre : List Bool) (p : Bool), pad = pre ++ p :: (bs ++ [false]) → (rngD pre.length (bs.length + 1)).filter (edgeP pad) = (edg p pre.length bs).map D.int
  | [], pre, p, h => by
    have h1 : pad.getD pre.length false = p := by rw [h]; simp [List.getD]
    have h2 : pad.getD (pre.length + 1) false = false := by rw [h]; simp [List.getD]
    have e : edgeP pad (.int (pre.length : Int)) = p := by
      show (pad.getD (pre.length : Int).toNat false != pad.getD ((pre.length : Int) + 1).toNat false) = p
      rw [Int.toNat_natCast, show ((pre.length : Int) + 1).toNat = pre.length + 1 by omega, h1, h2]
      cases p <;> rfl
    show List.filter (edgeP pad) [D.int (pre.length : Int)] = _
    rw [List.filter_cons, e]
    cases p <;> rfl
  | b :: bs, pre, p, h => by
    have h1 : pad.getD pre.length false = p := by rw [h]; simp [List.getD]
    have h2 : pad.getD (pre.length + 1) false = b := by rw [h]; simp [List.getD]
    have e : edgeP pad (.int (pre.length : Int)) = (p != b) := by
      show (pad.getD (pre.length : Int).toNat false != pad.getD ((pre.length : Int) + 1).toNat false) = _
      rw [Int.toNat_natCast, show ((pre.length : Int) + 1).toNat = pre.length + 1 by omega, h1, h2]
    have ih := edg_rng pad bs (pre ++ [p]) b (by rw [h]; simp)
    have el : (((pre ++ [p]).length : Nat) : Int) = (pre.length : Int) + 1 := by simp
    rw [el] at ih
    show List.filter (edgeP pad) (D.int (pre.length : Int) :: rngD ((pre.length : Int) + 1) (bs.length + 1)) = _
    rw [List.filter_cons, e, ih]
    simp only [edg]
    cases (p != b) <;> rfl
def sp_spans_of : FSpec where
  pre := fun ds => ∃ bs : List Bool, ds = [.lst (bs.map D.bl)] ∧ bs.length ≤ 1000
  post := fun ds r ds' => ds' = ds ∧ ∀ bs : List Bool, ds = [.lst (bs.map D.bl)] → ∃ s, r = encS s ∧ SpOk bs.length 0 s ∧ ∀ p : Int, 0 ≤ p → inS p s = bs.getD p.toNat false
/-- slots: 0 cells, 1 padded, 2 edges, 3 index -/
def w_spans_of : WS :=
    (cSeq (cAsg 1 [0] 1 (cOp fAddG (cOp fAddG (cLst (cCons (cC (.bl false)) cNil)) (cBi fList (cCons (cVar 0) cNil))) (cLst (cCons (cC (.bl false)) cNil))))
    (cSeq (cAsg 1 [0] 2 (cLc [3] (iR1 (cOp fAddG (cBi fLen (cCons (cVar 0) cNil)) (cC (.int 1)))) (gN 1 [] 3) (cOp fNeS (cOp fIx (cVar 1) (cVar 3)) (cOp fIx (cVar 1) (cOp fAddG (cVar 3) (cC (.int 1))))) (cVar 3)))
    (cRet 1 (cBi fTZ (cCons (cUn (fStp 0) (cVar 2)) (cCons (cUn (fStp 1) (cVar 2)) cNil))))))
local macro_rules | `(tactic| walk_at "Ddl") => `(tactic| ((conv => whnf); (repeat ((first | refine And.intro rfl ?_ | refine And.intro trivial ?_ | refine And.intro ⟨rfl, trivial⟩ ?_ | refine And.intro ⟨rfl, rfl, trivial⟩ ?_ | refine ifb_t ?_ | refine ifb_f ?_ | refine ifb_nr ?_ | refine ifb_er ?_ | refine And.intro (by first | decide | omega | (unfold CMul; omega) | (unfold CDiv; omega) | (unfold CPow; decide) | (exact cpow1 (by omega) (by omega)) | (exact cpow1 (by dsimp only; omega) (by dsimp only; omega)) | (simp only [rngD_len, List.length_replicate, List.length_map, List.length_append, List.length_cons, List.length_nil, List.length_set] at *; omega)) ?_); conv => whnf))))
theorem pure_spans_of : ∀ ds, ds.length = 1 → sp_spans_of.pre ds → w_spans_of (env0 ds 3) { nx := fun e => sp_spans_of.post ds .non (outs e 1), rt := fun d e => sp_spans_of.post ds d (outs e 1) } := by
  rintro ds _ ⟨bs, rfl, hl⟩
  walk_at "Ddl"
  have ep : [D.bl false] ++ List.map D.bl bs ++ [D.bl false] = (false :: (bs ++ [false])).map D.bl := by simp
  simp only [List.length_map]
  refine lcGo_filter (edgeP (false :: (bs ++ [false]))) id _ _ ?_ ?_
  · intro x nxt acc hx hn
    obtain ⟨j, rfl, h1, h2⟩ := rng_mem hx
    have h3 : j < (bs.length : Int) + 1 := by omega
    have a1 := atI_getD (f := D.bl) (xs := false :: (bs ++ [false])) (j := j) false h1 (by simp; omega)
    have a2 := atI_getD (f := D.bl) (xs := false :: (bs ++ [false])) (j := j + 1) false (by omega) (by simp; omega)
    rw [← ep] at a1 a2
    walk_at "Ddl"
    rw [a1]
    walk_at "Ddl"
    rw [a2]
    walk_at "Ddl"
    have e : edgeP (false :: (bs ++ [false])) (.int j) = !decide ((false :: (bs ++ [false])).getD j.toNat false = (false :: (bs ++ [false])).getD (j + 1).toNat false) := by
      show ((false :: (bs ++ [false])).getD j.toNat false != (false :: (bs ++ [false])).getD (j + 1).toNat false) = _
      cases (false :: (bs ++ [false])).getD j.toNat false <;> cases (false :: (bs ++ [false])).getD (j + 1).toNat false <;> rfl
    rw [e] at hn
    refine ifb_b (fun hb => ?_) (fun hb => ?_)
    · rw [hb] at hn
      walk_at "Ddl"
      exact hn
    · rw [hb, if_neg (by decide), List.append_nil] at hn
      walk_at "Ddl"
      exact hn
  · have er : (((bs.length : Int) + 1).toNat) = bs.length + 1 := by omega
    have := edg_rng (false :: (bs ++ [false])) bs [] false rfl
    simp only [List.map_id]
    rw [show (0 : Int) = (([] : List Bool).length : Int) from rfl, er, this]
    obtain ⟨⟨f1, f2⟩, _⟩ := edg_ok bs 0
    have hle : (edg false 0 bs).length ≤ 1000000 := by
      have := congrArg List.length this
      rw [List.length_map] at this
      have h2 := List.length_filter_le (edgeP (false :: (bs ++ [false]))) (rngD (([] : List Bool).length : Int) (bs.length + 1))
      rw [rngD_len] at h2
      show (edg false (([] : List Bool).length : Int) bs).length ≤ _
      omega
    walk_at "Ddl"
    have hle2 : (ev ((edg false 0 bs).map D.int)).length ≤ 1000000 := by
      have := ev_le ((edg false 0 bs).map D.int)
      rw [List.length_map] at this
      omega
    refine ⟨hle2, ?_⟩
    walk_at "Ddl"
    intro bs' h
    have : bs' = bs := by
      simp only [List.cons.injEq, and_true, D.lst.injEq] at h
      exact (List.map_inj_right (fun a b h => by cases h; rfl)).mp h.symm
    subst this
    refine ⟨pairsL (edg false 0 bs'), ?_, by simpa using f1, fun p hp => ?_⟩
    · exact congrArg D.tup (zip_pairs _)
    · rw [f2, decide_eq_true hp, Bool.true_and, Int.sub_zero]
end DL

namespace DL
open PySem PySem.Spec PyProof.Rows L2
/-! ### masks -/
def sp_full_mask : FSpec where
  pre := fun ds => ∃ c : Int, ds = [.int c] ∧ 1 ≤ c ∧ c ≤ 60
  post := fun ds r ds' => ds' = ds ∧ ∀ c : Int, ds = [.int c] → r = .int ((2 ^ c.toNat - 1 : Nat) : Int)
/-- slots: 0 cycle -/
def w_full_mask : WS :=
    (cRet 1 (cOp fSub (cOp fShl (cC (.int 1)) (cVar 0)) (cC (.int 1))))
local macro_rules | `(tactic| walk_at "Ddl") => `(tactic| ((conv => whnf); (repeat ((first | refine And.intro rfl ?_ | refine And.intro trivial ?_ | refine And.intro ⟨rfl, trivial⟩ ?_ | refine And.intro ⟨rfl, rfl, trivial⟩ ?_ | refine ifb_t ?_ | refine ifb_f ?_ | refine ifb_nr ?_ | refine ifb_er ?_ | refine And.intro (by first | decide | omega | (unfold CMul; omega) | (unfold CDiv; omega) | (unfold CPow; decide) | (exact cpow1 (by omega) (by omega)) | (exact cpow1 (by dsimp only; omega) (by dsimp only; omega)) | (simp only [rngD_len, List.length_replicate, List.length_map, List.length_append, List.length_cons, List.length_nil, List.length_set] at *; omega)) ?_); conv => whnf))))
theorem pure_full_mask : ∀ ds, ds.length = 1 → sp_full_mask.pre ds → w_full_mask (env0 ds 0) { nx := fun e => sp_full_mask.post ds .non (outs e 1), rt := fun d e => sp_full_mask.post ds d (outs e 1) } := by
  rintro ds _ ⟨c, rfl, h0, h1⟩
  walk_at "Ddl"
  intro c' e
  simp only [List.cons.injEq, and_true, D.int.injEq] at e
  subst e
  exact congrArg D.int (one_shl _)
def sp_phase_bit : FSpec where
  pre := fun ds => ∃ (m : Nat) (p : Int), ds = [.int m, .int p] ∧ 0 ≤ p
  post := fun ds r ds' => ds' = ds ∧ ∀ (m : Nat) (p : Int), ds = [.int m, .int p] → r = .int (if m.testBit p.toNat then 1 else 0)
/-- slots: 0 mask, 1 phase -/
def w_phase_bit : WS :=
    (cRet 2 (cOp fAnd (cOp fShr (cVar 0) (cVar 1)) (cC (.int 1))))
theorem pure_phase_bit : ∀ ds, ds.length = 2 → sp_phase_bit.pre ds → w_phase_bit (env0 ds 0) { nx := fun e => sp_phase_bit.post ds .non (outs e 2), rt := fun d e => sp_phase_bit.post ds d (outs e 2) } := by
  rintro ds _ ⟨m, p, rfl, h0⟩
  walk_at "Ddl"
  intro m' p' e
  simp only [List.cons.injEq, and_true, D.int.injEq, Int.natCast_inj] at e
  obtain ⟨rfl, rfl⟩ := e
  refine congrArg D.int ?_
  rw [shr_nat, show (1 : Int) = ((1 : Nat) : Int) from rfl, bAnd]
  have : m >>> p.toNat &&& 1 = if m.testBit p.toNat then 1 else 0 := by
    rw [Nat.and_one_is_mod]
    have h := Nat.testBit_eq_decide_div_mod_eq (x := m) (i := p.toNat)
    rw [Nat.shiftRight_eq_div_pow]
    by_cases e : m / 2 ^ p.toNat % 2 = 1
    · rw [h, e]; simp
    · rw [h]; simp [e]; omega
  rw [this]
  cases m.testBit p.toNat <;> rfl
def orS : Sp2 → Nat → Nat
  | [], m => m
  | (a, b) :: r, m => orS r (m ||| (2 ^ b.toNat - 2 ^ a.toNat))
def maskOf (s : Sp2) : Nat := orS s 0
theorem orS_bit {c : Int} : ∀ (s : Sp2) (lo : Int) (m p : Nat), 0 ≤ lo → SpOk c lo s → (orS s m).testBit p = (m.testBit p || inS p s)
  | [], _, m, p, _, _ => by simp [orS, inS]
  | (a, b) :: r, lo, m, p, h0, ⟨h1, h2, h3, h4⟩ => by
    rw [orS, orS_bit r (b + 1) _ p (by omega) h4, Nat.testBit_or, run_bit (by omega), inS_cons, Bool.or_assoc]
    congr 2
    have e1 : decide (a.toNat ≤ p) = decide (a ≤ (p : Int)) := decide_eq_decide.mpr (by omega)
    have e2 : decide (p < b.toNat) = decide ((p : Int) < b) := decide_eq_decide.mpr (by omega)
    rw [e1, e2]
theorem maskOf_bit {c : Int} {s : Sp2} (h : SpOk c 0 s) (p : Nat) : (maskOf s).testBit p = inS p s := by
  unfold maskOf
  rw [orS_bit s 0 0 p (Int.le_refl _) h]
  simp
theorem maskOf_lt {c : Int} {s : Sp2} (h : SpOk c 0 s) : maskOf s < 2 ^ c.toNat := lt_of_bits fun p hp => by
  rw [maskOf_bit h]
  cases e : inS p s with
  | false => rfl
  | true => have := inS_lo h e; omega
theorem maskOf_mb {c t : Int} {s : Sp2} (hc : 1 ≤ c) (h : SpOk c 0 s) : mb (maskOf s) c t = inS (t % c) s := by
  unfold mb
  rw [maskOf_bit h, Int.toNat_of_nonneg (ph_lt hc).1]
def sp_mask_of : FSpec where
  pre := fun ds => ∃ (c : Int) (s : Sp2), ds = [encS s] ∧ 1 ≤ c ∧ c ≤ 60 ∧ SpOk c 0 s
  post := fun ds r ds' => ds' = ds ∧ ∀ s, ds = [encS s] → r = .int (maskOf s : Nat)
/-- slots: 0 spans, 1 mask, 2 low, 3 high -/
def w_mask_of : WS :=
    (cSeq (cAsg 1 [0] 1 (cC (.int 0)))
    (cSeq (cFor [0] (iE (cVar 0)) (gT 2 (gCons' (gN 1 [0] 2) (gCons' (gN 1 [0] 3) gNil')))
      (cAsg 1 [0] 1 (cOp fOr (cVar 1) (cOp fSub (cOp fShl (cC (.int 1)) (cVar 3)) (cOp fShl (cC (.int 1)) (cVar 2))))))
    (cRet 1 (cVar 1))))
theorem pure_mask_of : ∀ ds, ds.length = 1 → sp_mask_of.pre ds → w_mask_of (env0 ds 3) { nx := fun e => sp_mask_of.post ds .non (outs e 1), rt := fun d e => sp_mask_of.post ds d (outs e 1) } := by
  rintro ds _ ⟨c, s, rfl, h0, h1, hs⟩
  walk_at "Ddl"
  refine loop_for (fun xs e => ∃ (q : Sp2) (lo : Int) (m : Nat) (o2 o3 : Option D), (xs = q.map encP ∧ 0 ≤ lo ∧ SpOk c lo q ∧ orS q m = maskOf s) ∧ e = [some (encS s), some (.int (m : Nat)), o2, o3]) ⟨s, 0, 0, none, none, ⟨rfl, Int.le_refl _, hs, rfl⟩, rfl⟩ ?_ ?_
  · rintro x r env nxt ⟨q, lo, m, o2, o3, ⟨e1, hlo, hq, e2⟩, rfl⟩ hx
    cases q with
    | nil => simp at e1
    | cons l q =>
      obtain ⟨a, b⟩ := l
      simp only [List.map_cons, List.cons.injEq] at e1
      obtain ⟨rfl, rfl⟩ := e1
      obtain ⟨g1, g2, g3, g4⟩ := hq
      walk_at "Ddl"
      have e3 : Builtin.bitOr (m : Int) (1 * 2 ^ b.toNat - 1 * 2 ^ a.toNat) = ((m ||| (2 ^ b.toNat - 2 ^ a.toNat) : Nat) : Int) := by
        have : (1 : Int) * 2 ^ b.toNat - 1 * 2 ^ a.toNat = ((2 ^ b.toNat - 2 ^ a.toNat : Nat) : Int) := by
          rw [Int.one_mul, Int.one_mul, pow_nat, pow_nat]
          have : 2 ^ a.toNat ≤ 2 ^ b.toNat := Nat.pow_le_pow_right (by decide) (by omega)
          omega
        rw [this, bOr]
      rw [e3]
      exact hx _ ⟨q, b + 1, _, _, _, ⟨rfl, by omega, g4, e2⟩, rfl⟩
  · rintro env ⟨q, lo, m, o2, o3, ⟨e1, hlo, hq, e2⟩, rfl⟩
    cases q with
    | cons l q => simp at e1
    | nil =>
      walk_at "Ddl"
      intro s' e
      simp only [List.cons.injEq, and_true] at e
      cases encS_inj e
      rw [← e2]
      rfl
def sp_mask_spans : FSpec where
  pre := fun ds => ∃ (m : Nat) (c : Int), ds = [.int m, .int c] ∧ 1 ≤ c ∧ c ≤ 60
  post := fun ds r ds' => ds' = ds ∧ ∀ (m : Nat) (c : Int), ds = [.int m, .int c] → ∃ s, r = encS s ∧ SpOk c 0 s ∧ ∀ t, inS (t % c) s = mb m c t
/-- slots: 0 mask, 1 cycle, 2 phase -/
def w_mask_spans : WS :=
    (cRet 2 (cCallN 1 sp_spans_of (cCons (cLc [2] (iR1 (cVar 1)) (gN 2 [] 2) tTrue (cOp fEqS (cCallN 2 sp_phase_bit (cCons (cVar 0) (cCons (cVar 2) cNil))) (cC (.int 1)))) cNil)))
def bitD (m : Nat) : D → D
  | .int p => .bl (m.testBit p.toNat)
  | _ => .non
theorem pure_mask_spans : ∀ ds, ds.length = 2 → sp_mask_spans.pre ds → w_mask_spans (env0 ds 1) { nx := fun e => sp_mask_spans.post ds .non (outs e 2), rt := fun d e => sp_mask_spans.post ds d (outs e 2) } := by
  rintro ds _ ⟨m, c, rfl, h0, h1⟩
  walk_at "Ddl"
  refine lcGo_map (bitD m) _ _ ?_ ?_
  · intro x nxt acc hx hn
    obtain ⟨i, rfl, g1, g2⟩ := rng_mem hx
    walk_at "Ddl"
    refine ⟨⟨m, i, rfl, g1⟩, ?_⟩
    rintro _ _ ⟨rfl, h⟩
    cases h _ _ rfl
    walk_at "Ddl"
    have e : D.bl (decide ((if m.testBit i.toNat then (1 : Int) else 0) = 1)) = bitD m (.int i) := by
      show _ = D.bl (m.testBit i.toNat)
      cases m.testBit i.toNat <;> rfl
    rw [← e] at hn
    exact hn
  · have e1 : (rngD 0 c.toNat).map (bitD m) = ((List.range c.toNat).map fun p => m.testBit p).map D.bl := by
      apply List.ext_getElem?
      intro j
      by_cases h : j < c.toNat
      · rw [List.getElem?_map, rngD_get 0 _ j h]
        simp [h, bitD]
      · rw [List.getElem?_map, List.getElem?_eq_none (by rw [rngD_len]; exact Nat.le_of_not_lt h), List.getElem?_eq_none (by simp only [List.length_map, List.length_range]; exact Nat.le_of_not_lt h)]
        rfl
    walk_at "Ddl"
    rw [e1]
    refine ⟨⟨_, rfl, by simp; omega⟩, ?_⟩
    rintro _ _ ⟨rfl, h⟩
    obtain ⟨s, rfl, hs, hp⟩ := h _ rfl
    walk_at "Ddl"
    intro m' c' e
    simp only [List.cons.injEq, and_true, D.int.injEq, Int.natCast_inj] at e
    obtain ⟨rfl, rfl⟩ := e
    refine ⟨s, rfl, by simpa [Int.toNat_of_nonneg (show 0 ≤ c by omega)] using hs, fun t => ?_⟩
    have ht := ph_lt (c := c) (t := t) h0
    rw [hp _ ht.1]
    unfold mb
    have : (t % c).toNat < c.toNat := by omega
    simp [List.getD, this]
def sp_turned_mask : FSpec where
  pre := fun ds => ∃ (m : Nat) (c t : Int), ds = [.int m, .int c, .int t] ∧ 1 ≤ c ∧ c ≤ 60 ∧ m < 2 ^ c.toNat
  post := fun ds r ds' => ds' = ds ∧ ∀ (m : Nat) (c t : Int), ds = [.int m, .int c, .int t] → r = .int (turnN m c.toNat (t % c).toNat : Nat)
/-- slots: 0 mask, 1 cycle, 2 moment, 3 by -/
def w_turned_mask : WS :=
    (cSeq (cAsg 3 [0, 1, 2] 3 (cOp fMod (cVar 2) (cVar 1)))
    (cRet 3 (cOp fAnd (cOp fOr (cOp fShr (cVar 0) (cVar 3)) (cOp fShl (cVar 0) (cOp fSub (cVar 1) (cVar 3)))) (cCallN 1 sp_full_mask (cCons (cVar 1) cNil)))))
theorem pure_turned_mask : ∀ ds, ds.length = 3 → sp_turned_mask.pre ds → w_turned_mask (env0 ds 1) { nx := fun e => sp_turned_mask.post ds .non (outs e 3), rt := fun d e => sp_turned_mask.post ds d (outs e 3) } := by
  rintro ds _ ⟨m, c, t, rfl, h0, h1, hm⟩
  have ht := ph_lt (c := c) (t := t) h0
  walk_at "Ddl"
  refine ⟨⟨by omega, by omega, lt64 h1 hm⟩, ?_⟩
  walk_at "Ddl"
  refine ⟨⟨_, rfl, h0, h1⟩, ?_⟩
  rintro _ _ ⟨rfl, h⟩
  cases h _ rfl
  walk_at "Ddl"
  intro m' c' t' e
  simp only [List.cons.injEq, and_true, D.int.injEq, Int.natCast_inj] at e
  obtain ⟨rfl, rfl, rfl⟩ := e
  refine congrArg D.int ?_
  rw [shr_nat, shl_nat, bOr, bAnd]
  unfold turnN
  rw [show (c - t % c).toNat = c.toNat - (t % c).toNat by omega]
def sp_covered_mask : FSpec where
  pre := fun ds => ∃ (c s : Int) (e : Option Int), ds = [.int c, .int s, encO e] ∧ 1 ≤ c ∧ c ≤ 60 ∧ ∀ x, e = some x → s ≤ x
  post := fun ds r ds' => ds' = ds ∧ ∀ (c s : Int) (e : Option Int), ds = [.int c, .int s, encO e] → ∃ n : Nat, r = .int n ∧ CovW n c s e
/-- slots: 0 cycle, 1 start, 2 end -/
def w_covered_mask : WS :=
    (cSeq (cIte (cOr (cUn (fIsN false) (cVar 2)) (cOp fGe (cOp fSub (cVar 2) (cVar 1)) (cVar 0)))
      (cRet 3 (cCallN 1 sp_full_mask (cCons (cVar 0) cNil)))
      cNilS)
    (cRet 3 (cCallN 3 sp_turned_mask (cCons (cOp fSub (cOp fShl (cC (.int 1)) (cOp fSub (cVar 2) (cVar 1))) (cC (.int 1))) (cCons (cVar 0) (cCons (cUn fNeg (cVar 1)) cNil))))))
theorem cov_post {c s : Int} {e : Option Int} {n : Nat} (h : CovW n c s e) : ∀ (c' s' : Int) (e' : Option Int), [D.int c, .int s, encO e] = [.int c', .int s', encO e'] → ∃ k : Nat, D.int (n : Int) = .int k ∧ CovW k c' s' e' := by
  intro c' s' e' q
  simp only [List.cons.injEq, and_true, D.int.injEq] at q
  obtain ⟨rfl, rfl, q⟩ := q
  cases encO_inj q
  exact ⟨n, rfl, h⟩
theorem pure_covered_mask : ∀ ds, ds.length = 3 → sp_covered_mask.pre ds → w_covered_mask (env0 ds 0) { nx := fun e => sp_covered_mask.post ds .non (outs e 3), rt := fun d e => sp_covered_mask.post ds d (outs e 3) } := by
  rintro ds _ ⟨c, s, e, rfl, h0, h1, he⟩
  cases e with
  | none =>
    walk_at "Ddl"
    refine ⟨⟨_, rfl, h0, h1⟩, ?_⟩
    rintro _ _ ⟨rfl, h⟩
    cases h _ rfl
    walk_at "Ddl"
    exact cov_post (e := none) (cov_full h0 fun x hx => by cases hx)
  | some e =>
    have he := he e rfl
    walk_at "Ddl"
    refine ifb_dec (fun g => ?_) (fun g => ?_)
    · walk_at "Ddl"
      refine ⟨⟨_, rfl, h0, h1⟩, ?_⟩
      rintro _ _ ⟨rfl, h⟩
      cases h _ rfl
      walk_at "Ddl"
      exact cov_post (e := some e) (cov_full h0 fun x hx => by cases hx; omega)
    · walk_at "Ddl"
      rw [one_shl]
      refine ⟨⟨_, _, _, rfl, h0, h1, ?_⟩, ?_⟩
      · have : 2 ^ (e - s).toNat ≤ 2 ^ c.toNat := Nat.pow_le_pow_right (by decide) (by omega)
        have := Nat.two_pow_pos (e - s).toNat
        omega
      · rintro _ _ ⟨rfl, h⟩
        cases h _ _ _ rfl
        walk_at "Ddl"
        exact cov_post (e := some e) (cov_part h0 he (by omega))
def sp_first_within : FSpec where
  pre := fun ds => ∃ (m : Nat) (c s : Int) (e : Option Int), ds = [.int m, .int c, .int s, encO e] ∧ 1 ≤ c ∧ c ≤ 60 ∧ m < 2 ^ c.toNat
  post := fun ds r ds' => ds' = ds ∧ ∀ (m : Nat) (c s : Int) (e : Option Int), ds = [.int m, .int c, .int s, encO e] → ∃ f, r = encO f ∧ FirstW m c s e f
/-- slots: 0 mask, 1 cycle, 2 start, 3 end, 4 turned, 5 found -/
def w_first_within : WS :=
    (cSeq (cIte (cOp fEqS (cVar 0) (cC (.int 0)))
      (cRet 4 (cC .non))
      cNilS)
    (cSeq (cAsg 4 [0, 1, 2, 3] 4 (cCallN 3 sp_turned_mask (cCons (cVar 0) (cCons (cVar 1) (cCons (cVar 2) cNil)))))
    (cSeq (cAsg 4 [0, 1, 2, 3] 5 (cOp fSub (cOp fAddG (cVar 2) (cUn fBits (cOp fAnd (cVar 4) (cUn fNeg (cVar 4))))) (cC (.int 1))))
    (cSeq (cIte (cAnd (cUn (fIsN true) (cVar 3)) (cOp fGe (cVar 5) (cVar 3)))
      (cRet 4 (cC .non))
      cNilS)
    (cRet 4 (cVar 5))))))
theorem first_post {m : Nat} {c s : Int} {e f : Option Int} (h : FirstW m c s e f) : ∀ (m' : Nat) (c' s' : Int) (e' : Option Int), [D.int m, D.int c, .int s, encO e] = [.int m', .int c', .int s', encO e'] → ∃ g, encO f = encO g ∧ FirstW m' c' s' e' g := by
  intro m' c' s' e' q
  simp only [List.cons.injEq, and_true, D.int.injEq, Int.natCast_inj] at q
  obtain ⟨rfl, rfl, rfl, q⟩ := q
  cases encO_inj q
  exact ⟨f, rfl, h⟩
theorem low_int {n : Nat} (h : n ≠ 0) : ∃ k : Nat, ((Builtin.Int.intBits (Builtin.bitAnd (n : Int) (-(n : Int))) : Nat) : Int) = (k : Int) + 1 ∧ n.testBit k = true ∧ ∀ j, j < k → n.testBit j = false := by
  obtain ⟨k, h1, h2, h3⟩ := low_bit n (by omega)
  refine ⟨k, ?_, h2, h3⟩
  rw [bAndNeg (by omega), h1, bBits (by have := Nat.two_pow_pos k; omega), Nat.log2_two_pow]
  simp
theorem pure_first_within : ∀ ds, ds.length = 4 → sp_first_within.pre ds → w_first_within (env0 ds 2) { nx := fun e => sp_first_within.post ds .non (outs e 4), rt := fun d e => sp_first_within.post ds d (outs e 4) } := by
  rintro ds _ ⟨m, c, s, e, rfl, h0, h1, hm⟩
  walk_at "Ddl"
  refine ifb_dec (fun z => ?_) (fun z => ?_)
  · walk_at "Ddl"
    have : m = 0 := by simpa using z
    subst this
    exact first_post (f := none) fun t _ _ => mb_zero c t
  · have hm0 : m ≠ 0 := fun q => z (by subst q; rfl)
    have hn := mask_ne h0 hm hm0 s
    obtain ⟨k, k1, k2, k3⟩ := low_int hn
    obtain ⟨w1, w2⟩ := first_w h0 hm hm0 k2 k3 none
    walk_at "Ddl"
    refine ⟨⟨_, _, _, rfl, h0, h1, hm⟩, ?_⟩
    rintro _ _ ⟨rfl, h⟩
    cases h _ _ _ rfl
    walk_at "Ddl"
    rw [k1, show s + ((k : Int) + 1) - 1 = s + k by omega]
    cases e with
    | none =>
      walk_at "Ddl"
      exact first_post (e := none) (f := some (s + k)) w2
    | some x =>
      walk_at "Ddl"
      refine ifb_dec (fun g => ?_) (fun g => ?_)
      · walk_at "Ddl"
        obtain ⟨_, _, _, w⟩ := w2
        exact first_post (e := some x) (f := none) fun t t1 t2 => w t t1 (by have := t2 x rfl; omega)
      · walk_at "Ddl"
        obtain ⟨a1, _, a3, a4⟩ := w2
        exact first_post (e := some x) (f := some (s + k)) ⟨a1, fun y hy => by cases hy; omega, a3, a4⟩
end DL

set_option maxHeartbeats 4000000
namespace DL
open PySem PySem.Spec PyProof.Rows L2
/-! ### pieces, stretches -/
def sts {α : Type} : List (Int × α) → List (Int × Option Int × α)
  | [] => []
  | [(s, h)] => [(s, none, h)]
  | (s, h) :: (s', h') :: r => if s < s' then (s, some s', h) :: sts ((s', h') :: r) else sts ((s', h') :: r)
theorem sts_len {α : Type} : ∀ ps : List (Int × α), (sts ps).length ≤ ps.length
  | [] => Nat.le_refl _
  | [(s, h)] => Nat.le_refl _
  | (s, h) :: (s', h') :: r => by
    have := sts_len ((s', h') :: r)
    simp only [sts]
    split
    · simp only [List.length_cons] at this ⊢; omega
    · simp only [List.length_cons] at this ⊢; omega
theorem sts_map {α β : Type} (f : α → β) : ∀ ps : List (Int × α), sts (ps.map fun p => (p.1, f p.2)) = (sts ps).map fun p => (p.1, p.2.1, f p.2.2)
  | [] => rfl
  | [(s, h)] => rfl
  | (s, h) :: (s', h') :: r => by
    have := sts_map f ((s', h') :: r)
    simp only [List.map_cons, sts] at this ⊢
    split
    · rw [this]; rfl
    · rw [this]
def encH (p : Int × D) : D := .tup [.int p.1, p.2]
def encSH (p : Int × Option Int × D) : D := .tup [.int p.1, encO p.2.1, p.2.2]
def keepS : D → Bool
  | .tup [.tup [.int s, _], .int x] => decide (s < x)
  | .tup [.tup [.int _, _], .non] => true
  | _ => false
def mkS : D → D
  | .tup [.tup [.int s, h], e] => .tup [.int s, e, h]
  | _ => .non
theorem sts_zip : ∀ ps : List (Int × D), ps ≠ [] → ((zipD (ps.map encH) ((ps.drop 1).map (fun p => D.int p.1) ++ [.non])).filter keepS).map mkS = (sts ps).map encSH
  | [], h => absurd rfl h
  | [(s, h)], _ => rfl
  | (s, h) :: (s', h') :: r, _ => by
    have ih := sts_zip ((s', h') :: r) (by simp)
    simp only [List.drop_succ_cons, List.drop_zero, List.map_cons, List.cons_append, zipD] at ih ⊢
    rw [List.filter_cons]
    have e : keepS (.tup [encH (s, h), .int s']) = decide (s < s') := rfl
    rw [e]
    simp only [sts]
    by_cases g : s < s'
    · rw [decide_eq_true g, if_pos rfl, if_pos g, List.map_cons, List.map_cons, ih]
      rfl
    · rw [decide_eq_false g, if_neg (by decide), if_neg g, ih]
/-- a sequence, whatever it is -/
def SeqD (d : D) (xs : List D) : Prop := d = .lst xs ∨ d = .tup xs
inductive Held : D → Prop where
  | int (i : Int) : Held (.int i)
  | tup (t : List D) : Held (.tup t)
def sp_stretches_of : FSpec where
  pre := fun ds => ∃ (d : D) (ps : List (Int × D)), ds = [d] ∧ SeqD d (ps.map encH) ∧ ps ≠ [] ∧ (∀ p ∈ ps, Held p.2) ∧ ps.length ≤ 900000
  post := fun ds r ds' => ds' = ds ∧ ∀ (d : D) (ps : List (Int × D)), ds = [d] → SeqD d (ps.map encH) → r = .lst ((sts ps).map encSH)
/-- slots: 0 pieces, 1 ends, 2 start, 3 _, 4 held, 5 end -/
def w_stretches_of : WS :=
    (cSeq (cAsg 1 [0] 1 (cOp fAddG (cLc [2, 3] (iE (cSlL (cVar 0) (cC (.int 1)))) (gT 2 (gCons' (gN 1 [] 2) (gCons' (gN 1 [] 3) gNil'))) tTrue (cVar 2)) (cLst (cCons (cC .non) cNil))))
    (cRet 1 (cLc [2, 4, 5] (iZG (cVar 0) (cVar 1)) (gT 2 (gCons' (gT 2 (gCons' (gN 1 [] 2) (gCons' (gN 1 [] 4) gNil'))) (gCons' (gN 1 [] 5) gNil'))) (cOr (cUn (fIsN false) (cVar 5)) (cOp fLt (cVar 2) (cVar 5))) (cTup (cCons (cVar 2) (cCons (cVar 5) (cCons (cVar 4) cNil)))))))
theorem encH_inj {a b : Int × D} (h : encH a = encH b) : a = b := by
  obtain ⟨x, s⟩ := a
  obtain ⟨y, t⟩ := b
  simp only [encH, D.tup.injEq, List.cons.injEq, D.int.injEq, and_true] at h
  simp [h]
theorem str_post {d : D} {ps : List (Int × D)} (hd : SeqD d (ps.map encH)) : ∀ (d' : D) (qs : List (Int × D)), [d] = [d'] → SeqD d' (qs.map encH) → D.lst ((sts ps).map encSH) = .lst ((sts qs).map encSH) := by
  intro d' qs e h
  simp only [List.cons.injEq, and_true] at e
  subst e
  have : ps.map encH = qs.map encH := by
    rcases hd with rfl | rfl <;> rcases h with h | h <;> first | exact D.lst.inj h | exact D.tup.inj h | cases h
  rw [(List.map_inj_right (fun a b h => encH_inj h)).mp this]
theorem cutD_one (xs : List D) : cutD xs (some 1) none = xs.drop 1 := by
  unfold cutD
  have e1 : HT.sIx xs.length 0 (some 1) = min 1 xs.length := by simp [HT.sIx]
  have e2 : HT.sIx xs.length xs.length none = xs.length := rfl
  rw [e1, e2]
  by_cases h : 1 ≤ xs.length
  · rw [Nat.min_eq_left h, List.take_of_length_le (by rw [List.length_drop]; omega)]
  · have : xs = [] := List.eq_nil_of_length_eq_zero (by omega)
    subst this
    rfl
theorem zipD_mem {xs ys : List D} {x : D} (h : x ∈ zipD xs ys) : ∃ a b, a ∈ xs ∧ b ∈ ys ∧ x = .tup [a, b] := by
  obtain ⟨j, hj⟩ := List.mem_iff_getElem?.mp h
  obtain ⟨a, b, ha, hb, e⟩ := zipD_get' hj
  exact ⟨a, b, List.mem_of_getElem? ha, List.mem_of_getElem? hb, e⟩
def fstD : D → D
  | .tup [x, _] => x
  | _ => .non
local macro_rules | `(tactic| walk_at "Ddl") => `(tactic| ((conv => whnf); (repeat ((first | refine And.intro rfl ?_ | refine And.intro trivial ?_ | refine And.intro ⟨rfl, trivial⟩ ?_ | refine And.intro ⟨rfl, rfl, trivial⟩ ?_ | refine ifb_t ?_ | refine ifb_f ?_ | refine ifb_nr ?_ | refine ifb_er ?_ | refine And.intro (by first | decide | omega | (unfold CMul; omega) | (unfold CDiv; omega) | (unfold CPow; decide) | (exact cpow1 (by omega) (by omega)) | (exact cpow1 (by dsimp only; omega) (by dsimp only; omega)) | (simp only [rngD_len, List.length_replicate, List.length_map, List.length_append, List.length_cons, List.length_nil, List.length_set] at *; omega)) ?_); conv => whnf))))
theorem pure_stretches_of : ∀ ds, ds.length = 1 → sp_stretches_of.pre ds → w_stretches_of (env0 ds 5) { nx := fun e => sp_stretches_of.post ds .non (outs e 1), rt := fun d e => sp_stretches_of.post ds d (outs e 1) } := by
  rintro ds _ ⟨d, ps, rfl, hd, hne, him, hl⟩
  rcases hd with rfl | rfl
  · walk_at "Ddl"
    rw [cutD_one]
    refine ⟨by simp only [List.length_drop, List.length_map]; omega, ?_⟩
    refine lcGo_map fstD _ _ ?_ ?_
    · intro x nxt acc hx hn
      rw [← List.map_drop] at hx
      obtain ⟨⟨s, h⟩, hm, rfl⟩ := List.mem_map.mp hx
      have hi := him _ (List.mem_of_mem_drop hm)
      cases hi with
      | int i => walk_at "Ddl"; exact hn
      | tup t => walk_at "Ddl"; exact hn
    · have e1 : (((ps.map encH).drop 1).map fstD) = (ps.drop 1).map fun p => D.int p.1 := by rw [← List.map_drop, List.map_map]; rfl
      walk_at "Ddl"
      rw [e1]
      have hlen : (List.map (fun p : Int × D => D.int p.1) (List.drop 1 ps)).length + [D.non].length ≤ 1000000 := by simp only [List.length_map, List.length_drop, List.length_cons, List.length_nil]; omega
      refine ⟨hlen, ?_⟩
      walk_at "Ddl"
      refine ⟨by rw [zipD_len, List.length_map]; omega, ?_⟩
      refine lcGo_filter keepS mkS [some (.lst (ps.map encH)), some (.lst (List.map (fun p : Int × D => D.int p.1) (List.drop 1 ps) ++ [D.non])), none, none, none, none] _ ?_ ?_
      · intro x nxt acc hx hn
        obtain ⟨a, b, ha, hb, rfl⟩ := zipD_mem hx
        obtain ⟨⟨st, h⟩, hm, rfl⟩ := List.mem_map.mp ha
        have hi : Held h := him _ hm
        rcases List.mem_append.mp hb with hb | hb
        · obtain ⟨⟨st', h'⟩, _, rfl⟩ := List.mem_map.mp hb
          have e2 : keepS (.tup [encH (st, h), .int st']) = decide (st < st') := rfl
          have e3 : mkS (.tup [encH (st, h), .int st']) = .tup [.int st, .int st', h] := rfl
          rw [e2, e3] at hn
          cases hi with
          | int i =>
            walk_at "Ddl"
            refine ifb_dec (fun g => ?_) (fun g => ?_)
            · rw [decide_eq_true g] at hn
              walk_at "Ddl"
              exact hn
            · rw [decide_eq_false g, if_neg (by decide), List.append_nil] at hn
              walk_at "Ddl"
              exact hn
          | tup t =>
            walk_at "Ddl"
            refine ifb_dec (fun g => ?_) (fun g => ?_)
            · rw [decide_eq_true g] at hn
              walk_at "Ddl"
              exact hn
            · rw [decide_eq_false g, if_neg (by decide), List.append_nil] at hn
              walk_at "Ddl"
              exact hn
        · cases List.mem_singleton.mp hb
          have e2 : keepS (.tup [encH (st, h), .non]) = true := rfl
          have e3 : mkS (.tup [encH (st, h), .non]) = .tup [.int st, .non, h] := rfl
          rw [e2, e3] at hn
          cases hi with
          | int i => walk_at "Ddl"; exact hn
          | tup t => walk_at "Ddl"; exact hn
      · rw [sts_zip ps hne]
        walk_at "Ddl"
        exact str_post (by first | exact .inl rfl | exact .inr rfl)
  · walk_at "Ddl"
    rw [cutD_one]
    refine ⟨by simp only [List.length_drop, List.length_map]; omega, ?_⟩
    refine lcGo_map fstD _ _ ?_ ?_
    · intro x nxt acc hx hn
      rw [← List.map_drop] at hx
      obtain ⟨⟨s, h⟩, hm, rfl⟩ := List.mem_map.mp hx
      have hi := him _ (List.mem_of_mem_drop hm)
      cases hi with
      | int i => walk_at "Ddl"; exact hn
      | tup t => walk_at "Ddl"; exact hn
    · have e1 : (((ps.map encH).drop 1).map fstD) = (ps.drop 1).map fun p => D.int p.1 := by rw [← List.map_drop, List.map_map]; rfl
      walk_at "Ddl"
      rw [e1]
      have hlen : (List.map (fun p : Int × D => D.int p.1) (List.drop 1 ps)).length + [D.non].length ≤ 1000000 := by simp only [List.length_map, List.length_drop, List.length_cons, List.length_nil]; omega
      refine ⟨hlen, ?_⟩
      walk_at "Ddl"
      refine ⟨by rw [zipD_len, List.length_map]; omega, ?_⟩
      refine lcGo_filter keepS mkS [some (.tup (ps.map encH)), some (.lst (List.map (fun p : Int × D => D.int p.1) (List.drop 1 ps) ++ [D.non])), none, none, none, none] _ ?_ ?_
      · intro x nxt acc hx hn
        obtain ⟨a, b, ha, hb, rfl⟩ := zipD_mem hx
        obtain ⟨⟨st, h⟩, hm, rfl⟩ := List.mem_map.mp ha
        have hi : Held h := him _ hm
        rcases List.mem_append.mp hb with hb | hb
        · obtain ⟨⟨st', h'⟩, _, rfl⟩ := List.mem_map.mp hb
          have e2 : keepS (.tup [encH (st, h), .int st']) = decide (st < st') := rfl
          have e3 : mkS (.tup [encH (st, h), .int st']) = .tup [.int st, .int st', h] := rfl
          rw [e2, e3] at hn
          cases hi with
          | int i =>
            walk_at "Ddl"
            refine ifb_dec (fun g => ?_) (fun g => ?_)
            · rw [decide_eq_true g] at hn
              walk_at "Ddl"
              exact hn
            · rw [decide_eq_false g, if_neg (by decide), List.append_nil] at hn
              walk_at "Ddl"
              exact hn
          | tup t =>
            walk_at "Ddl"
            refine ifb_dec (fun g => ?_) (fun g => ?_)
            · rw [decide_eq_true g] at hn
              walk_at "Ddl"
              exact hn
            · rw [decide_eq_false g, if_neg (by decide), List.append_nil] at hn
              walk_at "Ddl"
              exact hn
        · cases List.mem_singleton.mp hb
          have e2 : keepS (.tup [encH (st, h), .non]) = true := rfl
          have e3 : mkS (.tup [encH (st, h), .non]) = .tup [.int st, .non, h] := rfl
          rw [e2, e3] at hn
          cases hi with
          | int i => walk_at "Ddl"; exact hn
          | tup t => walk_at "Ddl"; exact hn
      · rw [sts_zip ps hne]
        walk_at "Ddl"
        exact str_post (by first | exact .inl rfl | exact .inr rfl)
end DL

set_option maxHeartbeats 4000000
namespace DL
open PySem PySem.Spec PyProof.Rows L2
/-! ### the pieces of a table -/
def encPc (p : Int × Nat) : D := .tup [.int p.1, .int (p.2 : Nat)]
def pcs (ls : List Ln) : Pcs := ls.map fun l => (l.1, maskOf l.2)
def sp_pieces_of : FSpec where
  pre := fun ds => ∃ (c : Int) (ls : List Ln), ds = [encT c ls] ∧ TbOk c ls ∧ ls.length ≤ 900000
  post := fun ds r ds' => ds' = ds ∧ ∀ (c : Int) (ls : List Ln), ds = [encT c ls] → r = .lst ((pcs ls).map encPc)
/-- slots: 0 table, 1 start, 2 spans -/
def w_pieces_of : WS :=
    (cRet 1 (cLc [1, 2] (iE (cOp fIx (cVar 0) (cC (.int 1)))) (gT 2 (gCons' (gN 1 [] 1) (gCons' (gN 1 [] 2) gNil'))) tTrue (cTup (cCons (cVar 1) (cCons (cCallN 1 sp_mask_of (cCons (cVar 2) cNil)) cNil)))))
def pcD : D → D
  | .tup [.int s, .tup sp] => .tup [.int s, .int (orS (sp.map fun d => match d with | .tup [.int a, .int b] => (a, b) | _ => (0, 0)) 0 : Nat)]
  | _ => .non
theorem pcD_enc (l : Ln) : pcD (encL l) = encPc (l.1, maskOf l.2) := by
  obtain ⟨s, sp⟩ := l
  show D.tup [.int s, .int (orS ((sp.map encP).map fun d => match d with | .tup [.int a, .int b] => (a, b) | _ => (0, 0)) 0 : Nat)] = _
  rw [List.map_map]
  have : (sp.map ((fun d => match d with | .tup [.int a, .int b] => (a, b) | _ => ((0 : Int), (0 : Int))) ∘ encP)) = sp := by
    conv => rhs; rw [← List.map_id sp]
    exact List.map_congr_left fun p _ => rfl
  rw [this]
  rfl
local macro_rules | `(tactic| walk_at "Ddl") => `(tactic| ((conv => whnf); (repeat ((first | refine And.intro rfl ?_ | refine And.intro trivial ?_ | refine And.intro ⟨rfl, trivial⟩ ?_ | refine And.intro ⟨rfl, rfl, trivial⟩ ?_ | refine ifb_t ?_ | refine ifb_f ?_ | refine ifb_nr ?_ | refine ifb_er ?_ | refine And.intro (by first | decide | omega | (unfold CMul; omega) | (unfold CDiv; omega) | (unfold CPow; decide) | (exact cpow1 (by omega) (by omega)) | (exact cpow1 (by dsimp only; omega) (by dsimp only; omega)) | (simp only [rngD_len, List.length_replicate, List.length_map, List.length_append, List.length_cons, List.length_nil, List.length_set] at *; omega)) ?_); conv => whnf))))
theorem pure_pieces_of : ∀ ds, ds.length = 1 → sp_pieces_of.pre ds → w_pieces_of (env0 ds 2) { nx := fun e => sp_pieces_of.post ds .non (outs e 1), rt := fun d e => sp_pieces_of.post ds d (outs e 1) } := by
  rintro ds _ ⟨c, ls, rfl, ht, hl⟩
  have hc := ht.1
  walk_at "Ddl"
  refine lcGo_map pcD [some (encT c ls), none, none] _ ?_ ?_
  · intro x nxt acc hx hn
    obtain ⟨⟨st, sp⟩, hm, rfl⟩ := List.mem_map.mp hx
    rw [pcD_enc] at hn
    walk_at "Ddl"
    refine ⟨⟨c, sp, rfl, hc.1, hc.2, (ht.sp _ hm).1⟩, ?_⟩
    rintro _ _ ⟨rfl, h⟩
    cases h _ rfl
    walk_at "Ddl"
    exact hn
  · walk_at "Ddl"
    intro c' ls' e
    simp only [List.cons.injEq, and_true] at e
    obtain ⟨rfl, rfl⟩ := encT_inj e
    refine congrArg D.lst ?_
    rw [pcs, List.map_map, List.map_map]
    exact List.map_congr_left fun l _ => pcD_enc l

/-! ### pieces in order -/
def PcsOk (c : Int) (ps : Pcs) : Prop := (∃ m r, ps = (0, m) :: r) ∧ ps.Pairwise (fun a b => a.1 ≤ b.1) ∧ ∀ p ∈ ps, p.2 < 2 ^ c.toNat
theorem pcAt_none {t : Int} : ∀ (m : Nat) (r : Pcs), (∀ p ∈ r, t < p.1) → pcAt t m r = m
  | m, [], _ => rfl
  | m, (s, k) :: r, h => by
    have h1 : t < s := h (s, k) (by simp)
    rw [pcAt, if_neg (by omega)]
    exact pcAt_none m r fun p hp => h p (by simp [hp])
theorem StrOk.of {c : Int} {S : Int → Bool} : ∀ (r : Pcs) (s : Int) (k m : Nat), ((s, k) :: r).Pairwise (fun a b => a.1 ≤ b.1) → (∀ p ∈ (s, k) :: r, p.2 < 2 ^ c.toNat) → (∀ t, s ≤ t → S t = mb (pcAt t m ((s, k) :: r)) c t) → StrOk S c s (sts ((s, k) :: r))
  | [], s, k, m, _, h2, h3 => ⟨rfl, h2 (s, k) (by simp), fun t ht _ => by rw [h3 t ht, pcAt, if_pos ht]; rfl, rfl⟩
  | (s', k') :: r, s, k, m, h1, h2, h3 => by
    have hss : s ≤ s' := (List.pairwise_cons.mp h1).1 (s', k') (by simp)
    have ih := StrOk.of (S := S) r s' k' k (List.pairwise_cons.mp h1).2 (fun p hp => h2 p (by simp [hp])) (fun t ht => by rw [h3 t (by omega), pcAt, if_pos (by omega)])
    simp only [sts]
    by_cases g : s < s'
    · rw [if_pos g]
      refine ⟨rfl, h2 (s, k) (by simp), fun t ht hx => ?_, ?_⟩
      · have hx := hx s' rfl
        rw [h3 t ht, pcAt, if_pos ht, pcAt_none]
        intro p hp
        rcases List.mem_cons.mp hp with rfl | hp
        · exact hx
        · have := (List.pairwise_cons.mp (List.pairwise_cons.mp h1).2).1 p hp
          exact Int.lt_of_lt_of_le hx this
      · cases hq : sts ((s', k') :: r) with
        | nil => rw [hq] at ih; exact ih.elim
        | cons y q =>
          rw [hq] at ih
          obtain ⟨u, e, w⟩ := y
          obtain ⟨rfl, i2⟩ := ih
          exact ⟨rfl, g, rfl, i2⟩
    · rw [if_neg g]
      obtain rfl : s = s' := by omega
      exact ih
theorem strOk_pcs {c : Int} {ps : Pcs} (h : PcsOk c ps) : StrOk (pcS c ps) c 0 (sts ps) := by
  obtain ⟨⟨m, r, rfl⟩, h2, h3⟩ := h
  exact StrOk.of r 0 m 0 h2 h3 fun t _ => rfl
def encSt (p : Int × Option Int × Nat) : D := .tup [.int p.1, encO p.2.1, .int (p.2.2 : Nat)]
theorem enc_sts (ps : Pcs) : (sts (ps.map fun p => (p.1, D.int (p.2 : Nat)))).map encSH = (sts ps).map encSt := by
  rw [sts_map (fun m : Nat => D.int (m : Int)), List.map_map]
  rfl
theorem enc_pcs (ps : Pcs) : ps.map encPc = (ps.map fun p => (p.1, D.int (p.2 : Nat))).map encH := by
  rw [List.map_map]
  rfl
def sp_table_of : FSpec where
  pre := fun ds => ∃ (c : Int) (ps : Pcs), ds = [.int c, .lst (ps.map encPc)] ∧ 1 ≤ c ∧ c ≤ 60 ∧ PcsOk c ps ∧ ps.length ≤ 900000
  post := fun ds r ds' => ds' = ds ∧ ∀ (c : Int) (ps : Pcs), ds = [.int c, .lst (ps.map encPc)] → ∃ ls, r = encT c ls ∧ Shp c (pcS c ps) 0 ls ∧ ls.length ≤ ps.length + 1
/-- slots: 0 cycle, 1 pieces, 2 lines, 3 begin, 4 seen, 5 inside, 6 start, 7 end, 8 mask, 9 turn, 10 cover -/
def w_table_of : WS :=
    (cSeq (cAsg 2 [0, 1] 2 (cLst cNil))
    (cSeq (cCh3 (cC (.int 0)) (gN 2 [0, 1] 3) (gN 2 [0, 1] 4) (gN 2 [0, 1] 5))
    (cSeq (cFor [0, 1] (iE (cCallN 1 sp_stretches_of (cCons (cVar 1) cNil))) (gT 3 (gCons' (gN 2 [0, 1] 6) (gCons' (gN 2 [0, 1] 7) (gCons' (gN 2 [0, 1] 8) gNil'))))
      (cSeq (cAsg 2 [0, 1] 9 (cCallN 4 sp_first_within (cCons (cOp fAnd (cOp fXor (cVar 8) (cVar 5)) (cVar 4)) (cCons (cVar 0) (cCons (cVar 6) (cCons (cVar 7) cNil))))))
        (cSeq (cIte (cUn (fIsN true) (cVar 9))
          (cSeq (cAsg 2 [0, 1] 5 (cOp fOr (cVar 5) (cOp fAnd (cVar 8) (cCallN 3 sp_covered_mask (cCons (cVar 0) (cCons (cVar 6) (cCons (cVar 9) cNil)))))))
            (cSeq (cEx (cMeth 2 fAppend (cCons (cTup (cCons (cVar 3) (cCons (cCallN 2 sp_mask_spans (cCons (cVar 5) (cCons (cVar 0) cNil))) cNil))) cNil)))
            (cPar3 2 [0, 1] 3 4 5 (cCons (cVar 9) (cCons (cC (.int 0)) (cCons (cC (.int 0)) cNil))))))
          cNilS)
        (cSeq (cAsg 2 [0, 1] 10 (cCallN 3 sp_covered_mask (cCons (cVar 0) (cCons (cBi fMax (cCons (cVar 6) (cCons (cVar 3) cNil))) (cCons (cVar 7) cNil)))))
        (cSeq (cAsg 2 [0, 1] 4 (cOp fOr (cVar 4) (cVar 10)))
        (cAsg 2 [0, 1] 5 (cOp fOr (cVar 5) (cOp fAnd (cVar 8) (cVar 10)))))))))
    (cSeq (cEx (cMeth 2 fAppend (cCons (cTup (cCons (cVar 3) (cCons (cCallN 2 sp_mask_spans (cCons (cVar 5) (cCons (cVar 0) cNil))) cNil))) cNil)))
    (cRet 2 (cTup (cCons (cVar 0) (cCons (cBi fTuple (cCons (cVar 2) cNil)) cNil))))))))
theorem encPc_inj {a b : Int × Nat} (h : encPc a = encPc b) : a = b := by
  obtain ⟨x, s⟩ := a
  obtain ⟨y, t⟩ := b
  simp only [encPc, D.tup.injEq, List.cons.injEq, D.int.injEq, and_true, Int.natCast_inj] at h
  simp [h]
def TS (c : Int) (S : Int → Bool) (L : List Ln) (b : Int) (seen ins : Nat) (q : Strs) : Prop :=
  (q = [] ∧ Pre c S 0 L b ∧ (∀ t, b ≤ t → mb ins c t = S t)) ∨ ∃ st, StrOk S c st q ∧ TI c S L b seen ins st
theorem pure_table_of : ∀ ds, ds.length = 2 → sp_table_of.pre ds → w_table_of (env0 ds 9) { nx := fun e => sp_table_of.post ds .non (outs e 2), rt := fun d e => sp_table_of.post ds d (outs e 2) } := by
  rintro ds _ ⟨c, ps, rfl, h0, h1, hp, hl⟩
  have hstr := strOk_pcs hp
  have hlen := sts_len ps
  walk_at "Ddl"
  refine ⟨⟨_, ps.map fun p => (p.1, D.int (p.2 : Nat)), rfl, .inl (congrArg D.lst (enc_pcs ps)), ?_, ?_, by simpa using hl⟩, ?_⟩
  · obtain ⟨⟨m, r, rfl⟩, _⟩ := hp; simp
  · intro p hm
    obtain ⟨q, _, rfl⟩ := List.mem_map.mp hm
    exact .int _
  rintro _ _ ⟨rfl, h⟩
  cases h _ _ rfl (.inl (congrArg D.lst (enc_pcs ps)))
  rw [enc_sts]
  walk_at "Ddl"
  refine loop_for (fun xs e => ∃ (q : Strs) (L : List Ln) (b : Int) (seen ins : Nat) (o6 o7 o8 o9 o10 : Option D), (xs = q.map encSt ∧ TS c (pcS c ps) L b seen ins q ∧ L.length + q.length ≤ ps.length) ∧
    e = [some (.int c), some (.lst (ps.map encPc)), some (.lst (L.map encL)), some (.int b), some (.int (seen : Nat)), some (.int (ins : Nat)), o6, o7, o8, o9, o10]) ⟨sts ps, [], 0, 0, 0, none, none, none, none, none, ⟨rfl, .inr ⟨0, hstr, TI.start h0 _⟩, by simpa using hlen⟩, rfl⟩ ?_ ?_
  · rintro x r env nxt ⟨q, L, b, seen, ins, o6, o7, o8, o9, o10, ⟨e1, hT, hle⟩, rfl⟩ hx
    cases q with
    | nil => simp at e1
    | cons y q =>
      obtain ⟨st, e, m⟩ := y
      simp only [List.map_cons, List.cons.injEq] at e1
      obtain ⟨rfl, rfl⟩ := e1
      rcases hT with ⟨hT, _⟩ | ⟨st', hs, I⟩
      · cases hT
      obtain ⟨rfl, hm, hS, hrest⟩ := hs
      have hse : ∀ x, e = some x → st < x := by
        intro x hxe
        cases q with
        | nil => rw [hrest] at hxe; cases hxe
        | cons y q =>
          obtain ⟨u, _, _⟩ := y
          rw [hrest.1] at hxe; cases hxe
          exact hrest.2.1
      have fin : ∀ (L' : List Ln) (b' : Int) (sn is : Nat), ((∀ x, e = some x → TI c (pcS c ps) L' b' sn is x) ∧ (e = none → ∀ t, b' ≤ t → mb is c t = pcS c ps t)) → Pre c (pcS c ps) 0 L' b' → TS c (pcS c ps) L' b' sn is q := by
        intro L' b' sn is g gp
        cases q with
        | nil => exact .inl ⟨rfl, gp, g.2 hrest⟩
        | cons y q =>
          obtain ⟨u, e', m'⟩ := y
          exact .inr ⟨u, hrest.2.2, g.1 u hrest.1⟩
      have hx64 : (m ^^^ ins) &&& seen < 2 ^ c.toNat := lt_and I.cov.1
      cases e with
      | none =>
        walk_at "Ddl"
        rw [bXor, bAnd]
        refine ⟨⟨_, _, _, none, rfl, h0, h1, hx64⟩, ?_⟩
        rintro _ _ ⟨rfl, h⟩
        obtain ⟨f, rfl, hf⟩ := h _ _ _ none rfl
        cases f with
        | none =>
          walk_at "Ddl"
          rw [if_neg (show ¬ b > st by have := I.le; omega)]
          refine ⟨⟨_, _, none, rfl, h0, h1, fun z hz => Int.le_of_lt (hse z hz)⟩, ?_⟩
          rintro _ _ ⟨rfl, h⟩
          obtain ⟨cv, rfl, hcv⟩ := h _ _ none rfl
          walk_at "Ddl"
          rw [bOr, bAnd, bOr]
          have on := I.on h0 hS hf hcv
          exact hx _ ⟨q, L, b, _, _, _, _, _, _, _, ⟨rfl, fin _ _ _ _ ⟨fun z hz => on.1 z hz (hse z hz), on.2⟩ I.pre, by simp only [List.length_cons] at hle; omega⟩, rfl⟩
        | some f =>
          have hf1 : st ≤ f := hf.1
          walk_at "Ddl"
          refine ⟨⟨_, _, some f, rfl, h0, h1, fun z hz => by cases hz; exact hf1⟩, ?_⟩
          rintro _ _ ⟨rfl, h⟩
          obtain ⟨cv, rfl, hcv⟩ := h _ _ (some f) rfl
          walk_at "Ddl"
          rw [bAnd, bOr]
          refine ⟨⟨_, _, rfl, h0, h1⟩, ?_⟩
          rintro _ _ ⟨rfl, h⟩
          obtain ⟨sp, rfl, hsp, hin⟩ := h _ _ rfl
          obtain ⟨I2, _, hfx⟩ := I.turn h0 hS hf hcv hsp hin
          walk_at "Ddl"
          rw [show (if f > st then f else st) = f by split <;> omega]
          refine ⟨⟨_, _, none, rfl, h0, h1, fun z hz => Int.le_of_lt (hfx z hz)⟩, ?_⟩
          rintro _ _ ⟨rfl, h⟩
          obtain ⟨cv2, rfl, hcv2⟩ := h _ _ none rfl
          walk_at "Ddl"
          have on := I2.on h0 (m := m) (e := none) (fun t h1 h2 => hS t (by omega) h2) (fun t _ _ => by rw [Nat.and_zero]; exact mb_zero c t) hcv2
          rw [show Builtin.bitOr 0 (cv2 : Int) = ((0 ||| cv2 : Nat) : Int) from bOr 0 cv2, bAnd, show Builtin.bitOr 0 ((m &&& cv2 : Nat) : Int) = ((0 ||| (m &&& cv2) : Nat) : Int) from bOr 0 _]
          exact hx _ ⟨q, L ++ [(b, sp)], f, _, _, _, _, _, _, _, ⟨rfl, fin _ _ _ _ ⟨fun z hz => on.1 z hz (hfx z hz), on.2⟩ I2.pre, by simp only [List.length_cons, List.length_append, List.length_nil] at hle ⊢; omega⟩, by (first | rfl | (simp only [List.map_append, List.map_set, List.map_cons, List.map_nil]; done) | (simp only [List.map_append, List.map_set, List.map_cons, List.map_nil]; rfl))⟩
      | some x =>
        walk_at "Ddl"
        rw [bXor, bAnd]
        refine ⟨⟨_, _, _, (some x), rfl, h0, h1, hx64⟩, ?_⟩
        rintro _ _ ⟨rfl, h⟩
        obtain ⟨f, rfl, hf⟩ := h _ _ _ (some x) rfl
        cases f with
        | none =>
          walk_at "Ddl"
          rw [if_neg (show ¬ b > st by have := I.le; omega)]
          refine ⟨⟨_, _, (some x), rfl, h0, h1, fun z hz => Int.le_of_lt (hse z hz)⟩, ?_⟩
          rintro _ _ ⟨rfl, h⟩
          obtain ⟨cv, rfl, hcv⟩ := h _ _ (some x) rfl
          walk_at "Ddl"
          rw [bOr, bAnd, bOr]
          have on := I.on h0 hS hf hcv
          exact hx _ ⟨q, L, b, _, _, _, _, _, _, _, ⟨rfl, fin _ _ _ _ ⟨fun z hz => on.1 z hz (hse z hz), on.2⟩ I.pre, by simp only [List.length_cons] at hle; omega⟩, rfl⟩
        | some f =>
          have hf1 : st ≤ f := hf.1
          walk_at "Ddl"
          refine ⟨⟨_, _, some f, rfl, h0, h1, fun z hz => by cases hz; exact hf1⟩, ?_⟩
          rintro _ _ ⟨rfl, h⟩
          obtain ⟨cv, rfl, hcv⟩ := h _ _ (some f) rfl
          walk_at "Ddl"
          rw [bAnd, bOr]
          refine ⟨⟨_, _, rfl, h0, h1⟩, ?_⟩
          rintro _ _ ⟨rfl, h⟩
          obtain ⟨sp, rfl, hsp, hin⟩ := h _ _ rfl
          obtain ⟨I2, _, hfx⟩ := I.turn h0 hS hf hcv hsp hin
          walk_at "Ddl"
          rw [show (if f > st then f else st) = f by split <;> omega]
          refine ⟨⟨_, _, (some x), rfl, h0, h1, fun z hz => Int.le_of_lt (hfx z hz)⟩, ?_⟩
          rintro _ _ ⟨rfl, h⟩
          obtain ⟨cv2, rfl, hcv2⟩ := h _ _ (some x) rfl
          walk_at "Ddl"
          have on := I2.on h0 (m := m) (e := (some x)) (fun t h1 h2 => hS t (by omega) h2) (fun t _ _ => by rw [Nat.and_zero]; exact mb_zero c t) hcv2
          rw [show Builtin.bitOr 0 (cv2 : Int) = ((0 ||| cv2 : Nat) : Int) from bOr 0 cv2, bAnd, show Builtin.bitOr 0 ((m &&& cv2 : Nat) : Int) = ((0 ||| (m &&& cv2) : Nat) : Int) from bOr 0 _]
          exact hx _ ⟨q, L ++ [(b, sp)], f, _, _, _, _, _, _, _, ⟨rfl, fin _ _ _ _ ⟨fun z hz => on.1 z hz (hfx z hz), on.2⟩ I2.pre, by simp only [List.length_cons, List.length_append, List.length_nil] at hle ⊢; omega⟩, by (first | rfl | (simp only [List.map_append, List.map_set, List.map_cons, List.map_nil]; done) | (simp only [List.map_append, List.map_set, List.map_cons, List.map_nil]; rfl))⟩
  · rintro env ⟨q, L, b, seen, ins, o6, o7, o8, o9, o10, ⟨e1, hT, hle⟩, rfl⟩
    cases q with
    | cons y q => simp at e1
    | nil =>
      have hfin : Pre c (pcS c ps) 0 L b ∧ ∀ t, b ≤ t → mb ins c t = pcS c ps t := by
        rcases hT with ⟨_, h⟩ | ⟨st, hs, _⟩
        · exact h
        · exact hs.elim
      walk_at "Ddl"
      refine ⟨⟨_, _, rfl, h0, h1⟩, ?_⟩
      rintro _ _ ⟨rfl, h⟩
      obtain ⟨sp, rfl, hsp, hin⟩ := h _ _ rfl
      walk_at "Ddl"
      intro c' ps' e
      simp only [List.cons.injEq, and_true, D.int.injEq, D.lst.injEq] at e
      obtain ⟨rfl, e⟩ := e
      cases (List.map_inj_right (fun a b h => encPc_inj h)).mp e
      refine ⟨L ++ [(b, sp)], ?_, TI.done hfin.1 hfin.2 hsp hin, by simp at hle ⊢; omega⟩
      simp [encT, encL]
end DL

namespace DL
open PySem PySem.Spec PyProof.Rows L2
def goB (c : Int) : Int → List Ln → Bool
  | _, [] => true
  | p, l :: r => decide (p < l.1) && spB c 0 l.2 && goB c l.1 r
def tlB (c : Int) (ls : List Ln) : Bool := match ls with
  | [] => false
  | l :: r => decide (l.1 = 0) && goB c (-1) (l :: r)
def tbB (c : Int) (ls : List Ln) : Bool := decide (1 ≤ c) && decide (c ≤ 60) && tlB c ls
theorem LsOk.goB {c : Int} : ∀ {lo : Int} {ls : List Ln}, LsOk c lo ls → goB c lo ls = true
  | _, [], _ => rfl
  | lo, (x, y) :: r, ⟨g1, g2, g3⟩ => by
    simp only [DL.goB, LsOk.goB g3, spB_iff.mpr g2, decide_eq_true g1]; rfl
theorem TbOk.tbB {c : Int} {ls : List Ln} (h : TbOk c ls) : tbB c ls = true := by
  obtain ⟨⟨h0, h1⟩, sp, r, rfl, h4, h5⟩ := h
  simp only [DL.tbB, tlB, goB, spB_iff.mpr h4, h5.goB, decide_eq_true h0, decide_eq_true h1]
  rfl
def sp_is_cycle : FSpec where
  pre := fun ds => ∃ c : Int, ds = [.int c]
  post := fun ds r ds' => ds' = ds ∧ ∀ c : Int, ds = [.int c] → r = .bl (decide (1 ≤ c) && decide (c ≤ 60))
/-- slots: 0 cycle -/
def w_is_cycle : WS :=
    (cRet 1 (cChain fLe fLe (cC (.int 1)) (cVar 0) (cC (.int 60))))
local macro_rules | `(tactic| walk_at "Ddl") => `(tactic| ((conv => whnf); (repeat ((first | refine And.intro rfl ?_ | refine And.intro trivial ?_ | refine And.intro ⟨rfl, trivial⟩ ?_ | refine And.intro ⟨rfl, rfl, trivial⟩ ?_ | refine ifb_t ?_ | refine ifb_f ?_ | refine ifb_nr ?_ | refine ifb_er ?_ | refine And.intro (by first | decide | omega | (unfold CMul; omega) | (unfold CDiv; omega) | (unfold CPow; decide) | (exact cpow1 (by omega) (by omega)) | (exact cpow1 (by dsimp only; omega) (by dsimp only; omega)) | (simp only [rngD_len, List.length_replicate, List.length_map, List.length_append, List.length_cons, List.length_nil, List.length_set] at *; omega)) ?_); conv => whnf))))
theorem pure_is_cycle : ∀ ds, ds.length = 1 → sp_is_cycle.pre ds → w_is_cycle (env0 ds 0) { nx := fun e => sp_is_cycle.post ds .non (outs e 1), rt := fun d e => sp_is_cycle.post ds d (outs e 1) } := by
  rintro ds _ ⟨c, rfl⟩
  have post : ∀ b, b = (decide (1 ≤ c) && decide (c ≤ 60)) → ∀ c' : Int, [D.int c] = [D.int c'] → D.bl b = .bl (decide (1 ≤ c') && decide (c' ≤ 60)) := by
    intro b hb c' e
    simp only [List.cons.injEq, and_true, D.int.injEq] at e
    subst e
    rw [hb]
  walk_at "Ddl"
  refine ifb_dec (fun e => ?_) (fun e => ?_)
  · walk_at "Ddl"
    exact post _ (by rw [decide_eq_true e, Bool.true_and])
  · walk_at "Ddl"
    exact post _ (by rw [decide_eq_false e, Bool.false_and])
def sp_is_table : FSpec where
  pre := fun ds => ∃ (c : Int) (ls : List Ln), ds = [encT c ls]
  post := fun ds r ds' => ds' = ds ∧ ∀ (c : Int) (ls : List Ln), ds = [encT c ls] → r = .bl (tbB c ls)
theorem tab_post {c : Int} {ls : List Ln} {b : Bool} (h : b = tbB c ls) : ∀ (c' : Int) (ls' : List Ln), [encT c ls] = [encT c' ls'] → D.bl b = .bl (tbB c' ls') := by
  intro c' ls' e
  simp only [List.cons.injEq, and_true] at e
  obtain ⟨rfl, rfl⟩ := encT_inj e
  rw [h]
/-- slots: 0 table, 1 cycle, 2 lines, 3 before, 4 start, 5 spans -/
def w_is_table : WS :=
    (cSeq (cUnp (cVar 0) (gT 2 (gCons' (gN 1 [0] 1) (gCons' (gN 1 [0] 2) gNil'))))
    (cSeq (cIte (cOr (cUn fNot (cCallN 1 sp_is_cycle (cCons (cVar 1) cNil))) (cOr (cOp fEqS (cBi fLen (cCons (cVar 2) cNil)) (cC (.int 0))) (cOp fNeS (cOp fIx (cOp fIx (cVar 2) (cC (.int 0))) (cC (.int 0))) (cC (.int 0)))))
      (cRet 1 (cC (.bl false)))
      cNilS)
    (cSeq (cAsg 1 [0] 3 (cUn fNeg (cC (.int 1))))
    (cSeq (cFor [0, 2] (iE (cVar 2)) (gT 2 (gCons' (gN 1 [0, 2] 4) (gCons' (gN 1 [0, 2] 5) gNil')))
      (cSeq (cIte (cOr (cOp fLe (cVar 4) (cVar 3)) (cUn fNot (cCallN 2 sp_is_spans (cCons (cVar 5) (cCons (cVar 1) cNil)))))
          (cRet 1 (cC (.bl false)))
          cNilS)
        (cAsg 1 [0, 2] 3 (cVar 4))))
    (cRet 1 (cC (.bl true)))))))
theorem pure_is_table : ∀ ds, ds.length = 1 → sp_is_table.pre ds → w_is_table (env0 ds 5) { nx := fun e => sp_is_table.post ds .non (outs e 1), rt := fun d e => sp_is_table.post ds d (outs e 1) } := by
  rintro ds _ ⟨c, ls, rfl⟩
  walk_at "Ddl"
  refine ⟨⟨_, rfl⟩, ?_⟩
  rintro _ _ ⟨rfl, h⟩
  cases h _ rfl
  walk_at "Ddl"
  by_cases hc : 1 ≤ c ∧ c ≤ 60
  · obtain ⟨e, e2⟩ := hc
    rw [decide_eq_true e, decide_eq_true e2]
    · walk_at "Ddl"
      cases ls with
      | nil =>
        walk_at "Ddl"
        refine tab_post ?_
        unfold tbB tlB; simp
      | cons l ls =>
        have hne : ¬ ((((l :: ls).map encL).length : Int) = 0) := by simp; omega
        refine ifb_dec (fun z => ?_) (fun z => ?_)
        · exact absurd z hne
        obtain ⟨st, sp⟩ := l
        have ea : atI (List.map encL ((st, sp) :: ls)) 0 = some (encL (st, sp)) := atI_nat (xs := List.map encL ((st, sp) :: ls)) (j := 0) rfl
        walk_at "Ddl"
        rw [ea]
        walk_at "Ddl"
        refine ifb_ndec (fun e3 => ?_) (fun e3 => ?_)
        · walk_at "Ddl"
          refine tab_post ?_
          have : ¬ st = 0 := e3
          unfold tbB tlB
          simp [this]
        · have e3 : st = 0 := e3
          subst e3
          walk_at "Ddl"
          refine loop_for (fun xs e => ∃ (q : List Ln) (lo : Int) (o o' : Option D), (xs = q.map encL ∧ tbB c ((0, sp) :: ls) = goB c lo q) ∧ e = [some (encT c ((0, sp) :: ls)), some (.int c), some (.tup (((0, sp) :: ls).map encL)), some (.int lo), o, o']) ⟨(0, sp) :: ls, -1, none, none, ⟨rfl, ?_⟩, rfl⟩ ?_ ?_
          · unfold tbB tlB
            rw [decide_eq_true e, decide_eq_true e2]; rfl
          · rintro x r env nxt ⟨q, lo, o, o', ⟨h1, h2⟩, rfl⟩ hx
            cases q with
            | nil => simp at h1
            | cons l q =>
              obtain ⟨a, t⟩ := l
              simp only [List.map_cons, List.cons.injEq] at h1
              obtain ⟨rfl, rfl⟩ := h1
              simp only [goB] at h2
              walk_at "Ddl"
              refine ifb_dec (fun e4 => ?_) (fun e4 => ?_)
              · walk_at "Ddl"
                refine tab_post ?_
                rw [h2, decide_eq_false (show ¬ lo < a by have : a ≤ lo := e4; omega)]; rfl
              · walk_at "Ddl"
                refine ⟨⟨t, c, rfl⟩, ?_⟩
                rintro _ _ ⟨rfl, hp⟩
                cases hp _ _ rfl
                rw [decide_eq_true (show lo < a by have : ¬ a ≤ lo := e4; omega)] at h2
                cases hb : spB c 0 t with
                | true =>
                  rw [hb] at h2
                  walk_at "Ddl"
                  exact hx _ ⟨q, a, _, _, ⟨rfl, h2⟩, rfl⟩
                | false =>
                  rw [hb] at h2
                  walk_at "Ddl"
                  exact tab_post h2.symm
          · rintro env ⟨q, lo, o, o', ⟨h1, h2⟩, rfl⟩
            cases q with
            | nil =>
              walk_at "Ddl"
              exact tab_post h2.symm
            | cons _ _ => simp at h1
  · have : (decide (1 ≤ c) && decide (c ≤ 60)) = false := by simp; omega
    rw [this]
    walk_at "Ddl"
    refine tab_post ?_
    unfold tbB
    rw [this]; rfl
def sp_law_is_table : FSpec where
  pre := fun ds => ∃ (c : Int) (ls : List Ln), ds = [encT c ls, .int c]
  post := fun ds r ds' => ds' = ds ∧ ∀ (c : Int) (ls : List Ln), ds = [encT c ls, .int c] → r = .bl (tlB c ls)
theorem til_post {c : Int} {ls : List Ln} {b : Bool} (h : b = tlB c ls) : ∀ (c' : Int) (ls' : List Ln), [encT c ls, .int c] = [encT c' ls', .int c'] → D.bl b = .bl (tlB c' ls') := by
  intro c' ls' e
  simp only [List.cons.injEq, and_true] at e
  obtain ⟨rfl, rfl⟩ := encT_inj e.1
  rw [h]
/-- slots: 0 table, 1 cycle, 2 before, 3 line -/
def w_law_is_table : WS :=
    (cSeq (cIte (cOr (cUn fNot (cIsi .tuple (cVar 0))) (cOr (cOp fNeS (cBi fLen (cCons (cVar 0) cNil)) (cC (.int 2))) (cUn fNot (cCallN 2 sp_law_same (cCons (cOp fIx (cVar 0) (cC (.int 0))) (cCons (cVar 1) cNil))))))
      (cRet 2 (cC (.bl false)))
      cNilS)
    (cSeq (cIte (cOr (cUn fNot (cIsi .tuple (cOp fIx (cVar 0) (cC (.int 1))))) (cOp fEqS (cBi fLen (cCons (cOp fIx (cVar 0) (cC (.int 1))) cNil)) (cC (.int 0))))
      (cRet 2 (cC (.bl false)))
      cNilS)
    (cSeq (cAsg 2 [0, 1] 2 (cUn fNeg (cC (.int 1))))
    (cSeq (cFor [0, 1] (iE (cOp fIx (cVar 0) (cC (.int 1)))) (gN 2 [0, 1] 3)
      (cSeq (cIte (cOr (cUn fNot (cIsi .tuple (cVar 3))) (cOr (cOp fNeS (cBi fLen (cCons (cVar 3) cNil)) (cC (.int 2))) (cUn fNot (cCallN 1 sp_law_integer (cCons (cOp fIx (cVar 3) (cC (.int 0))) cNil)))))
          (cRet 2 (cC (.bl false)))
          cNilS)
        (cSeq (cIte (cOr (cOp fLe (cOp fIx (cVar 3) (cC (.int 0))) (cVar 2)) (cUn fNot (cCallN 2 sp_law_is_spans (cCons (cOp fIx (cVar 3) (cC (.int 1))) (cCons (cVar 1) cNil)))))
          (cRet 2 (cC (.bl false)))
          cNilS)
        (cAsg 2 [0, 1] 2 (cOp fIx (cVar 3) (cC (.int 0)))))))
    (cRet 2 (cOp fEqS (cOp fIx (cOp fIx (cOp fIx (cVar 0) (cC (.int 1))) (cC (.int 0))) (cC (.int 0))) (cC (.int 0))))))))
theorem pure_law_is_table : ∀ ds, ds.length = 2 → sp_law_is_table.pre ds → w_law_is_table (env0 ds 2) { nx := fun e => sp_law_is_table.post ds .non (outs e 2), rt := fun d e => sp_law_is_table.post ds d (outs e 2) } := by
  rintro ds _ ⟨c, ls, rfl⟩
  walk_at "Ddl"
  refine ⟨⟨_, rfl, rfl⟩, ?_⟩
  rintro _ _ ⟨rfl, rfl⟩
  walk_at "Ddl"
  cases ls with
  | nil =>
    walk_at "Ddl"
    exact til_post rfl
  | cons l ls =>
    have hne : ¬ ((((l :: ls).map encL).length : Int) = 0) := by simp; omega
    refine ifb_dec (fun z => ?_) (fun z => ?_)
    · exact absurd z hne
    obtain ⟨st, sp⟩ := l
    walk_at "Ddl"
    refine loop_for (fun xs e => ∃ (q : List Ln) (lo : Int) (o : Option D), (xs = q.map encL ∧ goB c (-1) ((st, sp) :: ls) = goB c lo q) ∧ e = [some (encT c ((st, sp) :: ls)), some (.int c), some (.int lo), o]) ⟨(st, sp) :: ls, -1, none, ⟨rfl, rfl⟩, rfl⟩ ?_ ?_
    · rintro x r env nxt ⟨q, lo, o, ⟨h1, h2⟩, rfl⟩ hx
      cases q with
      | nil => simp at h1
      | cons l q =>
        obtain ⟨a, t⟩ := l
        simp only [List.map_cons, List.cons.injEq] at h1
        obtain ⟨rfl, rfl⟩ := h1
        simp only [goB] at h2
        have no : goB c (-1) ((st, sp) :: ls) = false → D.bl false = .bl (tlB c ((st, sp) :: ls)) := fun h => by
          show D.bl false = .bl (decide (st = 0) && goB c (-1) ((st, sp) :: ls))
          rw [h, Bool.and_false]
        walk_at "Ddl"
        (refine ⟨⟨_, rfl, rfl, rfl⟩, ?_⟩; rintro _ _ ⟨rfl, hq⟩; cases hq _ rfl; walk_at "Ddl")
        refine ifb_dec (fun e4 => ?_) (fun e4 => ?_)
        · walk_at "Ddl"
          refine til_post (D.bl.inj (no ?_))
          simp only [goB]
          rw [h2, decide_eq_false (show ¬ lo < a by have : a ≤ lo := e4; omega)]; rfl
        · walk_at "Ddl"
          refine ⟨⟨t, c, rfl⟩, ?_⟩
          rintro _ _ ⟨rfl, hp⟩
          cases hp _ _ rfl
          rw [decide_eq_true (show lo < a by have : ¬ a ≤ lo := e4; omega)] at h2
          cases hb : spB c 0 t with
          | true =>
            rw [hb] at h2
            walk_at "Ddl"
            exact hx _ ⟨q, a, _, ⟨rfl, by rw [show goB c (-1) ((st, sp) :: ls) = (decide (-1 < st) && spB c 0 sp && goB c st ls) from rfl, h2]; rfl⟩, rfl⟩
          | false =>
            rw [hb] at h2
            walk_at "Ddl"
            exact til_post (D.bl.inj (no (by simp only [goB]; exact h2)))
    · rintro env ⟨q, lo, o, ⟨h1, h2⟩, rfl⟩
      cases q with
      | nil =>
        have ea : atI (List.map encL ((st, sp) :: ls)) 0 = some (encL (st, sp)) := atI_nat (xs := List.map encL ((st, sp) :: ls)) (j := 0) rfl
        walk_at "Ddl"
        rw [ea]
        walk_at "Ddl"
        refine til_post ?_
        show _ = (decide (st = 0) && goB c (-1) ((st, sp) :: ls))
        rw [h2]; simp [goB]
      | cons _ _ => simp at h1
def sp_law_pair : FSpec where
  pre := fun ds => ∃ (ns ms : List Int) (c : Int), ds = [.lst (ns.map D.int), .rol (ms.map D.int), .int c] ∧ 1 ≤ c ∧ c ≤ 60
  post := fun ds r ds' => ∀ xs ys c, ds = [.lst xs, .rol ys, .int c] → ∃ (ns : List Int) (p : Int × Int), r = encP p ∧ ds' = [.lst (ns.map D.int), .rol ys, .int c]
theorem pair_post {ns ms ks : List Int} {c : Int} {p : Int × Int} : sp_law_pair.post [.lst (ns.map D.int), .rol (ms.map D.int), .int c] (encP p) [.lst (ks.map D.int), .rol (ms.map D.int), .int c] := by
  intro xs ys c' e
  simp only [List.cons.injEq, and_true, D.lst.injEq, D.int.injEq, D.rol.injEq] at e
  obtain ⟨_, rfl, rfl⟩ := e
  exact ⟨ks, p, rfl, rfl⟩
/-- slots: 0 draws, 1 script, 2 cycle, 3 low -/
def w_law_pair : WS :=
    (cSeq (cIte (cOp fEqS (cCallN 2 sp_law_take (cCons (cVar 0) (cCons (cC (.int 4)) cNil))) (cC (.int 0)))
      (cRet 3 (cTup (cCons (cCallN 2 sp_law_signed (cCons (cVar 0) (cCons (cVar 1) cNil))) (cCons (cCallN 2 sp_law_signed (cCons (cVar 0) (cCons (cVar 1) cNil))) cNil))))
      cNilS)
    (cSeq (cAsg 3 [0, 1, 2] 3 (cOp fSub (cCallN 2 sp_law_take (cCons (cVar 0) (cCons (cOp fAddG (cVar 2) (cC (.int 2))) cNil))) (cC (.int 1))))
    (cRet 3 (cTup (cCons (cVar 3) (cCons (cOp fAddG (cVar 3) (cCallN 2 sp_law_take (cCons (cVar 0) (cCons (cOp fAddG (cVar 2) (cC (.int 2))) cNil)))) cNil))))))
theorem pure_law_pair : ∀ ds, ds.length = 3 → sp_law_pair.pre ds → w_law_pair (env0 ds 1) { nx := fun e => sp_law_pair.post ds .non (outs e 3), rt := fun d e => sp_law_pair.post ds d (outs e 3) } := by
  rintro ds _ ⟨ns, ms, c, rfl, h0, h1⟩
  walk_at "Ddl"
  refine ⟨⟨⟨_, rfl⟩, by first | decide | omega⟩, ?_⟩; rintro _ _ ⟨ns1, v1, rfl, rfl, h2, h3⟩; walk_at "Ddl"
  refine ifb_dec (fun e => ?_) (fun e => ?_)
  · walk_at "Ddl"
    refine ⟨⟨⟨_, rfl⟩, _, rfl⟩, ?_⟩
    rintro _ _ ⟨ns4, v4, rfl, rfl⟩
    walk_at "Ddl"
    refine ⟨⟨⟨_, rfl⟩, _, rfl⟩, ?_⟩
    rintro _ _ ⟨ns5, v5, rfl, rfl⟩
    walk_at "Ddl"
    exact pair_post (p := (v4, v5))
  · walk_at "Ddl"
    refine ⟨⟨⟨_, rfl⟩, by omega⟩, ?_⟩
    rintro _ _ ⟨ns3, v3, rfl, rfl, h7, h8⟩
    walk_at "Ddl"
    refine ⟨⟨⟨_, rfl⟩, by omega⟩, ?_⟩
    rintro _ _ ⟨ns4, v4, rfl, rfl, h9, h10⟩
    walk_at "Ddl"
    exact pair_post (p := (v3 - 1, v3 - 1 + v4))
def sp_law_other_start : FSpec where
  pre := fun ds => ∃ (ns ms : List Int) (ls : List Ln) (a : Int), ds = [.lst (ns.map D.int), .rol (ms.map D.int), .lst (ls.map encL), .int a] ∧ 0 ≤ a ∧ a < ls.length
  post := fun ds r ds' => ∀ xs ys zs a, ds = [.lst xs, .rol ys, .lst zs, .int a] → ∃ (ns : List Int) (v : Int), r = .int v ∧ ds' = [.lst (ns.map D.int), .rol ys, .lst zs, .int a]
theorem ost_post {ns ms ks : List Int} {zs : List D} {a v : Int} : sp_law_other_start.post [.lst (ns.map D.int), .rol (ms.map D.int), .lst zs, .int a] (.int v) [.lst (ks.map D.int), .rol (ms.map D.int), .lst zs, .int a] := by
  intro xs ys zs' c' e
  simp only [List.cons.injEq, and_true, D.lst.injEq, D.int.injEq, D.rol.injEq] at e
  obtain ⟨_, rfl, rfl, rfl⟩ := e
  exact ⟨ks, v, rfl, rfl⟩
/-- slots: 0 draws, 1 script, 2 lines, 3 at, 4 kind -/
def w_law_other_start : WS :=
    (cSeq (cAsg 4 [0, 1, 2, 3] 4 (cCallN 2 sp_law_take (cCons (cVar 0) (cCons (cC (.int 4)) cNil))))
    (cSeq (cIte (cOp fEqS (cVar 4) (cC (.int 0)))
      (cRet 4 (cOp fIx (cOp fIx (cVar 2) (cBi fMax (cCons (cC (.int 0)) (cCons (cOp fSub (cVar 3) (cC (.int 1))) cNil)))) (cC (.int 0))))
      cNilS)
    (cSeq (cIte (cOp fEqS (cVar 4) (cC (.int 1)))
      (cRet 4 (cOp fAddG (cOp fIx (cOp fIx (cVar 2) (cVar 3)) (cC (.int 0))) (cC (.int 1))))
      cNilS)
    (cSeq (cIte (cOp fEqS (cVar 4) (cC (.int 2)))
      (cRet 4 (cOp fSub (cOp fIx (cOp fIx (cVar 2) (cVar 3)) (cC (.int 0))) (cC (.int 1))))
      cNilS)
    (cRet 4 (cOp fAddG (cOp fIx (cOp fIx (cVar 2) (cVar 3)) (cC (.int 0))) (cCallN 2 sp_law_signed (cCons (cVar 0) (cCons (cVar 1) cNil)))))))))
theorem pure_law_other_start : ∀ ds, ds.length = 4 → sp_law_other_start.pre ds → w_law_other_start (env0 ds 1) { nx := fun e => sp_law_other_start.post ds .non (outs e 4), rt := fun d e => sp_law_other_start.post ds d (outs e 4) } := by
  rintro ds _ ⟨ns, ms, ls, a, rfl, h0, h1⟩
  have ea := atI_getD (f := encL) (xs := ls) (j := a) (0, []) h0 h1
  walk_at "Ddl"
  refine ⟨⟨⟨_, rfl⟩, by first | decide | omega⟩, ?_⟩; rintro _ _ ⟨ns1, v1, rfl, rfl, h2, h3⟩; walk_at "Ddl"
  refine ifb_dec (fun e => ?_) (fun e => ?_)
  · walk_at "Ddl"
    have eb : ∀ j : Int, 0 ≤ j → j < ls.length → atI (List.map encL ls) j = some (encL (ls.getD j.toNat (0, []))) := fun j h h' => atI_getD (0, []) h h'
    rw [eb _ (by split <;> omega) (by split <;> omega)]
    walk_at "Ddl"
    exact ost_post
  · walk_at "Ddl"
    refine ifb_dec (fun e => ?_) (fun e => ?_)
    · walk_at "Ddl"
      rw [ea]
      walk_at "Ddl"
      exact ost_post
    · walk_at "Ddl"
      refine ifb_dec (fun e => ?_) (fun e => ?_)
      · walk_at "Ddl"
        rw [ea]
        walk_at "Ddl"
        exact ost_post
      · walk_at "Ddl"
        rw [ea]
        walk_at "Ddl"
        refine ⟨⟨⟨_, rfl⟩, _, rfl⟩, ?_⟩
        rintro _ _ ⟨ns4, v4, rfl, rfl⟩
        walk_at "Ddl"
        exact ost_post
def sp_law_changed : FSpec where
  pre := fun ds => ∃ (ns ms : List Int) (c : Int) (ls : List Ln), ds = [.lst (ns.map D.int), .rol (ms.map D.int), encT c ls] ∧ 1 ≤ c ∧ c ≤ 60 ∧ 0 < ls.length ∧ ls.length ≤ 100
  post := fun ds r ds' => ∀ xs ys t, ds = [.lst xs, .rol ys, t] → ∃ (ns : List Int) (c : Int) (ls : List Ln), r = encT c ls ∧ ds' = [.lst (ns.map D.int), .rol ys, t] ∧ ls.length ≤ 100
theorem chg_post {ns ms ks : List Int} {t : D} {c : Int} {ls : List Ln} (h : ls.length ≤ 100) : sp_law_changed.post [.lst (ns.map D.int), .rol (ms.map D.int), t] (encT c ls) [.lst (ks.map D.int), .rol (ms.map D.int), t] := by
  intro xs ys t' e
  simp only [List.cons.injEq, and_true, D.lst.injEq, D.int.injEq, D.rol.injEq] at e
  obtain ⟨_, rfl, rfl⟩ := e
  exact ⟨ks, c, ls, rfl, rfl, h⟩
theorem cut_map {α : Type} (f : α → D) (xs : List α) (lo hi : Option Int) : ∃ ys : List α, cutD (xs.map f) lo hi = ys.map f ∧ ys.length ≤ xs.length := by
  unfold cutD
  refine ⟨(xs.drop (HT.sIx (xs.map f).length 0 lo)).take (HT.sIx (xs.map f).length (xs.map f).length hi - HT.sIx (xs.map f).length 0 lo), ?_, ?_⟩
  · rw [List.map_take, List.map_drop]
  · simp; omega
/-- slots: 0 draws, 1 script, 2 table, 3 cycle, 4 lines, 5 kind, 6 at, 7 other, 8 kept, 9 k -/
def w_law_changed : WS :=
    (cSeq (cAsg 3 [0, 1, 2] 3 (cOp fIx (cVar 2) (cC (.int 0))))
    (cSeq (cAsg 3 [0, 1, 2] 4 (cBi fList (cCons (cOp fIx (cVar 2) (cC (.int 1))) cNil)))
    (cSeq (cAsg 3 [0, 1, 2] 5 (cCallN 2 sp_law_take (cCons (cVar 0) (cCons (cC (.int 6)) cNil))))
    (cSeq (cAsg 3 [0, 1, 2] 6 (cCallN 2 sp_law_take (cCons (cVar 0) (cCons (cBi fLen (cCons (cVar 4) cNil)) cNil))))
    (cSeq (cIte (cOp fEqS (cVar 5) (cC (.int 0)))
      (cAsg 3 [0, 1, 2] 3 (cOp fIx (cLst (cCons (cC (.int 0)) (cCons (cUn fNeg (cC (.int 1))) (cCons (cC (.int 60)) (cCons (cC (.int 61)) (cCons (cC (.int 1)) (cCons (cCallN 2 sp_law_signed (cCons (cVar 0) (cCons (cVar 1) cNil))) cNil))))))) (cCallN 2 sp_law_take (cCons (cVar 0) (cCons (cC (.int 6)) cNil)))))
      (cIte (cOp fEqS (cVar 5) (cC (.int 1)))
          (cAsg 3 [0, 1, 2] 4 (cSlL (cVar 4) (cC (.int 1))))
          (cIte (cAnd (cOp fEqS (cVar 5) (cC (.int 2))) (cOp fEqS (cCallN 2 sp_law_take (cCons (cVar 0) (cCons (cC (.int 2)) cNil))) (cC (.int 0))))
              (cAsg 3 [0, 1, 2] 4 (cLst cNil))
              (cIte (cOp fEqS (cVar 5) (cC (.int 2)))
                  (cSeq (cAsg 3 [0, 1, 2] 7 (cCallN 2 sp_law_take (cCons (cVar 0) (cCons (cBi fLen (cCons (cVar 4) cNil)) cNil))))
                    (cSeq (cAsg 3 [0, 1, 2] 8 (cOp fIx (cVar 4) (cVar 6)))
                    (cSeq (cSet 4 (cOp fIx (cVar 4) (cVar 7)) (cVar 6))
                    (cSet 4 (cVar 8) (cVar 7)))))
                  (cIte (cOp fEqS (cVar 5) (cC (.int 3)))
                      (cSet 4 (cTup (cCons (cCallN 4 sp_law_other_start (cCons (cVar 0) (cCons (cVar 1) (cCons (cVar 4) (cCons (cVar 6) cNil))))) (cCons (cOp fIx (cOp fIx (cVar 4) (cVar 6)) (cC (.int 1))) cNil))) (cVar 6))
                      (cSet 4 (cTup (cCons (cOp fIx (cOp fIx (cVar 4) (cVar 6)) (cC (.int 0))) (cCons (cBi fTuple (cCons (cLc [9] (iR1 (cOp fAddG (cC (.int 1)) (cCallN 2 sp_law_take (cCons (cVar 0) (cCons (cC (.int 2)) cNil))))) (gN 3 [] 9) tTrue (cCallN 3 sp_law_pair (cCons (cVar 0) (cCons (cVar 1) (cCons (cOp fIx (cVar 2) (cC (.int 0))) cNil))))) cNil)) cNil))) (cVar 6)))))))
    (cRet 3 (cTup (cCons (cVar 3) (cCons (cBi fTuple (cCons (cVar 4) cNil)) cNil)))))))))
set_option maxHeartbeats 0 in
theorem pure_law_changed : ∀ ds, ds.length = 3 → sp_law_changed.pre ds → w_law_changed (env0 ds 7) { nx := fun e => sp_law_changed.post ds .non (outs e 3), rt := fun d e => sp_law_changed.post ds d (outs e 3) } := by
  rintro ds _ ⟨ns, ms, c, ls, rfl, h0, h1, hl0, hl1⟩
  have fin : ∀ (N : DEnv → Prop) (ks : List Int) (c' : Int) (t : List Ln) (kind at_ : Int) (o7 o8 o9 : Option D), t.length ≤ 100 → (cRet 3 (cTup (cCons (cVar 3) (cCons (cBi fTuple (cCons (cVar 4) cNil)) cNil)))) [some (.lst (ks.map D.int)), some (.rol (ms.map D.int)), some (encT c ls), some (.int c'), some (.lst (t.map encL)), some (.int kind), some (.int at_), o7, o8, o9] { nx := N, rt := fun d e => sp_law_changed.post [D.lst (List.map D.int ns), D.rol (List.map D.int ms), encT c ls] d (outs e 3) } := by
    intro N ks c' t kind at_ o7 o8 o9 h
    walk_at "Ddl"
    exact chg_post (c := c') h
  walk_at "Ddl"
  refine ⟨⟨⟨_, rfl⟩, by first | decide | omega⟩, ?_⟩; rintro _ _ ⟨ns1, kind, rfl, rfl, h2, h3⟩; walk_at "Ddl"
  refine ⟨⟨⟨_, rfl⟩, by simp only [List.length_map]; omega⟩, ?_⟩
  rintro _ _ ⟨ns3, at_, rfl, rfl, h7, h8⟩
  have h8 : at_ < (ls.length : Int) := by simpa using h8
  have ea := atI_getD (f := encL) (xs := ls) (j := at_) (0, []) h7 h8
  have ei : ixN (ls.map encL).length at_ = some at_.toNat := ixN_lt h7 (by simpa using h8)
  walk_at "Ddl"
  refine ifb_dec (fun e => ?_) (fun e => ?_)
  · walk_at "Ddl"
    refine ⟨⟨⟨_, rfl⟩, _, rfl⟩, ?_⟩
    rintro _ _ ⟨ns4, v4, rfl, rfl⟩
    walk_at "Ddl"
    refine ⟨⟨⟨_, rfl⟩, by first | decide | omega⟩, ?_⟩; rintro _ _ ⟨ns5, v5, rfl, rfl, h11, h12⟩; walk_at "Ddl"
    obtain ⟨ch, ech⟩ : ∃ ch, atI [D.int 0, D.int (-1), D.int 60, D.int 61, D.int 1, D.int v4] v5 = some (D.int ch) := by
      have : v5 = 0 ∨ v5 = 1 ∨ v5 = 2 ∨ v5 = 3 ∨ v5 = 4 ∨ v5 = 5 := by omega
      rcases this with rfl | rfl | rfl | rfl | rfl | rfl <;> exact ⟨_, rfl⟩
    rw [ech]
    walk_at "Ddl"
    exact chg_post (c := ch) hl1
  · walk_at "Ddl"
    refine ifb_dec (fun e1 => ?_) (fun e1 => ?_)
    · obtain ⟨t, et, tl⟩ := cut_map encL ls (some 1) none
      walk_at "Ddl"
      rw [et]
      walk_at "Ddl"
      exact chg_post (by omega)
    · walk_at "Ddl"
      refine ifb_dec (fun e2 => ?_) (fun e2 => ?_)
      · subst e2
        walk_at "Ddl"
        refine ⟨⟨⟨_, rfl⟩, by first | decide | omega⟩, ?_⟩; rintro _ _ ⟨ns5, v5, rfl, rfl, h11, h12⟩; walk_at "Ddl"
        refine ifb_dec (fun e3 => ?_) (fun e3 => ?_)
        · walk_at "Ddl"
          exact chg_post (ls := []) (by simp)
        · walk_at "Ddl"
          refine ⟨⟨⟨_, rfl⟩, by simp only [List.length_map]; omega⟩, ?_⟩
          rintro _ _ ⟨ns6, v6, rfl, rfl, h13, h14⟩
          have h14 : v6 < (ls.length : Int) := by simpa using h14
          have eb := atI_getD (f := encL) (xs := ls) (j := v6) (0, []) h13 h14
          walk_at "Ddl"
          rw [ea]
          walk_at "Ddl"
          rw [eb]
          walk_at "Ddl"
          rw [ei]
          walk_at "Ddl"
          have ej : ixN ((ls.map encL).set at_.toNat (encL (ls.getD v6.toNat (0, [])))).length v6 = some v6.toNat := ixN_lt h13 (by simpa using h14)
          rw [ej]
          walk_at "Ddl"
          have ew : ((ls.map encL).set at_.toNat (encL (ls.getD v6.toNat (0, [])))).set v6.toNat (encL (ls.getD at_.toNat (0, []))) = ((ls.set at_.toNat (ls.getD v6.toNat (0, []))).set v6.toNat (ls.getD at_.toNat (0, []))).map encL := by rw [List.map_set, List.map_set]
          rw [ew]
          exact chg_post (by simpa using hl1)
      · walk_at "Ddl"
        refine ifb_dec (fun e3 => ?_) (fun e3 => ?_)
        · exact absurd e3 e2
        · walk_at "Ddl"
          have fin2 : ∀ (x : Int) (y : Sp2), (ls.map encL).set at_.toNat (D.tup [D.int x, encS y]) = (ls.set at_.toNat (x, y)).map encL := fun x y => by rw [List.map_set]; rfl
          refine ifb_dec (fun e4 => ?_) (fun e4 => ?_)
          · walk_at "Ddl"
            refine ⟨⟨_, _, ls, at_, rfl, h7, h8⟩, ?_⟩
            intro r ds' hp
            obtain ⟨ns6, v6, rfl, rfl⟩ := hp _ _ _ _ rfl
            walk_at "Ddl"
            rw [ea]
            walk_at "Ddl"
            rw [ei]
            walk_at "Ddl"
            rw [fin2]
            exact chg_post (by simpa using hl1)
          · walk_at "Ddl"
            rw [ea]
            walk_at "Ddl"
            refine ⟨⟨⟨_, rfl⟩, by first | decide | omega⟩, ?_⟩; rintro _ _ ⟨ns5, v5, rfl, rfl, h11, h12⟩; walk_at "Ddl"
            refine loop_lc (fun xs acc e => ∃ (ks : List Int) (t : Sp2) (j : Int) (n : Nat), (xs = rngD j n ∧ acc = t.map encP ∧ t.length + n = (1 + v5).toNat) ∧ e = [some (.lst (ks.map D.int)), some (.rol (ms.map D.int)), some (encT c ls), some (.int c), some (.lst (ls.map encL)), some (.int kind), some (.int at_), none, none, none]) ⟨ns5, [], 0, (1 + v5).toNat, ⟨rfl, rfl, by simp⟩, rfl⟩ ?_ ?_
            · rintro x r acc env nxt ⟨ks, t, j, n, ⟨h4, rfl, h6⟩, rfl⟩ hx
              cases n with
              | zero => simp [rngD] at h4
              | succ n =>
                simp only [rngD, List.cons.injEq] at h4
                obtain ⟨rfl, rfl⟩ := h4
                walk_at "Ddl"
                refine ⟨⟨_, _, c, rfl, h0, h1⟩, ?_⟩
                intro r ds' hp
                obtain ⟨ns6, p, rfl, rfl⟩ := hp _ _ _ rfl
                walk_at "Ddl"
                exact hx _ _ ⟨ns6, t ++ [p], j + 1, n, ⟨rfl, by (first | rfl | (simp only [List.map_append, List.map_set, List.map_cons, List.map_nil]; done) | (simp only [List.map_append, List.map_set, List.map_cons, List.map_nil]; rfl)), by simp only [List.length_append, List.length_cons, List.length_nil]; omega⟩, rfl⟩
            · rintro acc env ⟨ks, t, j, n, ⟨h4, rfl, h6⟩, rfl⟩
              walk_at "Ddl"
              rw [ei]
              walk_at "Ddl"
              rw [show D.tup (t.map encP) = encS t from rfl, fin2]
              exact chg_post (by simpa using hl1)
end DL

set_option maxHeartbeats 4000000
namespace DL
open PySem PySem.Spec PyProof.Rows L2
/-! ### the shortest table of a table -/
abbrev tS (c : Int) (ls : List Ln) : Int → Bool := fun t => fnd c t false ls
theorem pcs_fnd {c : Int} (hc : 1 ≤ c) (t : Int) : ∀ (m : Nat) (ls : List Ln), (∀ l ∈ ls, SpOk c 0 l.2) → mb (pcAt t m (pcs ls)) c t = fnd c t (mb m c t) ls
  | m, [], _ => rfl
  | m, (s, sp) :: r, h => by
    show mb (pcAt t (if s ≤ t then maskOf sp else m) (pcs r)) c t = fnd c t (if s ≤ t then inS (t % c) sp else mb m c t) r
    rw [pcs_fnd hc t _ r fun l hl => h l (by simp [hl])]
    congr 1
    by_cases g : s ≤ t
    · rw [if_pos g, if_pos g, maskOf_mb hc (h (s, sp) (by simp))]
    · rw [if_neg g, if_neg g]
theorem pcs_ok {c : Int} {ls : List Ln} (h : TbOk c ls) : PcsOk c (pcs ls) := by
  have hsp := h.sp
  have hpw := h.pw
  refine ⟨?_, ?_, fun p hp => ?_⟩
  · obtain ⟨_, sp, r, rfl, _⟩ := h
    exact ⟨_, _, rfl⟩
  · unfold pcs
    rw [List.pairwise_map]
    exact hpw.imp fun {a b} h => Int.le_of_lt h
  · obtain ⟨l, hl, rfl⟩ := List.mem_map.mp hp
    exact maskOf_lt (hsp l hl).1
theorem pcs_S {c : Int} {ls : List Ln} (h : TbOk c ls) (t : Int) : pcS c (pcs ls) t = tS c ls t := by
  unfold pcS
  rw [pcs_fnd h.1.1 t 0 ls fun l hl => (h.sp l hl).1, mb_zero]
def sp_shortest : FSpec where
  pre := fun ds => ∃ (c : Int) (ls : List Ln), ds = [encT c ls] ∧ TbOk c ls ∧ ls.length ≤ 800000
  post := fun ds r ds' => ds' = ds ∧ ∀ (c : Int) (ls : List Ln), ds = [encT c ls] → ∃ ls', r = encT c ls' ∧ Shp c (tS c ls) 0 ls' ∧ ls'.length ≤ ls.length + 1
/-- slots: 0 table -/
def w_shortest : WS :=
    (cRet 1 (cCallN 2 sp_table_of (cCons (cOp fIx (cVar 0) (cC (.int 0))) (cCons (cCallN 1 sp_pieces_of (cCons (cVar 0) cNil)) cNil))))
local macro_rules | `(tactic| walk_at "Ddl") => `(tactic| ((conv => whnf); (repeat ((first | refine And.intro rfl ?_ | refine And.intro trivial ?_ | refine And.intro ⟨rfl, trivial⟩ ?_ | refine And.intro ⟨rfl, rfl, trivial⟩ ?_ | refine ifb_t ?_ | refine ifb_f ?_ | refine ifb_nr ?_ | refine ifb_er ?_ | refine And.intro (by first | decide | omega | (unfold CMul; omega) | (unfold CDiv; omega) | (unfold CPow; decide) | (exact cpow1 (by omega) (by omega)) | (exact cpow1 (by dsimp only; omega) (by dsimp only; omega)) | (simp only [rngD_len, List.length_replicate, List.length_map, List.length_append, List.length_cons, List.length_nil, List.length_set] at *; omega)) ?_); conv => whnf))))
theorem pure_shortest : ∀ ds, ds.length = 1 → sp_shortest.pre ds → w_shortest (env0 ds 0) { nx := fun e => sp_shortest.post ds .non (outs e 1), rt := fun d e => sp_shortest.post ds d (outs e 1) } := by
  rintro ds _ ⟨c, ls, rfl, ht, hl⟩
  have hc := ht.1
  have hpl : (pcs ls).length = ls.length := by simp [pcs]
  walk_at "Ddl"
  refine ⟨⟨_, _, rfl, ht, by omega⟩, ?_⟩
  rintro _ _ ⟨rfl, h⟩
  cases h _ _ rfl
  walk_at "Ddl"
  refine ⟨⟨_, _, rfl, hc.1, hc.2, pcs_ok ht, by omega⟩, ?_⟩
  rintro _ _ ⟨rfl, h⟩
  obtain ⟨ls', rfl, hs, hl'⟩ := h _ _ rfl
  walk_at "Ddl"
  intro c' l2 e
  simp only [List.cons.injEq, and_true] at e
  obtain ⟨rfl, rfl⟩ := encT_inj e
  exact ⟨ls', rfl, hs.congr hc.1 fun t _ => pcs_S ht t, by omega⟩
def spanS (s : Int) (e : Option Int) (t : Int) : Bool := decide (s ≤ t) && (match e with | none => true | some x => decide (t < x))
def sp_span_table : FSpec where
  pre := fun ds => ∃ (c s : Int) (e : Option Int), ds = [.int c, .int s, encO e] ∧ 1 ≤ c ∧ c ≤ 60 ∧ 0 ≤ s ∧ ∀ x, e = some x → s < x
  post := fun ds r ds' => ds' = ds ∧ ∀ (c s : Int) (e : Option Int), ds = [.int c, .int s, encO e] → ∃ ls, r = encT c ls ∧ Shp c (spanS s e) 0 ls ∧ ls.length ≤ 4
/-- slots: 0 cycle, 1 start, 2 end, 3 pieces -/
def w_span_table : WS :=
    (cSeq (cAsg 3 [0, 1, 2] 3 (cLst (cCons (cTup (cCons (cC (.int 0)) (cCons (cC (.int 0)) cNil))) (cCons (cTup (cCons (cVar 1) (cCons (cCallN 1 sp_full_mask (cCons (cVar 0) cNil)) cNil))) cNil))))
    (cSeq (cIte (cUn (fIsN true) (cVar 2))
      (cEx (cMeth 3 fAppend (cCons (cTup (cCons (cVar 2) (cCons (cC (.int 0)) cNil))) cNil)))
      cNilS)
    (cRet 3 (cCallN 2 sp_table_of (cCons (cVar 0) (cCons (cVar 3) cNil))))))
theorem full_lt (n : Nat) : 2 ^ n - 1 < 2 ^ n := by have := Nat.two_pow_pos n; omega
theorem pure_span_table : ∀ ds, ds.length = 3 → sp_span_table.pre ds → w_span_table (env0 ds 1) { nx := fun e => sp_span_table.post ds .non (outs e 3), rt := fun d e => sp_span_table.post ds d (outs e 3) } := by
  rintro ds _ ⟨c, s, e, rfl, h0, h1, hs, he⟩
  cases e with
  | none =>
    walk_at "Ddl"
    refine ⟨⟨_, rfl, h0, h1⟩, ?_⟩
    rintro _ _ ⟨rfl, h⟩
    cases h _ rfl
    walk_at "Ddl"
    refine ⟨⟨_, [(0, 0), (s, 2 ^ c.toNat - 1)], rfl, h0, h1, ⟨⟨_, _, rfl⟩, by simpa using hs, fun p hp => ?_⟩, by simp⟩, ?_⟩
    · simp only [List.mem_cons, List.not_mem_nil, or_false] at hp
      rcases hp with rfl | rfl
      · exact Nat.two_pow_pos _
      · exact full_lt _
    rintro _ _ ⟨rfl, h⟩
    obtain ⟨ls, rfl, hs', hl⟩ := h _ [(0, 0), (s, 2 ^ c.toNat - 1)] rfl
    walk_at "Ddl"
    intro c' s' e' q
    simp only [List.cons.injEq, and_true, D.int.injEq] at q
    obtain ⟨rfl, rfl, q⟩ := q
    cases encO_inj (a := none) q
    refine ⟨ls, rfl, hs'.congr h0 fun t ht => ?_, by simp at hl; omega⟩
    unfold pcS spanS
    simp only [pcAt]
    by_cases g : s ≤ t
    · rw [if_pos g, mb_full h0]; simp [g]
    · rw [if_neg g, if_pos ht, mb_zero]; simp [g]
  | some x =>
    have hx := he x rfl
    walk_at "Ddl"
    refine ⟨⟨_, rfl, h0, h1⟩, ?_⟩
    rintro _ _ ⟨rfl, h⟩
    cases h _ rfl
    walk_at "Ddl"
    refine ⟨⟨_, [(0, 0), (s, 2 ^ c.toNat - 1), (x, 0)], rfl, h0, h1, ⟨⟨_, _, rfl⟩, ?_, fun p hp => ?_⟩, by simp⟩, ?_⟩
    · simp; omega
    · simp only [List.mem_cons, List.not_mem_nil, or_false] at hp
      rcases hp with rfl | rfl | rfl
      · exact Nat.two_pow_pos _
      · exact full_lt _
      · exact Nat.two_pow_pos _
    rintro _ _ ⟨rfl, h⟩
    obtain ⟨ls, rfl, hs', hl⟩ := h _ [(0, 0), (s, 2 ^ c.toNat - 1), (x, 0)] rfl
    walk_at "Ddl"
    intro c' s' e' q
    simp only [List.cons.injEq, and_true, D.int.injEq] at q
    obtain ⟨rfl, rfl, q⟩ := q
    cases encO_inj (a := some x) q
    refine ⟨ls, rfl, hs'.congr h0 fun t ht => ?_, hl⟩
    unfold pcS spanS
    simp only [pcAt]
    by_cases g2 : x ≤ t
    · have g3 : ¬ t < x := by omega
      rw [if_pos g2, mb_zero]; simp [g3]
    · have g3 : t < x := by omega
      rw [if_neg g2]
      by_cases g : s ≤ t
      · rw [if_pos g, mb_full h0]; simp [g, g3]
      · rw [if_neg g, if_pos ht, mb_zero]; simp [g]

/-! ### the law's own tests -/
theorem TbOk.tlB {c : Int} {ls : List Ln} (h : TbOk c ls) : tlB c ls = true := by
  have := h.tbB
  unfold DL.tbB at this
  simp only [Bool.and_eq_true] at this
  exact this.2
/-- each line but the last covers a cycle and ends where it would be wrong -/
def ShB (c : Int) : List Ln → Prop
  | [] => True
  | [_] => True
  | (s, sp) :: (u, up) :: r => s + c ≤ u ∧ inS (u % c) up ≠ inS (u % c) sp ∧ ShB c ((u, up) :: r)
def PrOk (c : Int) (ls : List Ln) (k : Nat) : Prop := (ls.getD k (0, [])).1 + c ≤ (ls.getD (k + 1) (0, [])).1 ∧ inS ((ls.getD (k + 1) (0, [])).1 % c) (ls.getD (k + 1) (0, [])).2 ≠ inS ((ls.getD (k + 1) (0, [])).1 % c) (ls.getD k (0, [])).2
theorem ShB.at {c : Int} : ∀ {ls : List Ln} {k : Nat}, ShB c ls → k + 1 < ls.length → PrOk c ls k
  | [], k, _, h => by simp at h
  | [_], k, _, h => by simp at h
  | (s, sp) :: (u, up) :: r, 0, ⟨h1, h2, _⟩, _ => ⟨h1, h2⟩
  | (s, sp) :: (u, up) :: r, k + 1, ⟨_, _, h3⟩, h => by
    have := ShB.at (k := k) h3 (by simpa using h)
    simpa [PrOk, List.getD] using this
theorem ShB.of {c : Int} : ∀ {ls : List Ln}, (∀ k, k + 1 < ls.length → PrOk c ls k) → ShB c ls
  | [], _ => trivial
  | [_], _ => trivial
  | (s, sp) :: (u, up) :: r, h => by
    have h0 := h 0 (by simp)
    refine ⟨h0.1, h0.2, ShB.of fun k hk => ?_⟩
    have := h (k + 1) (by simpa using hk)
    simpa [PrOk, List.getD] using this
/-- a table that has the form is the shortest table of its set -/
theorem ShB.shp {c : Int} (hc : 1 ≤ c) {S : Int → Bool} : ∀ {ls : List Ln} {b : Int} {sp : Sp2} {r : List Ln}, ls = (b, sp) :: r → SpOk c 0 sp → LsOk c b r → ShB c ls → (∀ t, b ≤ t → fnd c t false ls = S t) → Shp c S b ls
  | _, b, sp, [], rfl, h1, h2, h3, h4 => ⟨rfl, h1, fun t ht => by rw [← h4 t ht]; simp [fnd, ht]⟩
  | _, b, sp, (u, up) :: r, rfl, h1, ⟨g1, g2, g3⟩, ⟨k1, k2, k3⟩, h4 => by
    have at1 : ∀ t, b ≤ t → t < u → inS (t % c) sp = S t := fun t ht hu => by
      rw [← h4 t ht, fnd, if_pos (show (b, sp).1 ≤ t from ht), fnd_none]
      intro l hl
      rcases List.mem_cons.mp hl with rfl | hl
      · exact hu
      · have := g3.gt l hl; omega
    have at2 : ∀ t, u ≤ t → fnd c t false ((u, up) :: r) = S t := fun t ht => by
      rw [← h4 t (by omega), fnd, fnd, fnd, if_pos (show (u, up).1 ≤ t from ht), if_pos (show (u, up).1 ≤ t from ht)]
    refine ⟨rfl, h1, k1, at1, ?_, ShB.shp hc rfl g2 g3 k3 at2⟩
    rw [← at2 u (Int.le_refl _), fnd, if_pos (show (u, up).1 ≤ u from Int.le_refl _), fnd_none]
    · exact fun e => k2 e.symm
    · intro l hl
      exact g3.gt l hl
theorem TbOk.shp {c : Int} {ls : List Ln} (h : TbOk c ls) (h2 : ShB c ls) : Shp c (tS c ls) 0 ls := by
  obtain ⟨hc, sp, r, rfl, h3, h4⟩ := h
  exact ShB.shp hc.1 rfl h3 h4 h2 fun t _ => rfl
end DL

set_option maxHeartbeats 4000000
namespace DL
open PySem PySem.Spec PyProof.Rows L2
/-! ### the next and the last moment -/
local macro_rules | `(tactic| walk_at "Ddl") => `(tactic| ((conv => whnf); (repeat ((first | refine And.intro rfl ?_ | refine And.intro trivial ?_ | refine And.intro ⟨rfl, trivial⟩ ?_ | refine And.intro ⟨rfl, rfl, trivial⟩ ?_ | refine ifb_t ?_ | refine ifb_f ?_ | refine ifb_nr ?_ | refine ifb_er ?_ | refine And.intro (by first | decide | omega | (unfold CMul; omega) | (unfold CDiv; omega) | (unfold CPow; decide) | (exact cpow1 (by omega) (by omega)) | (exact cpow1 (by dsimp only; omega) (by dsimp only; omega)) | (simp only [rngD_len, List.length_replicate, List.length_map, List.length_append, List.length_cons, List.length_nil, List.length_set] at *; omega)) ?_); conv => whnf))))
end DL

set_option maxHeartbeats 4000000
namespace DL
open PySem PySem.Spec PyProof.Rows L2
/-! ### pieces of two tables together -/
abbrev Pps := List (Int × Nat × Nat)
def encPP (p : Int × Nat × Nat) : D := .tup [.int p.1, .tup [.int (p.2.1 : Nat), .int (p.2.2 : Nat)]]
def tag (k : Int) (p : Int × Nat) : T3 := (p.1, k, (p.2 : Int))
def le3 (p q : T3) : Prop := lt3 q p = false
theorem le3_fst {p q : T3} (h : le3 p q) : p.1 ≤ q.1 := by
  have := lt3_no.mp h
  by_cases g : p.1 ≤ q.1
  · exact g
  · exact absurd (.inl (by omega)) this
theorem pw_ne {A : Pcs} (h : A.Pairwise fun a b => a.1 < b.1) : ∀ {x y : Int × Nat}, x ∈ A → y ∈ A → x ≠ y → x.1 ≠ y.1 := by
  induction A with
  | nil => intro x y hx; simp at hx
  | cons a A ih =>
    obtain ⟨h1, h2⟩ := List.pairwise_cons.mp h
    intro x y hx hy hn
    rcases List.mem_cons.mp hx with ex | hx' <;> rcases List.mem_cons.mp hy with ey | hy'
    · exact absurd (ex.trans ey.symm) hn
    · have := h1 y hy'; rw [ex]; omega
    · have := h1 x hx'; rw [ey]; omega
    · exact ih h2 hx' hy' hn
/-- the sorted changes of one place are that table's own pieces -/
theorem tag_filter {A B : Pcs} {C : List T3} {j k : Int} (hjk : j ≠ k) (hA : A.Pairwise fun a b => a.1 < b.1) (hp : C.Perm (A.map (tag j) ++ B.map (tag k))) (hs : C.Pairwise le3) : C.filter (fun q => decide (q.2.1 = j)) = A.map (tag j) := by
  have h1 : (C.filter (fun q => decide (q.2.1 = j))).Perm (A.map (tag j)) := by
    have := hp.filter (fun q => decide (q.2.1 = j))
    rw [List.filter_append] at this
    have e1 : (A.map (tag j)).filter (fun q => decide (q.2.1 = j)) = A.map (tag j) := List.filter_eq_self.mpr fun x hx => by
      obtain ⟨y, _, rfl⟩ := List.mem_map.mp hx
      simp [tag]
    have e2 : (B.map (tag k)).filter (fun q => decide (q.2.1 = j)) = [] := List.filter_eq_nil_iff.mpr fun x hx => by
      obtain ⟨y, _, rfl⟩ := List.mem_map.mp hx
      simp [tag, Ne.symm hjk]
    rw [e1, e2, List.append_nil] at this
    exact this
  have hA' : (A.map (tag j)).Pairwise fun a b => a.1 < b.1 := by
    rw [List.pairwise_map]; exact hA
  have hlt : (C.filter (fun q => decide (q.2.1 = j))).Pairwise fun a b => a.1 ≤ b.1 := (hs.filter _).imp fun h => le3_fst h
  refine List.Perm.eq_of_pairwise (le := fun a b : T3 => a.1 ≤ b.1) ?_ hlt (hA'.imp fun {a b} h => Int.le_of_lt h) h1
  intro a b ha hb h2 h3
  have ha' : a ∈ A.map (tag j) := h1.mem_iff.mp ha
  have he : a.1 = b.1 := by omega
  obtain ⟨x, hx, rfl⟩ := List.mem_map.mp ha'
  obtain ⟨y, hy, rfl⟩ := List.mem_map.mp hb
  have : x = y := by
    by_cases g : x = y
    · exact g
    · have := pw_ne hA hx hy g
      exact absurd he this
  rw [this]
def scanP : Nat → Nat → List T3 → Pps
  | _, _, [] => []
  | a, b, (s, k, m) :: r => if k = 0 then (s, m.toNat, b) :: scanP m.toNat b r else (s, a, m.toNat) :: scanP a m.toNat r
theorem scanP_fst : ∀ (q : List T3) (a b : Nat), (scanP a b q).map (·.1) = q.map (·.1)
  | [], _, _ => rfl
  | (s, k, m) :: r, a, b => by
    simp only [scanP]
    split
    · simp only [List.map_cons, scanP_fst r]
    · simp only [List.map_cons, scanP_fst r]
theorem scanP_len (q : List T3) (a b : Nat) : (scanP a b q).length = q.length := by
  have := congrArg List.length (scanP_fst q a b)
  simpa using this
theorem scanP_none {t : Int} {q : List T3} {a b : Nat} (h : ∀ x ∈ q, t < x.1) : ∀ p ∈ scanP a b q, t < p.1 := by
  intro p hp
  have : p.1 ∈ (scanP a b q).map (·.1) := List.mem_map_of_mem hp
  rw [scanP_fst] at this
  obtain ⟨x, hx, e⟩ := List.mem_map.mp this
  rw [← e]; exact h x hx
def unt (q : T3) : Int × Nat := (q.1, q.2.2.toNat)
theorem scanP_one {t : Int} : ∀ (q : List T3) (a b : Nat), q.Pairwise le3 → pcAt t a ((scanP a b q).map fun p => (p.1, p.2.1)) = pcAt t a ((q.filter fun x => decide (x.2.1 = 0)).map unt)
  | [], _, _, _ => rfl
  | (s, k, m) :: r, a, b, h => by
    obtain ⟨h1, h2⟩ := List.pairwise_cons.mp h
    by_cases g : t < s
    · have hr : ∀ x ∈ (s, k, m) :: r, t < x.1 := by
        intro x hx
        rcases List.mem_cons.mp hx with rfl | hx
        · exact g
        · have := le3_fst (h1 x hx); exact Int.lt_of_lt_of_le g this
      rw [pcAt_none a _ (fun p hp => by
        obtain ⟨y, hy, rfl⟩ := List.mem_map.mp hp
        exact scanP_none hr y hy), pcAt_none a _ (fun p hp => by
        obtain ⟨y, hy, rfl⟩ := List.mem_map.mp hp
        exact hr y (List.mem_filter.mp hy |>.1))]
    · simp only [scanP]
      rw [List.filter_cons]
      by_cases k0 : k = 0
      · rw [if_pos k0, if_pos (by simp [k0])]
        simp only [List.map_cons, pcAt, unt]
        rw [if_pos (by omega)]
        exact scanP_one r _ _ h2
      · rw [if_neg k0, if_neg (by simp [k0])]
        simp only [List.map_cons, pcAt]
        rw [if_pos (by omega)]
        exact scanP_one r _ _ h2
theorem scanP_two {t : Int} : ∀ (q : List T3) (a b : Nat), q.Pairwise le3 → (∀ x ∈ q, x.2.1 = 0 ∨ x.2.1 = 1) → pcAt t b ((scanP a b q).map fun p => (p.1, p.2.2)) = pcAt t b ((q.filter fun x => decide (x.2.1 = 1)).map unt)
  | [], _, _, _, _ => rfl
  | (s, k, m) :: r, a, b, h, hk => by
    obtain ⟨h1, h2⟩ := List.pairwise_cons.mp h
    by_cases g : t < s
    · have hr : ∀ x ∈ (s, k, m) :: r, t < x.1 := by
        intro x hx
        rcases List.mem_cons.mp hx with rfl | hx
        · exact g
        · have := le3_fst (h1 x hx); exact Int.lt_of_lt_of_le g this
      rw [pcAt_none b _ (fun p hp => by
        obtain ⟨y, hy, rfl⟩ := List.mem_map.mp hp
        exact scanP_none hr y hy), pcAt_none b _ (fun p hp => by
        obtain ⟨y, hy, rfl⟩ := List.mem_map.mp hp
        exact hr y (List.mem_filter.mp hy |>.1))]
    · simp only [scanP]
      rw [List.filter_cons]
      have hk1 : k = 0 ∨ k = 1 := hk (s, k, m) (by simp)
      by_cases k0 : k = 0
      · rw [if_pos k0, if_neg (by simp [k0])]
        simp only [List.map_cons, pcAt]
        rw [if_pos (by omega)]
        exact scanP_two r _ _ h2 fun x hx => hk x (by simp [hx])
      · rw [if_neg k0, if_pos (by simp; omega)]
        simp only [List.map_cons, pcAt, unt]
        rw [if_pos (by omega)]
        exact scanP_two r _ _ h2 fun x hx => hk x (by simp [hx])
theorem scanP_mem {n : Nat} : ∀ (q : List T3) (a b : Nat), a < n → b < n → (∀ x ∈ q, x.2.2.toNat < n) → ∀ p ∈ scanP a b q, p.2.1 < n ∧ p.2.2 < n
  | [], _, _, _, _, _, p, hp => by simp [scanP] at hp
  | (s, k, m) :: r, a, b, ha, hb, h, p, hp => by
    have hm : m.toNat < n := h (s, k, m) (by simp)
    simp only [scanP] at hp
    split at hp
    · rcases List.mem_cons.mp hp with rfl | hp
      · exact ⟨hm, hb⟩
      · exact scanP_mem r _ _ hm hb (fun x hx => h x (by simp [hx])) p hp
    · rcases List.mem_cons.mp hp with rfl | hp
      · exact ⟨ha, hm⟩
      · exact scanP_mem r _ _ ha hm (fun x hx => h x (by simp [hx])) p hp
/-- what met_pieces gives for sets S and T -/
structure MetOk (c : Int) (S T : Int → Bool) (ps : Pps) : Prop where
  hd : ∃ a b r, ps = (0, a, b) :: r
  pw : ps.Pairwise fun a b => a.1 ≤ b.1
  lt : ∀ p ∈ ps, p.2.1 < 2 ^ c.toNat ∧ p.2.2 < 2 ^ c.toNat
  one : ∀ t, mb (pcAt t 0 (ps.map fun p => (p.1, p.2.1))) c t = S t
  two : ∀ t, mb (pcAt t 0 (ps.map fun p => (p.1, p.2.2))) c t = T t
theorem unt_tag (k : Int) (A : Pcs) : (A.map (tag k)).map unt = A := by
  rw [List.map_map]
  have : ∀ x : Int × Nat, (unt ∘ tag k) x = x := fun x => by simp [unt, tag]
  conv => rhs; rw [← List.map_id A]
  exact List.map_congr_left fun x _ => this x
theorem pcs_pw {c : Int} {ls : List Ln} (h : TbOk c ls) : (pcs ls).Pairwise fun a b => a.1 < b.1 := by
  unfold pcs
  rw [List.pairwise_map]
  exact h.pw
theorem pcs_hd {c : Int} {ls : List Ln} (h : TbOk c ls) : ∃ m r, pcs ls = (0, m) :: r := (pcs_ok h).1
theorem metOk {c : Int} {ls lo : List Ln} {C : List T3} (ht : TbOk c ls) (ho : TbOk c lo) (hp : C.Perm ((pcs ls).map (tag 0) ++ (pcs lo).map (tag 1))) (hs : C.Pairwise le3) : MetOk c (tS c ls) (tS c lo) (scanP 0 0 C) := by
  have f0 := tag_filter (by decide) (pcs_pw ht) hp hs
  have f1 := tag_filter (by decide) (pcs_pw ho) (hp.trans List.perm_append_comm) hs
  have hm : ∀ x ∈ C, (x.2.1 = 0 ∨ x.2.1 = 1) ∧ x.2.2.toNat < 2 ^ c.toNat ∧ 0 ≤ x.1 := by
    intro x hx
    rcases List.mem_append.mp (hp.mem_iff.mp hx) with hx | hx
    · obtain ⟨y, hy, rfl⟩ := List.mem_map.mp hx
      obtain ⟨l, hl, rfl⟩ := List.mem_map.mp hy
      exact ⟨.inl rfl, by simpa [tag] using (pcs_ok ht).2.2 _ hy, (ht.sp l hl).2⟩
    · obtain ⟨y, hy, rfl⟩ := List.mem_map.mp hx
      obtain ⟨l, hl, rfl⟩ := List.mem_map.mp hy
      exact ⟨.inr rfl, by simpa [tag] using (pcs_ok ho).2.2 _ hy, (ho.sp l hl).2⟩
  constructor
  · cases C with
    | nil =>
      obtain ⟨m, r, e⟩ := pcs_hd ht
      rw [e] at hp
      exact absurd hp.length_eq (by simp)
    | cons x C =>
      obtain ⟨s, k, m⟩ := x
      have h0 : s = 0 := by
        have h1 : 0 ≤ s := (hm (s, k, m) (by simp)).2.2
        obtain ⟨m0, r, e⟩ := pcs_hd ht
        have : tag 0 (0, m0) ∈ (s, k, m) :: C := hp.mem_iff.mpr (by rw [e]; simp)
        rcases List.mem_cons.mp this with h | h
        · have := congrArg (·.1) h
          exact this.symm
        · have := le3_fst ((List.pairwise_cons.mp hs).1 _ h)
          have : s ≤ 0 := this
          omega
      subst h0
      simp only [scanP]
      split
      · exact ⟨_, _, _, rfl⟩
      · exact ⟨_, _, _, rfl⟩
  · have := scanP_fst C 0 0
    have h2 : (C.map (·.1)).Pairwise fun a b => a ≤ b := by
      rw [List.pairwise_map]
      exact hs.imp fun h => le3_fst h
    rw [← this, List.pairwise_map] at h2
    exact h2
  · exact scanP_mem C 0 0 (Nat.two_pow_pos _) (Nat.two_pow_pos _) fun x hx => (hm x hx).2.1
  · intro t
    rw [scanP_one C 0 0 hs, f0, unt_tag]
    exact pcs_S ht t
  · intro t
    rw [scanP_two C 0 0 hs fun x hx => (hm x hx).1, f1, unt_tag]
    exact pcs_S ho t
def sp_met_pieces : FSpec where
  pre := fun ds => ∃ (c : Int) (ls lo : List Ln), ds = [encT c ls, encT c lo] ∧ TbOk c ls ∧ TbOk c lo ∧ ls.length + lo.length ≤ 900000
  post := fun ds r ds' => ds' = ds ∧ ∀ (c : Int) (ls lo : List Ln), ds = [encT c ls, encT c lo] → ∃ ps : Pps, r = .lst (ps.map encPP) ∧ MetOk c (tS c ls) (tS c lo) ps ∧ ps.length = ls.length + lo.length
/-- slots: 0 table, 1 other, 2 changes, 3 one, 4 two, 5 met, 6 start, 7 place, 8 mask -/
def w_met_pieces : WS :=
    (cSeq (cIte (cOp fNeS (cOp fIx (cVar 0) (cC (.int 0))) (cOp fIx (cVar 1) (cC (.int 0))))
      cNever
      cNilS)
    (cSeq (cAsg 2 [0, 1] 2 (cLc [6, 8] (iE (cCallN 1 sp_pieces_of (cCons (cVar 0) cNil))) (gT 2 (gCons' (gN 2 [] 6) (gCons' (gN 2 [] 8) gNil'))) tTrue (cTup (cCons (cVar 6) (cCons (cC (.int 0)) (cCons (cVar 8) cNil))))))
    (cSeq (cAsg 2 [0, 1] 2 (cOp fAddG (cVar 2) (cLc [6, 8] (iE (cCallN 1 sp_pieces_of (cCons (cVar 1) cNil))) (gT 2 (gCons' (gN 2 [] 6) (gCons' (gN 2 [] 8) gNil'))) tTrue (cTup (cCons (cVar 6) (cCons (cC (.int 1)) (cCons (cVar 8) cNil)))))))
    (cSeq (cCh2 (cC (.int 0)) (gN 2 [0, 1] 3) (gN 2 [0, 1] 4))
    (cSeq (cAsg 2 [0, 1] 5 (cLst cNil))
    (cSeq (cFor [0, 1] (iE (cBi fSort3 (cCons (cVar 2) cNil))) (gT 3 (gCons' (gN 2 [0, 1] 6) (gCons' (gN 2 [0, 1] 7) (gCons' (gN 2 [0, 1] 8) gNil'))))
      (cSeq (cIte (cOp fEqS (cVar 7) (cC (.int 0)))
          (cAsg 2 [0, 1] 3 (cVar 8))
          (cAsg 2 [0, 1] 4 (cVar 8)))
        (cEx (cMeth 5 fAppend (cCons (cTup (cCons (cVar 6) (cCons (cTup (cCons (cVar 3) (cCons (cVar 4) cNil))) cNil))) cNil)))))
    (cRet 2 (cVar 5))))))))
def tagD (k : Int) : D → D
  | .tup [.int s, .int m] => .tup [.int s, .int k, .int m]
  | _ => .non
theorem tagD_pcs (k : Int) (ps : Pcs) : (ps.map encPc).map (tagD k) = (ps.map (tag k)).map enc3 := by
  rw [List.map_map, List.map_map]
  rfl
local macro_rules | `(tactic| walk_at "Ddl") => `(tactic| ((conv => whnf); (repeat ((first | refine And.intro rfl ?_ | refine And.intro trivial ?_ | refine And.intro ⟨rfl, trivial⟩ ?_ | refine And.intro ⟨rfl, rfl, trivial⟩ ?_ | refine ifb_t ?_ | refine ifb_f ?_ | refine ifb_nr ?_ | refine ifb_er ?_ | refine And.intro (by first | decide | omega | (unfold CMul; omega) | (unfold CDiv; omega) | (unfold CPow; decide) | (exact cpow1 (by omega) (by omega)) | (exact cpow1 (by dsimp only; omega) (by dsimp only; omega)) | (simp only [rngD_len, List.length_replicate, List.length_map, List.length_append, List.length_cons, List.length_nil, List.length_set] at *; omega)) ?_); conv => whnf))))
theorem pure_met_pieces : ∀ ds, ds.length = 2 → sp_met_pieces.pre ds → w_met_pieces (env0 ds 7) { nx := fun e => sp_met_pieces.post ds .non (outs e 2), rt := fun d e => sp_met_pieces.post ds d (outs e 2) } := by
  rintro ds _ ⟨c, ls, lo, rfl, ht, ho, hl⟩
  have hc := ht.1
  have hpl : (pcs ls).length = ls.length := by simp [pcs]
  have hpo : (pcs lo).length = lo.length := by simp [pcs]
  walk_at "Ddl"
  refine ⟨⟨_, _, rfl, ht, by omega⟩, ?_⟩
  rintro _ _ ⟨rfl, h⟩
  cases h _ _ rfl
  walk_at "Ddl"
  refine lcGo_map (tagD 0) [some (encT c ls), some (encT c lo), none, none, none, none, none, none, none] _ ?_ ?_
  · intro x nxt acc hx hn
    obtain ⟨⟨s, m⟩, hm, rfl⟩ := List.mem_map.mp hx
    walk_at "Ddl"
    exact hn
  walk_at "Ddl"
  rw [tagD_pcs]
  refine ⟨⟨_, _, rfl, ho, by omega⟩, ?_⟩
  rintro _ _ ⟨rfl, h⟩
  cases h _ _ rfl
  walk_at "Ddl"
  refine lcGo_map (tagD 1) [some (encT c ls), some (encT c lo), some (.lst (((pcs ls).map (tag 0)).map enc3)), none, none, none, none, none, none] _ ?_ ?_
  · intro x nxt acc hx hn
    obtain ⟨⟨s, m⟩, hm, rfl⟩ := List.mem_map.mp hx
    walk_at "Ddl"
    exact hn
  walk_at "Ddl"
  rw [tagD_pcs, ← List.map_append]
  refine ⟨_, rfl, ?_⟩
  intro C hp hs
  have hmet := metOk ht ho hp hs
  have hlen : C.length = ls.length + lo.length := by
    have := hp.length_eq
    simp only [List.length_append, List.length_map] at this
    omega
  have hC : ∀ x ∈ C, 0 ≤ x.2.2 := by
    intro x hx
    rcases List.mem_append.mp (hp.mem_iff.mp hx) with hx | hx
    · obtain ⟨y, hy, rfl⟩ := List.mem_map.mp hx
      exact Int.natCast_nonneg _
    · obtain ⟨y, hy, rfl⟩ := List.mem_map.mp hx
      exact Int.natCast_nonneg _
  have hk : ∀ x ∈ C, x.2.1 = 0 ∨ x.2.1 = 1 := by
    intro x hx
    rcases List.mem_append.mp (hp.mem_iff.mp hx) with hx | hx
    · obtain ⟨y, hy, rfl⟩ := List.mem_map.mp hx
      exact .inl rfl
    · obtain ⟨y, hy, rfl⟩ := List.mem_map.mp hx
      exact .inr rfl
  walk_at "Ddl"
  refine loop_for (fun xs e => ∃ (q : List T3) (a b : Nat) (u : Pps) (o2 o6 o7 o8 : Option D), (xs = q.map enc3 ∧ (∀ x ∈ q, 0 ≤ x.2.2) ∧ u ++ scanP a b q = scanP 0 0 C) ∧
    e = [some (encT c ls), some (encT c lo), o2, some (.int (a : Nat)), some (.int (b : Nat)), some (.lst (u.map encPP)), o6, o7, o8]) ⟨C, 0, 0, [], _, none, none, none, ⟨rfl, hC, rfl⟩, rfl⟩ ?_ ?_
  · rintro x r env nxt ⟨q, a, b, u, o2, o6, o7, o8, ⟨e1, h2, h3⟩, rfl⟩ hx
    cases q with
    | nil => simp at e1
    | cons y q =>
      obtain ⟨s, k, m⟩ := y
      simp only [List.map_cons, List.cons.injEq] at e1
      obtain ⟨rfl, rfl⟩ := e1
      have hm : 0 ≤ m := h2 (s, k, m) (by simp)
      obtain ⟨m, rfl⟩ := Int.eq_ofNat_of_zero_le hm
      have hul : u.length ≤ 900000 := by
        have := congrArg List.length h3
        simp only [List.length_append, scanP_len] at this
        omega
      simp only [scanP, Int.toNat_natCast] at h3
      walk_at "Ddl"
      refine ifb_dec (fun g => ?_) (fun g => ?_)
      · rw [if_pos g] at h3
        walk_at "Ddl"
        exact hx _ ⟨q, m, b, u ++ [(s, m, b)], _, _, _, _, ⟨rfl, fun x hx => h2 x (by simp [hx]), by simpa using h3⟩, by (first | rfl | (simp only [List.map_append, List.map_set, List.map_cons, List.map_nil]; done) | (simp only [List.map_append, List.map_set, List.map_cons, List.map_nil]; rfl))⟩
      · rw [if_neg g] at h3
        walk_at "Ddl"
        exact hx _ ⟨q, a, m, u ++ [(s, a, m)], _, _, _, _, ⟨rfl, fun x hx => h2 x (by simp [hx]), by simpa using h3⟩, by (first | rfl | (simp only [List.map_append, List.map_set, List.map_cons, List.map_nil]; done) | (simp only [List.map_append, List.map_set, List.map_cons, List.map_nil]; rfl))⟩
  · rintro env ⟨q, a, b, u, o2, o6, o7, o8, ⟨e1, h2, h3⟩, rfl⟩
    cases q with
    | cons _ _ => simp at e1
    | nil =>
      walk_at "Ddl"
      intro c' ls' lo' e
      simp only [List.cons.injEq, and_true] at e
      obtain ⟨e, e'⟩ := e
      obtain ⟨rfl, rfl⟩ := encT_inj e
      obtain ⟨_, rfl⟩ := encT_inj e'
      simp only [scanP, List.append_nil] at h3
      subst h3
      exact ⟨_, rfl, hmet, by rw [scanP_len]; exact hlen⟩
end DL

set_option maxHeartbeats 4000000
namespace DL
open PySem PySem.Spec PyProof.Rows L2
/-! ### the operators -/
theorem op_at (f : Nat → Nat → Nat) (t : Int) : ∀ (ps : Pps) (a b : Nat), pcAt t (f a b) (ps.map fun p => (p.1, f p.2.1 p.2.2)) = f (pcAt t a (ps.map fun p => (p.1, p.2.1))) (pcAt t b (ps.map fun p => (p.1, p.2.2)))
  | [], _, _ => rfl
  | (s, a', b') :: r, a, b => by
    simp only [List.map_cons, pcAt]
    by_cases g : s ≤ t
    · rw [if_pos g, if_pos g, if_pos g]; exact op_at f t r a' b'
    · rw [if_neg g, if_neg g, if_neg g]; exact op_at f t r a b
structure OpOk (f : Nat → Nat → Nat) (g : Bool → Bool → Bool) : Prop where
  zero : f 0 0 = 0
  lt : ∀ {a b n : Nat}, a < 2 ^ n → b < 2 ^ n → f a b < 2 ^ n
  mb : ∀ (a b : Nat) (c t : Int), mb (f a b) c t = g (mb a c t) (mb b c t)
theorem OpOk.met {f : Nat → Nat → Nat} {g : Bool → Bool → Bool} {c : Int} {S T : Int → Bool} {ps : Pps} (O : OpOk f g) (M : MetOk c S T ps) : PcsOk c (ps.map fun p => (p.1, f p.2.1 p.2.2)) ∧ ∀ t, pcS c (ps.map fun p => (p.1, f p.2.1 p.2.2)) t = g (S t) (T t) := by
  refine ⟨⟨?_, ?_, fun p hp => ?_⟩, fun t => ?_⟩
  · obtain ⟨a, b, r, rfl⟩ := M.hd
    exact ⟨_, _, rfl⟩
  · rw [List.pairwise_map]
    exact M.pw
  · obtain ⟨q, hq, rfl⟩ := List.mem_map.mp hp
    exact O.lt (M.lt q hq).1 (M.lt q hq).2
  · unfold pcS
    have := op_at f t ps 0 0
    rw [O.zero] at this
    rw [this, O.mb, M.one, M.two]
def sp_op (g : Bool → Bool → Bool) : FSpec where
  pre := fun ds => ∃ (c : Int) (ls lo : List Ln), ds = [encT c ls, encT c lo] ∧ TbOk c ls ∧ TbOk c lo ∧ ls.length + lo.length ≤ 800000
  post := fun ds r ds' => ds' = ds ∧ ∀ (c : Int) (ls lo : List Ln), ds = [encT c ls, encT c lo] → ∃ l2, r = encT c l2 ∧ Shp c (fun t => g (tS c ls t) (tS c lo t)) 0 l2 ∧ l2.length ≤ ls.length + lo.length + 1
def opD (f : Nat → Nat → Nat) : D → D
  | .tup [.int s, .tup [.int a, .int b]] => .tup [.int s, .int (f a.toNat b.toNat : Nat)]
  | _ => .non
theorem opD_map (f : Nat → Nat → Nat) (ps : Pps) : (ps.map encPP).map (opD f) = (ps.map fun p => (p.1, f p.2.1 p.2.2)).map encPc := by
  rw [List.map_map, List.map_map]
  rfl
theorem ok_or : OpOk (fun a b => a ||| b) (fun a b => a || b) := ⟨rfl, fun h g => lt_or h g, fun a b c t => mb_or a b c t⟩
theorem ok_sub : OpOk (fun a b => a ^^^ (a &&& b)) (fun a b => a && !b) := ⟨rfl, fun h g => lt_xor h (lt_and g), fun a b c t => by
  rw [mb_xor, mb_and]
  cases mb a c t <;> cases mb b c t <;> rfl⟩
local macro_rules | `(tactic| walk_at "Ddl") => `(tactic| ((conv => whnf); (repeat ((first | refine And.intro rfl ?_ | refine And.intro trivial ?_ | refine And.intro ⟨rfl, trivial⟩ ?_ | refine And.intro ⟨rfl, rfl, trivial⟩ ?_ | refine ifb_t ?_ | refine ifb_f ?_ | refine ifb_nr ?_ | refine ifb_er ?_ | refine And.intro (by first | decide | omega | (unfold CMul; omega) | (unfold CDiv; omega) | (unfold CPow; decide) | (exact cpow1 (by omega) (by omega)) | (exact cpow1 (by dsimp only; omega) (by dsimp only; omega)) | (simp only [rngD_len, List.length_replicate, List.length_map, List.length_append, List.length_cons, List.length_nil, List.length_set] at *; omega)) ?_); conv => whnf))))
abbrev sp_either : FSpec := sp_op (fun a b => a || b)
/-- slots: 0 table, 1 other, 2 start, 3 one, 4 two -/
def w_either : WS :=
    (cRet 2 (cCallN 2 sp_table_of (cCons (cOp fIx (cVar 0) (cC (.int 0))) (cCons (cLc [2, 3, 4] (iE (cCallN 2 sp_met_pieces (cCons (cVar 0) (cCons (cVar 1) cNil)))) (gT 2 (gCons' (gN 2 [] 2) (gCons' (gT 2 (gCons' (gN 2 [] 3) (gCons' (gN 2 [] 4) gNil'))) gNil'))) tTrue (cTup (cCons (cVar 2) (cCons (cOp fOr (cVar 3) (cVar 4)) cNil)))) cNil))))
theorem pure_either : ∀ ds, ds.length = 2 → sp_either.pre ds → w_either (env0 ds 3) { nx := fun e => sp_either.post ds .non (outs e 2), rt := fun d e => sp_either.post ds d (outs e 2) } := by
  rintro ds _ ⟨c, ls, lo, rfl, ht, ho, hl⟩
  have hc := ht.1
  walk_at "Ddl"
  refine ⟨⟨_, _, _, rfl, ht, ho, by omega⟩, ?_⟩
  rintro _ _ ⟨rfl, h⟩
  obtain ⟨ps, rfl, M, hlen⟩ := h _ _ _ rfl
  obtain ⟨hok, hS⟩ := ok_or.met M
  walk_at "Ddl"
  refine lcGo_map (opD (fun a b => a ||| b)) [some (encT c ls), some (encT c lo), none, none, none] _ ?_ ?_
  · intro x nxt acc hx hn
    obtain ⟨⟨s, a, b⟩, hm, rfl⟩ := List.mem_map.mp hx
    walk_at "Ddl"
    rw [bOr]
    exact hn
  walk_at "Ddl"
  rw [opD_map]
  refine ⟨⟨c, _, rfl, hc.1, hc.2, hok, by rw [List.length_map]; omega⟩, ?_⟩
  rintro _ _ ⟨rfl, h⟩
  obtain ⟨l2, rfl, hs, hl2⟩ := h _ _ rfl
  walk_at "Ddl"
  intro c' l3 l4 e
  simp only [List.cons.injEq, and_true] at e
  obtain ⟨e, e'⟩ := e
  obtain ⟨rfl, rfl⟩ := encT_inj e
  obtain ⟨_, rfl⟩ := encT_inj e'
  refine ⟨l2, rfl, hs.congr hc.1 fun t _ => hS t, ?_⟩
  rw [List.length_map] at hl2
  omega
abbrev sp_without : FSpec := sp_op (fun a b => a && !b)
/-- slots: 0 table, 1 other, 2 start, 3 one, 4 two -/
def w_without : WS :=
    (cRet 2 (cCallN 2 sp_table_of (cCons (cOp fIx (cVar 0) (cC (.int 0))) (cCons (cLc [2, 3, 4] (iE (cCallN 2 sp_met_pieces (cCons (cVar 0) (cCons (cVar 1) cNil)))) (gT 2 (gCons' (gN 2 [] 2) (gCons' (gT 2 (gCons' (gN 2 [] 3) (gCons' (gN 2 [] 4) gNil'))) gNil'))) tTrue (cTup (cCons (cVar 2) (cCons (cOp fAnd (cVar 3) (cUn fInv (cVar 4))) cNil)))) cNil))))
theorem pure_without : ∀ ds, ds.length = 2 → sp_without.pre ds → w_without (env0 ds 3) { nx := fun e => sp_without.post ds .non (outs e 2), rt := fun d e => sp_without.post ds d (outs e 2) } := by
  rintro ds _ ⟨c, ls, lo, rfl, ht, ho, hl⟩
  have hc := ht.1
  walk_at "Ddl"
  refine ⟨⟨_, _, _, rfl, ht, ho, by omega⟩, ?_⟩
  rintro _ _ ⟨rfl, h⟩
  obtain ⟨ps, rfl, M, hlen⟩ := h _ _ _ rfl
  obtain ⟨hok, hS⟩ := ok_sub.met M
  walk_at "Ddl"
  refine lcGo_map (opD (fun a b => a ^^^ (a &&& b))) [some (encT c ls), some (encT c lo), none, none, none] _ ?_ ?_
  · intro x nxt acc hx hn
    obtain ⟨⟨s, a, b⟩, hm, rfl⟩ := List.mem_map.mp hx
    walk_at "Ddl"
    rw [bAndNot]
    exact hn
  walk_at "Ddl"
  rw [opD_map]
  refine ⟨⟨c, _, rfl, hc.1, hc.2, hok, by rw [List.length_map]; omega⟩, ?_⟩
  rintro _ _ ⟨rfl, h⟩
  obtain ⟨l2, rfl, hs, hl2⟩ := h _ _ rfl
  walk_at "Ddl"
  intro c' l3 l4 e
  simp only [List.cons.injEq, and_true] at e
  obtain ⟨e, e'⟩ := e
  obtain ⟨rfl, rfl⟩ := encT_inj e
  obtain ⟨_, rfl⟩ := encT_inj e'
  refine ⟨l2, rfl, hs.congr hc.1 fun t _ => hS t, ?_⟩
  rw [List.length_map] at hl2
  omega
end DL

set_option maxHeartbeats 2000000
namespace DL
open PySem PySem.Spec PyProof.Rows L2
inductive Wn where
  | span (a b : Int) | frm (a : Int) | rnd (a l e : Int) (t : Option Int) | also (x y : Wn) | but (x y : Wn)
abbrev sSpan : Str := PySem.Str.ofString "span"
abbrev sFrom : Str := PySem.Str.ofString "from"
abbrev sRound : Str := PySem.Str.ofString "round"
abbrev sAlso : Str := PySem.Str.ofString "also"
abbrev sBut : Str := PySem.Str.ofString "but"
def encW : Wn → D
  | .span a b => .tup [.str sSpan, .int a, .int b]
  | .frm a => .tup [.str sFrom, .int a]
  | .rnd a l e t => .tup [.str sRound, .int a, .int l, .int e, encO t]
  | .also x y => .tup [.str sAlso, encW x, encW y]
  | .but x y => .tup [.str sBut, encW x, encW y]
theorem s_ne1 : (sSpan = sFrom) = False := by decide
theorem s_ne2 : (sSpan = sRound) = False := by decide
theorem s_ne3 : (sSpan = sAlso) = False := by decide
theorem s_ne4 : (sSpan = sBut) = False := by decide
theorem s_ne5 : (sFrom = sRound) = False := by decide
theorem s_ne6 : (sFrom = sAlso) = False := by decide
theorem s_ne7 : (sFrom = sBut) = False := by decide
theorem s_ne8 : (sRound = sAlso) = False := by decide
theorem s_ne9 : (sRound = sBut) = False := by decide
theorem s_ne0 : (sAlso = sBut) = False := by decide
theorem encW_inj : ∀ {w w' : Wn}, encW w = encW w' → w = w'
  | .span a b, w', h => by
    cases w' <;> simp only [encW, D.tup.injEq, List.cons.injEq, D.str.injEq, D.int.injEq, s_ne1, s_ne2, s_ne3, s_ne4, false_and] at h
    rw [h.2.1, h.2.2.1]
  | .frm a, w', h => by
    cases w' <;> simp only [encW, D.tup.injEq, List.cons.injEq, D.str.injEq, D.int.injEq, s_ne5, s_ne6, s_ne7, false_and] at h
    · exact absurd h.1.symm (by decide)
    · rw [h.2.1]
  | .rnd a l e t, w', h => by
    cases w' <;> simp only [encW, D.tup.injEq, List.cons.injEq, D.str.injEq, D.int.injEq, s_ne8, s_ne9, false_and] at h
    · exact absurd h.1.symm (by decide)
    · exact absurd h.1.symm (by decide)
    · obtain ⟨_, rfl, rfl, rfl, h, _⟩ := h
      rw [encO_inj h]
  | .also x y, w', h => by
    cases w' <;> simp only [encW, D.tup.injEq, List.cons.injEq, D.str.injEq, s_ne0, false_and] at h
    · exact absurd h.1.symm (by decide)
    · exact absurd h.1.symm (by decide)
    · exact absurd h.1.symm (by decide)
    · rw [encW_inj h.2.1, encW_inj h.2.2.1]
  | .but x y, w', h => by
    cases w' <;> simp only [encW, D.tup.injEq, List.cons.injEq, D.str.injEq] at h
    · exact absurd h.1.symm (by decide)
    · exact absurd h.1.symm (by decide)
    · exact absurd h.1.symm (by decide)
    · exact absurd h.1.symm (by decide)
    · rw [encW_inj h.2.1, encW_inj h.2.2.1]
def hold : Wn → Int → Bool
  | .span a b, m => decide (a ≤ m) && decide (m < b)
  | .frm a, m => decide (a ≤ m)
  | .rnd a l e t, m => decide (0 ≤ (m - a) / e) && (decide ((m - a) % e < l) && (match t with | none => true | some k => decide ((m - a) / e < k)))
  | .also x y, m => hold x m || hold y m
  | .but x y, m => hold x m && !hold y m
def WOk (c : Int) : Wn → Prop
  | .span a b => 0 ≤ a ∧ a < b
  | .frm a => 0 ≤ a
  | .rnd a l e t => 0 ≤ a ∧ 1 ≤ l ∧ (l ≤ e ∧ e ≤ 60) ∧ 1 ≤ e ∧ c % e = 0 ∧ (∀ k, t = some k → 1 ≤ k)
  | .also x y => WOk c x ∧ WOk c y
  | .but x y => WOk c x ∧ WOk c y
def dep : Wn → Nat
  | .also x y => max (dep x) (dep y) + 1
  | .but x y => max (dep x) (dep y) + 1
  | _ => 1
theorem mod_add {x c e n : Int} (hc : c % e = 0) : (x + c * n) % e = x % e := by
  obtain ⟨q, rfl⟩ := Int.dvd_of_emod_eq_zero hc
  rw [Int.mul_assoc, Int.add_mul_emod_self_left]
theorem ifb_ns {p : Prop} {_ : Decidable p} {A B : Prop} (h : ¬ p) (hb : B) : ifb (.bl (decide p)) A B := by
  rw [decide_eq_false h]; exact ifb_f hb
theorem dep_pos (w : Wn) : 1 ≤ dep w := by cases w <;> simp [dep]
local macro_rules | `(tactic| walk_at "Ddls") => `(tactic| ((conv => whnf); (repeat ((first | refine And.intro rfl ?_ | refine And.intro trivial ?_ | refine And.intro ⟨rfl, trivial⟩ ?_ | refine And.intro ⟨rfl, rfl, trivial⟩ ?_ | refine ifb_ns (by decide) ?_ | refine ifb_er ?_ | refine ifb_t ?_ | refine ifb_f ?_ | refine ifb_nr ?_ | refine ifb_er ?_ | refine And.intro (by first | decide | omega | (unfold CMul; omega) | (unfold CDiv; omega) | (unfold CPow; decide) | (exact cpow1 (by omega) (by omega)) | (exact cpow1 (by dsimp only; omega) (by dsimp only; omega)) | (simp only [rngD_len, List.length_replicate, List.length_map, List.length_append, List.length_cons, List.length_nil, List.length_set] at *; omega)) ?_); conv => whnf))))
def dvd? (c : Int) : D → Bool
  | .int k => decide (c % k = 0)
  | _ => false
end DL

set_option maxHeartbeats 2000000
namespace DL
open PySem PySem.Spec PyProof.Rows L2
theorem stOk_nl {np : Nat} {pr : List Nat} {env : DEnv} {i : Nat} {d : D} {old : Option D} (h : env[i]? = some old) (hd : isL d = false) (ho : (!(pr.contains i) || !isLo old) = true) : stOk np pr env i d = true := by
  unfold stOk
  rw [h]
  simp only [hd, ho]; rfl
theorem encW_tup (w : Wn) : ∃ tw, encW w = .tup tw := by cases w <;> exact ⟨_, rfl⟩
local macro_rules | `(tactic| walk_at "Ddls") => `(tactic| ((conv => whnf); (repeat ((first | refine And.intro rfl ?_ | refine And.intro trivial ?_ | refine And.intro ⟨rfl, trivial⟩ ?_ | refine And.intro ⟨rfl, rfl, trivial⟩ ?_ | refine ifb_ns (by decide) ?_ | refine ifb_er ?_ | refine ifb_t ?_ | refine ifb_f ?_ | refine ifb_nr ?_ | refine ifb_er ?_ | refine And.intro (by first | decide | omega | (unfold CMul; omega) | (unfold CDiv; omega) | (unfold CPow; decide) | (exact cpow1 (by omega) (by omega)) | (exact cpow1 (by dsimp only; omega) (by dsimp only; omega)) | (simp only [rngD_len, List.length_replicate, List.length_map, List.length_append, List.length_cons, List.length_nil, List.length_set] at *; omega)) ?_); conv => whnf))))
end DL

set_option maxHeartbeats 4000000
namespace DL
open PySem PySem.Spec PyProof.Rows L2
/-! ### a mask of the phases that pass a test -/
def maskP (P : Int → Bool) : Nat → Nat
  | 0 => 0
  | n + 1 => maskP P n + if P n then 2 ^ n else 0
theorem maskP_lt (P : Int → Bool) : ∀ n : Nat, maskP P n < 2 ^ n
  | 0 => by simp [maskP]
  | n + 1 => by
    have := maskP_lt P n
    rw [maskP, Nat.pow_succ]
    split <;> omega
theorem maskP_bit (P : Int → Bool) : ∀ (n p : Nat), (maskP P n).testBit p = (decide (p < n) && P p)
  | 0, p => by simp [maskP]
  | n + 1, p => by
    have h1 := maskP_lt P n
    have ih := maskP_bit P n p
    rw [maskP]
    cases hb : P (n : Int) with
    | false =>
      rw [if_neg (by decide), Nat.add_zero, ih]
      by_cases g : p = n
      · subst g; simp [hb]
      · have : decide (p < n) = decide (p < n + 1) := by simp; omega
        rw [this]
    | true =>
      rw [if_pos rfl, show maskP P n + 2 ^ n = 2 ^ n * 1 + maskP P n by omega, Nat.testBit_two_pow_mul_add 1 h1 p]
      split
      · rename_i g
        rw [ih, decide_eq_true g, decide_eq_true (by omega)]
      · rename_i g
        by_cases g2 : p = n
        · subst g2; simp [hb]
        · rw [decide_eq_false (by omega), Bool.false_and]
          obtain ⟨q, hq⟩ : ∃ q, p - n = q + 1 := ⟨p - n - 1, by omega⟩
          rw [hq, Nat.testBit_succ]
          simp
def s2D : D → D
  | .int p => .int (1 * 2 ^ p.toNat)
  | d => d
def teD (P : Int → Bool) : D → Bool
  | .int p => P p
  | _ => false
theorem rng_snoc (a : Int) : ∀ m : Nat, rngD a (m + 1) = rngD a m ++ [.int (a + m)]
  | 0 => by simp [rngD]
  | m + 1 => by
    have ih := rng_snoc (a + 1) m
    show .int a :: rngD (a + 1) (m + 1) = .int a :: (rngD (a + 1) m ++ [.int (a + ((m + 1 : Nat) : Int))])
    rw [ih, show a + 1 + (m : Int) = a + ((m + 1 : Nat) : Int) by omega]
theorem sum_mask (P : Int → Bool) : ∀ n : Nat, ∃ ns : List Int, ((rngD 0 n).filter (teD P)).map s2D = ns.map D.int ∧ ns.sum = (maskP P n : Nat)
  | 0 => ⟨[], rfl, rfl⟩
  | n + 1 => by
    obtain ⟨ns, h1, h2⟩ := sum_mask P n
    rw [rng_snoc, List.filter_append, List.map_append, h1]
    have e : teD P (.int (0 + (n : Int))) = P n := by rw [Int.zero_add]; rfl
    cases hb : P (n : Int) with
    | false =>
      refine ⟨ns, ?_, ?_⟩
      · rw [List.filter_cons_of_neg (by rw [e, hb]; decide)]
        simp
      · rw [maskP, hb, h2]
        simp
    | true =>
      refine ⟨ns ++ [((2 ^ n : Nat) : Int)], ?_, ?_⟩
      · rw [List.filter_cons_of_pos (by rw [e, hb]), List.map_append]
        show _ ++ [D.int (1 * 2 ^ (0 + (n : Int)).toNat)] = _
        rw [show (0 + (n : Int)).toNat = n by omega]
        simp
      · rw [List.sum_append, h2, maskP, hb]
        simp
def enT (a e u : Int) : Option Int → Bool
  | none => true
  | some k => decide (u < a + k * e)
theorem hold_rnd {c a l e u : Int} {t : Option Int} (hc : 1 ≤ c) (h : WOk c (.rnd a l e t)) (hu : 0 ≤ u) : hold (.rnd a l e t) u = (decide (a ≤ u) && (mb (maskP (fun p => decide ((p - a) % e < l)) c.toNat) c u && (match t with | none => true | some k => decide (u < a + k * e)))) := by
  obtain ⟨h1, h2, h3, h4, h5, h6⟩ := h
  have p1 := ph_lt (c := c) (t := u) hc
  have m1 : ((u % c) - a) % e = (u - a) % e := by
    have := Int.emod_add_mul_ediv u c
    rw [show u - a = (u % c - a) + c * (u / c) by omega, mod_add h5]
  have m2 : mb (maskP (fun p => decide ((p - a) % e < l)) c.toNat) c u = decide ((u - a) % e < l) := by
    unfold mb
    rw [maskP_bit, decide_eq_true (by omega), Bool.true_and, show (((u % c).toNat : Nat) : Int) = u % c by omega, m1]
  rw [m2]
  have m3 : decide (0 ≤ (u - a) / e) = decide (a ≤ u) := by
    rw [decide_eq_decide, Int.le_ediv_iff_mul_le (by omega)]
    omega
  show (decide (0 ≤ (u - a) / e) && (decide ((u - a) % e < l) && _)) = _
  rw [m3]
  cases t with
  | none => rfl
  | some k =>
    have m4 : decide ((u - a) / e < k) = decide (u < a + k * e) := by
      rw [decide_eq_decide, Int.ediv_lt_iff_lt_mul (by omega)]
      omega
    show (_ && (_ && decide ((u - a) / e < k))) = _
    rw [m4]
def sp_round_table : FSpec where
  pre := fun ds => ∃ (c a l e : Int) (t : Option Int), ds = [.int c, encW (.rnd a l e t)] ∧ (1 ≤ c ∧ c ≤ 60) ∧ WOk c (.rnd a l e t)
  post := fun ds r ds' => ds' = ds ∧ ∀ (c : Int) (w : Wn), ds = [.int c, encW w] → ∃ ls, r = encT c ls ∧ Shp c (hold w) 0 ls ∧ ls.length ≤ 4
/-- slots: 0 cycle, 1 when, 2 _, 3 start, 4 length, 5 every, 6 times, 7 mask, 8 pieces, 9 phase -/
def w_round_table : WS :=
    (cSeq (cUnp (cVar 1) (gT 5 (gCons' (gN 2 [0, 1] 2) (gCons' (gN 2 [0, 1] 3) (gCons' (gN 2 [0, 1] 4) (gCons' (gN 2 [0, 1] 5) (gCons' (gN 2 [0, 1] 6) gNil')))))))
    (cSeq (cAsg 2 [0, 1] 7 (cBi fSum (cCons (cLc [9] (iR1 (cVar 0)) (gN 2 [] 9) (cOp fLt (cOp fMod (cOp fSub (cVar 9) (cVar 3)) (cVar 5)) (cVar 4)) (cOp fShl (cC (.int 1)) (cVar 9))) cNil)))
    (cSeq (cAsg 2 [0, 1] 8 (cLst (cCons (cTup (cCons (cC (.int 0)) (cCons (cC (.int 0)) cNil))) (cCons (cTup (cCons (cVar 3) (cCons (cVar 7) cNil))) cNil))))
    (cSeq (cIte (cUn (fIsN true) (cVar 6))
      (cEx (cMeth 8 fAppend (cCons (cTup (cCons (cOp fAddG (cVar 3) (cOp fMul (cVar 6) (cVar 5))) (cCons (cC (.int 0)) cNil))) cNil)))
      cNilS)
    (cRet 2 (cCallN 2 sp_table_of (cCons (cVar 0) (cCons (cVar 8) cNil))))))))
theorem rt_post {c : Int} {w : Wn} {ls : List Ln} (h : Shp c (hold w) 0 ls) (hl : ls.length ≤ 4) : ∀ (c' : Int) (w' : Wn), [D.int c, encW w] = [D.int c', encW w'] → ∃ l2, encT c ls = encT c' l2 ∧ Shp c' (hold w') 0 l2 ∧ l2.length ≤ 4 := by
  intro c' w' e
  simp only [List.cons.injEq, and_true, D.int.injEq] at e
  obtain ⟨rfl, e⟩ := e
  cases encW_inj e
  exact ⟨ls, rfl, h, hl⟩
local macro_rules | `(tactic| walk_at "Ddl") => `(tactic| ((conv => whnf); (repeat ((first | refine And.intro rfl ?_ | refine And.intro trivial ?_ | refine And.intro ⟨rfl, trivial⟩ ?_ | refine And.intro ⟨rfl, rfl, trivial⟩ ?_ | refine ifb_t ?_ | refine ifb_f ?_ | refine ifb_nr ?_ | refine ifb_er ?_ | refine And.intro (by first | decide | omega | (unfold CMul; omega) | (unfold CDiv; omega) | (unfold CPow; decide) | (exact cpow1 (by omega) (by omega)) | (exact cpow1 (by dsimp only; omega) (by dsimp only; omega)) | (simp only [rngD_len, List.length_replicate, List.length_map, List.length_append, List.length_cons, List.length_nil, List.length_set] at *; omega)) ?_); conv => whnf))))
theorem pure_round_table : ∀ ds, ds.length = 2 → sp_round_table.pre ds → w_round_table (env0 ds 8) { nx := fun e => sp_round_table.post ds .non (outs e 2), rt := fun d e => sp_round_table.post ds d (outs e 2) } := by
  rintro ds _ ⟨c, a, l, e, t, rfl, ⟨hc0, hc1⟩, hw⟩
  have hr := fun u hu => hold_rnd (u := u) hc0 hw hu
  have post := fun {ls : List Ln} h hl => rt_post (c := c) (w := .rnd a l e t) (ls := ls) h hl
  obtain ⟨h1, h2, h3, h4, h5, h6⟩ := hw
  obtain ⟨ns, s1, s2⟩ := sum_mask (fun p => decide ((p - a) % e < l)) c.toNat
  have mlt := maskP_lt (fun p => decide ((p - a) % e < l)) c.toNat
  walk_at "Ddl"
  refine ⟨stOk_nl rfl (by cases t <;> rfl) rfl, ?_⟩
  walk_at "Ddl"
  refine lcGo_filter (teD (fun p => decide ((p - a) % e < l))) s2D _ _ ?_ ?_
  · intro d nxt acc hd hnx
    obtain ⟨u, rfl, u0, u1⟩ := rng_mem hd
    walk_at "Ddl"
    have hv : (if teD (fun p => decide ((p - a) % e < l)) (D.int u) = true then [s2D (D.int u)] else []) = if decide ((u - a) % e < l) = true then [D.int (1 * 2 ^ u.toNat)] else [] := rfl
    rw [hv] at hnx
    refine ifb_dec (fun g => ?_) (fun g => ?_)
    · rw [if_pos (decide_eq_true g)] at hnx
      walk_at "Ddl"
      exact hnx
    · rw [if_neg (by rw [decide_eq_false g]; decide), List.append_nil] at hnx
      walk_at "Ddl"
      exact hnx
  · rw [s1]
    walk_at "Ddl"
    rw [intsD_map]
    walk_at "Ddl"
    rw [s2]
    generalize maskP (fun p => decide ((p - a) % e < l)) c.toNat = M at *
    cases t with
    | none =>
      walk_at "Ddl"
      refine ⟨⟨c, [(0, 0), (a, M)], rfl, hc0, hc1, ⟨⟨0, _, rfl⟩, by simp; omega, by simp; exact ⟨Nat.two_pow_pos _, mlt⟩⟩, by simp⟩, ?_⟩
      rintro _ _ ⟨rfl, h⟩
      obtain ⟨ls, rfl, hs, hl⟩ := h c [(0, 0), (a, M)] rfl
      walk_at "Ddl"
      refine post (hs.congr hc0 fun u hu => ?_) (Nat.le_trans hl (by simp))
      rw [hr u hu]
      unfold pcS
      simp only [pcAt, enT, Bool.and_true]
      by_cases g : a ≤ u
      · rw [if_pos g, decide_eq_true g, Bool.true_and]
      · rw [if_neg g, if_pos hu, decide_eq_false g, Bool.false_and, mb_zero]
    | some k =>
      have hk := h6 k rfl
      have hke : 0 ≤ k * e := Int.mul_nonneg (by omega) (by omega)
      walk_at "Ddl"
      refine ⟨⟨c, [(0, 0), (a, M), (a + k * e, 0)], rfl, hc0, hc1, ⟨⟨0, _, rfl⟩, by simp; omega, by simp; exact ⟨Nat.two_pow_pos _, mlt, Nat.two_pow_pos _⟩⟩, by simp⟩, ?_⟩
      rintro _ _ ⟨rfl, h⟩
      obtain ⟨ls, rfl, hs, hl⟩ := h c [(0, 0), (a, M), (a + k * e, 0)] rfl
      walk_at "Ddl"
      refine post (hs.congr hc0 fun u hu => ?_) (Nat.le_trans hl (by simp))
      rw [hr u hu]
      unfold pcS
      simp only [pcAt, enT]
      by_cases g : a ≤ u
      · by_cases g2 : a + k * e ≤ u
        · rw [if_pos g2, decide_eq_false (show ¬ u < a + k * e by omega), mb_zero]
          simp
        · rw [if_neg g2, if_pos g, decide_eq_true g, decide_eq_true (show u < a + k * e by omega)]
          simp
      · rw [if_neg (by omega), if_neg g, if_pos hu, decide_eq_false g, Bool.false_and, mb_zero]
def spn_valid_table : Nat → FSpec
  | 0 => ⟨fun _ => False, fun _ _ _ => False⟩
  | n + 1 => ⟨fun ds => ∃ (c : Int) (w : Wn), ds = [.int c, encW w] ∧ (1 ≤ c ∧ c ≤ 60) ∧ WOk c w ∧ dep w ≤ n + 1 ∧ dep w ≤ 16, fun ds r ds' => ds' = ds ∧ ∀ (c : Int) (w : Wn), ds = [.int c, encW w] → ∃ ls, r = encT c ls ∧ Shp c (hold w) 0 ls ∧ ls.length + 1 ≤ 6 * 2 ^ dep w⟩
abbrev sp_valid_table : FSpec := spn_valid_table 16
/-- slots: 0 cycle, 1 when, 2 kind -/
def w_valid_table (n : Nat) : WS :=
    (cSeq (cAsg 2 [0, 1] 2 (cOp fIx (cVar 1) (cC (.int 0))))
    (cSeq (cIte (cOp fEqS (cVar 2) (cC (.str (PySem.Str.ofString "span"))))
      (cRet 2 (cCallN 3 sp_span_table (cCons (cVar 0) (cCons (cOp fIx (cVar 1) (cC (.int 1))) (cCons (cOp fIx (cVar 1) (cC (.int 2))) cNil)))))
      cNilS)
    (cSeq (cIte (cOp fEqS (cVar 2) (cC (.str (PySem.Str.ofString "from"))))
      (cRet 2 (cCallN 3 sp_span_table (cCons (cVar 0) (cCons (cOp fIx (cVar 1) (cC (.int 1))) (cCons (cC .non) cNil)))))
      cNilS)
    (cSeq (cIte (cOp fEqS (cVar 2) (cC (.str (PySem.Str.ofString "round"))))
      (cRet 2 (cCallN 2 sp_round_table (cCons (cVar 0) (cCons (cVar 1) cNil))))
      cNilS)
    (cSeq (cIte (cOp fEqS (cVar 2) (cC (.str (PySem.Str.ofString "also"))))
      (cRet 2 (cCallN 2 sp_either (cCons (cCallN 2 (spn_valid_table n) (cCons (cVar 0) (cCons (cOp fIx (cVar 1) (cC (.int 1))) cNil))) (cCons (cCallN 2 (spn_valid_table n) (cCons (cVar 0) (cCons (cOp fIx (cVar 1) (cC (.int 2))) cNil))) cNil))))
      cNilS)
    (cRet 2 (cCallN 2 sp_without (cCons (cCallN 2 (spn_valid_table n) (cCons (cVar 0) (cCons (cOp fIx (cVar 1) (cC (.int 1))) cNil))) (cCons (cCallN 2 (spn_valid_table n) (cCons (cVar 0) (cCons (cOp fIx (cVar 1) (cC (.int 2))) cNil))) cNil)))))))))
theorem vt_post {c : Int} {w : Wn} {ls : List Ln} (h : Shp c (hold w) 0 ls) (hl : ls.length + 1 ≤ 6 * 2 ^ dep w) : ∀ (c' : Int) (w' : Wn), [D.int c, encW w] = [D.int c', encW w'] → ∃ l2, encT c ls = encT c' l2 ∧ Shp c' (hold w') 0 l2 ∧ l2.length + 1 ≤ 6 * 2 ^ dep w' := by
  intro c' w' e
  simp only [List.cons.injEq, and_true, D.int.injEq] at e
  obtain ⟨rfl, e⟩ := e
  cases encW_inj e
  exact ⟨ls, rfl, h, hl⟩
theorem two_le {a b : Nat} {x y : Nat} (hx : x + 1 ≤ 6 * 2 ^ a) (hy : y + 1 ≤ 6 * 2 ^ b) : x + y + 1 + 1 ≤ 6 * 2 ^ (max a b + 1) := by
  have h1 : 2 ^ a ≤ 2 ^ max a b := Nat.pow_le_pow_right (by decide) (Nat.le_max_left _ _)
  have h2 : 2 ^ b ≤ 2 ^ max a b := Nat.pow_le_pow_right (by decide) (Nat.le_max_right _ _)
  rw [Nat.pow_succ]
  omega
theorem lines_le {a x : Nat} (hx : x + 1 ≤ 6 * 2 ^ a) (h : a ≤ 16) : x ≤ 400000 := by
  have : 2 ^ a ≤ 2 ^ 16 := Nat.pow_le_pow_right (by decide) h
  omega
theorem pure_valid_table : ∀ n, ∀ ds, ds.length = 2 → (spn_valid_table (n + 1)).pre ds → w_valid_table n (env0 ds 1) { nx := fun e => (spn_valid_table (n + 1)).post ds .non (outs e 2), rt := fun d e => (spn_valid_table (n + 1)).post ds d (outs e 2) } := by
  rintro n ds _ ⟨c, w, rfl, ⟨hc0, hc1⟩, hw, hd, hd2⟩
  cases w with
  | span a b =>
    obtain ⟨h1, h2⟩ := hw
    walk_at "Ddl"
    refine ⟨⟨c, a, some b, rfl, hc0, hc1, h1, fun x e => by cases e; exact h2⟩, ?_⟩
    rintro _ _ ⟨rfl, h⟩
    obtain ⟨ls, rfl, hs, hl⟩ := h c a (some b) rfl
    walk_at "Ddl"
    refine vt_post (w := .span a b) (hs.congr hc0 fun u hu => ?_) (by show _ ≤ 6 * 2 ^ 1; omega)
    rfl
  | frm a =>
    walk_at "Ddl"
    refine ⟨⟨c, a, none, rfl, hc0, hc1, hw, fun x e => by cases e⟩, ?_⟩
    rintro _ _ ⟨rfl, h⟩
    obtain ⟨ls, rfl, hs, hl⟩ := h c a none rfl
    walk_at "Ddl"
    refine vt_post (w := .frm a) (hs.congr hc0 fun u hu => ?_) (by show _ ≤ 6 * 2 ^ 1; omega)
    show spanS a none u = decide (a ≤ u)
    simp [spanS]
  | rnd a l e t =>
    walk_at "Ddl"
    refine ⟨⟨c, a, l, e, t, rfl, ⟨hc0, hc1⟩, hw⟩, ?_⟩
    rintro _ _ ⟨rfl, h⟩
    obtain ⟨ls, rfl, hs, hl⟩ := h c (.rnd a l e t) rfl
    walk_at "Ddl"
    exact vt_post (w := .rnd a l e t) hs (by show _ ≤ 6 * 2 ^ 1; omega)
  | also x y =>
    obtain ⟨hx, hy⟩ := hw
    have d1 : max (dep x) (dep y) + 1 ≤ n + 1 := hd
    have d2 : max (dep x) (dep y) + 1 ≤ 16 := hd2
    have px := dep_pos x
    cases n with
    | zero => omega
    | succ n =>
    walk_at "Ddl"
    refine ⟨⟨c, x, rfl, ⟨hc0, hc1⟩, hx, by omega, by omega⟩, ?_⟩
    rintro _ _ ⟨rfl, h⟩
    obtain ⟨l1, rfl, s1, n1⟩ := h c x rfl
    walk_at "Ddl"
    refine ⟨⟨c, y, rfl, ⟨hc0, hc1⟩, hy, by omega, by omega⟩, ?_⟩
    rintro _ _ ⟨rfl, h⟩
    obtain ⟨l2, rfl, s2, n2⟩ := h c y rfl
    have b1 := lines_le n1 (by omega)
    have b2 := lines_le n2 (by omega)
    walk_at "Ddl"
    refine ⟨⟨c, l1, l2, rfl, s1.tb ⟨hc0, hc1⟩, s2.tb ⟨hc0, hc1⟩, by omega⟩, ?_⟩
    rintro _ _ ⟨rfl, h⟩
    obtain ⟨l3, rfl, s3, n3⟩ := h c l1 l2 rfl
    walk_at "Ddl"
    refine vt_post (w := .also x y) (s3.congr hc0 fun u hu => ?_) ?_
    · show (tS c l1 u || tS c l2 u) = _
      rw [show tS c l1 u = hold x u from s1.holds hc0 false u hu, show tS c l2 u = hold y u from s2.holds hc0 false u hu]
      rfl
    · have := two_le n1 n2
      show _ ≤ 6 * 2 ^ (max (dep x) (dep y) + 1)
      omega
  | but x y =>
    obtain ⟨hx, hy⟩ := hw
    have d1 : max (dep x) (dep y) + 1 ≤ n + 1 := hd
    have d2 : max (dep x) (dep y) + 1 ≤ 16 := hd2
    have px := dep_pos x
    cases n with
    | zero => omega
    | succ n =>
    walk_at "Ddl"
    refine ⟨⟨c, x, rfl, ⟨hc0, hc1⟩, hx, by omega, by omega⟩, ?_⟩
    rintro _ _ ⟨rfl, h⟩
    obtain ⟨l1, rfl, s1, n1⟩ := h c x rfl
    walk_at "Ddl"
    refine ⟨⟨c, y, rfl, ⟨hc0, hc1⟩, hy, by omega, by omega⟩, ?_⟩
    rintro _ _ ⟨rfl, h⟩
    obtain ⟨l2, rfl, s2, n2⟩ := h c y rfl
    have b1 := lines_le n1 (by omega)
    have b2 := lines_le n2 (by omega)
    walk_at "Ddl"
    refine ⟨⟨c, l1, l2, rfl, s1.tb ⟨hc0, hc1⟩, s2.tb ⟨hc0, hc1⟩, by omega⟩, ?_⟩
    rintro _ _ ⟨rfl, h⟩
    obtain ⟨l3, rfl, s3, n3⟩ := h c l1 l2 rfl
    walk_at "Ddl"
    refine vt_post (w := .but x y) (s3.congr hc0 fun u hu => ?_) ?_
    · show (tS c l1 u && !tS c l2 u) = _
      rw [show tS c l1 u = hold x u from s1.holds hc0 false u hu, show tS c l2 u = hold y u from s2.holds hc0 false u hu]
      rfl
    · have := two_le n1 n2
      show _ ≤ 6 * 2 ^ (max (dep x) (dep y) + 1)
      omega
end DL

set_option maxHeartbeats 4000000
namespace DL
open PySem PySem.Spec PyProof.Rows L2
/-! ### validity -/
def vT : Option Int → Bool
  | none => true
  | some k => decide (1 ≤ k)
def vR (c a l e : Int) (t : Option Int) : Bool := decide (0 ≤ a) && (decide (1 ≤ l) && (decide (l ≤ e) && (decide (c % e = 0) && vT t)))
def vB (c : Int) : Wn → Nat → Bool
  | _, 0 => false
  | .span a b, _ + 1 => decide (0 ≤ a) && decide (a < b)
  | .frm a, _ + 1 => decide (0 ≤ a)
  | .rnd a l e t, _ + 1 => vR c a l e t
  | .also x y, d + 1 => vB c x d && vB c y d
  | .but x y, d + 1 => vB c x d && vB c y d
def sp_is_valid_round : FSpec where
  pre := fun ds => ∃ (c a l e : Int) (t : Option Int), ds = [.int c, encW (.rnd a l e t)] ∧ 1 ≤ c ∧ c ≤ 60
  post := fun ds r ds' => ds' = ds ∧ ∀ (c a l e : Int) (t : Option Int), ds = [.int c, encW (.rnd a l e t)] → r = .bl (vR c a l e t)
/-- slots: 0 cycle, 1 when, 2 _, 3 start, 4 length, 5 every, 6 times -/
def w_is_valid_round : WS :=
    (cSeq (cUnp (cVar 1) (gT 5 (gCons' (gN 2 [0, 1] 2) (gCons' (gN 2 [0, 1] 3) (gCons' (gN 2 [0, 1] 4) (gCons' (gN 2 [0, 1] 5) (gCons' (gN 2 [0, 1] 6) gNil')))))))
    (cSeq (cIte (cOr (cOp fLt (cVar 3) (cC (.int 0))) (cOr (cUn fNot (cChain fLe fLe (cC (.int 1)) (cVar 4) (cVar 5))) (cOp fNeS (cOp fMod (cVar 0) (cVar 5)) (cC (.int 0)))))
      (cRet 2 (cC (.bl false)))
      cNilS)
    (cRet 2 (cOr (cUn (fIsN false) (cVar 6)) (cOp fGe (cVar 6) (cC (.int 1)))))))
theorem vr_post {c a l e : Int} {t : Option Int} {b : Bool} (h : b = vR c a l e t) : ∀ (c' a' l' e' : Int) (t' : Option Int), [D.int c, encW (.rnd a l e t)] = [D.int c', encW (.rnd a' l' e' t')] → D.bl b = .bl (vR c' a' l' e' t') := by
  intro c' a' l' e' t' q
  simp only [List.cons.injEq, and_true, D.int.injEq] at q
  obtain ⟨rfl, q⟩ := q
  cases encW_inj q
  rw [h]
local macro_rules | `(tactic| walk_at "Ddls") => `(tactic| ((conv => whnf); (repeat ((first | refine And.intro rfl ?_ | refine And.intro trivial ?_ | refine And.intro ⟨rfl, trivial⟩ ?_ | refine And.intro ⟨rfl, rfl, trivial⟩ ?_ | refine ifb_ns (by decide) ?_ | refine ifb_er ?_ | refine ifb_t ?_ | refine ifb_f ?_ | refine ifb_nr ?_ | refine ifb_er ?_ | refine And.intro (by first | decide | omega | (unfold CMul; omega) | (unfold CDiv; omega) | (unfold CPow; decide) | (exact cpow1 (by omega) (by omega)) | (exact cpow1 (by dsimp only; omega) (by dsimp only; omega)) | (simp only [rngD_len, List.length_replicate, List.length_map, List.length_append, List.length_cons, List.length_nil, List.length_set] at *; omega)) ?_); conv => whnf))))
local macro_rules | `(tactic| walk_at "Ddl") => `(tactic| ((conv => whnf); (repeat ((first | refine And.intro rfl ?_ | refine And.intro trivial ?_ | refine And.intro ⟨rfl, trivial⟩ ?_ | refine And.intro ⟨rfl, rfl, trivial⟩ ?_ | refine ifb_t ?_ | refine ifb_f ?_ | refine ifb_nr ?_ | refine ifb_er ?_ | refine And.intro (by first | decide | omega | (unfold CMul; omega) | (unfold CDiv; omega) | (unfold CPow; decide) | (exact cpow1 (by omega) (by omega)) | (exact cpow1 (by dsimp only; omega) (by dsimp only; omega)) | (simp only [rngD_len, List.length_replicate, List.length_map, List.length_append, List.length_cons, List.length_nil, List.length_set] at *; omega)) ?_); conv => whnf))))
theorem pure_is_valid_round : ∀ ds, ds.length = 2 → sp_is_valid_round.pre ds → w_is_valid_round (env0 ds 5) { nx := fun e => sp_is_valid_round.post ds .non (outs e 2), rt := fun d e => sp_is_valid_round.post ds d (outs e 2) } := by
  rintro ds _ ⟨c, a, l, e, t, rfl, h0, h1⟩
  cases t with
  | none =>
    walk_at "Ddls"
    refine ifb_dec (fun g0 => ?_) (fun g0 => ?_)
    · walk_at "Ddls"
      exact vr_post (by unfold vR; rw [decide_eq_false (show ¬ 0 ≤ a by omega)]; rfl)
    · walk_at "Ddls"
      refine ifb_dec (fun g1 => ?_) (fun g1 => ?_)
      · walk_at "Ddls"
        refine ifb_ndec (fun g2 => ?_) fun g2 => ?_
        · walk_at "Ddls"
          exact vr_post (by unfold vR; rw [decide_eq_false g2]; simp)
        · walk_at "Ddls"
          refine ifb_ndec (fun g3 => ?_) fun g3 => ?_
          · walk_at "Ddls"
            exact vr_post (by unfold vR; rw [decide_eq_false (show ¬ c % e = 0 from g3)]; simp)
          · walk_at "Ddls"
            refine vr_post ?_
            unfold vR
            rw [decide_eq_true (show 0 ≤ a by omega), decide_eq_true g1, decide_eq_true g2, decide_eq_true (show c % e = 0 from g3)]
            rfl
      · walk_at "Ddls"
        exact vr_post (by unfold vR; rw [decide_eq_false g1]; simp)
  | some t =>
    walk_at "Ddls"
    refine ifb_dec (fun g0 => ?_) (fun g0 => ?_)
    · walk_at "Ddls"
      exact vr_post (by unfold vR; rw [decide_eq_false (show ¬ 0 ≤ a by omega)]; rfl)
    · walk_at "Ddls"
      refine ifb_dec (fun g1 => ?_) (fun g1 => ?_)
      · walk_at "Ddls"
        refine ifb_ndec (fun g2 => ?_) fun g2 => ?_
        · walk_at "Ddls"
          exact vr_post (by unfold vR; rw [decide_eq_false g2]; simp)
        · walk_at "Ddls"
          refine ifb_ndec (fun g3 => ?_) fun g3 => ?_
          · walk_at "Ddls"
            exact vr_post (by unfold vR; rw [decide_eq_false (show ¬ c % e = 0 from g3)]; simp)
          · walk_at "Ddls"
            refine vr_post ?_
            unfold vR
            rw [decide_eq_true (show 0 ≤ a by omega), decide_eq_true g1, decide_eq_true g2, decide_eq_true (show c % e = 0 from g3)]
            rfl
      · walk_at "Ddls"
        exact vr_post (by unfold vR; rw [decide_eq_false g1]; simp)
def spn_is_valid : Nat → FSpec
  | 0 => ⟨fun _ => False, fun _ _ _ => False⟩
  | n + 1 => ⟨fun ds => ∃ (c d : Int) (w : Wn), ds = [.int c, encW w, .int d] ∧ (1 ≤ c ∧ c ≤ 60) ∧ 0 ≤ d ∧ d ≤ n, fun ds r ds' => ds' = ds ∧ ∀ (c d : Int) (w : Wn), ds = [.int c, encW w, .int d] → r = .bl (vB c w d.toNat)⟩
abbrev sp_is_valid := spn_is_valid 16
theorem iv_post {c d : Int} {w : Wn} {b : Bool} (h : b = vB c w d.toNat) : ∀ (c' d' : Int) (w' : Wn), [D.int c, encW w, D.int d] = [D.int c', encW w', D.int d'] → D.bl b = .bl (vB c' w' d'.toNat) := by
  intro c' d' w' e
  simp only [List.cons.injEq, and_true, D.int.injEq] at e
  obtain ⟨rfl, e, rfl⟩ := e
  rw [h, encW_inj e]
/-- slots: 0 cycle, 1 when, 2 depth, 3 kind -/
def w_is_valid (n : Nat) : WS :=
    (cSeq (cIte (cOp fEqS (cVar 2) (cC (.int 0)))
      (cRet 3 (cC (.bl false)))
      cNilS)
    (cSeq (cAsg 3 [0, 1, 2] 3 (cOp fIx (cVar 1) (cC (.int 0))))
    (cSeq (cIte (cOp fEqS (cVar 3) (cC (.str (PySem.Str.ofString "span"))))
      (cRet 3 (cChain fLe fLt (cC (.int 0)) (cOp fIx (cVar 1) (cC (.int 1))) (cOp fIx (cVar 1) (cC (.int 2)))))
      cNilS)
    (cSeq (cIte (cOp fEqS (cVar 3) (cC (.str (PySem.Str.ofString "from"))))
      (cRet 3 (cOp fGe (cOp fIx (cVar 1) (cC (.int 1))) (cC (.int 0))))
      cNilS)
    (cSeq (cIte (cOp fEqS (cVar 3) (cC (.str (PySem.Str.ofString "round"))))
      (cRet 3 (cCallN 2 sp_is_valid_round (cCons (cVar 0) (cCons (cVar 1) cNil))))
      cNilS)
    (cRet 3 (cAnd (cCallN 3 (spn_is_valid n) (cCons (cVar 0) (cCons (cOp fIx (cVar 1) (cC (.int 1))) (cCons (cOp fSub (cVar 2) (cC (.int 1))) cNil)))) (cCallN 3 (spn_is_valid n) (cCons (cVar 0) (cCons (cOp fIx (cVar 1) (cC (.int 2))) (cCons (cOp fSub (cVar 2) (cC (.int 1))) cNil)))))))))))
theorem pure_is_valid : ∀ n, ∀ ds, ds.length = 3 → (spn_is_valid (n + 1)).pre ds → w_is_valid n (env0 ds 1) { nx := fun e => (spn_is_valid (n + 1)).post ds .non (outs e 3), rt := fun d e => (spn_is_valid (n + 1)).post ds d (outs e 3) } := by
  rintro n ds _ ⟨c, d, w, rfl, hc, h0, h1⟩
  walk_at "Ddls"
  refine ifb_dec (fun gd => ?_) (fun gd => ?_)
  · walk_at "Ddls"
    have gd : d = 0 := gd
    subst gd
    exact iv_post (by cases w <;> rfl)
  have gd : ¬ d = 0 := gd
  obtain ⟨k, hk⟩ : ∃ k, d.toNat = k + 1 := ⟨d.toNat - 1, by omega⟩
  have hk' : (d - 1).toNat = k := by omega
  cases w with
  | span a b =>
    walk_at "Ddls"
    refine ifb_dec (fun g => ?_) (fun g => ?_)
    · walk_at "Ddls"
      refine iv_post ?_
      rw [hk]; simp only [vB]; rw [decide_eq_true g]; rfl
    · walk_at "Ddls"
      refine iv_post ?_
      rw [hk]; simp only [vB]; rw [decide_eq_false g]; rfl
  | frm a =>
    walk_at "Ddls"
    exact iv_post (by rw [hk]; rfl)
  | rnd a l e t =>
    walk_at "Ddls"
    refine ⟨⟨c, a, l, e, t, rfl, hc.1, hc.2⟩, ?_⟩
    rintro _ _ ⟨rfl, h⟩
    cases h _ _ _ _ _ rfl
    walk_at "Ddls"
    exact iv_post (by rw [hk]; rfl)
  | also x y =>
    obtain ⟨n, rfl⟩ : ∃ m, n = m + 1 := ⟨n - 1, by omega⟩
    walk_at "Ddls"
    refine ⟨⟨c, d - 1, x, rfl, hc, by omega, by omega⟩, ?_⟩
    rintro _ _ ⟨rfl, h⟩
    cases h _ _ _ rfl
    rw [hk']
    cases gx : vB c x k with
    | true =>
      walk_at "Ddls"
      refine ⟨⟨c, d - 1, y, rfl, hc, by omega, by omega⟩, ?_⟩
      rintro _ _ ⟨rfl, h⟩
      cases h _ _ _ rfl
      rw [hk']
      walk_at "Ddls"
      exact iv_post (by rw [hk]; simp only [vB]; rw [gx]; rfl)
    | false =>
      walk_at "Ddls"
      exact iv_post (by rw [hk]; simp only [vB]; rw [gx]; rfl)
  | but x y =>
    obtain ⟨n, rfl⟩ : ∃ m, n = m + 1 := ⟨n - 1, by omega⟩
    walk_at "Ddls"
    refine ⟨⟨c, d - 1, x, rfl, hc, by omega, by omega⟩, ?_⟩
    rintro _ _ ⟨rfl, h⟩
    cases h _ _ _ rfl
    rw [hk']
    cases gx : vB c x k with
    | true =>
      walk_at "Ddls"
      refine ⟨⟨c, d - 1, y, rfl, hc, by omega, by omega⟩, ?_⟩
      rintro _ _ ⟨rfl, h⟩
      cases h _ _ _ rfl
      rw [hk']
      walk_at "Ddls"
      exact iv_post (by rw [hk]; simp only [vB]; rw [gx]; rfl)
    | false =>
      walk_at "Ddls"
      exact iv_post (by rw [hk]; simp only [vB]; rw [gx]; rfl)
def sp_is_when : FSpec where
  pre := fun ds => ∃ (c : Int) (w : Wn), ds = [.int c, encW w] ∧ (1 ≤ c ∧ c ≤ 60)
  post := fun ds r ds' => ds' = ds ∧ ∀ (c : Int) (w : Wn), ds = [.int c, encW w] → r = .bl (vB c w 12)
/-- slots: 0 cycle, 1 when -/
def w_is_when : WS :=
    (cRet 2 (cCallN 3 sp_is_valid (cCons (cVar 0) (cCons (cVar 1) (cCons (cC (.int 12)) cNil)))))
theorem pure_is_when : ∀ ds, ds.length = 2 → sp_is_when.pre ds → w_is_when (env0 ds 0) { nx := fun e => sp_is_when.post ds .non (outs e 2), rt := fun d e => sp_is_when.post ds d (outs e 2) } := by
  rintro ds _ ⟨c, w, rfl, hc⟩
  obtain ⟨tw, ew⟩ := encW_tup w
  rw [ew]
  walk_at "Ddls"
  refine ⟨⟨c, 12, w, by rw [ew], hc, by decide, by decide⟩, ?_⟩
  rintro _ _ ⟨rfl, h⟩
  cases h c 12 w (by rw [ew])
  walk_at "Ddls"
  intro c' w' e
  rw [← ew] at e
  simp only [List.cons.injEq, and_true, D.int.injEq] at e
  obtain ⟨rfl, e⟩ := e
  cases encW_inj e
  rfl
/-! ### the law's own -/
/-! ### the table of a valid when -/
theorem vB_ok {c : Int} (hc : 1 ≤ c) : ∀ {w : Wn} {d : Nat}, WOk c w → dep w ≤ d → vB c w d = true
  | w, 0, _, h => by have := dep_pos w; omega
  | .span a b, d + 1, h, _ => by
    obtain ⟨h1, h2⟩ := h
    simp [vB, h1, h2]
  | .frm a, d + 1, h, _ => by
    have h : 0 ≤ a := h
    simp [vB, h]
  | .rnd a l e t, d + 1, h, _ => by
    obtain ⟨h1, h2, ⟨h3, _⟩, h4, h5, h6⟩ := h
    cases t with
    | none => simp [vB, vR, vT, h1, h2, h3, h5]
    | some k => simp [vB, vR, vT, h1, h2, h3, h5, h6 k rfl]
  | .also x y, d + 1, h, hd => by
    have hd : max (dep x) (dep y) + 1 ≤ d + 1 := hd
    simp [vB, vB_ok hc h.1 (show dep x ≤ d by omega), vB_ok hc h.2 (show dep y ≤ d by omega)]
  | .but x y, d + 1, h, hd => by
    have hd : max (dep x) (dep y) + 1 ≤ d + 1 := hd
    simp [vB, vB_ok hc h.1 (show dep x ≤ d by omega), vB_ok hc h.2 (show dep y ≤ d by omega)]
def sp_when_table : FSpec where
  pre := fun ds => ∃ (c : Int) (w : Wn), ds = [.int c, encW w] ∧ (1 ≤ c ∧ c ≤ 60) ∧ WOk c w ∧ dep w ≤ 12
  post := fun ds r ds' => ds' = ds ∧ ∀ (c : Int) (w : Wn), ds = [.int c, encW w] → ∃ ls, r = encT c ls ∧ Shp c (hold w) 0 ls ∧ ls.length + 1 ≤ 6 * 2 ^ dep w
/-- slots: 0 cycle, 1 when -/
def w_when_table : WS :=
    (cSeq (cIte (cUn fNot (cCallN 2 sp_is_when (cCons (cVar 0) (cCons (cVar 1) cNil))))
      cNever
      cNilS)
    (cRet 2 (cCallN 2 sp_valid_table (cCons (cVar 0) (cCons (cVar 1) cNil)))))
theorem pure_when_table : ∀ ds, ds.length = 2 → sp_when_table.pre ds → w_when_table (env0 ds 0) { nx := fun e => sp_when_table.post ds .non (outs e 2), rt := fun d e => sp_when_table.post ds d (outs e 2) } := by
  rintro ds _ ⟨c, w, rfl, hc, hw, hd⟩
  obtain ⟨tw, ew⟩ := encW_tup w
  have post := fun {ls : List Ln} h hl => vt_post (c := c) (w := w) (ls := ls) h hl
  rw [ew] at post ⊢
  walk_at "Ddl"
  refine ⟨⟨c, w, by rw [ew], hc⟩, ?_⟩
  rintro _ _ ⟨rfl, h⟩
  cases h c w (by rw [ew])
  rw [vB_ok hc.1 hw hd]
  walk_at "Ddl"
  refine ⟨⟨c, w, by rw [ew], hc, hw, Nat.le_trans hd (by decide), Nat.le_trans hd (by decide)⟩, ?_⟩
  rintro _ _ ⟨rfl, h⟩
  obtain ⟨ls, rfl, hs, hl⟩ := h c w (by rw [ew])
  walk_at "Ddl"
  exact post hs hl
end DL

set_option maxHeartbeats 4000000
namespace DL
open PySem PySem.Spec PyProof.Rows L2
/-! ### shifted -/
local macro_rules | `(tactic| walk_at "Ddl") => `(tactic| ((conv => whnf); (repeat ((first | refine And.intro rfl ?_ | refine And.intro trivial ?_ | refine And.intro ⟨rfl, trivial⟩ ?_ | refine And.intro ⟨rfl, rfl, trivial⟩ ?_ | refine ifb_t ?_ | refine ifb_f ?_ | refine ifb_nr ?_ | refine ifb_er ?_ | refine And.intro (by first | decide | omega | (unfold CMul; omega) | (unfold CDiv; omega) | (unfold CPow; decide) | (exact cpow1 (by omega) (by omega)) | (exact cpow1 (by dsimp only; omega) (by dsimp only; omega)) | (simp only [rngD_len, List.length_replicate, List.length_map, List.length_append, List.length_cons, List.length_nil, List.length_set] at *; omega)) ?_); conv => whnf))))
/-! ### moments to look at -/
end DL

set_option maxHeartbeats 600000
namespace DL
open PySem PySem.Spec PyProof.Rows L2
/-! ### the class Times -/
def encX (c : Int) (ls : List Ln) : D := .obj 0 [encT c ls]
def pre_Times_init : D → Prop := fun d => ∃ (c : Int) (ls : List Ln), d = encT c ls ∧ TbOk c ls ∧ ls.length ≤ 700000
def post_Times_init : D → List D → Prop := fun d ds => ∀ (c : Int) (ls : List Ln), d = encT c ls → ∃ l', ds = [encT c l'] ∧ Shp c (tS c ls) 0 l' ∧ l'.length ≤ ls.length + 1
def w1_Times_init : W :=
    (cUn fNot (cCallN 1 sp_is_table (cCons (cVar 1) cNil)))
def w2_Times_init : W :=
    (cCallN 1 sp_shortest (cCons (cVar 1) cNil))
local macro_rules | `(tactic| walk_at "Ddlx") => `(tactic| ((conv => whnf); (repeat ((first | ((with_reducible refine And.intro (stOk_nl ?_ ?_) ?_); (focus (with_reducible first | assumption | exact encQ_nl _ | exact encO_nl _ | exact encC_nl _)); (focus exact rfl)) | ((refine pick_nl ?_ ?_); (focus (with_reducible first | assumption | exact encQ_nl _ | exact encO_nl _ | exact encC_nl _))) | ((with_reducible refine And.intro ?_ ?_); (focus (with_reducible first | assumption | exact encQ_nl _ | exact encO_nl _ | exact encC_nl _))) | ((with_reducible refine And.intro (immA_c ?_ ?_) ?_); (focus (first | (with_reducible first | assumption | exact encQ_nl _ | exact encO_nl _ | exact encC_nl _) | exact rfl)); (focus ((repeat ((with_reducible refine immA_c ?_ ?_); (focus (first | (with_reducible first | assumption | exact encQ_nl _ | exact encO_nl _ | exact encC_nl _) | exact rfl)))); exact rfl))) | refine And.intro rfl ?_ | refine And.intro trivial ?_ | refine And.intro ⟨rfl, trivial⟩ ?_ | refine And.intro ⟨rfl, rfl, trivial⟩ ?_ | refine ifb_nq (by first | assumption | decide) ?_ | refine ifb_pq (by assumption) ?_ | refine ifb_er ?_ | refine ifb_t ?_ | refine ifb_f ?_ | refine ifb_nr ?_ | refine ifb_er ?_ | ((with_reducible refine And.intro (?_ : (_ : Nat) ≤ _) ?_); (focus (first | decide | omega | (unfold CMul; omega) | (unfold CDiv; omega) | (unfold CPow; decide) | (exact cpow1 (by omega) (by omega)) | (simp only [rngD_len, List.length_replicate, List.length_map, List.length_append, List.length_cons, List.length_nil, List.length_set] at *; omega)))) | ((with_reducible refine And.intro (?_ : (_ : Int) ≤ _) ?_); (focus (first | decide | omega | (unfold CMul; omega) | (unfold CDiv; omega) | (unfold CPow; decide) | (exact cpow1 (by omega) (by omega)) | (simp only [rngD_len, List.length_replicate, List.length_map, List.length_append, List.length_cons, List.length_nil, List.length_set] at *; omega)))) | ((with_reducible refine And.intro (?_ : (_ : Nat) < _) ?_); (focus (first | decide | omega | (unfold CMul; omega) | (unfold CDiv; omega) | (unfold CPow; decide) | (exact cpow1 (by omega) (by omega)) | (simp only [rngD_len, List.length_replicate, List.length_map, List.length_append, List.length_cons, List.length_nil, List.length_set] at *; omega)))) | ((with_reducible refine And.intro (?_ : (_ : Int) < _) ?_); (focus (first | decide | omega | (unfold CMul; omega) | (unfold CDiv; omega) | (unfold CPow; decide) | (exact cpow1 (by omega) (by omega)) | (simp only [rngD_len, List.length_replicate, List.length_map, List.length_append, List.length_cons, List.length_nil, List.length_set] at *; omega)))) | ((with_reducible refine And.intro (?_ : CMul _ _) ?_); (focus (first | decide | omega | (unfold CMul; omega) | (unfold CDiv; omega) | (unfold CPow; decide) | (exact cpow1 (by omega) (by omega)) | (simp only [rngD_len, List.length_replicate, List.length_map, List.length_append, List.length_cons, List.length_nil, List.length_set] at *; omega)))) | ((with_reducible refine And.intro (?_ : CDiv _ _) ?_); (focus (first | decide | omega | (unfold CMul; omega) | (unfold CDiv; omega) | (unfold CPow; decide) | (exact cpow1 (by omega) (by omega)) | (simp only [rngD_len, List.length_replicate, List.length_map, List.length_append, List.length_cons, List.length_nil, List.length_set] at *; omega)))) | ((with_reducible refine And.intro (?_ : CPow _ _) ?_); (focus (first | decide | omega | (unfold CMul; omega) | (unfold CDiv; omega) | (unfold CPow; decide) | (exact cpow1 (by omega) (by omega)) | (simp only [rngD_len, List.length_replicate, List.length_map, List.length_append, List.length_cons, List.length_nil, List.length_set] at *; omega)))) | ((with_reducible refine And.intro (?_ : (_ : Nat) = _) ?_); (focus (first | decide | omega | (unfold CMul; omega) | (unfold CDiv; omega) | (unfold CPow; decide) | (exact cpow1 (by omega) (by omega)) | (simp only [rngD_len, List.length_replicate, List.length_map, List.length_append, List.length_cons, List.length_nil, List.length_set] at *; omega))))); (conv => whnf); (try dsimp only [List.set_cons_zero, List.set_cons_succ, upA, wipeE, back, List.getElem?_cons_zero, List.getElem?_cons_succ, Option.getD_some]))); (try dsimp only [List.set_cons_zero, List.set_cons_succ, upA, wipeE, back, List.getElem?_cons_zero, List.getElem?_cons_succ, Option.getD_some])))
theorem pure_Times_init : ∀ d, pre_Times_init d → w1_Times_init [none, some d] fun r e1 => rs e1 r fun d1 => ifb d1 False (w2_Times_init e1 fun r _ => oneV (fun d' => post_Times_init d [d']) r) := by
  rintro d ⟨c, ls, rfl, ht, hl⟩
  unfold w1_Times_init
  walk_at "Ddlx"
  refine ⟨⟨c, ls, rfl⟩, ?_⟩
  rintro _ _ ⟨rfl, h⟩
  obtain rfl := h c ls rfl
  rw [ht.tbB]
  walk_at "Ddlx"
  refine ⟨⟨c, ls, rfl, ht, by omega⟩, ?_⟩
  rintro _ _ ⟨rfl, h⟩
  obtain ⟨l', rfl, hs, hl'⟩ := h c ls rfl
  walk_at "Ddlx"
  intro c' ls' e
  obtain ⟨rfl, rfl⟩ := encT_inj e
  exact ⟨l', rfl, hs, hl'⟩
end DL

set_option maxHeartbeats 2000000
namespace DL
open PySem PySem.Spec PyProof.Rows L2
local macro_rules | `(tactic| walk_at "Ddl") => `(tactic| ((conv => whnf); (repeat ((first | refine And.intro rfl ?_ | refine And.intro trivial ?_ | refine And.intro ⟨rfl, trivial⟩ ?_ | refine And.intro ⟨rfl, rfl, trivial⟩ ?_ | refine ifb_t ?_ | refine ifb_f ?_ | refine ifb_nr ?_ | refine ifb_er ?_ | refine And.intro (by first | decide | omega | (unfold CMul; omega) | (unfold CDiv; omega) | (unfold CPow; decide) | (exact cpow1 (by omega) (by omega)) | (exact cpow1 (by dsimp only; omega) (by dsimp only; omega)) | (simp only [rngD_len, List.length_replicate, List.length_map, List.length_append, List.length_cons, List.length_nil, List.length_set] at *; omega)) ?_); conv => whnf))))
end DL

set_option maxHeartbeats 4000000
namespace DL
open PySem PySem.Spec PyProof.Rows L2
local macro_rules | `(tactic| walk_at "Ddl") => `(tactic| ((conv => whnf); (repeat ((first | refine And.intro rfl ?_ | refine And.intro trivial ?_ | refine And.intro ⟨rfl, trivial⟩ ?_ | refine And.intro ⟨rfl, rfl, trivial⟩ ?_ | refine ifb_t ?_ | refine ifb_f ?_ | refine ifb_nr ?_ | refine ifb_er ?_ | refine And.intro (by first | decide | omega | (unfold CMul; omega) | (unfold CDiv; omega) | (unfold CPow; decide) | (exact cpow1 (by omega) (by omega)) | (exact cpow1 (by dsimp only; omega) (by dsimp only; omega)) | (simp only [rngD_len, List.length_replicate, List.length_map, List.length_append, List.length_cons, List.length_nil, List.length_set] at *; omega)) ?_); conv => whnf))))
end DL

set_option maxHeartbeats 4000000
namespace DL
open PySem PySem.Spec PyProof.Rows L2
theorem TbOk.split {c : Int} {ls : List Ln} (h : TbOk c ls) : ∃ p l, ls = p ++ [l] := by
  obtain ⟨_, sp, r, rfl, _⟩ := h
  exact ⟨_, _, (List.dropLast_concat_getLast (by simp)).symm⟩
/-- another set of spans at each line -/
def Rel2 (R : Sp2 → Sp2 → Prop) : List Ln → List Ln → Prop
  | [], [] => True
  | (s, sp) :: r, (s', sp') :: r' => s = s' ∧ R sp sp' ∧ Rel2 R r r'
  | _, _ => False
theorem Rel2.snoc {R : Sp2 → Sp2 → Prop} {s : Int} {sp sp' : Sp2} (h : R sp sp') : ∀ {a b : List Ln}, Rel2 R a b → Rel2 R (a ++ [(s, sp)]) (b ++ [(s, sp')])
  | [], [], _ => ⟨rfl, h, trivial⟩
  | [], _ :: _, g => g.elim
  | _ :: _, [], g => g.elim
  | (u, up) :: a, (u', up') :: b, ⟨g1, g2, g3⟩ => ⟨g1, g2, Rel2.snoc h g3⟩
theorem Rel2.len {R : Sp2 → Sp2 → Prop} : ∀ {a b : List Ln}, Rel2 R a b → b.length = a.length
  | [], [], _ => rfl
  | [], _ :: _, g => g.elim
  | _ :: _, [], g => g.elim
  | (u, up) :: a, (u', up') :: b, ⟨_, _, g3⟩ => by simp only [List.length_cons, Rel2.len g3]
theorem Rel2.ls {R : Sp2 → Sp2 → Prop} {c : Int} (hR : ∀ x y, R x y → SpOk c 0 y) : ∀ {a b : List Ln} {lo : Int}, Rel2 R a b → LsOk c lo a → LsOk c lo b
  | [], [], _, _, _ => trivial
  | [], _ :: _, _, g, _ => g.elim
  | _ :: _, [], _, g, _ => g.elim
  | (u, up) :: a, (u', up') :: b, lo, ⟨g1, g2, g3⟩, ⟨h1, h2, h3⟩ => by
    subst g1
    exact ⟨h1, hR _ _ g2, Rel2.ls hR g3 h3⟩
theorem Rel2.tb {R : Sp2 → Sp2 → Prop} {c : Int} (hR : ∀ x y, R x y → SpOk c 0 y) {a b : List Ln} (g : Rel2 R a b) (h : TbOk c a) : TbOk c b := by
  obtain ⟨hc, sp, r, rfl, h1, h2⟩ := h
  cases b with
  | nil => exact g.elim
  | cons y b =>
    obtain ⟨s', sp'⟩ := y
    obtain ⟨rfl, g2, g3⟩ := g
    exact ⟨hc, sp', b, rfl, hR _ _ g2, Rel2.ls hR g3 h2⟩
theorem Rel2.fnd {R : Sp2 → Sp2 → Prop} {c t : Int} {f : Bool → Bool} (hR : ∀ x y, R x y → inS (t % c) y = f (inS (t % c) x)) : ∀ {a b : List Ln} {x y : Bool}, Rel2 R a b → y = f x → fnd c t y b = f (DL.fnd c t x a)
  | [], [], _, _, _, e => e
  | [], _ :: _, _, _, g, _ => g.elim
  | _ :: _, [], _, _, g, _ => g.elim
  | (u, up) :: a, (u', up') :: b, x, y, ⟨g1, g2, g3⟩, e => by
    subst g1
    simp only [DL.fnd]
    by_cases h : u ≤ t
    · rw [if_pos h, if_pos h]; exact Rel2.fnd hR g3 (hR _ _ g2)
    · rw [if_neg h, if_neg h]; exact Rel2.fnd hR g3 e
end DL

set_option maxHeartbeats 4000000
namespace DL
open PySem PySem.Spec PyProof.Rows L2
local macro_rules | `(tactic| walk_at "Ddl") => `(tactic| ((conv => whnf); (repeat ((first | refine And.intro rfl ?_ | refine And.intro trivial ?_ | refine And.intro ⟨rfl, trivial⟩ ?_ | refine And.intro ⟨rfl, rfl, trivial⟩ ?_ | refine ifb_t ?_ | refine ifb_f ?_ | refine ifb_nr ?_ | refine ifb_er ?_ | refine And.intro (by first | decide | omega | (unfold CMul; omega) | (unfold CDiv; omega) | (unfold CPow; decide) | (exact cpow1 (by omega) (by omega)) | (exact cpow1 (by dsimp only; omega) (by dsimp only; omega)) | (simp only [rngD_len, List.length_replicate, List.length_map, List.length_append, List.length_cons, List.length_nil, List.length_set] at *; omega)) ?_); conv => whnf))))
/-! ### other tables of the same set -/
/-- lines so far: in order, each below the bound -/
def Ch (c : Int) (L : List Ln) (b : Int) : Prop := (L = [] ∨ TbOk c L) ∧ ∀ l ∈ L, l.1 < b
theorem Ch.snoc {c b b' s : Int} {L : List Ln} {sp : Sp2} (hc : 1 ≤ c ∧ c ≤ 60) (h : Ch c L b) (hs : b ≤ s) (h0 : L = [] → s = 0) (hsp : SpOk c 0 sp) (hb : s < b') : TbOk c (L ++ [(s, sp)]) ∧ Ch c (L ++ [(s, sp)]) b' := by
  have ht : TbOk c (L ++ [(s, sp)]) := by
    rcases h.1 with rfl | h1
    · rw [h0 rfl]; exact .one hc hsp
    · exact h1.snoc (fun l hl => by have := h.2 l hl; omega) hsp
  refine ⟨ht, .inr ht, fun l hl => ?_⟩
  rcases List.mem_append.mp hl with hl | hl
  · have := h.2 l hl; omega
  · rw [List.mem_singleton.mp hl]; exact hb
end DL

set_option maxHeartbeats 4000000
namespace DL
open PySem PySem.Spec PyProof.Rows L2
local macro_rules | `(tactic| walk_at "Ddl") => `(tactic| ((conv => whnf); (repeat ((first | refine And.intro rfl ?_ | refine And.intro trivial ?_ | refine And.intro ⟨rfl, trivial⟩ ?_ | refine And.intro ⟨rfl, rfl, trivial⟩ ?_ | refine ifb_t ?_ | refine ifb_f ?_ | refine ifb_nr ?_ | refine ifb_er ?_ | refine And.intro (by first | decide | omega | (unfold CMul; omega) | (unfold CDiv; omega) | (unfold CPow; decide) | (exact cpow1 (by omega) (by omega)) | (exact cpow1 (by dsimp only; omega) (by dsimp only; omega)) | (simp only [rngD_len, List.length_replicate, List.length_map, List.length_append, List.length_cons, List.length_nil, List.length_set] at *; omega)) ?_); conv => whnf))))
end DL

set_option maxHeartbeats 800000
namespace DL
open PySem PySem.Spec PyProof.Rows L2
theorem stopE {w : WS} {env e : DEnv} {K : Kt} (h : env = e) (g : w e K) : Stop (w env K) := Stop.mk (h ▸ g)
theorem encW_tp (w : Wn) : ∃ t, encW w = .tup t := by cases w <;> exact ⟨_, rfl⟩
/-! ### drawn whens -/
def sp_law_leaf_when : FSpec where
  pre := fun ds => ∃ (ns : List Int) (c lo : Int), ds = [.lst (ns.map D.int), .int c, .int lo] ∧ 1 ≤ c ∧ c ≤ 60 ∧ 0 ≤ lo
  post := fun ds r ds' => ∀ xs c lo, ds = [.lst xs, .int c, .int lo] → ∃ (ns : List Int) (w : Wn), r = encW w ∧ ds' = [.lst (ns.map D.int), .int c, .int lo] ∧ WOk c w ∧ dep w = 1
theorem lw_post {ns ks : List Int} {c lo : Int} {w : Wn} (h : WOk c w) (hd : dep w = 1) : sp_law_leaf_when.post [.lst (ns.map D.int), .int c, .int lo] (encW w) [.lst (ks.map D.int), .int c, .int lo] := by
  intro xs c' lo' e
  simp only [List.cons.injEq, and_true, D.lst.injEq, D.int.injEq] at e
  obtain ⟨_, rfl, rfl⟩ := e
  exact ⟨ks, w, rfl, rfl, h, hd⟩
/-- slots: 0 draws, 1 cycle, 2 low, 3 start, 4 kind, 5 every, 6 length, 7 times, 8 k -/
def w_law_leaf_when : WS :=
    (cSeq (cAsg 3 [0, 1, 2] 3 (cOp fAddG (cVar 2) (cCallN 2 sp_law_take (cCons (cVar 0) (cCons (cC (.int 9)) cNil)))))
    (cSeq (cAsg 3 [0, 1, 2] 4 (cCallN 2 sp_law_take (cCons (cVar 0) (cCons (cC (.int 5)) cNil))))
    (cSeq (cIte (cOp fEqS (cVar 4) (cC (.int 0)))
      (cRet 3 (cTup (cCons (cC (.str (PySem.Str.ofString "from"))) (cCons (cVar 3) cNil))))
      cNilS)
    (cSeq (cIte (cOp fLt (cVar 4) (cC (.int 3)))
      (cRet 3 (cTup (cCons (cC (.str (PySem.Str.ofString "span"))) (cCons (cVar 3) (cCons (cOp fAddG (cOp fAddG (cVar 3) (cC (.int 1))) (cCallN 2 sp_law_take (cCons (cVar 0) (cCons (cC (.int 7)) cNil)))) cNil)))))
      cNilS)
    (cSeq (cAsg 3 [0, 1, 2] 5 (cCallN 2 sp_law_pick (cCons (cVar 0) (cCons (cLc [8] (iR2 (cC (.int 1)) (cOp fAddG (cVar 1) (cC (.int 1)))) (gN 3 [] 8) (cOp fEqS (cOp fMod (cBi fInt (cCons (cVar 1) cNil)) (cVar 8)) (cC (.int 0))) (cVar 8)) cNil))))
    (cSeq (cAsg 3 [0, 1, 2] 6 (cOp fAddG (cC (.int 1)) (cCallN 2 sp_law_take (cCons (cVar 0) (cCons (cVar 5) cNil)))))
    (cSeq (cAsg 3 [0, 1, 2] 7 (cC .non))
    (cSeq (cIte (cOp fEqS (cCallN 2 sp_law_take (cCons (cVar 0) (cCons (cC (.int 2)) cNil))) (cC (.int 0)))
      (cAsg 3 [0, 1, 2] 7 (cOp fAddG (cC (.int 1)) (cCallN 2 sp_law_take (cCons (cVar 0) (cCons (cC (.int 4)) cNil)))))
      cNilS)
    (cRet 3 (cTup (cCons (cC (.str (PySem.Str.ofString "round"))) (cCons (cVar 3) (cCons (cVar 6) (cCons (cVar 5) (cCons (cVar 7) cNil)))))))))))))))
def w'_law_leaf_when : WS :=
    (cSeq (cAsg 3 [0, 1, 2] 3 (cOp fAddG (cVar 2) (cCallN 2 sp_law_take (cCons (cVar 0) (cCons (cC (.int 9)) cNil)))))
    (cSeq (cAsg 3 [0, 1, 2] 4 (cCallN 2 sp_law_take (cCons (cVar 0) (cCons (cC (.int 5)) cNil))))
    (cSeq (cIte (cOp fEqS (cVar 4) (cC (.int 0)))
      (cRet 3 (cTup (cCons (cC (.str (PySem.Str.ofString "from"))) (cCons (cVar 3) cNil))))
      cNilS)
    (cCut (cIte (cOp fLt (cVar 4) (cC (.int 3)))
      (cRet 3 (cTup (cCons (cC (.str (PySem.Str.ofString "span"))) (cCons (cVar 3) (cCons (cOp fAddG (cOp fAddG (cVar 3) (cC (.int 1))) (cCallN 2 sp_law_take (cCons (cVar 0) (cCons (cC (.int 7)) cNil)))) cNil)))))
      cNilS)
    (cCut (cAsg 3 [0, 1, 2] 5 (cCallN 2 sp_law_pick (cCons (cVar 0) (cCons (cLc [8] (iR2 (cC (.int 1)) (cOp fAddG (cVar 1) (cC (.int 1)))) (gN 3 [] 8) (cOp fEqS (cOp fMod (cBi fInt (cCons (cVar 1) cNil)) (cVar 8)) (cC (.int 0))) (cVar 8)) cNil))))
    (cCut (cAsg 3 [0, 1, 2] 6 (cOp fAddG (cC (.int 1)) (cCallN 2 sp_law_take (cCons (cVar 0) (cCons (cVar 5) cNil)))))
    (cCut (cAsg 3 [0, 1, 2] 7 (cC .non))
    (cCut (cIte (cOp fEqS (cCallN 2 sp_law_take (cCons (cVar 0) (cCons (cC (.int 2)) cNil))) (cC (.int 0)))
      (cAsg 3 [0, 1, 2] 7 (cOp fAddG (cC (.int 1)) (cCallN 2 sp_law_take (cCons (cVar 0) (cCons (cC (.int 4)) cNil)))))
      cNilS)
    (cRet 3 (cTup (cCons (cC (.str (PySem.Str.ofString "round"))) (cCons (cVar 3) (cCons (cVar 6) (cCons (cVar 5) (cCons (cVar 7) cNil)))))))))))))))
theorem w'_law_leaf_when_eq : w_law_leaf_when = w'_law_leaf_when := by
  unfold w'_law_leaf_when
  simp only [cCut_eq]
  rfl
local macro_rules | `(tactic| walk_at "Ddlx") => `(tactic| ((conv => whnf); (repeat ((first | ((with_reducible refine And.intro (stOk_nl ?_ ?_) ?_); (focus (with_reducible first | assumption | exact encQ_nl _ | exact encO_nl _ | exact encC_nl _)); (focus exact rfl)) | ((refine pick_nl ?_ ?_); (focus (with_reducible first | assumption | exact encQ_nl _ | exact encO_nl _ | exact encC_nl _))) | ((with_reducible refine And.intro ?_ ?_); (focus (with_reducible first | assumption | exact encQ_nl _ | exact encO_nl _ | exact encC_nl _))) | ((with_reducible refine And.intro (immA_c ?_ ?_) ?_); (focus (first | (with_reducible first | assumption | exact encQ_nl _ | exact encO_nl _ | exact encC_nl _) | exact rfl)); (focus ((repeat ((with_reducible refine immA_c ?_ ?_); (focus (first | (with_reducible first | assumption | exact encQ_nl _ | exact encO_nl _ | exact encC_nl _) | exact rfl)))); exact rfl))) | refine And.intro rfl ?_ | refine And.intro trivial ?_ | refine And.intro ⟨rfl, trivial⟩ ?_ | refine And.intro ⟨rfl, rfl, trivial⟩ ?_ | refine ifb_nq (by first | assumption | decide) ?_ | refine ifb_pq (by assumption) ?_ | refine ifb_er ?_ | refine ifb_t ?_ | refine ifb_f ?_ | refine ifb_nr ?_ | refine ifb_er ?_ | ((with_reducible refine And.intro (?_ : (_ : Nat) ≤ _) ?_); (focus (first | decide | omega | (unfold CMul; omega) | (unfold CDiv; omega) | (unfold CPow; decide) | (exact cpow1 (by omega) (by omega)) | (simp only [rngD_len, List.length_replicate, List.length_map, List.length_append, List.length_cons, List.length_nil, List.length_set] at *; omega)))) | ((with_reducible refine And.intro (?_ : (_ : Int) ≤ _) ?_); (focus (first | decide | omega | (unfold CMul; omega) | (unfold CDiv; omega) | (unfold CPow; decide) | (exact cpow1 (by omega) (by omega)) | (simp only [rngD_len, List.length_replicate, List.length_map, List.length_append, List.length_cons, List.length_nil, List.length_set] at *; omega)))) | ((with_reducible refine And.intro (?_ : (_ : Nat) < _) ?_); (focus (first | decide | omega | (unfold CMul; omega) | (unfold CDiv; omega) | (unfold CPow; decide) | (exact cpow1 (by omega) (by omega)) | (simp only [rngD_len, List.length_replicate, List.length_map, List.length_append, List.length_cons, List.length_nil, List.length_set] at *; omega)))) | ((with_reducible refine And.intro (?_ : (_ : Int) < _) ?_); (focus (first | decide | omega | (unfold CMul; omega) | (unfold CDiv; omega) | (unfold CPow; decide) | (exact cpow1 (by omega) (by omega)) | (simp only [rngD_len, List.length_replicate, List.length_map, List.length_append, List.length_cons, List.length_nil, List.length_set] at *; omega)))) | ((with_reducible refine And.intro (?_ : CMul _ _) ?_); (focus (first | decide | omega | (unfold CMul; omega) | (unfold CDiv; omega) | (unfold CPow; decide) | (exact cpow1 (by omega) (by omega)) | (simp only [rngD_len, List.length_replicate, List.length_map, List.length_append, List.length_cons, List.length_nil, List.length_set] at *; omega)))) | ((with_reducible refine And.intro (?_ : CDiv _ _) ?_); (focus (first | decide | omega | (unfold CMul; omega) | (unfold CDiv; omega) | (unfold CPow; decide) | (exact cpow1 (by omega) (by omega)) | (simp only [rngD_len, List.length_replicate, List.length_map, List.length_append, List.length_cons, List.length_nil, List.length_set] at *; omega)))) | ((with_reducible refine And.intro (?_ : CPow _ _) ?_); (focus (first | decide | omega | (unfold CMul; omega) | (unfold CDiv; omega) | (unfold CPow; decide) | (exact cpow1 (by omega) (by omega)) | (simp only [rngD_len, List.length_replicate, List.length_map, List.length_append, List.length_cons, List.length_nil, List.length_set] at *; omega)))) | ((with_reducible refine And.intro (?_ : (_ : Nat) = _) ?_); (focus (first | decide | omega | (unfold CMul; omega) | (unfold CDiv; omega) | (unfold CPow; decide) | (exact cpow1 (by omega) (by omega)) | (simp only [rngD_len, List.length_replicate, List.length_map, List.length_append, List.length_cons, List.length_nil, List.length_set] at *; omega))))); (conv => whnf); (try dsimp only [List.set_cons_zero, List.set_cons_succ, upA, wipeE, back, List.getElem?_cons_zero, List.getElem?_cons_succ, Option.getD_some]))); (try dsimp only [List.set_cons_zero, List.set_cons_succ, upA, wipeE, back, List.getElem?_cons_zero, List.getElem?_cons_succ, Option.getD_some])))
theorem pure_law_leaf_when : ∀ ds, ds.length = 3 → sp_law_leaf_when.pre ds → w_law_leaf_when (env0 ds 6) { nx := fun e => sp_law_leaf_when.post ds .non (outs e 3), rt := fun d e => sp_law_leaf_when.post ds d (outs e 3) } := by
  rintro ds _ ⟨ns, c, lo, rfl, h0, h1, hlo⟩
  rw [w'_law_leaf_when_eq]
  walk_at "Ddlx"
  refine ⟨⟨⟨_, rfl⟩, by decide⟩, ?_⟩
  rintro _ _ ⟨ns2, v, rfl, rfl, hv0, hv1⟩
  walk_at "Ddlx"
  refine ⟨⟨⟨_, rfl⟩, by decide⟩, ?_⟩
  rintro _ _ ⟨ns3, kind, rfl, rfl, h2, h3⟩
  walk_at "Ddlx"
  refine ifb_dec (fun e => ?_) (fun e => ?_)
  · walk_at "Ddlx"
    exact lw_post (w := .frm (lo + v)) (by show 0 ≤ lo + v; omega) rfl
  walk_at "Ddlx"
  refine ifb_dec (fun e1 => ?_) (fun e1 => ?_)
  · walk_at "Ddlx"
    refine ⟨⟨⟨_, rfl⟩, by decide⟩, ?_⟩
    rintro _ _ ⟨ns4, u, rfl, rfl, hu0, hu1⟩
    walk_at "Ddlx"
    exact lw_post (w := .span (lo + v) (lo + v + 1 + u)) ⟨by omega, by omega⟩ rfl
  walk_at "Ddlx"
  refine stopE (e := [some (.lst (ns3.map D.int)), some (.int c), some (.int lo), some (.int (lo + v)), some (.int kind), none, none, none, none]) rfl ?_
  walk_at "Ddlx"
  refine lcGo_filter (dvd? c) id _ _ ?_ ?_
  · intro x nxt acc hx hn
    obtain ⟨k, rfl, hk1, hk2⟩ := rng_mem hx
    walk_at "Ddlx"
    refine ifb_dec (fun e5 => ?_) (fun e5 => ?_)
    · have : dvd? c (.int k) = true := decide_eq_true e5
      rw [this] at hn
      walk_at "Ddlx"
      exact hn
    · have : dvd? c (.int k) = false := decide_eq_false e5
      rw [this, if_neg (by decide), List.append_nil] at hn
      walk_at "Ddlx"
      exact hn
  obtain ⟨zs, hzs⟩ : ∃ zs, List.map id (List.filter (dvd? c) (rngD 1 (c + 1 - 1).toNat)) = zs := ⟨_, rfl⟩
  have hz : ∀ z ∈ zs, ∃ k, z = .int k ∧ 1 ≤ k ∧ k ≤ c ∧ c % k = 0 := by
    intro z hz
    rw [← hzs, List.map_id] at hz
    obtain ⟨h4, h5⟩ := List.mem_filter.mp hz
    obtain ⟨k, rfl, h6, h7⟩ := rng_mem h4
    exact ⟨k, rfl, h6, by omega, of_decide_eq_true h5⟩
  have hz0 : 0 < zs.length := by
    have : D.int 1 ∈ zs := by
      rw [← hzs, List.map_id]
      refine List.mem_filter.mpr ⟨?_, decide_eq_true (Int.emod_one c)⟩
      obtain ⟨m, hm⟩ : ∃ m, (c + 1 - 1).toNat = m + 1 := ⟨(c + 1 - 1).toNat - 1, by omega⟩
      rw [hm]; simp [rngD]
    exact List.length_pos_of_mem this
  have hz1 : zs.length ≤ 60 := by
    rw [← hzs, List.map_id]
    have := List.length_filter_le (dvd? c) (rngD 1 (c + 1 - 1).toNat)
    rw [rngD_len] at this
    omega
  rw [hzs]
  walk_at "Ddlx"
  refine ⟨⟨_, _, zs, rfl, rfl, hz0, by omega⟩, ?_⟩
  intro r ds' hp
  obtain ⟨ns4, hr, rfl⟩ := hp _ _ _ rfl rfl
  obtain ⟨ev, rfl, h4, h5, h6⟩ := hz r hr
  walk_at "Ddlx"
  refine stopE (e := [some (.lst (ns4.map D.int)), some (.int c), some (.int lo), some (.int (lo + v)), some (.int kind), some (.int ev), none, none, none]) rfl ?_
  walk_at "Ddlx"
  refine ⟨⟨⟨_, rfl⟩, by omega⟩, ?_⟩
  rintro _ _ ⟨ns5, v4, rfl, rfl, h7, h8⟩
  walk_at "Ddlx"
  refine stopE (e := [some (.lst (ns5.map D.int)), some (.int c), some (.int lo), some (.int (lo + v)), some (.int kind), some (.int ev), some (.int (1 + v4)), none, none]) rfl ?_
  walk_at "Ddlx"
  refine cutW' (fun e => ∃ (ks : List Int) (t : Option Int), (∀ k, t = some k → 1 ≤ k) ∧ e = [some (.lst (ks.map D.int)), some (.int c), some (.int lo), some (.int (lo + v)), some (.int kind), some (.int ev), some (.int (1 + v4)), some (encO t), none]) (fun nxt hn => ?_) ?_
  · walk_at "Ddlx"
    refine ⟨⟨⟨_, rfl⟩, by decide⟩, ?_⟩
    rintro _ _ ⟨ns6, v5, rfl, rfl, h9, h10⟩
    walk_at "Ddlx"
    refine ifb_dec (fun e5 => ?_) (fun e5 => ?_)
    · walk_at "Ddlx"
      refine ⟨⟨⟨_, rfl⟩, by decide⟩, ?_⟩
      rintro _ _ ⟨ns7, v6, rfl, rfl, h11, h12⟩
      walk_at "Ddlx"
      exact hn _ ⟨ns7, some (1 + v6), (fun k hk => by cases hk; omega), rfl⟩
    · walk_at "Ddlx"
      exact hn _ ⟨ns6, none, (fun k hk => by cases hk), rfl⟩
  rintro _ ⟨ks, t, ht, rfl⟩
  have h0v : 0 ≤ lo + v := by omega
  have h1v : 1 ≤ 1 + v4 := by omega
  have h2v : 1 + v4 ≤ ev := by omega
  have h3v : ev ≤ 60 := by omega
  cases t with
  | none =>
    walk_at "Ddlx"
    exact lw_post (w := .rnd (lo + v) (1 + v4) ev none) ⟨h0v, h1v, ⟨h2v, h3v⟩, h4, h6, ht⟩ rfl
  | some k =>
    walk_at "Ddlx"
    exact lw_post (w := .rnd (lo + v) (1 + v4) ev (some k)) ⟨h0v, h1v, ⟨h2v, h3v⟩, h4, h6, ht⟩ rfl
def sp_law_when : FSpec where
  pre := fun ds => ∃ (ns : List Int) (c lo : Int), ds = [.lst (ns.map D.int), .int c, .int lo] ∧ 1 ≤ c ∧ c ≤ 60 ∧ 0 ≤ lo
  post := fun ds r ds' => ∀ xs c lo, ds = [.lst xs, .int c, .int lo] → ∃ (ns : List Int) (w : Wn), r = encW w ∧ ds' = [.lst (ns.map D.int), .int c, .int lo] ∧ WOk c w ∧ dep w ≤ 3
/-- slots: 0 draws, 1 cycle, 2 low, 3 when, 4 k, 5 other, 6 kind -/
def w_law_when : WS :=
    (cSeq (cAsg 3 [0, 1, 2] 3 (cCallN 3 sp_law_leaf_when (cCons (cVar 0) (cCons (cVar 1) (cCons (cVar 2) cNil)))))
    (cSeq (cFor [0, 1, 2] (iR1 (cC (.int 2))) (gN 3 [0, 1, 2] 4)
      (cIte (cOp fEqS (cCallN 2 sp_law_take (cCons (cVar 0) (cCons (cC (.int 4)) cNil))) (cC (.int 0)))
          (cSeq (cAsg 3 [0, 1, 2] 5 (cCallN 3 sp_law_leaf_when (cCons (cVar 0) (cCons (cVar 1) (cCons (cVar 2) cNil)))))
            (cSeq (cAsg 3 [0, 1, 2] 6 (cOp fIx (cLst (cCons (cC (.str (PySem.Str.ofString "also"))) (cCons (cC (.str (PySem.Str.ofString "but"))) cNil))) (cCallN 2 sp_law_take (cCons (cVar 0) (cCons (cC (.int 2)) cNil)))))
            (cAsg 3 [0, 1, 2] 3 (cOp fIx (cLst (cCons (cTup (cCons (cVar 6) (cCons (cVar 3) (cCons (cVar 5) cNil)))) (cCons (cTup (cCons (cVar 6) (cCons (cVar 5) (cCons (cVar 3) cNil)))) cNil))) (cCallN 2 sp_law_take (cCons (cVar 0) (cCons (cC (.int 2)) cNil)))))))
          cNilS))
    (cRet 3 (cVar 3))))
def w'_law_when : WS :=
    (cSeq (cAsg 3 [0, 1, 2] 3 (cCallN 3 sp_law_leaf_when (cCons (cVar 0) (cCons (cVar 1) (cCons (cVar 2) cNil)))))
    (cSeq (cFor [0, 1, 2] (iR1 (cC (.int 2))) (gN 3 [0, 1, 2] 4)
      (cIte (cOp fEqS (cCallN 2 sp_law_take (cCons (cVar 0) (cCons (cC (.int 4)) cNil))) (cC (.int 0)))
          (cCut (cAsg 3 [0, 1, 2] 5 (cCallN 3 sp_law_leaf_when (cCons (cVar 0) (cCons (cVar 1) (cCons (cVar 2) cNil)))))
            (cCut (cAsg 3 [0, 1, 2] 6 (cOp fIx (cLst (cCons (cC (.str (PySem.Str.ofString "also"))) (cCons (cC (.str (PySem.Str.ofString "but"))) cNil))) (cCallN 2 sp_law_take (cCons (cVar 0) (cCons (cC (.int 2)) cNil)))))
            (cAsg 3 [0, 1, 2] 3 (cOp fIx (cLst (cCons (cTup (cCons (cVar 6) (cCons (cVar 3) (cCons (cVar 5) cNil)))) (cCons (cTup (cCons (cVar 6) (cCons (cVar 5) (cCons (cVar 3) cNil)))) cNil))) (cCallN 2 sp_law_take (cCons (cVar 0) (cCons (cC (.int 2)) cNil)))))))
          cNilS))
    (cRet 3 (cVar 3))))
theorem w'_law_when_eq : w_law_when = w'_law_when := by
  unfold w'_law_when
  simp only [cCut_eq]
  rfl
theorem pure_law_when : ∀ ds, ds.length = 3 → sp_law_when.pre ds → w_law_when (env0 ds 4) { nx := fun e => sp_law_when.post ds .non (outs e 3), rt := fun d e => sp_law_when.post ds d (outs e 3) } := by
  rintro ds _ ⟨ns, c, lo, rfl, h0, h1, hlo⟩
  rw [w'_law_when_eq]
  have leaf : ∀ ks : List Int, sp_law_leaf_when.pre [.lst (ks.map D.int), .int c, .int lo] := fun ks => ⟨ks, c, lo, rfl, h0, h1, hlo⟩
  walk_at "Ddlx"
  refine ⟨leaf ns, ?_⟩
  intro r ds' hp
  obtain ⟨k1, w, rfl, rfl, hw, hd⟩ := hp _ _ _ rfl
  obtain ⟨tw, ew⟩ := encW_tp w
  have hd' : (dep w : Int) ≤ 0 + 1 := by omega
  rw [ew]
  walk_at "Ddlx"
  refine loop_rng (fun j e => ∃ (ks : List Int) (w : Wn) (tw : List D) (o4 o5 o6 : Option D), (encW w = .tup tw ∧ WOk c w ∧ (dep w : Int) ≤ j + 1) ∧ e = [some (.lst (ks.map D.int)), some (.int c), some (.int lo), some (.tup tw), o4, o5, o6]) ⟨k1, w, tw, none, none, none, ⟨ew, hw, hd'⟩, rfl⟩ ?_ ?_
  · clear ew hd' hd hw
    rintro j env nxt hj0 hj1 ⟨ks, w, tw, o4, o5, o6, ⟨ew, hw, hd⟩, rfl⟩ hx
    walk_at "Ddlx"
    refine ⟨⟨⟨_, rfl⟩, by decide⟩, ?_⟩
    rintro _ _ ⟨k2, v, rfl, rfl, _, _⟩
    walk_at "Ddlx"
    refine ifb_dec (fun e => ?_) (fun e => ?_)
    · walk_at "Ddlx"
      refine ⟨leaf k2, ?_⟩
      intro r ds' hp
      obtain ⟨k3, u, rfl, rfl, hu, hud⟩ := hp _ _ _ rfl
      obtain ⟨tu, eu⟩ := encW_tp u
      rw [eu]
      walk_at "Ddlx"
      refine stopE (e := [some (.lst (k3.map D.int)), some (.int c), some (.int lo), some (.tup tw), some (.int j), some (.tup tu), o6]) rfl ?_
      walk_at "Ddlx"
      refine ⟨⟨⟨_, rfl⟩, by decide⟩, ?_⟩
      rintro _ _ ⟨k4, v2, rfl, rfl, a0, a1⟩
      have hv2 : v2 = 0 ∨ v2 = 1 := by omega
      have fin : ∀ (b : Bool) (x : Str), (x = if b then sAlso else sBut) → ∀ ks : List Int, (∀ o6, nxt [some (.lst (ks.map D.int)), some (.int c), some (.int lo), some (.tup [.str x, .tup tw, .tup tu]), some (.int j), some (.tup tu), o6]) ∧ (∀ o6, nxt [some (.lst (ks.map D.int)), some (.int c), some (.int lo), some (.tup [.str x, .tup tu, .tup tw]), some (.int j), some (.tup tu), o6]) := by
        intro b x hxx ks
        cases b <;> (subst hxx)
        · exact ⟨fun o6 => hx _ ⟨ks, .but w u, _, _, _, _, ⟨by simp [encW, ew, eu], ⟨hw, hu⟩, by simp only [dep]; omega⟩, rfl⟩, fun o6 => hx _ ⟨ks, .but u w, _, _, _, _, ⟨by simp [encW, ew, eu], ⟨hu, hw⟩, by simp only [dep]; omega⟩, rfl⟩⟩
        · exact ⟨fun o6 => hx _ ⟨ks, .also w u, _, _, _, _, ⟨by simp [encW, ew, eu], ⟨hw, hu⟩, by simp only [dep]; omega⟩, rfl⟩, fun o6 => hx _ ⟨ks, .also u w, _, _, _, _, ⟨by simp [encW, ew, eu], ⟨hu, hw⟩, by simp only [dep]; omega⟩, rfl⟩⟩
      rcases hv2 with rfl | rfl
      · walk_at "Ddlx"
        refine stopE (e := [some (.lst (k4.map D.int)), some (.int c), some (.int lo), some (.tup tw), some (.int j), some (.tup tu), some (.str sAlso)]) rfl ?_
        walk_at "Ddlx"
        refine ⟨⟨⟨_, rfl⟩, by decide⟩, ?_⟩
        rintro _ _ ⟨k5, v3, rfl, rfl, b0, b1⟩
        have hv3 : v3 = 0 ∨ v3 = 1 := by omega
        rcases hv3 with rfl | rfl
        · walk_at "Ddlx"
          exact (fin true _ rfl _).1 _
        · walk_at "Ddlx"
          exact (fin true _ rfl _).2 _
      · walk_at "Ddlx"
        refine stopE (e := [some (.lst (k4.map D.int)), some (.int c), some (.int lo), some (.tup tw), some (.int j), some (.tup tu), some (.str sBut)]) rfl ?_
        walk_at "Ddlx"
        refine ⟨⟨⟨_, rfl⟩, by decide⟩, ?_⟩
        rintro _ _ ⟨k5, v3, rfl, rfl, b0, b1⟩
        have hv3 : v3 = 0 ∨ v3 = 1 := by omega
        rcases hv3 with rfl | rfl
        · walk_at "Ddlx"
          exact (fin false _ rfl _).1 _
        · walk_at "Ddlx"
          exact (fin false _ rfl _).2 _
    · walk_at "Ddlx"
      exact hx _ ⟨k2, w, tw, _, _, _, ⟨ew, hw, by omega⟩, rfl⟩
  clear ew hd' hd hw
  rintro env ⟨ks, w, tw, o4, o5, o6, ⟨ew, hw, hd⟩, rfl⟩
  walk_at "Ddlx"
  intro xs c' lo' e
  simp only [List.cons.injEq, and_true, D.lst.injEq, D.int.injEq] at e
  obtain ⟨_, rfl, rfl⟩ := e
  exact ⟨ks, w, ew.symm, rfl, hw, by omega⟩
/-! ### shifts, made -/
def sp_Times_made : FSpec where
  pre := fun ds => ∃ (c : Int) (w : Wn), ds = [.int c, encW w] ∧ (1 ≤ c ∧ c ≤ 60) ∧ WOk c w ∧ dep w ≤ 12
  post := fun ds r ds' => ds' = ds ∧ ∀ (c : Int) (w : Wn), ds = [.int c, encW w] → ∃ l2, r = encX c l2 ∧ Shp c (hold w) 0 l2 ∧ l2.length ≤ 6 * 2 ^ dep w
/-- slots: 0 cycle, 1 when -/
def w_Times_made : WS :=
    (cSeq (cIte (cUn fNot (cCallN 1 sp_is_cycle (cCons (cVar 0) cNil)))
      cNever
      cNilS)
    (cRet 2 (cMk 0 pre_Times_init post_Times_init (cCallN 2 sp_when_table (cCons (cVar 0) (cCons (cVar 1) cNil))))))
theorem pure_Times_made : ∀ ds, ds.length = 2 → sp_Times_made.pre ds → w_Times_made (env0 ds 0) { nx := fun e => sp_Times_made.post ds .non (outs e 2), rt := fun d e => sp_Times_made.post ds d (outs e 2) } := by
  rintro ds _ ⟨c, w, rfl, hc, hw, hd⟩
  have wp : sp_when_table.pre [.int c, encW w] := ⟨c, w, rfl, hc, hw, by omega⟩
  have wq : ∀ r ds', sp_when_table.post [.int c, encW w] r ds' → ds' = [.int c, encW w] ∧ ∃ ls, r = encT c ls ∧ Shp c (hold w) 0 ls ∧ ls.length + 1 ≤ 6 * 2 ^ dep w := fun r ds' h => ⟨h.1, h.2 c w rfl⟩
  have fin : ∀ l2, Shp c (hold w) 0 l2 → l2.length ≤ 6 * 2 ^ dep w → sp_Times_made.post [.int c, encW w] (.obj 0 [encT c l2]) [.int c, encW w] := fun l2 h1 h2 => by
    refine ⟨rfl, fun c' w' e => ?_⟩
    simp only [List.cons.injEq, and_true, D.int.injEq] at e
    obtain ⟨rfl, e⟩ := e
    cases encW_inj e
    exact ⟨l2, rfl, h1, h2⟩
  obtain ⟨tw, ew⟩ := encW_tp w
  rw [ew] at wp wq fin ⊢
  walk_at "Ddlx"
  refine ⟨⟨c, rfl⟩, ?_⟩
  rintro _ _ ⟨rfl, h⟩
  obtain rfl := h c rfl
  rw [decide_eq_true hc.1, decide_eq_true hc.2]
  walk_at "Ddlx"
  try refine ⟨wp, ?_⟩
  intro r ds' h
  obtain ⟨rfl, l3, rfl, hs, hl3⟩ := wq _ _ h
  have hp3 : 2 ^ dep w ≤ 2 ^ 12 := Nat.pow_le_pow_right (by omega) hd
  have hp4 : (2 : Nat) ^ 12 = 4096 := rfl
  walk_at "Ddlx"
  refine ⟨⟨c, l3, rfl, hs.tb hc, by omega⟩, ?_⟩
  intro ds hp
  obtain ⟨l2, rfl, hs2, hl2⟩ := hp c l3 rfl
  walk_at "Ddlx"
  exact (fin l2 (hs2.congr hc.1 fun t h => hs.holds hc.1 false t h) (by omega)).2
end DL

set_option maxHeartbeats 800000
namespace DL
open PySem PySem.Spec PyProof.Rows L2
/-! ### whens that are not valid -/
def badW (c : Int) (w : Wn) : Prop := ∀ d, vB c w d = false
theorem bad_l {c : Int} {x y : Wn} (h : badW c x) : badW c (.also x y) ∧ badW c (.but x y) := by
  have key : ∀ d, (vB c x d && vB c y d) = false := fun d => by rw [h d]; rfl
  exact ⟨fun d => match d with | 0 => rfl | d + 1 => key d, fun d => match d with | 0 => rfl | d + 1 => key d⟩
theorem bad_r {c : Int} {x y : Wn} (h : badW c y) : badW c (.also x y) ∧ badW c (.but x y) := by
  have key : ∀ d, (vB c x d && vB c y d) = false := fun d => by rw [h d, Bool.and_false]
  exact ⟨fun d => match d with | 0 => rfl | d + 1 => key d, fun d => match d with | 0 => rfl | d + 1 => key d⟩
theorem vB_deep {c : Int} : ∀ {w : Wn} {d : Nat}, d < dep w → vB c w d = false
  | w, 0, _ => by cases w <;> rfl
  | .span a b, d + 1, h => by simp [dep] at h
  | .frm a, d + 1, h => by simp [dep] at h
  | .rnd a l e t, d + 1, h => by simp [dep] at h
  | .also x y, d + 1, h => by
    have h : d + 1 < max (dep x) (dep y) + 1 := h
    by_cases g : d < dep x
    · simp only [vB, vB_deep g, Bool.false_and]
    · simp only [vB, vB_deep (show d < dep y by omega), Bool.and_false]
  | .but x y, d + 1, h => by
    have h : d + 1 < max (dep x) (dep y) + 1 := h
    by_cases g : d < dep x
    · simp only [vB, vB_deep g, Bool.false_and]
    · simp only [vB, vB_deep (show d < dep y by omega), Bool.and_false]
def Bad_when_table (a b : D) : Prop := ∃ (c : Int) (w : Wn), a = .int c ∧ b = encW w ∧ (1 ≤ c ∧ c ≤ 60) ∧ vB c w 12 = false
local macro_rules | `(tactic| walk_at "Ddlx") => `(tactic| ((conv => whnf); (repeat ((first | ((with_reducible refine And.intro (stOk_nl ?_ ?_) ?_); (focus (with_reducible first | assumption | exact encQ_nl _ | exact encO_nl _ | exact encC_nl _)); (focus exact rfl)) | ((refine pick_nl ?_ ?_); (focus (with_reducible first | assumption | exact encQ_nl _ | exact encO_nl _ | exact encC_nl _))) | ((with_reducible refine And.intro ?_ ?_); (focus (with_reducible first | assumption | exact encQ_nl _ | exact encO_nl _ | exact encC_nl _))) | ((with_reducible refine And.intro (immA_c ?_ ?_) ?_); (focus (first | (with_reducible first | assumption | exact encQ_nl _ | exact encO_nl _ | exact encC_nl _) | exact rfl)); (focus ((repeat ((with_reducible refine immA_c ?_ ?_); (focus (first | (with_reducible first | assumption | exact encQ_nl _ | exact encO_nl _ | exact encC_nl _) | exact rfl)))); exact rfl))) | refine And.intro rfl ?_ | refine And.intro trivial ?_ | refine And.intro ⟨rfl, trivial⟩ ?_ | refine And.intro ⟨rfl, rfl, trivial⟩ ?_ | refine ifb_nq (by first | assumption | decide) ?_ | refine ifb_pq (by assumption) ?_ | refine ifb_er ?_ | refine ifb_t ?_ | refine ifb_f ?_ | refine ifb_nr ?_ | refine ifb_er ?_ | ((with_reducible refine And.intro (?_ : (_ : Nat) ≤ _) ?_); (focus (first | decide | omega | (unfold CMul; omega) | (unfold CDiv; omega) | (unfold CPow; decide) | (exact cpow1 (by omega) (by omega)) | (simp only [rngD_len, List.length_replicate, List.length_map, List.length_append, List.length_cons, List.length_nil, List.length_set] at *; omega)))) | ((with_reducible refine And.intro (?_ : (_ : Int) ≤ _) ?_); (focus (first | decide | omega | (unfold CMul; omega) | (unfold CDiv; omega) | (unfold CPow; decide) | (exact cpow1 (by omega) (by omega)) | (simp only [rngD_len, List.length_replicate, List.length_map, List.length_append, List.length_cons, List.length_nil, List.length_set] at *; omega)))) | ((with_reducible refine And.intro (?_ : (_ : Nat) < _) ?_); (focus (first | decide | omega | (unfold CMul; omega) | (unfold CDiv; omega) | (unfold CPow; decide) | (exact cpow1 (by omega) (by omega)) | (simp only [rngD_len, List.length_replicate, List.length_map, List.length_append, List.length_cons, List.length_nil, List.length_set] at *; omega)))) | ((with_reducible refine And.intro (?_ : (_ : Int) < _) ?_); (focus (first | decide | omega | (unfold CMul; omega) | (unfold CDiv; omega) | (unfold CPow; decide) | (exact cpow1 (by omega) (by omega)) | (simp only [rngD_len, List.length_replicate, List.length_map, List.length_append, List.length_cons, List.length_nil, List.length_set] at *; omega)))) | ((with_reducible refine And.intro (?_ : CMul _ _) ?_); (focus (first | decide | omega | (unfold CMul; omega) | (unfold CDiv; omega) | (unfold CPow; decide) | (exact cpow1 (by omega) (by omega)) | (simp only [rngD_len, List.length_replicate, List.length_map, List.length_append, List.length_cons, List.length_nil, List.length_set] at *; omega)))) | ((with_reducible refine And.intro (?_ : CDiv _ _) ?_); (focus (first | decide | omega | (unfold CMul; omega) | (unfold CDiv; omega) | (unfold CPow; decide) | (exact cpow1 (by omega) (by omega)) | (simp only [rngD_len, List.length_replicate, List.length_map, List.length_append, List.length_cons, List.length_nil, List.length_set] at *; omega)))) | ((with_reducible refine And.intro (?_ : CPow _ _) ?_); (focus (first | decide | omega | (unfold CMul; omega) | (unfold CDiv; omega) | (unfold CPow; decide) | (exact cpow1 (by omega) (by omega)) | (simp only [rngD_len, List.length_replicate, List.length_map, List.length_append, List.length_cons, List.length_nil, List.length_set] at *; omega)))) | ((with_reducible refine And.intro (?_ : (_ : Nat) = _) ?_); (focus (first | decide | omega | (unfold CMul; omega) | (unfold CDiv; omega) | (unfold CPow; decide) | (exact cpow1 (by omega) (by omega)) | (simp only [rngD_len, List.length_replicate, List.length_map, List.length_append, List.length_cons, List.length_nil, List.length_set] at *; omega))))); (conv => whnf); (try dsimp only [List.set_cons_zero, List.set_cons_succ, upA, wipeE, back, List.getElem?_cons_zero, List.getElem?_cons_succ, Option.getD_some]))); (try dsimp only [List.set_cons_zero, List.set_cons_succ, upA, wipeE, back, List.getElem?_cons_zero, List.getElem?_cons_succ, Option.getD_some])))
local macro_rules | `(tactic| walk_at "Ddl") => `(tactic| ((conv => whnf); (repeat ((first | refine And.intro rfl ?_ | refine And.intro trivial ?_ | refine And.intro ⟨rfl, trivial⟩ ?_ | refine And.intro ⟨rfl, rfl, trivial⟩ ?_ | refine ifb_t ?_ | refine ifb_f ?_ | refine ifb_nr ?_ | refine ifb_er ?_ | refine And.intro (by first | decide | omega | (unfold CMul; omega) | (unfold CDiv; omega) | (unfold CPow; decide) | (exact cpow1 (by omega) (by omega)) | (exact cpow1 (by dsimp only; omega) (by dsimp only; omega)) | (simp only [rngD_len, List.length_replicate, List.length_map, List.length_append, List.length_cons, List.length_nil, List.length_set] at *; omega)) ?_); conv => whnf))))
theorem bad_when_table : ∀ a b, Bad_when_table a b → (cUn fNot (cCallN 2 sp_is_when (cCons (cVar 0) (cCons (cVar 1) cNil)))) (env0 [a, b] 0) fun r _ => r = .val (.bl true) := by
  rintro a b ⟨c, w, rfl, rfl, hc, hb⟩
  obtain ⟨tw, ew⟩ := encW_tup w
  rw [ew]
  walk_at "Ddl"
  refine ⟨⟨c, w, by rw [ew], hc⟩, ?_⟩
  rintro _ _ ⟨rfl, h⟩
  cases h c w (by rw [ew])
  rw [hb]
  walk_at "Ddl"
  rfl
def BadC (b : D) : Prop := ∃ c : Int, b = .int c ∧ ¬ (1 ≤ c ∧ c ≤ 60)
def OkC (b : D) : Prop := ∃ c : Int, b = .int c ∧ 1 ≤ c ∧ c ≤ 60
def BadI (d : D) : Prop := ∃ (c : Int) (ls : List Ln), d = encT c ls ∧ tbB c ls = false
theorem badC : ∀ b c, BadC b → (cUn fNot (cCallN 1 sp_is_cycle (cCons (cVar 0) cNil))) (env0 [b, c] 0) fun r _ => r = .val (.bl true) := by
  rintro b c ⟨n, rfl, hn⟩
  walk_at "Ddlx"
  refine ⟨⟨n, rfl⟩, ?_⟩
  rintro _ _ ⟨rfl, h⟩
  obtain rfl := h n rfl
  have e : (decide (1 ≤ n) && decide (n ≤ 60)) = false := by
    rw [← Bool.not_eq_true, Bool.and_eq_true, decide_eq_true_eq, decide_eq_true_eq]
    exact hn
  rw [e]
  walk_at "Ddlx"
  rfl
theorem okC : ∀ b c, OkC b → (cUn fNot (cCallN 1 sp_is_cycle (cCons (cVar 0) cNil))) (env0 [b, c] 0) fun r _ => r = .val (.bl false) := by
  rintro b c ⟨n, rfl, h1, h2⟩
  walk_at "Ddlx"
  refine ⟨⟨n, rfl⟩, ?_⟩
  rintro _ _ ⟨rfl, h⟩
  obtain rfl := h n rfl
  rw [decide_eq_true h1, decide_eq_true h2]
  walk_at "Ddlx"
  rfl
theorem badI : ∀ d, BadI d → (cUn fNot (cCallN 1 sp_is_table (cCons (cVar 1) cNil))) [none, some d] fun r _ => r = .val (.bl true) := by
  rintro d ⟨c, ls, rfl, hb⟩
  walk_at "Ddlx"
  refine ⟨⟨c, ls, rfl⟩, ?_⟩
  rintro _ _ ⟨rfl, h⟩
  obtain rfl := h c ls rfl
  rw [hb]
  walk_at "Ddlx"
  rfl
/-- what comes of a call -/
abbrev sNone : Str := PySem.Str.ofString "none"
def ErrR (mk : Bool) (b c : D) (z : Str) : Prop := if mk = true then (sp_Times_made.pre [b, c] ∧ z = sNone) ∨ (BadC b ∧ z = errT 0) ∨ (OkC b ∧ Bad_when_table b c ∧ z = errT 2)
  else (pre_Times_init (.tup [b, c]) ∧ z = sNone) ∨ (BadI (.tup [b, c]) ∧ z = errT 1)
theorem ErrR.uniq {mk : Bool} {b c : D} {z z' : Str} (h : ErrR mk b c z) (g : ErrR mk b c z') : z = z' := by
  unfold ErrR at h g
  cases mk
  · rw [if_neg Bool.false_ne_true] at h g
    have no : pre_Times_init (.tup [b, c]) → BadI (.tup [b, c]) → False := by
      rintro ⟨n, ls, e, ht, _⟩ ⟨n', ls', e', hb⟩
      obtain ⟨rfl, rfl⟩ := encT_inj (e.symm.trans e')
      rw [ht.tbB] at hb
      cases hb
    rcases h with ⟨h, rfl⟩ | ⟨h, rfl⟩ <;> rcases g with ⟨g, rfl⟩ | ⟨g, rfl⟩ <;> first | rfl | exact (no h g).elim | exact (no g h).elim
  · rw [if_pos rfl] at h g
    have no1 : sp_Times_made.pre [b, c] → BadC b → False := by
      rintro ⟨n, w, e, hc, _⟩ ⟨n', rfl, hn⟩
      simp only [List.cons.injEq, D.int.injEq, and_true] at e
      obtain ⟨rfl, _⟩ := e
      exact hn hc
    have no2 : sp_Times_made.pre [b, c] → Bad_when_table b c → False := by
      rintro ⟨n, w, e, hc, hw, hd⟩ ⟨n', w', rfl, rfl, _, hb⟩
      simp only [List.cons.injEq, D.int.injEq, and_true] at e
      obtain ⟨rfl, e⟩ := e
      cases encW_inj e
      rw [vB_ok hc.1 hw hd] at hb
      cases hb
    have no3 : BadC b → OkC b → False := by
      rintro ⟨n, rfl, hn⟩ ⟨n', e, h1, h2⟩
      cases e
      exact hn ⟨h1, h2⟩
    rcases h with ⟨h, rfl⟩ | ⟨h, rfl⟩ | ⟨h, h', rfl⟩ <;> rcases g with ⟨g, rfl⟩ | ⟨g, rfl⟩ | ⟨g, g', rfl⟩ <;> first | rfl | exact (no1 h g).elim | exact (no1 g h).elim | exact (no2 h g').elim | exact (no2 g h').elim | exact (no3 h g).elim | exact (no3 g h).elim
def sp_law_error : FSpec where
  pre := fun ds => ∃ (mk : Bool) (b c : D) (z : Str), ds = [.bl mk, b, c] ∧ isL b = false ∧ isL c = false ∧ ErrR mk b c z
  post := fun ds r ds' => ds' = ds ∧ ∀ (mk : Bool) (b c : D) (z : Str), ds = [.bl mk, b, c] → ErrR mk b c z → r = .str z
/-- slots: 0 made, 1 one, 2 other, 3 e, 4 names -/
def w_law_error : WS :=
    (cSeq (cTryN 0 1 2 3 4 (fun b c => sp_Times_made.pre [b, c]) pre_Times_init BadC OkC Bad_when_table BadI)
    (cRet 3 (cC (.str (PySem.Str.ofString "none")))))
theorem pure_law_error : ∀ ds, ds.length = 3 → sp_law_error.pre ds → w_law_error (env0 ds 2) { nx := fun e => sp_law_error.post ds .non (outs e 3), rt := fun d e => sp_law_error.post ds d (outs e 3) } := by
  rintro ds _ ⟨mk, b, c, z, rfl, lb, lc, he⟩
  have fin : ∀ z', z = z' → ∀ (mk' : Bool) (b' c' : D) (z2 : Str), [D.bl mk, b, c] = [.bl mk', b', c'] → ErrR mk' b' c' z2 → D.str z' = .str z2 := by
    rintro _ rfl mk' b' c' z2 e g
    simp only [List.cons.injEq, D.bl.injEq, and_true] at e
    obtain ⟨rfl, rfl, rfl⟩ := e
    rw [he.uniq g]
  have nl : ∀ (l : Nat) (xs : List D), (env0 [D.bl mk, b, c] 2)[l]? ≠ some (some (D.lst xs)) := fun l xs e => by
    match l, e with
    | 0, e => cases e
    | 1, e =>
      have e1 : b = .lst xs := by simpa [env0] using e
      rw [e1] at lb
      cases lb
    | 2, e =>
      have e1 : c = .lst xs := by simpa [env0] using e
      rw [e1] at lc
      cases lc
    | 3, e => cases e
    | 4, e => cases e
    | n + 5, e => simp [env0] at e
  refine ⟨mk, b, c, rfl, rfl, rfl, rfl, rfl, by decide, lb, lc, nl, ?_⟩
  have norm : z = sNone → cRet 3 (cC (D.str (PySem.Str.ofString "none"))) (env0 [D.bl mk, b, c] 2) { nx := fun e => sp_law_error.post [D.bl mk, b, c] .non (outs e 3), rt := fun d e => sp_law_error.post [D.bl mk, b, c] d (outs e 3) } := fun e => by
    exact ⟨rfl, fin _ e⟩
  unfold ErrR at he
  cases mk
  · rw [if_neg Bool.false_ne_true] at he ⊢
    rcases he with ⟨h, e⟩ | ⟨h, e⟩
    · exact .inl ⟨h, norm e⟩
    · exact .inr ⟨h, rfl, fin _ e⟩
  · rw [if_pos rfl] at he ⊢
    rcases he with ⟨h, e⟩ | ⟨h, e⟩ | ⟨h, h', e⟩
    · exact .inl ⟨h, norm e⟩
    · exact .inr (.inl ⟨h, rfl, fin _ e⟩)
    · exact .inr (.inr ⟨h, h', rfl, fin _ e⟩)
end DL

set_option maxHeartbeats 800000
namespace DL
open PySem PySem.Spec PyProof.Rows L2
theorem badW_span {c a b : Int} (h : a < 0 ∨ b ≤ a) : badW c (.span a b) := fun d => match d with
  | 0 => rfl
  | d + 1 => by
    simp only [vB]
    rcases h with h | h
    · rw [decide_eq_false (show ¬ 0 ≤ a by omega)]; rfl
    · rw [decide_eq_false (show ¬ a < b by omega)]; exact Bool.and_false _
theorem badW_frm {c a : Int} (h : a < 0) : badW c (.frm a) := fun d => match d with
  | 0 => rfl
  | d + 1 => by
    simp only [vB]
    rw [decide_eq_false (show ¬ 0 ≤ a by omega)]
theorem badW_rnd {c a l e : Int} {t : Option Int} (h : a < 0 ∨ l < 1 ∨ e < l ∨ c % e ≠ 0 ∨ vT t = false) : badW c (.rnd a l e t) := fun d => match d with
  | 0 => rfl
  | d + 1 => by
    show vR c a l e t = false
    unfold vR
    rcases h with h | h | h | h | h
    · rw [decide_eq_false (show ¬ 0 ≤ a by omega)]; rfl
    · rw [decide_eq_false (show ¬ 1 ≤ l by omega)]; simp
    · rw [decide_eq_false (show ¬ l ≤ e by omega)]; simp
    · rw [decide_eq_false h]; simp
    · rw [h]; simp
theorem cut' {u v : WS} {env : DEnv} {K : Kt} (J : DEnv → Prop) (h1 : ∀ nxt : DEnv → Prop, (∀ e, J e → nxt e) → u env { K with nx := nxt }) (h2 : ∀ e, J e → v e K) : cCut u v env K := h1 _ fun e h => Stop.mk (h2 e h)
def sdv? (c : Int) : D → Bool
  | .int k => decide (0 < c % k)
  | _ => false
def sp_law_bad_when : FSpec where
  pre := fun ds => ∃ (ns ms : List Int) (c : Int), ds = [.lst (ns.map D.int), .rol (ms.map D.int), .int c] ∧ 1 ≤ c ∧ c ≤ 60
  post := fun ds r ds' => ∀ (l s : D) (c : Int), ds = [l, s, .int c] → ∃ (ns : List Int) (w : Wn), r = encW w ∧ ds' = [.lst (ns.map D.int), s, .int c] ∧ badW c w
/-- slots: 0 draws, 1 script, 2 cycle, 3 kind, 4 start, 5 when, 6 strange, 7 good, 8 name, 9 every -/
def w_law_bad_when : WS :=
    (cSeq (cAsg 3 [0, 1, 2] 3 (cCallN 2 sp_law_take (cCons (cVar 0) (cCons (cC (.int 10)) cNil))))
    (cSeq (cAsg 3 [0, 1, 2] 4 (cCallN 2 sp_law_size (cCons (cVar 0) (cCons (cVar 1) cNil))))
    (cSeq (cAsg 3 [0, 1, 2] 5 (cTup (cCons (cC (.str (PySem.Str.ofString "span"))) (cCons (cVar 4) (cCons (cOp fSub (cVar 4) (cCallN 2 sp_law_size (cCons (cVar 0) (cCons (cVar 1) cNil)))) cNil)))))
    (cSeq (cAsg 3 [0, 1, 2] 6 (cLc [9] (iR2 (cC (.int 1)) (cVar 2)) (gN 3 [] 9) (cOp fGt (cOp fMod (cBi fInt (cCons (cVar 2) cNil)) (cVar 9)) (cC (.int 0))) (cVar 9)))
    (cSeq (cIte (cAnd (cOp fEqS (cVar 3) (cC (.int 9))) (cOp fGt (cBi fLen (cCons (cVar 6) cNil)) (cC (.int 0))))
      (cAsg 3 [0, 1, 2] 5 (cTup (cCons (cC (.str (PySem.Str.ofString "round"))) (cCons (cVar 4) (cCons (cC (.int 1)) (cCons (cCallN 2 sp_law_pick (cCons (cVar 0) (cCons (cVar 6) cNil))) (cCons (cOp fIx (cLst (cCons (cC .non) (cCons (cC (.int 2)) cNil))) (cCallN 2 sp_law_take (cCons (cVar 0) (cCons (cC (.int 2)) cNil)))) cNil)))))))
      cNilS)
    (cSeq (cIte (cOp fEqS (cVar 3) (cC (.int 1)))
      (cAsg 3 [0, 1, 2] 5 (cTup (cCons (cC (.str (PySem.Str.ofString "span"))) (cCons (cOp fSub (cUn fNeg (cC (.int 1))) (cVar 4)) (cCons (cCallN 2 sp_law_size (cCons (cVar 0) (cCons (cVar 1) cNil))) cNil)))))
      cNilS)
    (cSeq (cIte (cOp fEqS (cVar 3) (cC (.int 2)))
      (cAsg 3 [0, 1, 2] 5 (cTup (cCons (cC (.str (PySem.Str.ofString "from"))) (cCons (cOp fSub (cUn fNeg (cC (.int 1))) (cVar 4)) cNil))))
      cNilS)
    (cSeq (cIte (cOp fEqS (cVar 3) (cC (.int 3)))
      (cAsg 3 [0, 1, 2] 5 (cTup (cCons (cC (.str (PySem.Str.ofString "round"))) (cCons (cVar 4) (cCons (cC (.int 0)) (cCons (cC (.int 1)) (cCons (cC .non) cNil)))))))
      cNilS)
    (cSeq (cIte (cOp fEqS (cVar 3) (cC (.int 4)))
      (cAsg 3 [0, 1, 2] 5 (cTup (cCons (cC (.str (PySem.Str.ofString "round"))) (cCons (cVar 4) (cCons (cOp fAddG (cOp fAddG (cVar 2) (cC (.int 1))) (cCallN 2 sp_law_take (cCons (cVar 0) (cCons (cC (.int 3)) cNil)))) (cCons (cVar 2) (cCons (cC .non) cNil)))))))
      cNilS)
    (cSeq (cIte (cOp fEqS (cVar 3) (cC (.int 5)))
      (cAsg 3 [0, 1, 2] 5 (cTup (cCons (cC (.str (PySem.Str.ofString "round"))) (cCons (cVar 4) (cCons (cC (.int 1)) (cCons (cOp fAddG (cOp fAddG (cVar 2) (cC (.int 1))) (cCallN 2 sp_law_size (cCons (cVar 0) (cCons (cVar 1) cNil)))) (cCons (cC (.int 1)) cNil)))))))
      cNilS)
    (cSeq (cIte (cOp fEqS (cVar 3) (cC (.int 6)))
      (cAsg 3 [0, 1, 2] 5 (cTup (cCons (cC (.str (PySem.Str.ofString "round"))) (cCons (cVar 4) (cCons (cC (.int 1)) (cCons (cVar 2) (cCons (cOp fSub (cC (.int 0)) (cCallN 2 sp_law_size (cCons (cVar 0) (cCons (cVar 1) cNil)))) cNil)))))))
      cNilS)
    (cSeq (cIte (cOp fEqS (cVar 3) (cC (.int 7)))
      (cAsg 3 [0, 1, 2] 5 (cTup (cCons (cC (.str (PySem.Str.ofString "round"))) (cCons (cOp fSub (cUn fNeg (cC (.int 1))) (cVar 4)) (cCons (cC (.int 1)) (cCons (cC (.int 1)) (cCons (cC (.int 2)) cNil)))))))
      cNilS)
    (cSeq (cIte (cOp fEqS (cVar 3) (cC (.int 8)))
      (cAsg 3 [0, 1, 2] 5 (cTup (cCons (cC (.str (PySem.Str.ofString "round"))) (cCons (cVar 4) (cCons (cC (.int 1)) (cCons (cOp fSub (cC (.int 0)) (cCallN 2 sp_law_take (cCons (cVar 0) (cCons (cC (.int 3)) cNil)))) (cCons (cC .non) cNil)))))))
      cNilS)
    (cSeq (cIte (cOp fEqS (cCallN 2 sp_law_take (cCons (cVar 0) (cCons (cC (.int 2)) cNil))) (cC (.int 0)))
      (cRet 3 (cVar 5))
      cNilS)
    (cSeq (cAsg 3 [0, 1, 2] 7 (cCallN 3 sp_law_when (cCons (cVar 0) (cCons (cVar 2) (cCons (cVar 4) cNil)))))
    (cSeq (cAsg 3 [0, 1, 2] 8 (cOp fIx (cLst (cCons (cC (.str (PySem.Str.ofString "also"))) (cCons (cC (.str (PySem.Str.ofString "but"))) cNil))) (cCallN 2 sp_law_take (cCons (cVar 0) (cCons (cC (.int 2)) cNil)))))
    (cRet 3 (cOp fIx (cLst (cCons (cTup (cCons (cVar 8) (cCons (cVar 5) (cCons (cVar 7) cNil)))) (cCons (cTup (cCons (cVar 8) (cCons (cVar 7) (cCons (cVar 5) cNil)))) cNil))) (cCallN 2 sp_law_take (cCons (cVar 0) (cCons (cC (.int 2)) cNil)))))))))))))))))))))
def w'_law_bad_when : WS :=
    (cCut (cAsg 3 [0, 1, 2] 3 (cCallN 2 sp_law_take (cCons (cVar 0) (cCons (cC (.int 10)) cNil))))
    (cCut (cAsg 3 [0, 1, 2] 4 (cCallN 2 sp_law_size (cCons (cVar 0) (cCons (cVar 1) cNil))))
    (cCut (cAsg 3 [0, 1, 2] 5 (cTup (cCons (cC (.str (PySem.Str.ofString "span"))) (cCons (cVar 4) (cCons (cOp fSub (cVar 4) (cCallN 2 sp_law_size (cCons (cVar 0) (cCons (cVar 1) cNil)))) cNil)))))
    (cCut (cAsg 3 [0, 1, 2] 6 (cLc [9] (iR2 (cC (.int 1)) (cVar 2)) (gN 3 [] 9) (cOp fGt (cOp fMod (cBi fInt (cCons (cVar 2) cNil)) (cVar 9)) (cC (.int 0))) (cVar 9)))
    (cCut (cIte (cAnd (cOp fEqS (cVar 3) (cC (.int 9))) (cOp fGt (cBi fLen (cCons (cVar 6) cNil)) (cC (.int 0))))
      (cAsg 3 [0, 1, 2] 5 (cTup (cCons (cC (.str (PySem.Str.ofString "round"))) (cCons (cVar 4) (cCons (cC (.int 1)) (cCons (cCallN 2 sp_law_pick (cCons (cVar 0) (cCons (cVar 6) cNil))) (cCons (cOp fIx (cLst (cCons (cC .non) (cCons (cC (.int 2)) cNil))) (cCallN 2 sp_law_take (cCons (cVar 0) (cCons (cC (.int 2)) cNil)))) cNil)))))))
      cNilS)
    (cCut (cIte (cOp fEqS (cVar 3) (cC (.int 1)))
      (cAsg 3 [0, 1, 2] 5 (cTup (cCons (cC (.str (PySem.Str.ofString "span"))) (cCons (cOp fSub (cUn fNeg (cC (.int 1))) (cVar 4)) (cCons (cCallN 2 sp_law_size (cCons (cVar 0) (cCons (cVar 1) cNil))) cNil)))))
      cNilS)
    (cCut (cIte (cOp fEqS (cVar 3) (cC (.int 2)))
      (cAsg 3 [0, 1, 2] 5 (cTup (cCons (cC (.str (PySem.Str.ofString "from"))) (cCons (cOp fSub (cUn fNeg (cC (.int 1))) (cVar 4)) cNil))))
      cNilS)
    (cCut (cIte (cOp fEqS (cVar 3) (cC (.int 3)))
      (cAsg 3 [0, 1, 2] 5 (cTup (cCons (cC (.str (PySem.Str.ofString "round"))) (cCons (cVar 4) (cCons (cC (.int 0)) (cCons (cC (.int 1)) (cCons (cC .non) cNil)))))))
      cNilS)
    (cCut (cIte (cOp fEqS (cVar 3) (cC (.int 4)))
      (cAsg 3 [0, 1, 2] 5 (cTup (cCons (cC (.str (PySem.Str.ofString "round"))) (cCons (cVar 4) (cCons (cOp fAddG (cOp fAddG (cVar 2) (cC (.int 1))) (cCallN 2 sp_law_take (cCons (cVar 0) (cCons (cC (.int 3)) cNil)))) (cCons (cVar 2) (cCons (cC .non) cNil)))))))
      cNilS)
    (cCut (cIte (cOp fEqS (cVar 3) (cC (.int 5)))
      (cAsg 3 [0, 1, 2] 5 (cTup (cCons (cC (.str (PySem.Str.ofString "round"))) (cCons (cVar 4) (cCons (cC (.int 1)) (cCons (cOp fAddG (cOp fAddG (cVar 2) (cC (.int 1))) (cCallN 2 sp_law_size (cCons (cVar 0) (cCons (cVar 1) cNil)))) (cCons (cC (.int 1)) cNil)))))))
      cNilS)
    (cCut (cIte (cOp fEqS (cVar 3) (cC (.int 6)))
      (cAsg 3 [0, 1, 2] 5 (cTup (cCons (cC (.str (PySem.Str.ofString "round"))) (cCons (cVar 4) (cCons (cC (.int 1)) (cCons (cVar 2) (cCons (cOp fSub (cC (.int 0)) (cCallN 2 sp_law_size (cCons (cVar 0) (cCons (cVar 1) cNil)))) cNil)))))))
      cNilS)
    (cCut (cIte (cOp fEqS (cVar 3) (cC (.int 7)))
      (cAsg 3 [0, 1, 2] 5 (cTup (cCons (cC (.str (PySem.Str.ofString "round"))) (cCons (cOp fSub (cUn fNeg (cC (.int 1))) (cVar 4)) (cCons (cC (.int 1)) (cCons (cC (.int 1)) (cCons (cC (.int 2)) cNil)))))))
      cNilS)
    (cCut (cIte (cOp fEqS (cVar 3) (cC (.int 8)))
      (cAsg 3 [0, 1, 2] 5 (cTup (cCons (cC (.str (PySem.Str.ofString "round"))) (cCons (cVar 4) (cCons (cC (.int 1)) (cCons (cOp fSub (cC (.int 0)) (cCallN 2 sp_law_take (cCons (cVar 0) (cCons (cC (.int 3)) cNil)))) (cCons (cC .non) cNil)))))))
      cNilS)
    (cCut (cIte (cOp fEqS (cCallN 2 sp_law_take (cCons (cVar 0) (cCons (cC (.int 2)) cNil))) (cC (.int 0)))
      (cRet 3 (cVar 5))
      cNilS)
    (cCut (cAsg 3 [0, 1, 2] 7 (cCallN 3 sp_law_when (cCons (cVar 0) (cCons (cVar 2) (cCons (cVar 4) cNil)))))
    (cCut (cAsg 3 [0, 1, 2] 8 (cOp fIx (cLst (cCons (cC (.str (PySem.Str.ofString "also"))) (cCons (cC (.str (PySem.Str.ofString "but"))) cNil))) (cCallN 2 sp_law_take (cCons (cVar 0) (cCons (cC (.int 2)) cNil)))))
    (cRet 3 (cOp fIx (cLst (cCons (cTup (cCons (cVar 8) (cCons (cVar 5) (cCons (cVar 7) cNil)))) (cCons (cTup (cCons (cVar 8) (cCons (cVar 7) (cCons (cVar 5) cNil)))) cNil))) (cCallN 2 sp_law_take (cCons (cVar 0) (cCons (cC (.int 2)) cNil)))))))))))))))))))))
theorem w'_law_bad_when_eq : w_law_bad_when = w'_law_bad_when := by
  unfold w'_law_bad_when
  simp only [cCut_eq]
  rfl
local macro_rules | `(tactic| walk_at "Ddlx") => `(tactic| ((conv => whnf); (repeat ((first | ((with_reducible refine And.intro (stOk_nl ?_ ?_) ?_); (focus (with_reducible first | assumption | exact encQ_nl _ | exact encO_nl _ | exact encC_nl _)); (focus exact rfl)) | ((refine pick_nl ?_ ?_); (focus (with_reducible first | assumption | exact encQ_nl _ | exact encO_nl _ | exact encC_nl _))) | ((with_reducible refine And.intro ?_ ?_); (focus (with_reducible first | assumption | exact encQ_nl _ | exact encO_nl _ | exact encC_nl _))) | ((with_reducible refine And.intro (immA_c ?_ ?_) ?_); (focus (first | (with_reducible first | assumption | exact encQ_nl _ | exact encO_nl _ | exact encC_nl _) | exact rfl)); (focus ((repeat ((with_reducible refine immA_c ?_ ?_); (focus (first | (with_reducible first | assumption | exact encQ_nl _ | exact encO_nl _ | exact encC_nl _) | exact rfl)))); exact rfl))) | refine And.intro rfl ?_ | refine And.intro trivial ?_ | refine And.intro ⟨rfl, trivial⟩ ?_ | refine And.intro ⟨rfl, rfl, trivial⟩ ?_ | refine ifb_nq (by first | assumption | decide) ?_ | refine ifb_pq (by assumption) ?_ | refine ifb_er ?_ | refine ifb_t ?_ | refine ifb_f ?_ | refine ifb_nr ?_ | refine ifb_er ?_ | ((with_reducible refine And.intro (?_ : (_ : Nat) ≤ _) ?_); (focus (first | decide | omega | (unfold CMul; omega) | (unfold CDiv; omega) | (unfold CPow; decide) | (exact cpow1 (by omega) (by omega)) | (simp only [rngD_len, List.length_replicate, List.length_map, List.length_append, List.length_cons, List.length_nil, List.length_set] at *; omega)))) | ((with_reducible refine And.intro (?_ : (_ : Int) ≤ _) ?_); (focus (first | decide | omega | (unfold CMul; omega) | (unfold CDiv; omega) | (unfold CPow; decide) | (exact cpow1 (by omega) (by omega)) | (simp only [rngD_len, List.length_replicate, List.length_map, List.length_append, List.length_cons, List.length_nil, List.length_set] at *; omega)))) | ((with_reducible refine And.intro (?_ : (_ : Nat) < _) ?_); (focus (first | decide | omega | (unfold CMul; omega) | (unfold CDiv; omega) | (unfold CPow; decide) | (exact cpow1 (by omega) (by omega)) | (simp only [rngD_len, List.length_replicate, List.length_map, List.length_append, List.length_cons, List.length_nil, List.length_set] at *; omega)))) | ((with_reducible refine And.intro (?_ : (_ : Int) < _) ?_); (focus (first | decide | omega | (unfold CMul; omega) | (unfold CDiv; omega) | (unfold CPow; decide) | (exact cpow1 (by omega) (by omega)) | (simp only [rngD_len, List.length_replicate, List.length_map, List.length_append, List.length_cons, List.length_nil, List.length_set] at *; omega)))) | ((with_reducible refine And.intro (?_ : CMul _ _) ?_); (focus (first | decide | omega | (unfold CMul; omega) | (unfold CDiv; omega) | (unfold CPow; decide) | (exact cpow1 (by omega) (by omega)) | (simp only [rngD_len, List.length_replicate, List.length_map, List.length_append, List.length_cons, List.length_nil, List.length_set] at *; omega)))) | ((with_reducible refine And.intro (?_ : CDiv _ _) ?_); (focus (first | decide | omega | (unfold CMul; omega) | (unfold CDiv; omega) | (unfold CPow; decide) | (exact cpow1 (by omega) (by omega)) | (simp only [rngD_len, List.length_replicate, List.length_map, List.length_append, List.length_cons, List.length_nil, List.length_set] at *; omega)))) | ((with_reducible refine And.intro (?_ : CPow _ _) ?_); (focus (first | decide | omega | (unfold CMul; omega) | (unfold CDiv; omega) | (unfold CPow; decide) | (exact cpow1 (by omega) (by omega)) | (simp only [rngD_len, List.length_replicate, List.length_map, List.length_append, List.length_cons, List.length_nil, List.length_set] at *; omega)))) | ((with_reducible refine And.intro (?_ : (_ : Nat) = _) ?_); (focus (first | decide | omega | (unfold CMul; omega) | (unfold CDiv; omega) | (unfold CPow; decide) | (exact cpow1 (by omega) (by omega)) | (simp only [rngD_len, List.length_replicate, List.length_map, List.length_append, List.length_cons, List.length_nil, List.length_set] at *; omega))))); (conv => whnf); (try dsimp only [List.set_cons_zero, List.set_cons_succ, upA, wipeE, back, List.getElem?_cons_zero, List.getElem?_cons_succ, Option.getD_some]))); (try dsimp only [List.set_cons_zero, List.set_cons_succ, upA, wipeE, back, List.getElem?_cons_zero, List.getElem?_cons_succ, Option.getD_some])))
theorem pure_law_bad_when : ∀ ds, ds.length = 3 → sp_law_bad_when.pre ds → w_law_bad_when (env0 ds 7) { nx := fun e => sp_law_bad_when.post ds .non (outs e 3), rt := fun d e => sp_law_bad_when.post ds d (outs e 3) } := by
  rintro ds _ ⟨ns, ms, c, rfl, c0, c1⟩
  rw [w'_law_bad_when_eq]
  have fin : ∀ (ks : List Int) (d : D) (w : Wn), d = encW w → badW c w → ∀ (l s : D) (c' : Int), [.lst (ns.map D.int), .rol (ms.map D.int), .int c] = [l, s, .int c'] → ∃ (ns' : List Int) (w' : Wn), d = encW w' ∧ [D.lst (ks.map D.int), .rol (ms.map D.int), .int c] = [.lst (ns'.map D.int), s, .int c'] ∧ badW c' w' := fun ks d w h1 h2 l s c' e => by
    simp only [List.cons.injEq, and_true, D.int.injEq] at e
    obtain ⟨_, rfl, rfl⟩ := e
    exact ⟨ks, w, h1, rfl, h2⟩
  walk_at "Ddlx"
  refine ⟨⟨⟨_, rfl⟩, by decide⟩, ?_⟩
  rintro _ _ ⟨k1, kd, rfl, rfl, kd0, kd1⟩
  walk_at "Ddlx"
  refine stopE (e := [some (.lst (k1.map D.int)), some (.rol (ms.map D.int)), some (.int c), some (.int kd), none, none, none, none, none, none]) rfl ?_
  walk_at "Ddlx"
  refine ⟨⟨⟨_, rfl⟩, _, rfl⟩, ?_⟩
  rintro _ _ ⟨k2, st, rfl, rfl, hst⟩
  walk_at "Ddlx"
  refine stopE (e := [some (.lst (k2.map D.int)), some (.rol (ms.map D.int)), some (.int c), some (.int kd), some (.int st), none, none, none, none, none]) rfl ?_
  walk_at "Ddlx"
  refine ⟨⟨⟨_, rfl⟩, _, rfl⟩, ?_⟩
  rintro _ _ ⟨k3, v, rfl, rfl, hv⟩
  walk_at "Ddlx"
  have hw0 : badW c (.span st (st - v)) := badW_span (.inr (by omega))
  obtain ⟨w0, t0, ew0, hb0, et0⟩ : ∃ (w : Wn) (t : List D), encW w = .tup t ∧ badW c w ∧ [.str (PySem.Str.ofString "span"), .int st, .int (st - v)] = t := ⟨_, _, rfl, hw0, rfl⟩
  refine stopE (e := [some (.lst (k3.map D.int)), some (.rol (ms.map D.int)), some (.int c), some (.int kd), some (.int st), some (.tup t0), none, none, none, none]) (by rw [← et0]) ?_
  clear hw0 et0
  walk_at "Ddlx"
  refine lcGo_filter (sdv? c) id _ _ ?_ ?_
  · intro x nxt acc hx hn
    obtain ⟨k, rfl, hk1, hk2⟩ := rng_mem hx
    walk_at "Ddlx"
    refine ifb_dec (fun e5 => ?_) (fun e5 => ?_)
    · have : sdv? c (.int k) = true := decide_eq_true e5
      rw [this] at hn
      walk_at "Ddlx"
      exact hn
    · have : sdv? c (.int k) = false := decide_eq_false e5
      rw [this, if_neg (by decide), List.append_nil] at hn
      walk_at "Ddlx"
      exact hn
  obtain ⟨zs, hzs⟩ : ∃ zs, List.map id (List.filter (sdv? c) (rngD 1 (c - 1).toNat)) = zs := ⟨_, rfl⟩
  have hz : ∀ z ∈ zs, ∃ k, z = .int k ∧ 1 ≤ k ∧ c % k ≠ 0 := by
    intro z hz
    rw [← hzs, List.map_id] at hz
    obtain ⟨h4, h5⟩ := List.mem_filter.mp hz
    obtain ⟨k, rfl, h6, h7⟩ := rng_mem h4
    have : 0 < c % k := of_decide_eq_true h5
    exact ⟨k, rfl, h6, by omega⟩
  have hz1 : zs.length ≤ 60 := by
    rw [← hzs, List.map_id]
    have := List.length_filter_le (sdv? c) (rngD 1 (c - 1).toNat)
    rw [rngD_len] at this
    omega
  rw [hzs]
  walk_at "Ddlx"
  refine cutW' (fun e => ∃ (ks : List Int) (w : Wn) (tw : List D), (encW w = .tup tw ∧ badW c w) ∧ e = [some (.lst (ks.map D.int)), some (.rol (ms.map D.int)), some (.int c), some (.int kd), some (.int st), some (.tup tw), some (.lst zs), none, none, none]) (fun nxt hn => ?_) ?_
  · walk_at "Ddlx"
    refine ifb_dec (fun z9 => ?_) (fun z9 => ?_)
    · walk_at "Ddlx"
      refine ifb_dec (fun g => ?_) (fun g => ?_)
      · walk_at "Ddlx"
        refine ⟨⟨_, _, zs, rfl, rfl, by omega, by omega⟩, ?_⟩
        intro r ds' hp
        obtain ⟨k4, hr, rfl⟩ := hp _ _ _ rfl rfl
        obtain ⟨ev, rfl, h4, h5⟩ := hz r hr
        walk_at "Ddlx"
        refine ⟨⟨⟨_, rfl⟩, by decide⟩, ?_⟩
        rintro _ _ ⟨k5, u, rfl, rfl, u0, u1⟩
        have hu : u = 0 ∨ u = 1 := by omega
        rcases hu with rfl | rfl
        · walk_at "Ddlx"
          exact hn _ ⟨k5, .rnd st 1 ev none, _, ⟨rfl, badW_rnd (.inr (.inr (.inr (.inl h5))))⟩, rfl⟩
        · walk_at "Ddlx"
          exact hn _ ⟨k5, .rnd st 1 ev (some 2), _, ⟨rfl, badW_rnd (.inr (.inr (.inr (.inl h5))))⟩, rfl⟩
      · walk_at "Ddlx"
        exact hn _ ⟨k3, w0, t0, ⟨ew0, hb0⟩, rfl⟩
    · walk_at "Ddlx"
      exact hn _ ⟨k3, w0, t0, ⟨ew0, hb0⟩, rfl⟩
  clear ew0 hb0
  rintro _ ⟨k3, w0, t0, ⟨ew0, hb0⟩, rfl⟩
  refine cut' (fun e => ∃ (ks : List Int) (w : Wn) (tw : List D), (encW w = .tup tw ∧ badW c w) ∧ e = [some (.lst (ks.map D.int)), some (.rol (ms.map D.int)), some (.int c), some (.int kd), some (.int st), some (.tup tw), some (.lst zs), none, none, none]) (fun nxt hn => ?_) ?_
  · walk_at "Ddlx"
    refine ifb_dec (fun z => ?_) (fun z => ?_)
    · walk_at "Ddlx"
      refine ⟨⟨⟨_, rfl⟩, _, rfl⟩, ?_⟩
      rintro _ _ ⟨k4, u, rfl, rfl, hu⟩
      walk_at "Ddlx"
      exact hn _ ⟨k4, .span (-1 - st) u, _, ⟨rfl, badW_span (.inl (by omega))⟩, rfl⟩
    · walk_at "Ddlx"
      exact hn _ ⟨k3, w0, t0, ⟨ew0, hb0⟩, rfl⟩
  clear ew0 hb0
  rintro _ ⟨k3, w0, t0, ⟨ew0, hb0⟩, rfl⟩
  refine cut' (fun e => ∃ (ks : List Int) (w : Wn) (tw : List D), (encW w = .tup tw ∧ badW c w) ∧ e = [some (.lst (ks.map D.int)), some (.rol (ms.map D.int)), some (.int c), some (.int kd), some (.int st), some (.tup tw), some (.lst zs), none, none, none]) (fun nxt hn => ?_) ?_
  · walk_at "Ddlx"
    refine ifb_dec (fun z => ?_) (fun z => ?_)
    · walk_at "Ddlx"
      exact hn _ ⟨k3, .frm (-1 - st), _, ⟨rfl, badW_frm (by omega)⟩, rfl⟩
    · walk_at "Ddlx"
      exact hn _ ⟨k3, w0, t0, ⟨ew0, hb0⟩, rfl⟩
  clear ew0 hb0
  rintro _ ⟨k3, w0, t0, ⟨ew0, hb0⟩, rfl⟩
  refine cut' (fun e => ∃ (ks : List Int) (w : Wn) (tw : List D), (encW w = .tup tw ∧ badW c w) ∧ e = [some (.lst (ks.map D.int)), some (.rol (ms.map D.int)), some (.int c), some (.int kd), some (.int st), some (.tup tw), some (.lst zs), none, none, none]) (fun nxt hn => ?_) ?_
  · walk_at "Ddlx"
    refine ifb_dec (fun z => ?_) (fun z => ?_)
    · walk_at "Ddlx"
      exact hn _ ⟨k3, .rnd st 0 1 none, _, ⟨rfl, badW_rnd (.inr (.inl (by decide)))⟩, rfl⟩
    · walk_at "Ddlx"
      exact hn _ ⟨k3, w0, t0, ⟨ew0, hb0⟩, rfl⟩
  clear ew0 hb0
  rintro _ ⟨k3, w0, t0, ⟨ew0, hb0⟩, rfl⟩
  refine cut' (fun e => ∃ (ks : List Int) (w : Wn) (tw : List D), (encW w = .tup tw ∧ badW c w) ∧ e = [some (.lst (ks.map D.int)), some (.rol (ms.map D.int)), some (.int c), some (.int kd), some (.int st), some (.tup tw), some (.lst zs), none, none, none]) (fun nxt hn => ?_) ?_
  · walk_at "Ddlx"
    refine ifb_dec (fun z => ?_) (fun z => ?_)
    · walk_at "Ddlx"
      refine ⟨⟨⟨_, rfl⟩, by decide⟩, ?_⟩
      rintro _ _ ⟨k4, u, rfl, rfl, hu, hu1⟩
      walk_at "Ddlx"
      exact hn _ ⟨k4, .rnd st (c + 1 + u) c none, _, ⟨rfl, badW_rnd (.inr (.inr (.inl (by omega))))⟩, rfl⟩
    · walk_at "Ddlx"
      exact hn _ ⟨k3, w0, t0, ⟨ew0, hb0⟩, rfl⟩
  clear ew0 hb0
  rintro _ ⟨k3, w0, t0, ⟨ew0, hb0⟩, rfl⟩
  refine cut' (fun e => ∃ (ks : List Int) (w : Wn) (tw : List D), (encW w = .tup tw ∧ badW c w) ∧ e = [some (.lst (ks.map D.int)), some (.rol (ms.map D.int)), some (.int c), some (.int kd), some (.int st), some (.tup tw), some (.lst zs), none, none, none]) (fun nxt hn => ?_) ?_
  · walk_at "Ddlx"
    refine ifb_dec (fun z => ?_) (fun z => ?_)
    · walk_at "Ddlx"
      refine ⟨⟨⟨_, rfl⟩, _, rfl⟩, ?_⟩
      rintro _ _ ⟨k4, u, rfl, rfl, hu⟩
      walk_at "Ddlx"
      exact hn _ ⟨k4, .rnd st 1 (c + 1 + u) (some 1), _, ⟨rfl, badW_rnd (.inr (.inr (.inr (.inl (by rw [Int.emod_eq_of_lt (by omega) (by omega)]; omega)))))⟩, rfl⟩
    · walk_at "Ddlx"
      exact hn _ ⟨k3, w0, t0, ⟨ew0, hb0⟩, rfl⟩
  clear ew0 hb0
  rintro _ ⟨k3, w0, t0, ⟨ew0, hb0⟩, rfl⟩
  refine cut' (fun e => ∃ (ks : List Int) (w : Wn) (tw : List D), (encW w = .tup tw ∧ badW c w) ∧ e = [some (.lst (ks.map D.int)), some (.rol (ms.map D.int)), some (.int c), some (.int kd), some (.int st), some (.tup tw), some (.lst zs), none, none, none]) (fun nxt hn => ?_) ?_
  · walk_at "Ddlx"
    refine ifb_dec (fun z => ?_) (fun z => ?_)
    · walk_at "Ddlx"
      refine ⟨⟨⟨_, rfl⟩, _, rfl⟩, ?_⟩
      rintro _ _ ⟨k4, u, rfl, rfl, hu⟩
      walk_at "Ddlx"
      exact hn _ ⟨k4, .rnd st 1 c (some (0 - u)), _, ⟨rfl, badW_rnd (.inr (.inr (.inr (.inr (decide_eq_false (show ¬ 1 ≤ 0 - u by omega))))))⟩, rfl⟩
    · walk_at "Ddlx"
      exact hn _ ⟨k3, w0, t0, ⟨ew0, hb0⟩, rfl⟩
  clear ew0 hb0
  rintro _ ⟨k3, w0, t0, ⟨ew0, hb0⟩, rfl⟩
  refine cut' (fun e => ∃ (ks : List Int) (w : Wn) (tw : List D), (encW w = .tup tw ∧ badW c w) ∧ e = [some (.lst (ks.map D.int)), some (.rol (ms.map D.int)), some (.int c), some (.int kd), some (.int st), some (.tup tw), some (.lst zs), none, none, none]) (fun nxt hn => ?_) ?_
  · walk_at "Ddlx"
    refine ifb_dec (fun z => ?_) (fun z => ?_)
    · walk_at "Ddlx"
      exact hn _ ⟨k3, .rnd (-1 - st) 1 1 (some 2), _, ⟨rfl, badW_rnd (.inl (by omega))⟩, rfl⟩
    · walk_at "Ddlx"
      exact hn _ ⟨k3, w0, t0, ⟨ew0, hb0⟩, rfl⟩
  clear ew0 hb0
  rintro _ ⟨k3, w0, t0, ⟨ew0, hb0⟩, rfl⟩
  refine cut' (fun e => ∃ (ks : List Int) (w : Wn) (tw : List D), (encW w = .tup tw ∧ badW c w) ∧ e = [some (.lst (ks.map D.int)), some (.rol (ms.map D.int)), some (.int c), some (.int kd), some (.int st), some (.tup tw), some (.lst zs), none, none, none]) (fun nxt hn => ?_) ?_
  · walk_at "Ddlx"
    refine ifb_dec (fun z => ?_) (fun z => ?_)
    · walk_at "Ddlx"
      refine ⟨⟨⟨_, rfl⟩, by decide⟩, ?_⟩
      rintro _ _ ⟨k4, u, rfl, rfl, hu, hu1⟩
      walk_at "Ddlx"
      exact hn _ ⟨k4, .rnd st 1 (0 - u) none, _, ⟨rfl, badW_rnd (.inr (.inr (.inl (by omega))))⟩, rfl⟩
    · walk_at "Ddlx"
      exact hn _ ⟨k3, w0, t0, ⟨ew0, hb0⟩, rfl⟩
  clear ew0 hb0
  rintro _ ⟨k3, w0, t0, ⟨ew0, hb0⟩, rfl⟩
  walk_at "Ddlx"
  refine ⟨⟨⟨_, rfl⟩, by decide⟩, ?_⟩
  rintro _ _ ⟨k4, u, rfl, rfl, _, _⟩
  walk_at "Ddlx"
  refine ifb_dec (fun z => ?_) (fun z => ?_)
  · walk_at "Ddlx"
    exact fin _ _ w0 ew0.symm hb0
  walk_at "Ddlx"
  refine stopE (e := [some (.lst (k4.map D.int)), some (.rol (ms.map D.int)), some (.int c), some (.int kd), some (.int st), some (.tup t0), some (.lst zs), none, none, none]) rfl ?_
  walk_at "Ddlx"
  refine ⟨⟨k4, c, st, rfl, c0, c1, hst⟩, ?_⟩
  intro r ds' hp
  obtain ⟨k5, w2, rfl, rfl, hw2, hd2⟩ := hp _ _ _ rfl
  obtain ⟨t2, ew2⟩ := encW_tp w2
  rw [ew2]
  walk_at "Ddlx"
  refine stopE (e := [some (.lst (k5.map D.int)), some (.rol (ms.map D.int)), some (.int c), some (.int kd), some (.int st), some (.tup t0), some (.lst zs), some (.tup t2), none, none]) rfl ?_
  walk_at "Ddlx"
  refine ⟨⟨⟨_, rfl⟩, by decide⟩, ?_⟩
  rintro _ _ ⟨k6, v2, rfl, rfl, a0, a1⟩
  have hv2 : v2 = 0 ∨ v2 = 1 := by omega
  rcases hv2 with rfl | rfl
  · walk_at "Ddlx"
    refine stopE (e := [some (.lst (k6.map D.int)), some (.rol (ms.map D.int)), some (.int c), some (.int kd), some (.int st), some (.tup t0), some (.lst zs), some (.tup t2), some (.str sAlso), none]) rfl ?_
    walk_at "Ddlx"
    refine ⟨⟨⟨_, rfl⟩, by decide⟩, ?_⟩
    rintro _ _ ⟨k7, v3, rfl, rfl, b0, b1⟩
    have hv3 : v3 = 0 ∨ v3 = 1 := by omega
    rcases hv3 with rfl | rfl
    · walk_at "Ddlx"
      exact fin _ _ (.also w0 w2) (by simp [encW, ew0, ew2]) (bad_l hb0).1
    · walk_at "Ddlx"
      exact fin _ _ (.also w2 w0) (by simp [encW, ew0, ew2]) (bad_r hb0).1
  · walk_at "Ddlx"
    refine stopE (e := [some (.lst (k6.map D.int)), some (.rol (ms.map D.int)), some (.int c), some (.int kd), some (.int st), some (.tup t0), some (.lst zs), some (.tup t2), some (.str sBut), none]) rfl ?_
    walk_at "Ddlx"
    refine ⟨⟨⟨_, rfl⟩, by decide⟩, ?_⟩
    rintro _ _ ⟨k7, v3, rfl, rfl, b0, b1⟩
    have hv3 : v3 = 0 ∨ v3 = 1 := by omega
    rcases hv3 with rfl | rfl
    · walk_at "Ddlx"
      exact fin _ _ (.but w0 w2) (by simp [encW, ew0, ew2]) (bad_l hb0).2
    · walk_at "Ddlx"
      exact fin _ _ (.but w2 w0) (by simp [encW, ew0, ew2]) (bad_r hb0).2
def sp_law_chain : FSpec where
  pre := fun ds => ∃ (ns : List Int) (c dp : Int), ds = [.lst (ns.map D.int), .int c, .int dp] ∧ 1 ≤ c ∧ c ≤ 60 ∧ 1 ≤ dp ∧ dp ≤ 20
  post := fun ds r ds' => ∀ (l : D) (c dp : Int), ds = [l, .int c, .int dp] → ∃ (ns : List Int) (w : Wn), r = encW w ∧ ds' = [.lst (ns.map D.int), .int c, .int dp] ∧ WOk c w ∧ (dep w : Int) = dp
/-- slots: 0 draws, 1 cycle, 2 depth, 3 when, 4 k, 5 leaf, 6 name -/
def w_law_chain : WS :=
    (cSeq (cAsg 3 [0, 1, 2] 3 (cCallN 3 sp_law_leaf_when (cCons (cVar 0) (cCons (cVar 1) (cCons (cCallN 2 sp_law_take (cCons (cVar 0) (cCons (cC (.int 9)) cNil))) cNil)))))
    (cSeq (cFor [0, 1, 2] (iR1 (cOp fSub (cVar 2) (cC (.int 1)))) (gN 3 [0, 1, 2] 4)
      (cSeq (cAsg 3 [0, 1, 2] 5 (cCallN 3 sp_law_leaf_when (cCons (cVar 0) (cCons (cVar 1) (cCons (cCallN 2 sp_law_take (cCons (cVar 0) (cCons (cC (.int 9)) cNil))) cNil)))))
        (cSeq (cAsg 3 [0, 1, 2] 6 (cOp fIx (cLst (cCons (cC (.str (PySem.Str.ofString "also"))) (cCons (cC (.str (PySem.Str.ofString "but"))) cNil))) (cCallN 2 sp_law_take (cCons (cVar 0) (cCons (cC (.int 2)) cNil)))))
        (cAsg 3 [0, 1, 2] 3 (cOp fIx (cLst (cCons (cTup (cCons (cVar 6) (cCons (cVar 3) (cCons (cVar 5) cNil)))) (cCons (cTup (cCons (cVar 6) (cCons (cVar 5) (cCons (cVar 3) cNil)))) cNil))) (cCallN 2 sp_law_take (cCons (cVar 0) (cCons (cC (.int 2)) cNil))))))))
    (cRet 3 (cVar 3))))
def w'_law_chain : WS :=
    (cSeq (cAsg 3 [0, 1, 2] 3 (cCallN 3 sp_law_leaf_when (cCons (cVar 0) (cCons (cVar 1) (cCons (cCallN 2 sp_law_take (cCons (cVar 0) (cCons (cC (.int 9)) cNil))) cNil)))))
    (cSeq (cFor [0, 1, 2] (iR1 (cOp fSub (cVar 2) (cC (.int 1)))) (gN 3 [0, 1, 2] 4)
      (cCut (cAsg 3 [0, 1, 2] 5 (cCallN 3 sp_law_leaf_when (cCons (cVar 0) (cCons (cVar 1) (cCons (cCallN 2 sp_law_take (cCons (cVar 0) (cCons (cC (.int 9)) cNil))) cNil)))))
        (cCut (cAsg 3 [0, 1, 2] 6 (cOp fIx (cLst (cCons (cC (.str (PySem.Str.ofString "also"))) (cCons (cC (.str (PySem.Str.ofString "but"))) cNil))) (cCallN 2 sp_law_take (cCons (cVar 0) (cCons (cC (.int 2)) cNil)))))
        (cAsg 3 [0, 1, 2] 3 (cOp fIx (cLst (cCons (cTup (cCons (cVar 6) (cCons (cVar 3) (cCons (cVar 5) cNil)))) (cCons (cTup (cCons (cVar 6) (cCons (cVar 5) (cCons (cVar 3) cNil)))) cNil))) (cCallN 2 sp_law_take (cCons (cVar 0) (cCons (cC (.int 2)) cNil))))))))
    (cRet 3 (cVar 3))))
theorem w'_law_chain_eq : w_law_chain = w'_law_chain := by
  unfold w'_law_chain
  simp only [cCut_eq]
  rfl
theorem pure_law_chain : ∀ ds, ds.length = 3 → sp_law_chain.pre ds → w_law_chain (env0 ds 4) { nx := fun e => sp_law_chain.post ds .non (outs e 3), rt := fun d e => sp_law_chain.post ds d (outs e 3) } := by
  rintro ds _ ⟨ns, c, dp, rfl, h0, h1, d0, d1⟩
  rw [w'_law_chain_eq]
  walk_at "Ddlx"
  refine ⟨⟨⟨_, rfl⟩, by decide⟩, ?_⟩
  rintro _ _ ⟨k0, v0, rfl, rfl, a0, a1⟩
  walk_at "Ddlx"
  refine ⟨⟨k0, c, v0, rfl, h0, h1, a0⟩, ?_⟩
  intro r ds' hp
  obtain ⟨k1, w, rfl, rfl, hw, hd⟩ := hp _ _ _ rfl
  obtain ⟨tw, ew⟩ := encW_tp w
  have hd' : (dep w : Int) = 0 + 1 := by omega
  rw [ew]
  walk_at "Ddlx"
  refine loop_rng (fun j e => ∃ (ks : List Int) (w : Wn) (tw : List D) (o4 o5 o6 : Option D), (encW w = .tup tw ∧ WOk c w ∧ (dep w : Int) = j + 1) ∧ e = [some (.lst (ks.map D.int)), some (.int c), some (.int dp), some (.tup tw), o4, o5, o6]) ⟨k1, w, tw, none, none, none, ⟨ew, hw, hd'⟩, rfl⟩ ?_ ?_
  · clear ew hd' hd hw
    rintro j env nxt hj0 hj1 ⟨ks, w, tw, o4, o5, o6, ⟨ew, hw, hd⟩, rfl⟩ hx
    walk_at "Ddlx"
    refine ⟨⟨⟨_, rfl⟩, by decide⟩, ?_⟩
    rintro _ _ ⟨k2, v, rfl, rfl, v1, v2⟩
    walk_at "Ddlx"
    refine ⟨⟨k2, c, v, rfl, h0, h1, v1⟩, ?_⟩
    intro r ds' hp
    obtain ⟨k3, u, rfl, rfl, hu, hud⟩ := hp _ _ _ rfl
    obtain ⟨tu, eu⟩ := encW_tp u
    have dpos := dep_pos w
    rw [eu]
    walk_at "Ddlx"
    refine stopE (e := [some (.lst (k3.map D.int)), some (.int c), some (.int dp), some (.tup tw), some (.int j), some (.tup tu), o6]) rfl ?_
    walk_at "Ddlx"
    refine ⟨⟨⟨_, rfl⟩, by decide⟩, ?_⟩
    rintro _ _ ⟨k4, v2, rfl, rfl, a0, a1⟩
    have hv2 : v2 = 0 ∨ v2 = 1 := by omega
    have fin : ∀ (b : Bool) (x : Str), (x = if b then sAlso else sBut) → ∀ ks : List Int, (∀ o6, nxt [some (.lst (ks.map D.int)), some (.int c), some (.int dp), some (.tup [.str x, .tup tw, .tup tu]), some (.int j), some (.tup tu), o6]) ∧ (∀ o6, nxt [some (.lst (ks.map D.int)), some (.int c), some (.int dp), some (.tup [.str x, .tup tu, .tup tw]), some (.int j), some (.tup tu), o6]) := by
      intro b x hxx ks
      cases b <;> (subst hxx)
      · exact ⟨fun o6 => hx _ ⟨ks, .but w u, _, _, _, _, ⟨by simp [encW, ew, eu], ⟨hw, hu⟩, by simp only [dep]; omega⟩, rfl⟩, fun o6 => hx _ ⟨ks, .but u w, _, _, _, _, ⟨by simp [encW, ew, eu], ⟨hu, hw⟩, by simp only [dep]; omega⟩, rfl⟩⟩
      · exact ⟨fun o6 => hx _ ⟨ks, .also w u, _, _, _, _, ⟨by simp [encW, ew, eu], ⟨hw, hu⟩, by simp only [dep]; omega⟩, rfl⟩, fun o6 => hx _ ⟨ks, .also u w, _, _, _, _, ⟨by simp [encW, ew, eu], ⟨hu, hw⟩, by simp only [dep]; omega⟩, rfl⟩⟩
    rcases hv2 with rfl | rfl
    · walk_at "Ddlx"
      refine stopE (e := [some (.lst (k4.map D.int)), some (.int c), some (.int dp), some (.tup tw), some (.int j), some (.tup tu), some (.str sAlso)]) rfl ?_
      walk_at "Ddlx"
      refine ⟨⟨⟨_, rfl⟩, by decide⟩, ?_⟩
      rintro _ _ ⟨k5, v3, rfl, rfl, b0, b1⟩
      have hv3 : v3 = 0 ∨ v3 = 1 := by omega
      rcases hv3 with rfl | rfl
      · walk_at "Ddlx"
        exact (fin true _ rfl _).1 _
      · walk_at "Ddlx"
        exact (fin true _ rfl _).2 _
    · walk_at "Ddlx"
      refine stopE (e := [some (.lst (k4.map D.int)), some (.int c), some (.int dp), some (.tup tw), some (.int j), some (.tup tu), some (.str sBut)]) rfl ?_
      walk_at "Ddlx"
      refine ⟨⟨⟨_, rfl⟩, by decide⟩, ?_⟩
      rintro _ _ ⟨k5, v3, rfl, rfl, b0, b1⟩
      have hv3 : v3 = 0 ∨ v3 = 1 := by omega
      rcases hv3 with rfl | rfl
      · walk_at "Ddlx"
        exact (fin false _ rfl _).1 _
      · walk_at "Ddlx"
        exact (fin false _ rfl _).2 _
  clear ew hd' hd hw
  rintro env ⟨ks, w, tw, o4, o5, o6, ⟨ew, hw, hd⟩, rfl⟩
  walk_at "Ddlx"
  intro l c' dp' e
  simp only [List.cons.injEq, and_true, D.int.injEq] at e
  obtain ⟨_, rfl, rfl⟩ := e
  exact ⟨ks, w, ew.symm, rfl, hw, by omega⟩
end DL

set_option maxHeartbeats 1000000
namespace DL
open PySem PySem.Spec PyProof.Rows L2
theorem LsOk.of_goB {c : Int} : ∀ {lo : Int} {ls : List Ln}, DL.goB c lo ls = true → LsOk c lo ls
  | _, [], _ => trivial
  | lo, (x, y) :: r, h => by
    simp only [DL.goB, Bool.and_eq_true, decide_eq_true_eq] at h
    exact ⟨h.1.1, spB_iff.mp h.1.2, LsOk.of_goB h.2⟩
theorem TbOk.of_tbB {c : Int} {ls : List Ln} (h : DL.tbB c ls = true) : TbOk c ls := by
  unfold DL.tbB DL.tlB at h
  simp only [Bool.and_eq_true, decide_eq_true_eq] at h
  obtain ⟨⟨h1, h2⟩, h⟩ := h
  cases ls with
  | nil => cases h
  | cons l r =>
    obtain ⟨s, sp⟩ := l
    simp only [DL.goB, Bool.and_eq_true, decide_eq_true_eq] at h
    obtain ⟨rfl, ⟨_, h3⟩, h4⟩ := h
    exact ⟨⟨h1, h2⟩, sp, r, rfl, spB_iff.mp h3, LsOk.of_goB h4⟩
def dueT (b : Bool) : Str := if b = true then PySem.Str.ofString "none" else PySem.Str.ofString "table"
/-- slots: 0 script, 1 draws, 2 table, 3 other, 4 due, 5 cycle, 6 strange, 7 good, 8 bad, 9 depth -/
def w_law : WS :=
    (cSeq (cAsg 1 [0] 1 (cCallN 2 sp_law_draws (cCons (cVar 0) (cCons (cC (.int 450)) cNil))))
    (cSeq (cAsg 1 [0] 2 (cCallN 3 sp_law_long_table (cCons (cVar 1) (cCons (cVar 0) (cCons (cCallN 1 sp_law_cycle (cCons (cVar 1) cNil)) cNil)))))
    (cSeq (cAsg 1 [0] 3 (cCallN 3 sp_law_changed (cCons (cVar 1) (cCons (cVar 0) (cCons (cVar 2) cNil)))))
    (cSeq (cAsg 1 [0] 4 (cC (.str (PySem.Str.ofString "table"))))
    (cSeq (cIte (cAnd (cOp fLe (cC (.int 1)) (cOp fIx (cVar 3) (cC (.int 0)))) (cAnd (cOp fLe (cOp fIx (cVar 3) (cC (.int 0))) (cC (.int 60))) (cCallN 2 sp_law_is_table (cCons (cVar 3) (cCons (cOp fIx (cVar 3) (cC (.int 0))) cNil)))))
      (cAsg 1 [0] 4 (cC (.str (PySem.Str.ofString "none"))))
      cNilS)
    (cSeq (cIte (cOr (cOp fNeS (cCallN 3 sp_law_error (cCons (cC (.bl false)) (cCons (cOp fIx (cVar 2) (cC (.int 0))) (cCons (cOp fIx (cVar 2) (cC (.int 1))) cNil)))) (cC (.str (PySem.Str.ofString "none")))) (cOp fNeS (cCallN 3 sp_law_error (cCons (cC (.bl false)) (cCons (cOp fIx (cVar 3) (cC (.int 0))) (cCons (cOp fIx (cVar 3) (cC (.int 1))) cNil)))) (cVar 4)))
      (cRet 1 (cC (.bl false)))
      cNilS)
    (cSeq (cAsg 1 [0] 5 (cOp fIx (cVar 2) (cC (.int 0))))
    (cSeq (cAsg 1 [0] 6 (cOp fIx (cLst (cCons (cC (.int 0)) (cCons (cOp fSub (cUn fNeg (cC (.int 1))) (cCallN 2 sp_law_size (cCons (cVar 1) (cCons (cVar 0) cNil)))) (cCons (cC (.int 61)) (cCons (cOp fAddG (cC (.int 61)) (cCallN 2 sp_law_size (cCons (cVar 1) (cCons (cVar 0) cNil)))) cNil))))) (cCallN 2 sp_law_take (cCons (cVar 1) (cCons (cC (.int 4)) cNil)))))
    (cSeq (cAsg 1 [0] 7 (cCallN 3 sp_law_when (cCons (cVar 1) (cCons (cVar 5) (cCons (cCallN 2 sp_law_size (cCons (cVar 1) (cCons (cVar 0) cNil))) cNil)))))
    (cSeq (cAsg 1 [0] 8 (cCallN 3 sp_law_bad_when (cCons (cVar 1) (cCons (cVar 0) (cCons (cVar 5) cNil)))))
    (cSeq (cIte (cOr (cOp fNeS (cCallN 3 sp_law_error (cCons (cC (.bl true)) (cCons (cVar 6) (cCons (cVar 7) cNil)))) (cC (.str (PySem.Str.ofString "cycle")))) (cOp fNeS (cCallN 3 sp_law_error (cCons (cC (.bl true)) (cCons (cVar 6) (cCons (cVar 8) cNil)))) (cC (.str (PySem.Str.ofString "cycle")))))
      (cRet 1 (cC (.bl false)))
      cNilS)
    (cSeq (cIte (cOr (cOp fNeS (cCallN 3 sp_law_error (cCons (cC (.bl true)) (cCons (cVar 5) (cCons (cVar 8) cNil)))) (cC (.str (PySem.Str.ofString "when")))) (cOp fNeS (cCallN 3 sp_law_error (cCons (cC (.bl true)) (cCons (cVar 5) (cCons (cVar 7) cNil)))) (cC (.str (PySem.Str.ofString "none")))))
      (cRet 1 (cC (.bl false)))
      cNilS)
    (cSeq (cAsg 1 [0] 9 (cOp fAddG (cC (.int 11)) (cCallN 2 sp_law_take (cCons (cVar 1) (cCons (cC (.int 4)) cNil)))))
    (cRet 1 (cOp fEqS (cCallN 3 sp_law_error (cCons (cC (.bl true)) (cCons (cVar 5) (cCons (cCallN 3 sp_law_chain (cCons (cVar 1) (cCons (cVar 5) (cCons (cVar 9) cNil)))) cNil)))) (cOp fIx (cLst (cCons (cC (.str (PySem.Str.ofString "none"))) (cCons (cC (.str (PySem.Str.ofString "when"))) cNil))) (cBi fInt (cCons (cOp fGt (cVar 9) (cC (.int 12))) cNil))))))))))))))))))
def w'_law : WS :=
    (cSeq (cAsg 1 [0] 1 (cCallN 2 sp_law_draws (cCons (cVar 0) (cCons (cC (.int 450)) cNil))))
    (cCut (cAsg 1 [0] 2 (cCallN 3 sp_law_long_table (cCons (cVar 1) (cCons (cVar 0) (cCons (cCallN 1 sp_law_cycle (cCons (cVar 1) cNil)) cNil)))))
    (cCut (cAsg 1 [0] 3 (cCallN 3 sp_law_changed (cCons (cVar 1) (cCons (cVar 0) (cCons (cVar 2) cNil)))))
    (cCut (cAsg 1 [0] 4 (cC (.str (PySem.Str.ofString "table"))))
    (cCut (cIte (cAnd (cOp fLe (cC (.int 1)) (cOp fIx (cVar 3) (cC (.int 0)))) (cAnd (cOp fLe (cOp fIx (cVar 3) (cC (.int 0))) (cC (.int 60))) (cCallN 2 sp_law_is_table (cCons (cVar 3) (cCons (cOp fIx (cVar 3) (cC (.int 0))) cNil)))))
      (cAsg 1 [0] 4 (cC (.str (PySem.Str.ofString "none"))))
      cNilS)
    (cCut (cIte (cOr (cOp fNeS (cCallN 3 sp_law_error (cCons (cC (.bl false)) (cCons (cOp fIx (cVar 2) (cC (.int 0))) (cCons (cOp fIx (cVar 2) (cC (.int 1))) cNil)))) (cC (.str (PySem.Str.ofString "none")))) (cOp fNeS (cCallN 3 sp_law_error (cCons (cC (.bl false)) (cCons (cOp fIx (cVar 3) (cC (.int 0))) (cCons (cOp fIx (cVar 3) (cC (.int 1))) cNil)))) (cVar 4)))
      (cRet 1 (cC (.bl false)))
      cNilS)
    (cCut (cAsg 1 [0] 5 (cOp fIx (cVar 2) (cC (.int 0))))
    (cCut (cAsg 1 [0] 6 (cOp fIx (cLst (cCons (cC (.int 0)) (cCons (cOp fSub (cUn fNeg (cC (.int 1))) (cCallN 2 sp_law_size (cCons (cVar 1) (cCons (cVar 0) cNil)))) (cCons (cC (.int 61)) (cCons (cOp fAddG (cC (.int 61)) (cCallN 2 sp_law_size (cCons (cVar 1) (cCons (cVar 0) cNil)))) cNil))))) (cCallN 2 sp_law_take (cCons (cVar 1) (cCons (cC (.int 4)) cNil)))))
    (cCut (cAsg 1 [0] 7 (cCallN 3 sp_law_when (cCons (cVar 1) (cCons (cVar 5) (cCons (cCallN 2 sp_law_size (cCons (cVar 1) (cCons (cVar 0) cNil))) cNil)))))
    (cCut (cAsg 1 [0] 8 (cCallN 3 sp_law_bad_when (cCons (cVar 1) (cCons (cVar 0) (cCons (cVar 5) cNil)))))
    (cCut (cIte (cOr (cOp fNeS (cCallN 3 sp_law_error (cCons (cC (.bl true)) (cCons (cVar 6) (cCons (cVar 7) cNil)))) (cC (.str (PySem.Str.ofString "cycle")))) (cOp fNeS (cCallN 3 sp_law_error (cCons (cC (.bl true)) (cCons (cVar 6) (cCons (cVar 8) cNil)))) (cC (.str (PySem.Str.ofString "cycle")))))
      (cRet 1 (cC (.bl false)))
      cNilS)
    (cCut (cIte (cOr (cOp fNeS (cCallN 3 sp_law_error (cCons (cC (.bl true)) (cCons (cVar 5) (cCons (cVar 8) cNil)))) (cC (.str (PySem.Str.ofString "when")))) (cOp fNeS (cCallN 3 sp_law_error (cCons (cC (.bl true)) (cCons (cVar 5) (cCons (cVar 7) cNil)))) (cC (.str (PySem.Str.ofString "none")))))
      (cRet 1 (cC (.bl false)))
      cNilS)
    (cCut (cAsg 1 [0] 9 (cOp fAddG (cC (.int 11)) (cCallN 2 sp_law_take (cCons (cVar 1) (cCons (cC (.int 4)) cNil)))))
    (cRet 1 (cOp fEqS (cCallN 3 sp_law_error (cCons (cC (.bl true)) (cCons (cVar 5) (cCons (cCallN 3 sp_law_chain (cCons (cVar 1) (cCons (cVar 5) (cCons (cVar 9) cNil)))) cNil)))) (cOp fIx (cLst (cCons (cC (.str (PySem.Str.ofString "none"))) (cCons (cC (.str (PySem.Str.ofString "when"))) cNil))) (cBi fInt (cCons (cOp fGt (cVar 9) (cC (.int 12))) cNil))))))))))))))))))
theorem w'_law_eq : w_law = w'_law := by
  unfold w'_law
  simp only [cCut_eq]
  rfl
local macro_rules | `(tactic| walk_at "Ddlx") => `(tactic| ((conv => whnf); (repeat ((first | ((with_reducible refine And.intro (stOk_nl ?_ ?_) ?_); (focus (with_reducible first | assumption | exact encQ_nl _ | exact encO_nl _ | exact encC_nl _)); (focus exact rfl)) | ((refine pick_nl ?_ ?_); (focus (with_reducible first | assumption | exact encQ_nl _ | exact encO_nl _ | exact encC_nl _))) | ((with_reducible refine And.intro ?_ ?_); (focus (with_reducible first | assumption | exact encQ_nl _ | exact encO_nl _ | exact encC_nl _))) | ((with_reducible refine And.intro (immA_c ?_ ?_) ?_); (focus (first | (with_reducible first | assumption | exact encQ_nl _ | exact encO_nl _ | exact encC_nl _) | exact rfl)); (focus ((repeat ((with_reducible refine immA_c ?_ ?_); (focus (first | (with_reducible first | assumption | exact encQ_nl _ | exact encO_nl _ | exact encC_nl _) | exact rfl)))); exact rfl))) | refine And.intro rfl ?_ | refine And.intro trivial ?_ | refine And.intro ⟨rfl, trivial⟩ ?_ | refine And.intro ⟨rfl, rfl, trivial⟩ ?_ | refine ifb_nq (by first | assumption | decide) ?_ | refine ifb_pq (by assumption) ?_ | refine ifb_er ?_ | refine ifb_t ?_ | refine ifb_f ?_ | refine ifb_nr ?_ | refine ifb_er ?_ | ((with_reducible refine And.intro (?_ : (_ : Nat) ≤ _) ?_); (focus (first | decide | omega | (unfold CMul; omega) | (unfold CDiv; omega) | (unfold CPow; decide) | (exact cpow1 (by omega) (by omega)) | (simp only [rngD_len, List.length_replicate, List.length_map, List.length_append, List.length_cons, List.length_nil, List.length_set] at *; omega)))) | ((with_reducible refine And.intro (?_ : (_ : Int) ≤ _) ?_); (focus (first | decide | omega | (unfold CMul; omega) | (unfold CDiv; omega) | (unfold CPow; decide) | (exact cpow1 (by omega) (by omega)) | (simp only [rngD_len, List.length_replicate, List.length_map, List.length_append, List.length_cons, List.length_nil, List.length_set] at *; omega)))) | ((with_reducible refine And.intro (?_ : (_ : Nat) < _) ?_); (focus (first | decide | omega | (unfold CMul; omega) | (unfold CDiv; omega) | (unfold CPow; decide) | (exact cpow1 (by omega) (by omega)) | (simp only [rngD_len, List.length_replicate, List.length_map, List.length_append, List.length_cons, List.length_nil, List.length_set] at *; omega)))) | ((with_reducible refine And.intro (?_ : (_ : Int) < _) ?_); (focus (first | decide | omega | (unfold CMul; omega) | (unfold CDiv; omega) | (unfold CPow; decide) | (exact cpow1 (by omega) (by omega)) | (simp only [rngD_len, List.length_replicate, List.length_map, List.length_append, List.length_cons, List.length_nil, List.length_set] at *; omega)))) | ((with_reducible refine And.intro (?_ : CMul _ _) ?_); (focus (first | decide | omega | (unfold CMul; omega) | (unfold CDiv; omega) | (unfold CPow; decide) | (exact cpow1 (by omega) (by omega)) | (simp only [rngD_len, List.length_replicate, List.length_map, List.length_append, List.length_cons, List.length_nil, List.length_set] at *; omega)))) | ((with_reducible refine And.intro (?_ : CDiv _ _) ?_); (focus (first | decide | omega | (unfold CMul; omega) | (unfold CDiv; omega) | (unfold CPow; decide) | (exact cpow1 (by omega) (by omega)) | (simp only [rngD_len, List.length_replicate, List.length_map, List.length_append, List.length_cons, List.length_nil, List.length_set] at *; omega)))) | ((with_reducible refine And.intro (?_ : CPow _ _) ?_); (focus (first | decide | omega | (unfold CMul; omega) | (unfold CDiv; omega) | (unfold CPow; decide) | (exact cpow1 (by omega) (by omega)) | (simp only [rngD_len, List.length_replicate, List.length_map, List.length_append, List.length_cons, List.length_nil, List.length_set] at *; omega)))) | ((with_reducible refine And.intro (?_ : (_ : Nat) = _) ?_); (focus (first | decide | omega | (unfold CMul; omega) | (unfold CDiv; omega) | (unfold CPow; decide) | (exact cpow1 (by omega) (by omega)) | (simp only [rngD_len, List.length_replicate, List.length_map, List.length_append, List.length_cons, List.length_nil, List.length_set] at *; omega))))); (conv => whnf); (try dsimp only [List.set_cons_zero, List.set_cons_succ, upA, wipeE, back, List.getElem?_cons_zero, List.getElem?_cons_succ, Option.getD_some]))); (try dsimp only [List.set_cons_zero, List.set_cons_succ, upA, wipeE, back, List.getElem?_cons_zero, List.getElem?_cons_succ, Option.getD_some])))
local macro_rules | `(tactic| walk_at "Ddl") => `(tactic| ((conv => whnf); (repeat ((first | refine And.intro rfl ?_ | refine And.intro trivial ?_ | refine And.intro ⟨rfl, trivial⟩ ?_ | refine And.intro ⟨rfl, rfl, trivial⟩ ?_ | refine ifb_t ?_ | refine ifb_f ?_ | refine ifb_nr ?_ | refine ifb_er ?_ | refine And.intro (by first | decide | omega | (unfold CMul; omega) | (unfold CDiv; omega) | (unfold CPow; decide) | (exact cpow1 (by omega) (by omega)) | (exact cpow1 (by dsimp only; omega) (by dsimp only; omega)) | (simp only [rngD_len, List.length_replicate, List.length_map, List.length_append, List.length_cons, List.length_nil, List.length_set] at *; omega)) ?_); conv => whnf))))
theorem pure_law : ∀ ds, ds.length = 1 → sp_law.pre ds → w_law (env0 ds 9) { nx := fun e => sp_law.post ds .non (outs e 1), rt := fun d e => sp_law.post ds d (outs e 1) } := by
  rintro ds _ ⟨ns, rfl, hl⟩
  rw [w'_law_eq]
  walk_at "Ddl"
  refine ⟨⟨⟨ns, rfl⟩, by simpa using hl, by decide, by decide⟩, ?_⟩
  rintro _ _ ⟨rfl, ms, rfl⟩
  walk_at "Ddl"
  refine ⟨⟨_, rfl⟩, ?_⟩
  rintro _ _ ⟨ms2, c, rfl, rfl, hc0, hc1⟩
  walk_at "Ddl"
  refine ⟨⟨_, _, c, rfl, hc0, hc1⟩, ?_⟩
  intro r ds' hp
  obtain ⟨ms_ls, ls, rfl, rfl, ht_ls, hl_ls⟩ := hp _ _ _ rfl
  walk_at "Ddl"
  have hc : 1 ≤ c ∧ c ≤ 60 := ⟨hc0, hc1⟩
  have hpos : 0 < ls.length := by
    obtain ⟨_, sp, r, rfl, _⟩ := ht_ls
    simp
  refine stopE (e := [some (.rol (ns.map D.int)), some (.lst (ms_ls.map D.int)), some (encT c ls), none, none, none, none, none, none, none]) rfl ?_
  walk_at "Ddlx"
  refine ⟨⟨_, _, c, ls, rfl, hc0, hc1, hpos, by omega⟩, ?_⟩
  intro r ds' hp
  obtain ⟨k1, c2, l2, rfl, rfl, hl2⟩ := hp _ _ _ rfl
  walk_at "Ddlx"
  refine stopE (e := [some (.rol (ns.map D.int)), some (.lst (k1.map D.int)), some (encT c ls), some (encT c2 l2), none, none, none, none, none, none]) rfl ?_
  walk_at "Ddlx"
  refine stopE (e := [some (.rol (ns.map D.int)), some (.lst (k1.map D.int)), some (encT c ls), some (encT c2 l2), some (.str (PySem.Str.ofString "table")), none, none, none, none, none]) rfl ?_
  refine cut' (fun e => e = [some (.rol (ns.map D.int)), some (.lst (k1.map D.int)), some (encT c ls), some (encT c2 l2), some (.str (dueT (tbB c2 l2))), none, none, none, none, none]) (fun nxt hn => ?_) ?_
  · have tb : tbB c2 l2 = (decide (1 ≤ c2) && decide (c2 ≤ 60) && tlB c2 l2) := rfl
    walk_at "Ddlx"
    refine ifb_dec (fun g1 => ?_) (fun g1 => ?_)
    · walk_at "Ddlx"
      refine ifb_dec (fun g2 => ?_) (fun g2 => ?_)
      · walk_at "Ddlx"
        refine ⟨⟨c2, l2, rfl⟩, ?_⟩
        rintro _ _ ⟨rfl, h⟩
        obtain rfl := h c2 l2 rfl
        rw [decide_eq_true g1, decide_eq_true g2, Bool.true_and, Bool.true_and] at tb
        cases ht : tlB c2 l2
        · rw [ht] at tb
          walk_at "Ddlx"
          exact hn _ (by rw [tb]; rfl)
        · rw [ht] at tb
          walk_at "Ddlx"
          exact hn _ (by rw [tb]; rfl)
      · rw [decide_eq_true g1, decide_eq_false g2] at tb
        walk_at "Ddlx"
        exact hn _ (by rw [tb]; rfl)
    · rw [decide_eq_false g1] at tb
      walk_at "Ddlx"
      exact hn _ (by rw [tb]; rfl)
  rintro _ rfl
  have e1 : ErrR false (.int c) (.tup (ls.map encL)) sNone := by
    unfold ErrR
    rw [if_neg Bool.false_ne_true]
    exact .inl ⟨⟨c, ls, rfl, ht_ls, by omega⟩, rfl⟩
  have e2 : ErrR false (.int c2) (.tup (l2.map encL)) (dueT (tbB c2 l2)) := by
    unfold ErrR
    rw [if_neg Bool.false_ne_true]
    cases hb : tbB c2 l2
    · exact .inr ⟨⟨c2, l2, rfl, hb⟩, rfl⟩
    · exact .inl ⟨⟨c2, l2, rfl, TbOk.of_tbB hb, by omega⟩, rfl⟩
  generalize dueT (tbB c2 l2) = z at *
  walk_at "Ddlx"
  refine ⟨⟨false, _, _, sNone, rfl, rfl, rfl, e1⟩, ?_⟩
  rintro _ _ ⟨rfl, h⟩
  obtain rfl := h _ _ _ _ rfl e1
  walk_at "Ddlx"
  refine ⟨⟨false, _, _, z, rfl, rfl, rfl, e2⟩, ?_⟩
  rintro _ _ ⟨rfl, h⟩
  obtain rfl := h _ _ _ _ rfl e2
  walk_at "Ddlx"
  refine stopE (e := [some (.rol (ns.map D.int)), some (.lst (k1.map D.int)), some (encT c ls), some (encT c2 l2), some (.str z), none, none, none, none, none]) rfl ?_
  walk_at "Ddlx"
  refine stopE (e := [some (.rol (ns.map D.int)), some (.lst (k1.map D.int)), some (encT c ls), some (encT c2 l2), some (.str z), some (.int c), none, none, none, none]) rfl ?_
  refine cut' (fun e => ∃ (ks : List Int) (x : Int), ¬ (1 ≤ x ∧ x ≤ 60) ∧ e = [some (.rol (ns.map D.int)), some (.lst (ks.map D.int)), some (encT c ls), some (encT c2 l2), some (.str z), some (.int c), some (.int x), none, none, none]) (fun nxt hn => ?_) ?_
  · walk_at "Ddlx"
    refine ⟨⟨⟨_, rfl⟩, _, rfl⟩, ?_⟩
    rintro _ _ ⟨k2, v, rfl, rfl, hv⟩
    walk_at "Ddlx"
    refine ⟨⟨⟨_, rfl⟩, _, rfl⟩, ?_⟩
    rintro _ _ ⟨k3, u, rfl, rfl, hu⟩
    walk_at "Ddlx"
    refine ⟨⟨⟨_, rfl⟩, by decide⟩, ?_⟩
    rintro _ _ ⟨k4, t, rfl, rfl, t0, t1⟩
    have ht : t = 0 ∨ t = 1 ∨ t = 2 ∨ t = 3 := by omega
    rcases ht with rfl | rfl | rfl | rfl
    · walk_at "Ddlx"
      exact hn _ ⟨k4, 0, by omega, rfl⟩
    · walk_at "Ddlx"
      exact hn _ ⟨k4, -1 - v, by omega, rfl⟩
    · walk_at "Ddlx"
      exact hn _ ⟨k4, 61, by omega, rfl⟩
    · walk_at "Ddlx"
      exact hn _ ⟨k4, 61 + u, by omega, rfl⟩
  rintro _ ⟨k4, x, hx, rfl⟩
  walk_at "Ddlx"
  refine ⟨⟨⟨_, rfl⟩, _, rfl⟩, ?_⟩
  rintro _ _ ⟨k5, lo, rfl, rfl, hlo⟩
  walk_at "Ddlx"
  refine ⟨⟨k5, c, lo, rfl, hc0, hc1, hlo⟩, ?_⟩
  intro r ds' hp
  obtain ⟨k6, w, rfl, rfl, hw, hd⟩ := hp _ _ _ rfl
  obtain ⟨tw, ew⟩ := encW_tp w
  rw [ew]
  walk_at "Ddlx"
  refine stopE (e := [some (.rol (ns.map D.int)), some (.lst (k6.map D.int)), some (encT c ls), some (encT c2 l2), some (.str z), some (.int c), some (.int x), some (.tup tw), none, none]) rfl ?_
  walk_at "Ddlx"
  refine ⟨⟨_, _, c, rfl, hc0, hc1⟩, ?_⟩
  intro r ds' hp
  obtain ⟨k7, wb, rfl, rfl, hwb⟩ := hp _ _ _ rfl
  obtain ⟨tb, eb⟩ := encW_tp wb
  rw [eb]
  have f1 : ErrR true (.int x) (.tup tw) (errT 0) := by
    unfold ErrR
    rw [if_pos rfl]
    exact .inr (.inl ⟨⟨x, rfl, hx⟩, rfl⟩)
  have f2 : ErrR true (.int x) (.tup tb) (errT 0) := by
    unfold ErrR
    rw [if_pos rfl]
    exact .inr (.inl ⟨⟨x, rfl, hx⟩, rfl⟩)
  have f3 : ErrR true (.int c) (.tup tb) (errT 2) := by
    unfold ErrR
    rw [if_pos rfl]
    exact .inr (.inr ⟨⟨c, rfl, hc⟩, ⟨c, wb, rfl, eb.symm, hc, hwb 12⟩, rfl⟩)
  have f4 : ErrR true (.int c) (.tup tw) sNone := by
    unfold ErrR
    rw [if_pos rfl]
    exact .inl ⟨⟨c, w, by rw [ew], hc, hw, by omega⟩, rfl⟩
  walk_at "Ddlx"
  refine stopE (e := [some (.rol (ns.map D.int)), some (.lst (k7.map D.int)), some (encT c ls), some (encT c2 l2), some (.str z), some (.int c), some (.int x), some (.tup tw), some (.tup tb), none]) rfl ?_
  walk_at "Ddlx"
  refine ⟨⟨true, _, _, _, rfl, rfl, rfl, f1⟩, ?_⟩
  rintro _ _ ⟨rfl, h⟩
  obtain rfl := h _ _ _ _ rfl f1
  walk_at "Ddlx"
  refine ⟨⟨true, _, _, _, rfl, rfl, rfl, f2⟩, ?_⟩
  rintro _ _ ⟨rfl, h⟩
  obtain rfl := h _ _ _ _ rfl f2
  walk_at "Ddlx"
  refine stopE (e := [some (.rol (ns.map D.int)), some (.lst (k7.map D.int)), some (encT c ls), some (encT c2 l2), some (.str z), some (.int c), some (.int x), some (.tup tw), some (.tup tb), none]) rfl ?_
  walk_at "Ddlx"
  refine ⟨⟨true, _, _, _, rfl, rfl, rfl, f3⟩, ?_⟩
  rintro _ _ ⟨rfl, h⟩
  obtain rfl := h _ _ _ _ rfl f3
  walk_at "Ddlx"
  refine ⟨⟨true, _, _, _, rfl, rfl, rfl, f4⟩, ?_⟩
  rintro _ _ ⟨rfl, h⟩
  obtain rfl := h _ _ _ _ rfl f4
  walk_at "Ddlx"
  refine stopE (e := [some (.rol (ns.map D.int)), some (.lst (k7.map D.int)), some (encT c ls), some (encT c2 l2), some (.str z), some (.int c), some (.int x), some (.tup tw), some (.tup tb), none]) rfl ?_
  walk_at "Ddlx"
  refine ⟨⟨⟨_, rfl⟩, by decide⟩, ?_⟩
  rintro _ _ ⟨k8, v, rfl, rfl, v0, v1⟩
  walk_at "Ddlx"
  refine stopE (e := [some (.rol (ns.map D.int)), some (.lst (k8.map D.int)), some (encT c ls), some (encT c2 l2), some (.str z), some (.int c), some (.int x), some (.tup tw), some (.tup tb), some (.int (11 + v))]) rfl ?_
  walk_at "Ddlx"
  refine ⟨⟨k8, c, 11 + v, rfl, hc0, hc1, by omega, by omega⟩, ?_⟩
  intro r ds' hp
  obtain ⟨k9, w3, rfl, rfl, hw3, hd3⟩ := hp _ _ _ rfl
  obtain ⟨t3, e3⟩ := encW_tp w3
  rw [e3]
  by_cases g : 12 < 11 + v
  · have f5 : ErrR true (.int c) (.tup t3) (errT 2) := by
      unfold ErrR
      rw [if_pos rfl]
      exact .inr (.inr ⟨⟨c, rfl, hc⟩, ⟨c, w3, rfl, e3.symm, hc, vB_deep (by omega)⟩, rfl⟩)
    walk_at "Ddlx"
    refine ⟨⟨true, _, _, _, rfl, rfl, rfl, f5⟩, ?_⟩
    rintro _ _ ⟨rfl, h⟩
    obtain rfl := h _ _ _ _ rfl f5
    walk_at "Ddlx"
    rw [decide_eq_true g]
    walk_at "Ddlx"
    rfl
  · have f5 : ErrR true (.int c) (.tup t3) sNone := by
      unfold ErrR
      rw [if_pos rfl]
      exact .inl ⟨⟨c, w3, by rw [e3], hc, hw3, by omega⟩, rfl⟩
    walk_at "Ddlx"
    refine ⟨⟨true, _, _, _, rfl, rfl, rfl, f5⟩, ?_⟩
    rintro _ _ ⟨rfl, h⟩
    obtain rfl := h _ _ _ _ rfl f5
    walk_at "Ddlx"
    rw [decide_eq_false g]
    walk_at "Ddlx"
    rfl
end DL

namespace Lw
open PySem PySem.Spec PyProof.Rows L2 DL
def topS (i : Nat) : Stmt := PySem.Challenge.pw_ateverymoment_k24_errors_of_times.main.body.getD i (.Pass ⟨0, 0, 0, 0⟩)
structure Blt (mg : Str → Option Value) : Prop where
  len_ : mg "len" = none
  range_ : mg "range" = none
  int_ : mg "int" = none
  abs_ : mg "abs" = none
  list_ : mg "list" = none
  tuple_ : mg "tuple" = none
  sum_ : mg "sum" = none
  any_ : mg "any" = none
  sorted_ : mg "sorted" = none
  max_ : mg "max" = none
  min_ : mg "min" = none
  divmod_ : mg "divmod" = none
  isinstance_ : mg "isinstance" = none
  zip_ : mg "zip" = none
  reversed_ : mg "reversed" = none
  bool_ : mg "bool" = none
  str_ : mg "str" = none
  set_ : mg "set" = none
  all_ : mg "all" = none
  enumerate_ : mg "enumerate" = none
section
variable {P : Program} {w : World} {K : PySem.W.Frag} {mg : Str → Option Value} {base : Heap}
abbrev s_spans_of : Stmt := topS 2
abbrev N_spans_of : List Str := ["cells", "padded", "edges", "index"]
theorem sc_spans_of : FnScope ["cells", "padded", "edges", "index"] ["cells"] (defScope s_spans_of) := ⟨rfl, rfl, rfl, by decide +kernel, rfl, by decide +kernel, by decide +kernel⟩
set_option maxHeartbeats 0 in
theorem ok_spans_of {f : Addr} {fd : FuncData} (B : Blt mg) (F : Fun K "spans_of" "spans_of" s_spans_of f fd) : FnOk P w K mg base CX0 1 f fd ["cells"] (spOf K 1 sp_spans_of) := by
  have nd := (sc_spans_of).nd
  exact fn_ok w_spans_of F sc_spans_of (fun cdv A outer s H E hr =>
    (s_cons (s_asg 1 nd (e_addG (e_addG (e_lst (a_cons e_bl a_nil)) (e_list B.list_ (e_var 0))) (e_lst (a_cons e_bl a_nil))))
    (s_cons (s_setLc 2 rfl nd (i_rng1 B.range_ (e_addG (e_len B.len_ (e_var 0)) e_int)) (blkOk_by (N := N_spans_of) (sc := defScope s_spans_of) (own := [("index", 3)]) (by decide +kernel)) (fun _ _ _ _ _ => (g_name 3 nd)) (fun _ _ _ _ _ => (ts_one (t_neS (e_ixs (e_var 1) (e_var 3)) (e_ixs (e_var 1) (e_addG (e_var 3) e_int))))) (fun _ _ _ _ _ => (e_var 3)))
    (s_one (s_ret (e_tzip rfl B.tuple_ B.zip_ (e_stp0 (e_var 2)) (e_stp (m := 1) (e_var 2)))))))) pure_spans_of
abbrev s_is_spans : Stmt := topS 3
theorem sc_is_spans : FnScope ["spans", "cycle", "end", "low", "high"] ["spans", "cycle"] (defScope s_is_spans) := ⟨rfl, rfl, rfl, by decide +kernel, rfl, by decide +kernel, by decide +kernel⟩
set_option maxHeartbeats 0 in
theorem ok_is_spans {f : Addr} {fd : FuncData} (B : Blt mg) (F : Fun K "is_spans" "is_spans" s_is_spans f fd) : FnOk P w K mg base CX0 1 f fd ["spans", "cycle"] (spOf K 2 sp_is_spans) := by
  have nd := (sc_is_spans).nd
  exact fn_ok w_is_spans F sc_is_spans (fun cdv A outer s H E hr =>
    (s_cons (s_asg 2 nd (e_neg e_int))
    (s_cons (s_for [0, 1] [3, 4] .never rfl (i_seq (e_var 0)) (g_tup rfl (g_cons (g_name 3 nd) (g_cons (g_name 4 nd) g_nil)))
      (s_cons (s_if (t_not (t_chain3 op_lt op_lt op_le opd_B0 opd_B0 opd_B0 (e_var 2) (e_var 3) (e_var 4) (e_var 1)))
          (s_one (s_ret e_bl))
          s_nil)
        (s_one (s_asg 2 nd (e_var 4)))))
    (s_one (s_ret e_bl))))) pure_is_spans
abbrev s_full_mask : Stmt := topS 5
theorem sc_full_mask : FnScope ["cycle"] ["cycle"] (defScope s_full_mask) := ⟨rfl, rfl, rfl, by decide +kernel, rfl, by decide +kernel, by decide +kernel⟩
set_option maxHeartbeats 0 in
theorem ok_full_mask {f : Addr} {fd : FuncData} (B : Blt mg) (F : Fun K "full_mask" "full_mask" s_full_mask f fd) : FnOk P w K mg base CX0 1 f fd ["cycle"] (spOf K 1 sp_full_mask) := by
  have nd := (sc_full_mask).nd
  exact fn_ok w_full_mask F sc_full_mask (fun cdv A outer s H E hr =>
    (s_one (s_ret (e_sub (e_shl e_int (e_var 0)) e_int)))) pure_full_mask
abbrev s_mask_of : Stmt := topS 6
theorem sc_mask_of : FnScope ["spans", "mask", "low", "high"] ["spans"] (defScope s_mask_of) := ⟨rfl, rfl, rfl, by decide +kernel, rfl, by decide +kernel, by decide +kernel⟩
set_option maxHeartbeats 0 in
theorem ok_mask_of {f : Addr} {fd : FuncData} (B : Blt mg) (F : Fun K "mask_of" "mask_of" s_mask_of f fd) : FnOk P w K mg base CX0 1 f fd ["spans"] (spOf K 1 sp_mask_of) := by
  have nd := (sc_mask_of).nd
  exact fn_ok w_mask_of F sc_mask_of (fun cdv A outer s H E hr =>
    (s_cons (s_asg 1 nd e_int)
    (s_cons (s_for [0] [2, 3] .never rfl (i_seq (e_var 0)) (g_tup rfl (g_cons (g_name 2 nd) (g_cons (g_name 3 nd) g_nil)))
      (s_one (s_asg 1 nd (e_or (e_var 1) (e_sub (e_shl e_int (e_var 3)) (e_shl e_int (e_var 2)))))))
    (s_one (s_ret (e_var 1)))))) pure_mask_of
abbrev s_mask_spans : Stmt := topS 7
abbrev N_mask_spans : List Str := ["mask", "cycle", "phase"]
theorem sc_mask_spans : FnScope ["mask", "cycle", "phase"] ["mask", "cycle"] (defScope s_mask_spans) := ⟨rfl, rfl, rfl, by decide +kernel, rfl, by decide +kernel, by decide +kernel⟩
set_option maxHeartbeats 0 in
theorem ok_mask_spans {f : Addr} {fd : FuncData} (B : Blt mg) (F : Fun K "mask_spans" "mask_spans" s_mask_spans f fd) (F_spans_of : FnD P w K mg base 1 "spans_of" ["cells"] sp_spans_of) (F_phase_bit : FnD P w K mg base 1 "phase_bit" ["mask", "phase"] sp_phase_bit) : FnOk P w K mg base CX0 2 f fd ["mask", "cycle"] (spOf K 2 sp_mask_spans) := by
  have nd := (sc_mask_spans).nd
  exact fn_ok w_mask_spans F sc_mask_spans (fun cdv A outer s H E hr =>
    (s_one (s_ret (e_call F_spans_of (hr.mono (j := 1) (by decide)) (a_cons (e_lc rfl nd (i_rng1 B.range_ (e_var 1)) (blkOk_by (N := N_mask_spans) (sc := defScope s_mask_spans) (own := [("phase", 2)]) (by decide +kernel)) (fun _ _ _ _ _ => (g_name 2 nd)) (fun _ _ _ _ _ => ts_nil) (fun _ _ _ _ _ => (e_eqS (e_call F_phase_bit (hr.mono (j := 1) (by decide)) (a_cons (e_var 0) (a_cons (e_var 2) a_nil))) e_int))) a_nil))))) pure_mask_spans
abbrev s_phase_bit : Stmt := topS 8
theorem sc_phase_bit : FnScope ["mask", "phase"] ["mask", "phase"] (defScope s_phase_bit) := ⟨rfl, rfl, rfl, by decide +kernel, rfl, by decide +kernel, by decide +kernel⟩
set_option maxHeartbeats 0 in
theorem ok_phase_bit {f : Addr} {fd : FuncData} (B : Blt mg) (F : Fun K "phase_bit" "phase_bit" s_phase_bit f fd) : FnOk P w K mg base CX0 1 f fd ["mask", "phase"] (spOf K 2 sp_phase_bit) := by
  have nd := (sc_phase_bit).nd
  exact fn_ok w_phase_bit F sc_phase_bit (fun cdv A outer s H E hr =>
    (s_one (s_ret (e_and (e_shr (e_var 0) (e_var 1)) e_int)))) pure_phase_bit
abbrev s_turned_mask : Stmt := topS 9
theorem sc_turned_mask : FnScope ["mask", "cycle", "moment", "by"] ["mask", "cycle", "moment"] (defScope s_turned_mask) := ⟨rfl, rfl, rfl, by decide +kernel, rfl, by decide +kernel, by decide +kernel⟩
set_option maxHeartbeats 0 in
theorem ok_turned_mask {f : Addr} {fd : FuncData} (B : Blt mg) (F : Fun K "turned_mask" "turned_mask" s_turned_mask f fd) (F_full_mask : FnD P w K mg base 1 "full_mask" ["cycle"] sp_full_mask) : FnOk P w K mg base CX0 2 f fd ["mask", "cycle", "moment"] (spOf K 3 sp_turned_mask) := by
  have nd := (sc_turned_mask).nd
  exact fn_ok w_turned_mask F sc_turned_mask (fun cdv A outer s H E hr =>
    (s_cons (s_asg 3 nd (e_mod (e_var 2) (e_var 1)))
    (s_one (s_ret (e_and (e_or (e_shr (e_var 0) (e_var 3)) (e_shl (e_var 0) (e_sub (e_var 1) (e_var 3)))) (e_call F_full_mask (hr.mono (j := 1) (by decide)) (a_cons (e_var 1) a_nil))))))) pure_turned_mask
abbrev s_covered_mask : Stmt := topS 10
theorem sc_covered_mask : FnScope ["cycle", "start", "end"] ["cycle", "start", "end"] (defScope s_covered_mask) := ⟨rfl, rfl, rfl, by decide +kernel, rfl, by decide +kernel, by decide +kernel⟩
set_option maxHeartbeats 0 in
theorem ok_covered_mask {f : Addr} {fd : FuncData} (B : Blt mg) (F : Fun K "covered_mask" "covered_mask" s_covered_mask f fd) (F_full_mask : FnD P w K mg base 1 "full_mask" ["cycle"] sp_full_mask) (F_turned_mask : FnD P w K mg base 2 "turned_mask" ["mask", "cycle", "moment"] sp_turned_mask) : FnOk P w K mg base CX0 3 f fd ["cycle", "start", "end"] (spOf K 3 sp_covered_mask) := by
  have nd := (sc_covered_mask).nd
  exact fn_ok w_covered_mask F sc_covered_mask (fun cdv A outer s H E hr =>
    (s_cons (s_if (t_bop (w_or (t_isN (e_var 2)) (w_or1 (t_ge (e_sub (e_var 2) (e_var 1)) (e_var 0)))))
      (s_one (s_ret (e_call F_full_mask (hr.mono (j := 1) (by decide)) (a_cons (e_var 0) a_nil))))
      s_nil)
    (s_one (s_ret (e_call F_turned_mask (hr.mono (j := 2) (by decide)) (a_cons (e_sub (e_shl e_int (e_sub (e_var 2) (e_var 1))) e_int) (a_cons (e_var 0) (a_cons (e_neg (e_var 1)) a_nil)))))))) pure_covered_mask
abbrev s_first_within : Stmt := topS 11
theorem sc_first_within : FnScope ["mask", "cycle", "start", "end", "turned", "found"] ["mask", "cycle", "start", "end"] (defScope s_first_within) := ⟨rfl, rfl, rfl, by decide +kernel, rfl, by decide +kernel, by decide +kernel⟩
set_option maxHeartbeats 0 in
theorem ok_first_within {f : Addr} {fd : FuncData} (B : Blt mg) (F : Fun K "first_within" "first_within" s_first_within f fd) (F_turned_mask : FnD P w K mg base 2 "turned_mask" ["mask", "cycle", "moment"] sp_turned_mask) : FnOk P w K mg base CX0 3 f fd ["mask", "cycle", "start", "end"] (spOf K 4 sp_first_within) := by
  have nd := (sc_first_within).nd
  exact fn_ok w_first_within F sc_first_within (fun cdv A outer s H E hr =>
    (s_cons (s_if (t_eqS (e_var 0) e_int)
      (s_one (s_ret e_non))
      s_nil)
    (s_cons (s_asg 4 nd (e_call F_turned_mask (hr.mono (j := 2) (by decide)) (a_cons (e_var 0) (a_cons (e_var 1) (a_cons (e_var 2) a_nil)))))
    (s_cons (s_asg 5 nd (e_sub (e_addG (e_var 2) (e_bits (e_and (e_var 4) (e_neg (e_var 4))))) e_int))
    (s_cons (s_if (t_bop (w_and (t_notN (e_var 3)) (w_and1 (t_ge (e_var 5) (e_var 3)))))
      (s_one (s_ret e_non))
      s_nil)
    (s_one (s_ret (e_var 5)))))))) pure_first_within
abbrev s_pieces_of : Stmt := topS 27
abbrev N_pieces_of : List Str := ["table", "start", "spans"]
theorem sc_pieces_of : FnScope ["table", "start", "spans"] ["table"] (defScope s_pieces_of) := ⟨rfl, rfl, rfl, by decide +kernel, rfl, by decide +kernel, by decide +kernel⟩
set_option maxHeartbeats 0 in
theorem ok_pieces_of {f : Addr} {fd : FuncData} (B : Blt mg) (F : Fun K "pieces_of" "pieces_of" s_pieces_of f fd) (F_mask_of : FnD P w K mg base 1 "mask_of" ["spans"] sp_mask_of) : FnOk P w K mg base CX0 2 f fd ["table"] (spOf K 1 sp_pieces_of) := by
  have nd := (sc_pieces_of).nd
  exact fn_ok w_pieces_of F sc_pieces_of (fun cdv A outer s H E hr =>
    (s_one (s_ret (e_lc rfl nd (i_seq (e_ixs (e_var 0) e_int)) (blkOk_by (N := N_pieces_of) (sc := defScope s_pieces_of) (own := [("start", 1), ("spans", 2)]) (by decide +kernel)) (fun _ _ _ _ _ => (g_tup rfl (g_cons (g_name 1 nd) (g_cons (g_name 2 nd) g_nil)))) (fun _ _ _ _ _ => ts_nil) (fun _ _ _ _ _ => (e_tup (a_cons (e_var 1) (a_cons (e_call F_mask_of (hr.mono (j := 1) (by decide)) (a_cons (e_var 2) a_nil)) a_nil)))))))) pure_pieces_of
abbrev s_stretches_of : Stmt := topS 28
abbrev N_stretches_of : List Str := ["pieces", "ends", "start", "_", "held", "end"]
theorem sc_stretches_of : FnScope ["pieces", "ends", "start", "_", "held", "end"] ["pieces"] (defScope s_stretches_of) := ⟨rfl, rfl, rfl, by decide +kernel, rfl, by decide +kernel, by decide +kernel⟩
set_option maxHeartbeats 0 in
theorem ok_stretches_of {f : Addr} {fd : FuncData} (B : Blt mg) (F : Fun K "stretches_of" "stretches_of" s_stretches_of f fd) : FnOk P w K mg base CX0 1 f fd ["pieces"] (spOf K 1 sp_stretches_of) := by
  have nd := (sc_stretches_of).nd
  exact fn_ok w_stretches_of F sc_stretches_of (fun cdv A outer s H E hr =>
    (s_cons (s_asg 1 nd (e_addG (e_lc rfl nd (i_seq (e_slL (e_var 0) e_int)) (blkOk_by (N := N_stretches_of) (sc := defScope s_stretches_of) (own := [("start", 2), ("_", 3)]) (by decide +kernel)) (fun _ _ _ _ _ => (g_tup rfl (g_cons (g_name 2 nd) (g_cons (g_name 3 nd) g_nil)))) (fun _ _ _ _ _ => ts_nil) (fun _ _ _ _ _ => (e_var 2))) (e_lst (a_cons e_non a_nil))))
    (s_one (s_ret (e_lc rfl nd (i_zipG B.zip_ (e_var 0) (e_var 1)) (blkOk_by (N := N_stretches_of) (sc := defScope s_stretches_of) (own := [("start", 2), ("held", 4), ("end", 5)]) (by decide +kernel)) (fun _ _ _ _ _ => (g_tup rfl (g_cons (g_tup rfl (g_cons (g_name 2 nd) (g_cons (g_name 4 nd) g_nil))) (g_cons (g_name 5 nd) g_nil)))) (fun _ _ _ _ _ => (ts_one (t_bop (w_or (t_isN (e_var 5)) (w_or1 (t_lt (e_var 2) (e_var 5))))))) (fun _ _ _ _ _ => (e_tup (a_cons (e_var 2) (a_cons (e_var 5) (a_cons (e_var 4) a_nil)))))))))) pure_stretches_of
abbrev s_met_pieces : Stmt := topS 29
abbrev N_met_pieces : List Str := ["table", "other", "changes", "one", "two", "met", "start", "place", "mask"]
theorem sc_met_pieces : FnScope ["table", "other", "changes", "one", "two", "met", "start", "place", "mask"] ["table", "other"] (defScope s_met_pieces) := ⟨rfl, rfl, rfl, by decide +kernel, rfl, by decide +kernel, by decide +kernel⟩
set_option maxHeartbeats 0 in
theorem ok_met_pieces {f : Addr} {fd : FuncData} (B : Blt mg) (F : Fun K "met_pieces" "met_pieces" s_met_pieces f fd) (F_pieces_of : FnD P w K mg base 2 "pieces_of" ["table"] sp_pieces_of) : FnOk P w K mg base CX0 3 f fd ["table", "other"] (spOf K 2 sp_met_pieces) := by
  have nd := (sc_met_pieces).nd
  exact fn_ok w_met_pieces F sc_met_pieces (fun cdv A outer s H E hr =>
    (s_cons (s_if (t_neS (e_ixs (e_var 0) e_int) (e_ixs (e_var 1) e_int))
      (s_one DL.s_never)
      s_nil)
    (s_cons (s_setLc 2 rfl nd (i_seq (e_call F_pieces_of (hr.mono (j := 2) (by decide)) (a_cons (e_var 0) a_nil))) (blkOk_by (N := N_met_pieces) (sc := defScope s_met_pieces) (own := [("start", 6), ("mask", 8)]) (by decide +kernel)) (fun _ _ _ _ _ => (g_tup rfl (g_cons (g_name 6 nd) (g_cons (g_name 8 nd) g_nil)))) (fun _ _ _ _ _ => ts_nil) (fun _ _ _ _ _ => (e_tup (a_cons (e_var 6) (a_cons e_int (a_cons (e_var 8) a_nil))))))
    (s_cons (s_asg 2 nd (e_addG (e_var 2) (e_lc rfl nd (i_seq (e_call F_pieces_of (hr.mono (j := 2) (by decide)) (a_cons (e_var 1) a_nil))) (blkOk_by (N := N_met_pieces) (sc := defScope s_met_pieces) (own := [("start", 6), ("mask", 8)]) (by decide +kernel)) (fun _ _ _ _ _ => (g_tup rfl (g_cons (g_name 6 nd) (g_cons (g_name 8 nd) g_nil)))) (fun _ _ _ _ _ => ts_nil) (fun _ _ _ _ _ => (e_tup (a_cons (e_var 6) (a_cons e_int (a_cons (e_var 8) a_nil))))))))
    (s_cons (s_ch2 (sl := [3, 4]) e_int (g_name 3 nd) (g_name 4 nd))
    (s_cons (s_asg 5 nd (e_lst a_nil))
    (s_cons (s_for [0, 1] [6, 7, 8] .never rfl (i_seq (e_sorted rfl B.sorted_ (e_var 2))) (g_tup rfl (g_cons (g_name 6 nd) (g_cons (g_name 7 nd) (g_cons (g_name 8 nd) g_nil))))
      (s_cons (s_if (t_eqS (e_var 7) e_int)
          (s_one (s_asg 3 nd (e_var 8)))
          (s_one (s_asg 4 nd (e_var 8))))
        (s_one (s_expr (e_append (i := 5) (e_tup (a_cons (e_var 6) (a_cons (e_tup (a_cons (e_var 3) (a_cons (e_var 4) a_nil))) a_nil))))))))
    (s_one (s_ret (e_var 5)))))))))) pure_met_pieces
abbrev s_table_of : Stmt := topS 30
theorem sc_table_of : FnScope ["cycle", "pieces", "lines", "begin", "seen", "inside", "start", "end", "mask", "turn", "cover"] ["cycle", "pieces"] (defScope s_table_of) := ⟨rfl, rfl, rfl, by decide +kernel, rfl, by decide +kernel, by decide +kernel⟩
set_option maxHeartbeats 0 in
theorem ok_table_of {f : Addr} {fd : FuncData} (B : Blt mg) (F : Fun K "table_of" "table_of" s_table_of f fd) (F_stretches_of : FnD P w K mg base 1 "stretches_of" ["pieces"] sp_stretches_of) (F_first_within : FnD P w K mg base 3 "first_within" ["mask", "cycle", "start", "end"] sp_first_within) (F_covered_mask : FnD P w K mg base 3 "covered_mask" ["cycle", "start", "end"] sp_covered_mask) (F_mask_spans : FnD P w K mg base 2 "mask_spans" ["mask", "cycle"] sp_mask_spans) : FnOk P w K mg base CX0 4 f fd ["cycle", "pieces"] (spOf K 2 sp_table_of) := by
  have nd := (sc_table_of).nd
  exact fn_ok w_table_of F sc_table_of (fun cdv A outer s H E hr =>
    (s_cons (s_asg 2 nd (e_lst a_nil))
    (s_cons (s_ch3 (sl := [3, 4, 5]) e_int (g_name 3 nd) (g_name 4 nd) (g_name 5 nd))
    (s_cons (s_for [0, 1] [6, 7, 8] .never rfl (i_seq (e_call F_stretches_of (hr.mono (j := 1) (by decide)) (a_cons (e_var 1) a_nil))) (g_tup rfl (g_cons (g_name 6 nd) (g_cons (g_name 7 nd) (g_cons (g_name 8 nd) g_nil))))
      (s_cons (s_asg 9 nd (e_call F_first_within (hr.mono (j := 3) (by decide)) (a_cons (e_and (e_xor (e_var 8) (e_var 5)) (e_var 4)) (a_cons (e_var 0) (a_cons (e_var 6) (a_cons (e_var 7) a_nil))))))
        (s_cons (s_if (t_notN (e_var 9))
          (s_cons (s_asg 5 nd (e_or (e_var 5) (e_and (e_var 8) (e_call F_covered_mask (hr.mono (j := 3) (by decide)) (a_cons (e_var 0) (a_cons (e_var 6) (a_cons (e_var 9) a_nil)))))))
            (s_cons (s_expr (e_append (i := 2) (e_tup (a_cons (e_var 3) (a_cons (e_call F_mask_spans (hr.mono (j := 2) (by decide)) (a_cons (e_var 5) (a_cons (e_var 0) a_nil))) a_nil)))))
            (s_one (s_par3 3 4 5 rfl nd (a_cons (e_var 9) (a_cons e_int (a_cons e_int a_nil)))))))
          s_nil)
        (s_cons (s_asg 10 nd (e_call F_covered_mask (hr.mono (j := 3) (by decide)) (a_cons (e_var 0) (a_cons (e_max rfl B.max_ (e_var 6) (e_var 3)) (a_cons (e_var 7) a_nil)))))
        (s_cons (s_asg 4 nd (e_or (e_var 4) (e_var 10)))
        (s_one (s_asg 5 nd (e_or (e_var 5) (e_and (e_var 8) (e_var 10))))))))))
    (s_cons (s_expr (e_append (i := 2) (e_tup (a_cons (e_var 3) (a_cons (e_call F_mask_spans (hr.mono (j := 2) (by decide)) (a_cons (e_var 5) (a_cons (e_var 0) a_nil))) a_nil)))))
    (s_one (s_ret (e_tup (a_cons (e_var 0) (a_cons (e_tuple B.tuple_ (e_var 2)) a_nil)))))))))) pure_table_of
abbrev s_is_cycle : Stmt := topS 33
theorem sc_is_cycle : FnScope ["cycle"] ["cycle"] (defScope s_is_cycle) := ⟨rfl, rfl, rfl, by decide +kernel, rfl, by decide +kernel, by decide +kernel⟩
set_option maxHeartbeats 0 in
theorem ok_is_cycle {f : Addr} {fd : FuncData} (B : Blt mg) (F : Fun K "is_cycle" "is_cycle" s_is_cycle f fd) {t_LONGEST_CYCLE : Tok} (g_LONGEST_CYCLE : mg "LONGEST_CYCLE" = some (.int 60 t_LONGEST_CYCLE)) : FnOk P w K mg base CX0 1 f fd ["cycle"] (spOf K 1 sp_is_cycle) := by
  have nd := (sc_is_cycle).nd
  exact fn_ok w_is_cycle F sc_is_cycle (fun cdv A outer s H E hr =>
    (s_one (s_ret (e_chain op_le op_le opd_B0 opd_B0 e_int (e_var 0) (e_gint g_LONGEST_CYCLE))))) pure_is_cycle
abbrev s_is_table : Stmt := topS 34
theorem sc_is_table : FnScope ["table", "cycle", "lines", "before", "start", "spans"] ["table"] (defScope s_is_table) := ⟨rfl, rfl, rfl, by decide +kernel, rfl, by decide +kernel, by decide +kernel⟩
set_option maxHeartbeats 0 in
theorem ok_is_table {f : Addr} {fd : FuncData} (B : Blt mg) (F : Fun K "is_table" "is_table" s_is_table f fd) (F_is_cycle : FnD P w K mg base 1 "is_cycle" ["cycle"] sp_is_cycle) (F_is_spans : FnD P w K mg base 1 "is_spans" ["spans", "cycle"] sp_is_spans) : FnOk P w K mg base CX0 2 f fd ["table"] (spOf K 1 sp_is_table) := by
  have nd := (sc_is_table).nd
  exact fn_ok w_is_table F sc_is_table (fun cdv A outer s H E hr =>
    (s_cons (s_unp (sl := [1, 2]) (e_var 0) (g_tup rfl (g_cons (g_name 1 nd) (g_cons (g_name 2 nd) g_nil))))
    (s_cons (s_if (t_bop (w_or (t_not (t_val (e_call F_is_cycle (hr.mono (j := 1) (by decide)) (a_cons (e_var 1) a_nil)))) (w_or (t_eqS (e_len B.len_ (e_var 2)) e_int) (w_or1 (t_neS (e_ixs (e_ixs (e_var 2) e_int) e_int) e_int)))))
      (s_one (s_ret e_bl))
      s_nil)
    (s_cons (s_asg 3 nd (e_neg e_int))
    (s_cons (s_for [0, 2] [4, 5] .never rfl (i_seq (e_var 2)) (g_tup rfl (g_cons (g_name 4 nd) (g_cons (g_name 5 nd) g_nil)))
      (s_cons (s_if (t_bop (w_or (t_le (e_var 4) (e_var 3)) (w_or1 (t_not (t_val (e_call F_is_spans (hr.mono (j := 1) (by decide)) (a_cons (e_var 5) (a_cons (e_var 1) a_nil))))))))
          (s_one (s_ret e_bl))
          s_nil)
        (s_one (s_asg 3 nd (e_var 4)))))
    (s_one (s_ret e_bl))))))) pure_is_table
abbrev s_shortest : Stmt := topS 37
theorem sc_shortest : FnScope ["table"] ["table"] (defScope s_shortest) := ⟨rfl, rfl, rfl, by decide +kernel, rfl, by decide +kernel, by decide +kernel⟩
set_option maxHeartbeats 0 in
theorem ok_shortest {f : Addr} {fd : FuncData} (B : Blt mg) (F : Fun K "shortest" "shortest" s_shortest f fd) (F_table_of : FnD P w K mg base 4 "table_of" ["cycle", "pieces"] sp_table_of) (F_pieces_of : FnD P w K mg base 2 "pieces_of" ["table"] sp_pieces_of) : FnOk P w K mg base CX0 5 f fd ["table"] (spOf K 1 sp_shortest) := by
  have nd := (sc_shortest).nd
  exact fn_ok w_shortest F sc_shortest (fun cdv A outer s H E hr =>
    (s_one (s_ret (e_call F_table_of (hr.mono (j := 4) (by decide)) (a_cons (e_ixs (e_var 0) e_int) (a_cons (e_call F_pieces_of (hr.mono (j := 2) (by decide)) (a_cons (e_var 0) a_nil)) a_nil)))))) pure_shortest
abbrev s_span_table : Stmt := topS 38
theorem sc_span_table : FnScope ["cycle", "start", "end", "pieces"] ["cycle", "start", "end"] (defScope s_span_table) := ⟨rfl, rfl, rfl, by decide +kernel, rfl, by decide +kernel, by decide +kernel⟩
set_option maxHeartbeats 0 in
theorem ok_span_table {f : Addr} {fd : FuncData} (B : Blt mg) (F : Fun K "span_table" "span_table" s_span_table f fd) (F_full_mask : FnD P w K mg base 1 "full_mask" ["cycle"] sp_full_mask) (F_table_of : FnD P w K mg base 4 "table_of" ["cycle", "pieces"] sp_table_of) : FnOk P w K mg base CX0 5 f fd ["cycle", "start", "end"] (spOf K 3 sp_span_table) := by
  have nd := (sc_span_table).nd
  exact fn_ok w_span_table F sc_span_table (fun cdv A outer s H E hr =>
    (s_cons (s_asg 3 nd (e_lst (a_cons (e_tup (a_cons e_int (a_cons e_int a_nil))) (a_cons (e_tup (a_cons (e_var 1) (a_cons (e_call F_full_mask (hr.mono (j := 1) (by decide)) (a_cons (e_var 0) a_nil)) a_nil))) a_nil))))
    (s_cons (s_if (t_notN (e_var 2))
      (s_one (s_expr (e_append (i := 3) (e_tup (a_cons (e_var 2) (a_cons e_int a_nil))))))
      s_nil)
    (s_one (s_ret (e_call F_table_of (hr.mono (j := 4) (by decide)) (a_cons (e_var 0) (a_cons (e_var 3) a_nil)))))))) pure_span_table
abbrev s_either : Stmt := topS 41
abbrev N_either : List Str := ["table", "other", "start", "one", "two"]
theorem sc_either : FnScope ["table", "other", "start", "one", "two"] ["table", "other"] (defScope s_either) := ⟨rfl, rfl, rfl, by decide +kernel, rfl, by decide +kernel, by decide +kernel⟩
set_option maxHeartbeats 0 in
theorem ok_either {f : Addr} {fd : FuncData} (B : Blt mg) (F : Fun K "either" "either" s_either f fd) (F_table_of : FnD P w K mg base 4 "table_of" ["cycle", "pieces"] sp_table_of) (F_met_pieces : FnD P w K mg base 3 "met_pieces" ["table", "other"] sp_met_pieces) : FnOk P w K mg base CX0 5 f fd ["table", "other"] (spOf K 2 sp_either) := by
  have nd := (sc_either).nd
  exact fn_ok w_either F sc_either (fun cdv A outer s H E hr =>
    (s_one (s_ret (e_call F_table_of (hr.mono (j := 4) (by decide)) (a_cons (e_ixs (e_var 0) e_int) (a_cons (e_lc rfl nd (i_seq (e_call F_met_pieces (hr.mono (j := 3) (by decide)) (a_cons (e_var 0) (a_cons (e_var 1) a_nil)))) (blkOk_by (N := N_either) (sc := defScope s_either) (own := [("start", 2), ("one", 3), ("two", 4)]) (by decide +kernel)) (fun _ _ _ _ _ => (g_tup rfl (g_cons (g_name 2 nd) (g_cons (g_tup rfl (g_cons (g_name 3 nd) (g_cons (g_name 4 nd) g_nil))) g_nil)))) (fun _ _ _ _ _ => ts_nil) (fun _ _ _ _ _ => (e_tup (a_cons (e_var 2) (a_cons (e_or (e_var 3) (e_var 4)) a_nil))))) a_nil)))))) pure_either
abbrev s_without : Stmt := topS 42
abbrev N_without : List Str := ["table", "other", "start", "one", "two"]
theorem sc_without : FnScope ["table", "other", "start", "one", "two"] ["table", "other"] (defScope s_without) := ⟨rfl, rfl, rfl, by decide +kernel, rfl, by decide +kernel, by decide +kernel⟩
set_option maxHeartbeats 0 in
theorem ok_without {f : Addr} {fd : FuncData} (B : Blt mg) (F : Fun K "without" "without" s_without f fd) (F_table_of : FnD P w K mg base 4 "table_of" ["cycle", "pieces"] sp_table_of) (F_met_pieces : FnD P w K mg base 3 "met_pieces" ["table", "other"] sp_met_pieces) : FnOk P w K mg base CX0 5 f fd ["table", "other"] (spOf K 2 sp_without) := by
  have nd := (sc_without).nd
  exact fn_ok w_without F sc_without (fun cdv A outer s H E hr =>
    (s_one (s_ret (e_call F_table_of (hr.mono (j := 4) (by decide)) (a_cons (e_ixs (e_var 0) e_int) (a_cons (e_lc rfl nd (i_seq (e_call F_met_pieces (hr.mono (j := 3) (by decide)) (a_cons (e_var 0) (a_cons (e_var 1) a_nil)))) (blkOk_by (N := N_without) (sc := defScope s_without) (own := [("start", 2), ("one", 3), ("two", 4)]) (by decide +kernel)) (fun _ _ _ _ _ => (g_tup rfl (g_cons (g_name 2 nd) (g_cons (g_tup rfl (g_cons (g_name 3 nd) (g_cons (g_name 4 nd) g_nil))) g_nil)))) (fun _ _ _ _ _ => ts_nil) (fun _ _ _ _ _ => (e_tup (a_cons (e_var 2) (a_cons (e_and (e_var 3) (e_inv (e_var 4))) a_nil))))) a_nil)))))) pure_without
abbrev s_is_when : Stmt := topS 51
theorem sc_is_when : FnScope ["cycle", "when"] ["cycle", "when"] (defScope s_is_when) := ⟨rfl, rfl, rfl, by decide +kernel, rfl, by decide +kernel, by decide +kernel⟩
set_option maxHeartbeats 0 in
theorem ok_is_when {f : Addr} {fd : FuncData} (B : Blt mg) (F : Fun K "is_when" "is_when" s_is_when f fd) (F_is_valid : FnD P w K mg base 17 "is_valid" ["cycle", "when", "depth"] sp_is_valid) {t_GREATEST_DEPTH : Tok} (g_GREATEST_DEPTH : mg "GREATEST_DEPTH" = some (.int 12 t_GREATEST_DEPTH)) : FnOk P w K mg base CX0 18 f fd ["cycle", "when"] (spOf K 2 sp_is_when) := by
  have nd := (sc_is_when).nd
  exact fn_ok w_is_when F sc_is_when (fun cdv A outer s H E hr =>
    (s_one (s_ret (e_call F_is_valid (hr.mono (j := 17) (by decide)) (a_cons (e_var 0) (a_cons (e_var 1) (a_cons (e_gint g_GREATEST_DEPTH) a_nil))))))) pure_is_when
abbrev s_is_valid : Stmt := topS 52
theorem sc_is_valid : FnScope ["cycle", "when", "depth", "kind"] ["cycle", "when", "depth"] (defScope s_is_valid) := ⟨rfl, rfl, rfl, by decide +kernel, rfl, by decide +kernel, by decide +kernel⟩
set_option maxHeartbeats 0 in
theorem okn_is_valid {f : Addr} {fd : FuncData} (B : Blt mg) (F : Fun K "is_valid" "is_valid" s_is_valid f fd) (g : mg "is_valid" = some (.ref f)) (F_is_valid_round : FnD P w K mg base 1 "is_valid_round" ["cycle", "when"] sp_is_valid_round) : ∀ n : Nat, FnOk P w K mg base CX0 (1 + n) f fd ["cycle", "when", "depth"] (spOf K 3 (spn_is_valid n))
  | 0 => fn_false fun _ h => h
  | n + 1 => by
    have nd := (sc_is_valid).nd
    have F_is_valid : FnD P w K mg base (1 + n) "is_valid" ["cycle", "when", "depth"] (spn_is_valid n) := ⟨f, fd, okn_is_valid B F g F_is_valid_round n, g, F.kp, F.binds fun _ _ _ _ _ _ us hl => match us, hl with | [_, _, _], _ => rfl⟩
    exact fn_ok (w_is_valid n) F sc_is_valid (fun cdv A outer s H E hr =>
    (s_cons (s_if (t_eqS (e_var 2) e_int)
      (s_one (s_ret e_bl))
      s_nil)
    (s_cons (s_asg 3 nd (e_ixs (e_var 1) e_int))
    (s_cons (s_if (t_eqS (e_var 3) e_str)
      (s_one (s_ret (e_chain op_le op_lt opd_B0 opd_B0 e_int (e_ixs (e_var 1) e_int) (e_ixs (e_var 1) e_int))))
      s_nil)
    (s_cons (s_if (t_eqS (e_var 3) e_str)
      (s_one (s_ret (e_ge (e_ixs (e_var 1) e_int) e_int)))
      s_nil)
    (s_cons (s_if (t_eqS (e_var 3) e_str)
      (s_one (s_ret (e_call F_is_valid_round (hr.mono (j := 1) (Nat.le_trans (by decide : _ ≤ 1) (Nat.le_add_right _ _))) (a_cons (e_var 0) (a_cons (e_var 1) a_nil)))))
      s_nil)
    (s_one (s_ret (e_and' (e_call F_is_valid (hr.mono (j := 1 + n) (Nat.le_refl _)) (a_cons (e_var 0) (a_cons (e_ixs (e_var 1) e_int) (a_cons (e_sub (e_var 2) e_int) a_nil)))) (e_one (e_call F_is_valid (hr.mono (j := 1 + n) (Nat.le_refl _)) (a_cons (e_var 0) (a_cons (e_ixs (e_var 1) e_int) (a_cons (e_sub (e_var 2) e_int) a_nil)))))))))))))) (pure_is_valid n)
theorem ok_is_valid {f : Addr} {fd : FuncData} (B : Blt mg) (F : Fun K "is_valid" "is_valid" s_is_valid f fd) (g : mg "is_valid" = some (.ref f)) (F_is_valid_round : FnD P w K mg base 1 "is_valid_round" ["cycle", "when"] sp_is_valid_round) : FnOk P w K mg base CX0 17 f fd ["cycle", "when", "depth"] (spOf K 3 sp_is_valid) :=
  okn_is_valid B F g F_is_valid_round 16
abbrev s_is_valid_round : Stmt := topS 53
theorem sc_is_valid_round : FnScope ["cycle", "when", "_", "start", "length", "every", "times"] ["cycle", "when"] (defScope s_is_valid_round) := ⟨rfl, rfl, rfl, by decide +kernel, rfl, by decide +kernel, by decide +kernel⟩
set_option maxHeartbeats 0 in
theorem ok_is_valid_round {f : Addr} {fd : FuncData} (B : Blt mg) (F : Fun K "is_valid_round" "is_valid_round" s_is_valid_round f fd) : FnOk P w K mg base CX0 1 f fd ["cycle", "when"] (spOf K 2 sp_is_valid_round) := by
  have nd := (sc_is_valid_round).nd
  exact fn_ok w_is_valid_round F sc_is_valid_round (fun cdv A outer s H E hr =>
    (s_cons (s_unp (sl := [2, 3, 4, 5, 6]) (e_var 1) (g_tup rfl (g_cons (g_name 2 nd) (g_cons (g_name 3 nd) (g_cons (g_name 4 nd) (g_cons (g_name 5 nd) (g_cons (g_name 6 nd) g_nil)))))))
    (s_cons (s_if (t_bop (w_or (t_lt (e_var 3) e_int) (w_or (t_not (t_chain op_le op_le opd_B0 opd_B0 e_int (e_var 4) (e_var 5))) (w_or1 (t_neS (e_mod (e_var 0) (e_var 5)) e_int)))))
      (s_one (s_ret e_bl))
      s_nil)
    (s_one (s_ret (e_or' (e_isN (e_var 6)) (e_one (e_ge (e_var 6) e_int)))))))) pure_is_valid_round
abbrev s_when_table : Stmt := topS 54
theorem sc_when_table : FnScope ["cycle", "when"] ["cycle", "when"] (defScope s_when_table) := ⟨rfl, rfl, rfl, by decide +kernel, rfl, by decide +kernel, by decide +kernel⟩
set_option maxHeartbeats 0 in
theorem ok_when_table {f : Addr} {fd : FuncData} (B : Blt mg) (F : Fun K "when_table" "when_table" s_when_table f fd) (F_is_when : FnD P w K mg base 18 "is_when" ["cycle", "when"] sp_is_when) (F_valid_table : FnD P w K mg base 21 "valid_table" ["cycle", "when"] sp_valid_table) : FnOk P w K mg base CX0 22 f fd ["cycle", "when"] (spOf K 2 sp_when_table) := by
  have nd := (sc_when_table).nd
  exact fn_ok w_when_table F sc_when_table (fun cdv A outer s H E hr =>
    (s_cons (s_if (t_not (t_val (e_call F_is_when (hr.mono (j := 18) (by decide)) (a_cons (e_var 0) (a_cons (e_var 1) a_nil)))))
      (s_one DL.s_never)
      s_nil)
    (s_one (s_ret (e_call F_valid_table (hr.mono (j := 21) (by decide)) (a_cons (e_var 0) (a_cons (e_var 1) a_nil))))))) pure_when_table
abbrev s_valid_table : Stmt := topS 55
theorem sc_valid_table : FnScope ["cycle", "when", "kind"] ["cycle", "when"] (defScope s_valid_table) := ⟨rfl, rfl, rfl, by decide +kernel, rfl, by decide +kernel, by decide +kernel⟩
set_option maxHeartbeats 0 in
theorem okn_valid_table {f : Addr} {fd : FuncData} (B : Blt mg) (F : Fun K "valid_table" "valid_table" s_valid_table f fd) (g : mg "valid_table" = some (.ref f)) (F_span_table : FnD P w K mg base 5 "span_table" ["cycle", "start", "end"] sp_span_table) (F_round_table : FnD P w K mg base 5 "round_table" ["cycle", "when"] sp_round_table) (F_either : FnD P w K mg base 5 "either" ["table", "other"] sp_either) (F_without : FnD P w K mg base 5 "without" ["table", "other"] sp_without) : ∀ n : Nat, FnOk P w K mg base CX0 (5 + n) f fd ["cycle", "when"] (spOf K 2 (spn_valid_table n))
  | 0 => fn_false fun _ h => h
  | n + 1 => by
    have nd := (sc_valid_table).nd
    have F_valid_table : FnD P w K mg base (5 + n) "valid_table" ["cycle", "when"] (spn_valid_table n) := ⟨f, fd, okn_valid_table B F g F_span_table F_round_table F_either F_without n, g, F.kp, F.binds fun _ _ _ _ _ _ us hl => match us, hl with | [_, _], _ => rfl⟩
    exact fn_ok (w_valid_table n) F sc_valid_table (fun cdv A outer s H E hr =>
    (s_cons (s_asg 2 nd (e_ixs (e_var 1) e_int))
    (s_cons (s_if (t_eqS (e_var 2) e_str)
      (s_one (s_ret (e_call F_span_table (hr.mono (j := 5) (Nat.le_trans (by decide : _ ≤ 5) (Nat.le_add_right _ _))) (a_cons (e_var 0) (a_cons (e_ixs (e_var 1) e_int) (a_cons (e_ixs (e_var 1) e_int) a_nil))))))
      s_nil)
    (s_cons (s_if (t_eqS (e_var 2) e_str)
      (s_one (s_ret (e_call F_span_table (hr.mono (j := 5) (Nat.le_trans (by decide : _ ≤ 5) (Nat.le_add_right _ _))) (a_cons (e_var 0) (a_cons (e_ixs (e_var 1) e_int) (a_cons e_non a_nil))))))
      s_nil)
    (s_cons (s_if (t_eqS (e_var 2) e_str)
      (s_one (s_ret (e_call F_round_table (hr.mono (j := 5) (Nat.le_trans (by decide : _ ≤ 5) (Nat.le_add_right _ _))) (a_cons (e_var 0) (a_cons (e_var 1) a_nil)))))
      s_nil)
    (s_cons (s_if (t_eqS (e_var 2) e_str)
      (s_one (s_ret (e_call F_either (hr.mono (j := 5) (Nat.le_trans (by decide : _ ≤ 5) (Nat.le_add_right _ _))) (a_cons (e_call F_valid_table (hr.mono (j := 5 + n) (Nat.le_refl _)) (a_cons (e_var 0) (a_cons (e_ixs (e_var 1) e_int) a_nil))) (a_cons (e_call F_valid_table (hr.mono (j := 5 + n) (Nat.le_refl _)) (a_cons (e_var 0) (a_cons (e_ixs (e_var 1) e_int) a_nil))) a_nil)))))
      s_nil)
    (s_one (s_ret (e_call F_without (hr.mono (j := 5) (Nat.le_trans (by decide : _ ≤ 5) (Nat.le_add_right _ _))) (a_cons (e_call F_valid_table (hr.mono (j := 5 + n) (Nat.le_refl _)) (a_cons (e_var 0) (a_cons (e_ixs (e_var 1) e_int) a_nil))) (a_cons (e_call F_valid_table (hr.mono (j := 5 + n) (Nat.le_refl _)) (a_cons (e_var 0) (a_cons (e_ixs (e_var 1) e_int) a_nil))) a_nil))))))))))) (pure_valid_table n)
theorem ok_valid_table {f : Addr} {fd : FuncData} (B : Blt mg) (F : Fun K "valid_table" "valid_table" s_valid_table f fd) (g : mg "valid_table" = some (.ref f)) (F_span_table : FnD P w K mg base 5 "span_table" ["cycle", "start", "end"] sp_span_table) (F_round_table : FnD P w K mg base 5 "round_table" ["cycle", "when"] sp_round_table) (F_either : FnD P w K mg base 5 "either" ["table", "other"] sp_either) (F_without : FnD P w K mg base 5 "without" ["table", "other"] sp_without) : FnOk P w K mg base CX0 21 f fd ["cycle", "when"] (spOf K 2 sp_valid_table) :=
  okn_valid_table B F g F_span_table F_round_table F_either F_without 16
abbrev s_round_table : Stmt := topS 56
abbrev N_round_table : List Str := ["cycle", "when", "_", "start", "length", "every", "times", "mask", "pieces", "phase"]
theorem sc_round_table : FnScope ["cycle", "when", "_", "start", "length", "every", "times", "mask", "pieces", "phase"] ["cycle", "when"] (defScope s_round_table) := ⟨rfl, rfl, rfl, by decide +kernel, rfl, by decide +kernel, by decide +kernel⟩
set_option maxHeartbeats 0 in
theorem ok_round_table {f : Addr} {fd : FuncData} (B : Blt mg) (F : Fun K "round_table" "round_table" s_round_table f fd) (F_table_of : FnD P w K mg base 4 "table_of" ["cycle", "pieces"] sp_table_of) : FnOk P w K mg base CX0 5 f fd ["cycle", "when"] (spOf K 2 sp_round_table) := by
  have nd := (sc_round_table).nd
  exact fn_ok w_round_table F sc_round_table (fun cdv A outer s H E hr =>
    (s_cons (s_unp (sl := [2, 3, 4, 5, 6]) (e_var 1) (g_tup rfl (g_cons (g_name 2 nd) (g_cons (g_name 3 nd) (g_cons (g_name 4 nd) (g_cons (g_name 5 nd) (g_cons (g_name 6 nd) g_nil)))))))
    (s_cons (s_asg 7 nd (e_sum rfl B.sum_ (e_lc rfl nd (i_rng1 B.range_ (e_var 0)) (blkOk_by (N := N_round_table) (sc := defScope s_round_table) (own := [("phase", 9)]) (by decide +kernel)) (fun _ _ _ _ _ => (g_name 9 nd)) (fun _ _ _ _ _ => (ts_one (t_lt (e_mod (e_sub (e_var 9) (e_var 3)) (e_var 5)) (e_var 4)))) (fun _ _ _ _ _ => (e_shl e_int (e_var 9))))))
    (s_cons (s_asg 8 nd (e_lst (a_cons (e_tup (a_cons e_int (a_cons e_int a_nil))) (a_cons (e_tup (a_cons (e_var 3) (a_cons (e_var 7) a_nil))) a_nil))))
    (s_cons (s_if (t_notN (e_var 6))
      (s_one (s_expr (e_append (i := 8) (e_tup (a_cons (e_addG (e_var 3) (e_mul (e_var 6) (e_var 5))) (a_cons e_int a_nil))))))
      s_nil)
    (s_one (s_ret (e_call F_table_of (hr.mono (j := 4) (by decide)) (a_cons (e_var 0) (a_cons (e_var 8) a_nil)))))))))) pure_round_table
abbrev s_Times_init : Stmt := clsS (topS 58) 0
theorem sc_Times_init : FnScope ["self", "table"] ["self", "table"] (defScope s_Times_init) := ⟨rfl, rfl, rfl, by decide +kernel, rfl, by decide +kernel, by decide +kernel⟩
set_option maxHeartbeats 0 in
theorem ok_Times_init {f : Addr} {fd : FuncData} (B : Blt mg) (F : Fun K "__init__" "Times.__init__" s_Times_init f fd) (F_is_table : FnD P w K mg base 2 "is_table" ["table"] sp_is_table) (F_shortest : FnD P w K mg base 5 "shortest" ["table"] sp_shortest) {C_Times : Addr} (T_Times : ClsT K mg 0 C_Times) (A_Times_table : NoAttr K C_Times "table") : FnOk P w K mg base CX0 6 f fd ["self", "table"] (spIni K 0 C_Times pre_Times_init post_Times_init) := by
  have nd := (sc_Times_init).nd
  exact init_ok F sc_Times_init T_Times A_Times_table (w1 := w1_Times_init) (w2 := w2_Times_init) (d1 := fun cdv A outer s H E hr => (t_not (t_val (e_call F_is_table (hr.mono (j := 2) (by decide)) (a_cons (e_var 1) a_nil))))) (d2 := fun cdv A outer s H E hr => (e_call F_shortest (hr.mono (j := 5) (by decide)) (a_cons (e_var 1) a_nil))) (pure := pure_Times_init)
abbrev s_Times_made : Stmt := clsS (topS 58) 1
abbrev N_Times_made : List Str := ["cycle", "when"]
theorem sc_Times_made : FnScope ["cycle", "when"] ["cycle", "when"] (defScope s_Times_made) := ⟨rfl, rfl, rfl, by decide +kernel, rfl, by decide +kernel, by decide +kernel⟩
set_option maxHeartbeats 0 in
theorem ok_Times_made {f : Addr} {fd : FuncData} (B : Blt mg) (F : Fun K "made" "Times.made" s_Times_made f fd) (F_is_cycle : FnD P w K mg base 1 "is_cycle" ["cycle"] sp_is_cycle) (F_when_table : FnD P w K mg base 22 "when_table" ["cycle", "when"] sp_when_table) {C_Times : Addr} (T_Times : ClsT K mg 0 C_Times) (M_Times_init : FnI P w K mg base 6 0 C_Times pre_Times_init post_Times_init) : FnOk P w K mg base CX0 23 f fd ["cycle", "when"] (spOf K 2 sp_Times_made) := by
  have nd := (sc_Times_made).nd
  exact fn_okM w_Times_made F sc_Times_made (fun cdv A outer s H E hr =>
    (s_cons (s_if (t_not (t_val (e_call F_is_cycle (hr.mono (j := 1) (by decide)) (a_cons (e_var 0) a_nil))))
      (s_one DL.s_never)
      s_nil)
    (s_one (s_ret (e_mkF 0 T_Times M_Times_init (hr.mono (j := 6 + 1) (by decide)) (e_call F_when_table (hr.mono (j := 22) (by decide)) (a_cons (e_var 0) (a_cons (e_var 1) a_nil)))))))) pure_Times_made
abbrev s_law_draws : Stmt := topS 60
abbrev N_law_draws : List Str := ["script", "many", "cells", "rest", "draws", "k", "at", "mixed", "cell"]
theorem sc_law_draws : FnScope ["script", "many", "cells", "rest", "draws", "k", "at", "mixed", "cell"] ["script", "many"] (defScope s_law_draws) := ⟨rfl, rfl, rfl, by decide +kernel, rfl, by decide +kernel, by decide +kernel⟩
set_option maxHeartbeats 0 in
theorem ok_law_draws {f : Addr} {fd : FuncData} (B : Blt mg) (F : Fun K "_law_draws" "_law_draws" s_law_draws f fd) : FnOk P w K mg base CX0 1 f fd ["script", "many"] (spOf K 2 sp_law_draws) := by
  have nd := (sc_law_draws).nd
  exact fn_ok w_law_draws F sc_law_draws (fun cdv A outer s H E hr =>
    (s_cons (s_setLc 2 rfl nd (i_seq (e_var 0)) (blkOk_by (N := N_law_draws) (sc := defScope s_law_draws) (own := [("cell", 8)]) (by decide +kernel)) (fun _ _ _ _ _ => (g_name 8 nd)) (fun _ _ _ _ _ => ts_nil) (fun _ _ _ _ _ => (e_int1 B.int_ (e_var 8))))
    (s_cons (s_if (t_eqS (e_len B.len_ (e_var 2)) e_int)
      (s_one (s_expr (e_append (i := 2) e_int)))
      s_nil)
    (s_cons (s_asg 3 nd (e_list B.list_ (e_var 2)))
    (s_cons (s_asg 4 nd (e_lst a_nil))
    (s_cons (s_for [0, 1] [5] .never rfl (i_rng1 B.range_ (e_var 1)) (g_name 5 nd)
      (s_cons (s_asg 6 nd (e_mod (e_var 5) (e_len B.len_ (e_var 2))))
        (s_one (s_if (t_ge (e_ixs (e_var 2) (e_var 6)) (e_pow e_int e_int))
          (s_cons (s_expr (e_append (i := 4) (e_mod (e_int1 B.int_ (e_ixs (e_var 3) (e_var 6))) e_int)))
            (s_one (s_set 3 (e_fdiv (e_ixs (e_var 3) (e_var 6)) e_int) (e_var 6))))
          (s_cons (s_asg 7 nd (e_mod (e_int1 B.int_ (e_addG (e_addG (e_mul (e_ixs (e_var 2) (e_var 6)) e_int) (e_mul (e_var 5) e_int)) e_int)) e_int))
            (s_one (s_expr (e_append (i := 4) (e_mod (e_int1 B.int_ (e_addG (e_addG (e_mul (e_var 7) (e_var 7)) (e_mul e_int (e_var 7))) (e_var 5))) e_int)))))))))
    (s_cons (s_expr (e_reverse (i := 4)))
    (s_one (s_ret (e_var 4)))))))))) pure_law_draws
abbrev s_law_take : Stmt := topS 61
theorem sc_law_take : FnScope ["draws", "many"] ["draws", "many"] (defScope s_law_take) := ⟨rfl, rfl, rfl, by decide +kernel, rfl, by decide +kernel, by decide +kernel⟩
set_option maxHeartbeats 0 in
theorem ok_law_take {f : Addr} {fd : FuncData} (B : Blt mg) (F : Fun K "_law_take" "_law_take" s_law_take f fd) : FnOk P w K mg base CX0 1 f fd ["draws", "many"] (spOf K 2 sp_law_take) := by
  have nd := (sc_law_take).nd
  exact fn_ok w_law_take F sc_law_take (fun cdv A outer s H E hr =>
    (s_cons (s_if (t_eqS (e_len B.len_ (e_var 0)) e_int)
      (s_one (s_ret e_int))
      s_nil)
    (s_one (s_ret (e_mod (e_int1 B.int_ (e_pop (i := 0))) (e_var 1)))))) pure_law_take
abbrev s_law_pick : Stmt := topS 62
theorem sc_law_pick : FnScope ["draws", "row"] ["draws", "row"] (defScope s_law_pick) := ⟨rfl, rfl, rfl, by decide +kernel, rfl, by decide +kernel, by decide +kernel⟩
set_option maxHeartbeats 0 in
theorem ok_law_pick {f : Addr} {fd : FuncData} (B : Blt mg) (F : Fun K "_law_pick" "_law_pick" s_law_pick f fd) (F_law_take : FnD P w K mg base 1 "_law_take" ["draws", "many"] sp_law_take) : FnOk P w K mg base CX0 2 f fd ["draws", "row"] (spOf K 2 sp_law_pick) := by
  have nd := (sc_law_pick).nd
  exact fn_ok w_law_pick F sc_law_pick (fun cdv A outer s H E hr =>
    (s_one (s_ret (e_ixs (e_var 1) (e_call F_law_take (hr.mono (j := 1) (by decide)) (a_cons (e_var 0) (a_cons (e_len B.len_ (e_var 1)) a_nil))))))) pure_law_pick
abbrev s_law_size : Stmt := topS 63
theorem sc_law_size : FnScope ["draws", "script", "kind", "number", "k"] ["draws", "script"] (defScope s_law_size) := ⟨rfl, rfl, rfl, by decide +kernel, rfl, by decide +kernel, by decide +kernel⟩
set_option maxHeartbeats 0 in
theorem ok_law_size {f : Addr} {fd : FuncData} (B : Blt mg) (F : Fun K "_law_size" "_law_size" s_law_size f fd) (F_law_take : FnD P w K mg base 1 "_law_take" ["draws", "many"] sp_law_take) : FnOk P w K mg base CX0 2 f fd ["draws", "script"] (spOf K 2 sp_law_size) := by
  have nd := (sc_law_size).nd
  exact fn_ok w_law_size F sc_law_size (fun cdv A outer s H E hr =>
    (s_cons (s_asg 2 nd (e_call F_law_take (hr.mono (j := 1) (by decide)) (a_cons (e_var 0) (a_cons e_int a_nil))))
    (s_cons (s_if (t_lt (e_var 2) e_int)
      (s_one (s_ret (e_call F_law_take (hr.mono (j := 1) (by decide)) (a_cons (e_var 0) (a_cons e_int a_nil)))))
      s_nil)
    (s_cons (s_if (t_eqS (e_var 2) e_int)
      (s_one (s_ret (e_call F_law_take (hr.mono (j := 1) (by decide)) (a_cons (e_var 0) (a_cons e_int a_nil)))))
      s_nil)
    (s_cons (s_if (t_bop (w_or (t_eqS (e_var 2) e_int) (w_or1 (t_eqS (e_len B.len_ (e_var 1)) e_int))))
      (s_cons (s_asg 3 nd e_int)
        (s_cons (s_for [0, 1] [4] .never rfl (i_rng1 B.range_ e_int) (g_name 4 nd)
          (s_one (s_asg 3 nd (e_addG (e_mul (e_var 3) e_int) (e_call F_law_take (hr.mono (j := 1) (by decide)) (a_cons (e_var 0) (a_cons e_int a_nil)))))))
        (s_one (s_ret (e_var 3)))))
      s_nil)
    (s_one (s_ret (e_abs B.abs_ (e_int1 B.int_ (e_ixs (e_var 1) (e_call F_law_take (hr.mono (j := 1) (by decide)) (a_cons (e_var 0) (a_cons (e_len B.len_ (e_var 1)) a_nil))))))))))))) pure_law_size
abbrev s_law_same : Stmt := topS 64
abbrev N_law_same : List Str := ["actual", "due", "k"]
theorem sc_law_same : FnScope ["actual", "due", "k"] ["actual", "due"] (defScope s_law_same) := ⟨rfl, rfl, rfl, by decide +kernel, rfl, by decide +kernel, by decide +kernel⟩
set_option maxHeartbeats 0 in
theorem okn_law_same {f : Addr} {fd : FuncData} (B : Blt mg) (F : Fun K "_law_same" "_law_same" s_law_same f fd) (g : mg "_law_same" = some (.ref f)) : ∀ n : Nat, FnOk P w K mg base CX0 (0 + n) f fd ["actual", "due"] (spOf K 2 (spn_law_same n))
  | 0 => fn_false fun _ h => h
  | n + 1 => by
    have nd := (sc_law_same).nd
    have F_law_same : FnD P w K mg base (0 + n) "_law_same" ["actual", "due"] (spn_law_same n) := ⟨f, fd, okn_law_same B F g n, g, F.kp, F.binds fun _ _ _ _ _ _ us hl => match us, hl with | [_, _], _ => rfl⟩
    exact fn_ok (w_law_same n) F sc_law_same (fun cdv A outer s H E hr =>
    (s_cons (s_if (t_val (e_isi2 .tuple .list B.isinstance_ B.tuple_ B.list_ (by decide +kernel) (by decide +kernel) (e_var 1)))
      (s_cons (s_if (t_bop (w_or (t_neS (e_isi .tuple B.isinstance_ B.tuple_ (by decide +kernel) (e_var 0)) (e_isi .tuple B.isinstance_ B.tuple_ (by decide +kernel) (e_var 1))) (w_or1 (t_neS (e_isi .list B.isinstance_ B.list_ (by decide +kernel) (e_var 0)) (e_isi .list B.isinstance_ B.list_ (by decide +kernel) (e_var 1))))))
          (s_one (s_ret e_bl))
          s_nil)
        (s_cons (s_if (t_neS (e_len B.len_ (e_var 0)) (e_len B.len_ (e_var 1)))
          (s_one (s_ret e_bl))
          s_nil)
        (s_one (s_ret (e_notIn e_bl (e_lc rfl nd (i_rng1 B.range_ (e_len B.len_ (e_var 1))) (blkOk_by (N := N_law_same) (sc := defScope s_law_same) (own := [("k", 2)]) (by decide +kernel)) (fun _ _ _ _ _ => (g_name 2 nd)) (fun _ _ _ _ _ => ts_nil) (fun _ _ _ _ _ => (e_call F_law_same (hr.mono (j := 0 + n) (Nat.le_refl _)) (a_cons (e_ixs (e_var 0) (e_var 2)) (a_cons (e_ixs (e_var 1) (e_var 2)) a_nil))))))))))
      s_nil)
    (s_cons (s_if (t_bop (w_or (t_neS (e_isi .bool B.isinstance_ B.bool_ (by decide +kernel) (e_var 0)) (e_isi .bool B.isinstance_ B.bool_ (by decide +kernel) (e_var 1))) (w_or1 (t_neS (e_isi .int B.isinstance_ B.int_ (by decide +kernel) (e_var 0)) (e_isi .int B.isinstance_ B.int_ (by decide +kernel) (e_var 1))))))
      (s_one (s_ret e_bl))
      s_nil)
    (s_cons (s_if (t_bop (w_or (t_neS (e_isi .str B.isinstance_ B.str_ (by decide +kernel) (e_var 0)) (e_isi .str B.isinstance_ B.str_ (by decide +kernel) (e_var 1))) (w_or1 (t_neS (e_isN (e_var 0)) (e_isN (e_var 1))))))
      (s_one (s_ret e_bl))
      s_nil)
    (s_one (s_ret (e_eqS (e_var 0) (e_var 1)))))))) (pure_law_same n)
theorem ok_law_same {f : Addr} {fd : FuncData} (B : Blt mg) (F : Fun K "_law_same" "_law_same" s_law_same f fd) (g : mg "_law_same" = some (.ref f)) : FnOk P w K mg base CX0 8 f fd ["actual", "due"] (spOf K 2 sp_law_same) :=
  okn_law_same B F g 8
abbrev s_law_cycle : Stmt := topS 65
theorem sc_law_cycle : FnScope ["draws"] ["draws"] (defScope s_law_cycle) := ⟨rfl, rfl, rfl, by decide +kernel, rfl, by decide +kernel, by decide +kernel⟩
set_option maxHeartbeats 0 in
theorem ok_law_cycle {f : Addr} {fd : FuncData} (B : Blt mg) (F : Fun K "_law_cycle" "_law_cycle" s_law_cycle f fd) (F_law_take : FnD P w K mg base 1 "_law_take" ["draws", "many"] sp_law_take) : FnOk P w K mg base CX0 2 f fd ["draws"] (spOf K 1 sp_law_cycle) := by
  have nd := (sc_law_cycle).nd
  exact fn_ok w_law_cycle F sc_law_cycle (fun cdv A outer s H E hr =>
    (s_cons (s_if (t_eqS (e_call F_law_take (hr.mono (j := 1) (by decide)) (a_cons (e_var 0) (a_cons e_int a_nil))) e_int)
      (s_one (s_ret (e_addG e_int (e_call F_law_take (hr.mono (j := 1) (by decide)) (a_cons (e_var 0) (a_cons e_int a_nil))))))
      s_nil)
    (s_one (s_ret (e_addG e_int (e_call F_law_take (hr.mono (j := 1) (by decide)) (a_cons (e_var 0) (a_cons e_int a_nil)))))))) pure_law_cycle
abbrev s_law_spans : Stmt := topS 66
theorem sc_law_spans : FnScope ["cells", "spans", "k"] ["cells"] (defScope s_law_spans) := ⟨rfl, rfl, rfl, by decide +kernel, rfl, by decide +kernel, by decide +kernel⟩
set_option maxHeartbeats 0 in
theorem ok_law_spans {f : Addr} {fd : FuncData} (B : Blt mg) (F : Fun K "_law_spans" "_law_spans" s_law_spans f fd) : FnOk P w K mg base CX0 1 f fd ["cells"] (spOf K 1 sp_law_spans) := by
  have nd := (sc_law_spans).nd
  exact fn_ok w_law_spans F sc_law_spans (fun cdv A outer s H E hr =>
    (s_cons (s_asg 1 nd (e_lst a_nil))
    (s_cons (s_for [0] [2] .never rfl (i_rng1 B.range_ (e_len B.len_ (e_var 0))) (g_name 2 nd)
      (s_one (s_if (t_bop (w_and (t_val (e_ixs (e_var 0) (e_var 2))) (w_and (t_gt (e_len B.len_ (e_var 1)) e_int) (w_and1 (t_eqS (e_ixs (e_ixs (e_var 1) (e_neg e_int)) e_int) (e_var 2))))))
          (s_one (s_set 1 (e_tup (a_cons (e_ixs (e_ixs (e_var 1) (e_neg e_int)) e_int) (a_cons (e_addG (e_var 2) e_int) a_nil))) (e_neg e_int)))
          (s_one (s_if (t_val (e_ixs (e_var 0) (e_var 2)))
              (s_one (s_expr (e_append (i := 1) (e_tup (a_cons (e_var 2) (a_cons (e_addG (e_var 2) e_int) a_nil))))))
              s_nil)))))
    (s_one (s_ret (e_tuple B.tuple_ (e_var 1))))))) pure_law_spans
abbrev s_law_phases : Stmt := topS 67
abbrev N_law_phases : List Str := ["draws", "cycle", "kind", "cells", "bits", "k", "low", "high", "j"]
theorem sc_law_phases : FnScope ["draws", "cycle", "kind", "cells", "bits", "k", "low", "high", "j"] ["draws", "cycle"] (defScope s_law_phases) := ⟨rfl, rfl, rfl, by decide +kernel, rfl, by decide +kernel, by decide +kernel⟩
set_option maxHeartbeats 0 in
theorem ok_law_phases {f : Addr} {fd : FuncData} (B : Blt mg) (F : Fun K "_law_phases" "_law_phases" s_law_phases f fd) (F_law_take : FnD P w K mg base 1 "_law_take" ["draws", "many"] sp_law_take) (F_law_spans : FnD P w K mg base 1 "_law_spans" ["cells"] sp_law_spans) : FnOk P w K mg base CX0 2 f fd ["draws", "cycle"] (spOf K 2 sp_law_phases) := by
  have nd := (sc_law_phases).nd
  exact fn_ok w_law_phases F sc_law_phases (fun cdv A outer s H E hr =>
    (s_cons (s_asg 2 nd (e_call F_law_take (hr.mono (j := 1) (by decide)) (a_cons (e_var 0) (a_cons e_int a_nil))))
    (s_cons (s_if (t_eqS (e_var 2) e_int)
      (s_one (s_ret (e_tup a_nil)))
      s_nil)
    (s_cons (s_if (t_eqS (e_var 2) e_int)
      (s_one (s_ret (e_tup (a_cons (e_tup (a_cons e_int (a_cons (e_var 1) a_nil))) a_nil))))
      s_nil)
    (s_cons (s_asg 3 nd (e_lc rfl nd (i_rng1 B.range_ (e_var 1)) (blkOk_by (N := N_law_phases) (sc := defScope s_law_phases) (own := [("k", 5)]) (by decide +kernel)) (fun _ _ _ _ _ => (g_name 5 nd)) (fun _ _ _ _ _ => ts_nil) (fun _ _ _ _ _ => e_bl)))
    (s_cons (s_if (t_eqS (e_var 2) e_int)
      (s_cons (s_asg 4 nd (e_call F_law_take (hr.mono (j := 1) (by decide)) (a_cons (e_var 0) (a_cons e_int a_nil))))
        (s_cons (s_for [0, 1] [5] .never rfl (i_rng1 B.range_ (e_var 1)) (g_name 5 nd)
          (s_cons (s_set 3 (e_eqS (e_mod (e_int1 B.int_ (e_var 4)) e_int) e_int) (e_var 5))
            (s_one (s_asg 4 nd (e_addG (e_fdiv (e_var 4) e_int) (e_mul e_int (e_int1 B.int_ (e_ixs (e_var 3) (e_var 5)))))))))
        (s_one (s_ret (e_call F_law_spans (hr.mono (j := 1) (by decide)) (a_cons (e_var 3) a_nil))))))
      s_nil)
    (s_cons (s_for [0, 1] [5] .never rfl (i_rng1 B.range_ (e_addG e_int (e_call F_law_take (hr.mono (j := 1) (by decide)) (a_cons (e_var 0) (a_cons e_int a_nil))))) (g_name 5 nd)
      (s_cons (s_asg 6 nd (e_call F_law_take (hr.mono (j := 1) (by decide)) (a_cons (e_var 0) (a_cons (e_var 1) a_nil))))
        (s_cons (s_asg 7 nd (e_addG (e_addG (e_var 6) e_int) (e_call F_law_take (hr.mono (j := 1) (by decide)) (a_cons (e_var 0) (a_cons (e_addG e_int (e_fdiv (e_var 1) e_int)) a_nil)))))
        (s_one (s_asg 3 nd (e_lc rfl nd (i_rng1 B.range_ (e_var 1)) (blkOk_by (N := N_law_phases) (sc := defScope s_law_phases) (own := [("j", 8)]) (by decide +kernel)) (fun _ _ _ _ _ => (g_name 8 nd)) (fun _ _ _ _ _ => ts_nil) (fun _ _ _ _ _ => (e_or' (e_ixs (e_var 3) (e_var 8)) (e_one (e_and' (e_le (e_var 6) (e_var 8)) (e_one (e_lt (e_var 8) (e_var 7)))))))))))))
    (s_one (s_ret (e_call F_law_spans (hr.mono (j := 1) (by decide)) (a_cons (e_var 3) a_nil))))))))))) pure_law_phases
abbrev s_law_table : Stmt := topS 68
theorem sc_law_table : FnScope ["draws", "script", "cycle", "lines", "start", "k"] ["draws", "script", "cycle"] (defScope s_law_table) := ⟨rfl, rfl, rfl, by decide +kernel, rfl, by decide +kernel, by decide +kernel⟩
set_option maxHeartbeats 0 in
theorem ok_law_table {f : Addr} {fd : FuncData} (B : Blt mg) (F : Fun K "_law_table" "_law_table" s_law_table f fd) (F_law_phases : FnD P w K mg base 2 "_law_phases" ["draws", "cycle"] sp_law_phases) (F_law_take : FnD P w K mg base 1 "_law_take" ["draws", "many"] sp_law_take) (F_law_size : FnD P w K mg base 2 "_law_size" ["draws", "script"] sp_law_size) : FnOk P w K mg base CX0 3 f fd ["draws", "script", "cycle"] (spOf K 3 sp_law_table) := by
  have nd := (sc_law_table).nd
  exact fn_ok w_law_table F sc_law_table (fun cdv A outer s H E hr =>
    (s_cons (s_asg 3 nd (e_lst (a_cons (e_tup (a_cons e_int (a_cons (e_call F_law_phases (hr.mono (j := 2) (by decide)) (a_cons (e_var 0) (a_cons (e_var 2) a_nil))) a_nil))) a_nil)))
    (s_cons (s_asg 4 nd e_int)
    (s_cons (s_for [0, 1, 2] [5] .never rfl (i_rng1 B.range_ (e_call F_law_take (hr.mono (j := 1) (by decide)) (a_cons (e_var 0) (a_cons e_int a_nil)))) (g_name 5 nd)
      (s_cons (s_asg 4 nd (e_addG (e_addG (e_var 4) e_int) (e_call F_law_size (hr.mono (j := 2) (by decide)) (a_cons (e_var 0) (a_cons (e_var 1) a_nil)))))
        (s_one (s_expr (e_append (i := 3) (e_tup (a_cons (e_var 4) (a_cons (e_call F_law_phases (hr.mono (j := 2) (by decide)) (a_cons (e_var 0) (a_cons (e_var 2) a_nil))) a_nil))))))))
    (s_one (s_ret (e_tup (a_cons (e_var 2) (a_cons (e_tuple B.tuple_ (e_var 3)) a_nil))))))))) pure_law_table
abbrev s_law_leaf_when : Stmt := topS 69
abbrev N_law_leaf_when : List Str := ["draws", "cycle", "low", "start", "kind", "every", "length", "times", "k"]
theorem sc_law_leaf_when : FnScope ["draws", "cycle", "low", "start", "kind", "every", "length", "times", "k"] ["draws", "cycle", "low"] (defScope s_law_leaf_when) := ⟨rfl, rfl, rfl, by decide +kernel, rfl, by decide +kernel, by decide +kernel⟩
set_option maxHeartbeats 0 in
theorem ok_law_leaf_when {f : Addr} {fd : FuncData} (B : Blt mg) (F : Fun K "_law_leaf_when" "_law_leaf_when" s_law_leaf_when f fd) (F_law_take : FnD P w K mg base 1 "_law_take" ["draws", "many"] sp_law_take) (F_law_pick : FnD P w K mg base 2 "_law_pick" ["draws", "row"] sp_law_pick) : FnOk P w K mg base CX0 3 f fd ["draws", "cycle", "low"] (spOf K 3 sp_law_leaf_when) := by
  have nd := (sc_law_leaf_when).nd
  exact fn_ok w_law_leaf_when F sc_law_leaf_when (fun cdv A outer s H E hr =>
    (s_cons (s_asg 3 nd (e_addG (e_var 2) (e_call F_law_take (hr.mono (j := 1) (by decide)) (a_cons (e_var 0) (a_cons e_int a_nil)))))
    (s_cons (s_asg 4 nd (e_call F_law_take (hr.mono (j := 1) (by decide)) (a_cons (e_var 0) (a_cons e_int a_nil))))
    (s_cons (s_if (t_eqS (e_var 4) e_int)
      (s_one (s_ret (e_tup (a_cons e_str (a_cons (e_var 3) a_nil)))))
      s_nil)
    (s_cons (s_if (t_lt (e_var 4) e_int)
      (s_one (s_ret (e_tup (a_cons e_str (a_cons (e_var 3) (a_cons (e_addG (e_addG (e_var 3) e_int) (e_call F_law_take (hr.mono (j := 1) (by decide)) (a_cons (e_var 0) (a_cons e_int a_nil)))) a_nil))))))
      s_nil)
    (s_cons (s_asg 5 nd (e_call F_law_pick (hr.mono (j := 2) (by decide)) (a_cons (e_var 0) (a_cons (e_lc rfl nd (i_rng2 B.range_ e_int (e_addG (e_var 1) e_int)) (blkOk_by (N := N_law_leaf_when) (sc := defScope s_law_leaf_when) (own := [("k", 8)]) (by decide +kernel)) (fun _ _ _ _ _ => (g_name 8 nd)) (fun _ _ _ _ _ => (ts_one (t_eqS (e_mod (e_int1 B.int_ (e_var 1)) (e_var 8)) e_int))) (fun _ _ _ _ _ => (e_var 8))) a_nil))))
    (s_cons (s_asg 6 nd (e_addG e_int (e_call F_law_take (hr.mono (j := 1) (by decide)) (a_cons (e_var 0) (a_cons (e_var 5) a_nil)))))
    (s_cons (s_asg 7 nd e_non)
    (s_cons (s_if (t_eqS (e_call F_law_take (hr.mono (j := 1) (by decide)) (a_cons (e_var 0) (a_cons e_int a_nil))) e_int)
      (s_one (s_asg 7 nd (e_addG e_int (e_call F_law_take (hr.mono (j := 1) (by decide)) (a_cons (e_var 0) (a_cons e_int a_nil))))))
      s_nil)
    (s_one (s_ret (e_tup (a_cons e_str (a_cons (e_var 3) (a_cons (e_var 6) (a_cons (e_var 5) (a_cons (e_var 7) a_nil))))))))))))))))) pure_law_leaf_when
abbrev s_law_when : Stmt := topS 70
theorem sc_law_when : FnScope ["draws", "cycle", "low", "when", "k", "other", "kind"] ["draws", "cycle", "low"] (defScope s_law_when) := ⟨rfl, rfl, rfl, by decide +kernel, rfl, by decide +kernel, by decide +kernel⟩
set_option maxHeartbeats 0 in
theorem ok_law_when {f : Addr} {fd : FuncData} (B : Blt mg) (F : Fun K "_law_when" "_law_when" s_law_when f fd) (F_law_leaf_when : FnD P w K mg base 3 "_law_leaf_when" ["draws", "cycle", "low"] sp_law_leaf_when) (F_law_take : FnD P w K mg base 1 "_law_take" ["draws", "many"] sp_law_take) : FnOk P w K mg base CX0 4 f fd ["draws", "cycle", "low"] (spOf K 3 sp_law_when) := by
  have nd := (sc_law_when).nd
  exact fn_ok w_law_when F sc_law_when (fun cdv A outer s H E hr =>
    (s_cons (s_asg 3 nd (e_call F_law_leaf_when (hr.mono (j := 3) (by decide)) (a_cons (e_var 0) (a_cons (e_var 1) (a_cons (e_var 2) a_nil)))))
    (s_cons (s_for [0, 1, 2] [4] .never rfl (i_rng1 B.range_ e_int) (g_name 4 nd)
      (s_one (s_if (t_eqS (e_call F_law_take (hr.mono (j := 1) (by decide)) (a_cons (e_var 0) (a_cons e_int a_nil))) e_int)
          (s_cons (s_asg 5 nd (e_call F_law_leaf_when (hr.mono (j := 3) (by decide)) (a_cons (e_var 0) (a_cons (e_var 1) (a_cons (e_var 2) a_nil)))))
            (s_cons (s_asg 6 nd (e_ixs (e_lst (a_cons e_str (a_cons e_str a_nil))) (e_call F_law_take (hr.mono (j := 1) (by decide)) (a_cons (e_var 0) (a_cons e_int a_nil)))))
            (s_one (s_asg 3 nd (e_ixs (e_lst (a_cons (e_tup (a_cons (e_var 6) (a_cons (e_var 3) (a_cons (e_var 5) a_nil)))) (a_cons (e_tup (a_cons (e_var 6) (a_cons (e_var 5) (a_cons (e_var 3) a_nil)))) a_nil))) (e_call F_law_take (hr.mono (j := 1) (by decide)) (a_cons (e_var 0) (a_cons e_int a_nil))))))))
          s_nil)))
    (s_one (s_ret (e_var 3)))))) pure_law_when
abbrev s_law_integer : Stmt := topS 71
theorem sc_law_integer : FnScope ["x"] ["x"] (defScope s_law_integer) := ⟨rfl, rfl, rfl, by decide +kernel, rfl, by decide +kernel, by decide +kernel⟩
set_option maxHeartbeats 0 in
theorem ok_law_integer {f : Addr} {fd : FuncData} (B : Blt mg) (F : Fun K "_law_integer" "_law_integer" s_law_integer f fd) : FnOk P w K mg base CX0 1 f fd ["x"] (spOf K 1 sp_law_integer) := by
  have nd := (sc_law_integer).nd
  exact fn_ok w_law_integer F sc_law_integer (fun cdv A outer s H E hr =>
    (s_one (s_ret (e_and' (e_isi .int B.isinstance_ B.int_ (by decide +kernel) (e_var 0)) (e_one (e_not (e_isi .bool B.isinstance_ B.bool_ (by decide +kernel) (e_var 0)))))))) pure_law_integer
abbrev s_law_is_spans : Stmt := topS 72
theorem sc_law_is_spans : FnScope ["spans", "cycle", "least", "span"] ["spans", "cycle"] (defScope s_law_is_spans) := ⟨rfl, rfl, rfl, by decide +kernel, rfl, by decide +kernel, by decide +kernel⟩
set_option maxHeartbeats 0 in
theorem ok_law_is_spans {f : Addr} {fd : FuncData} (B : Blt mg) (F : Fun K "_law_is_spans" "_law_is_spans" s_law_is_spans f fd) (F_law_integer : FnD P w K mg base 1 "_law_integer" ["x"] sp_law_integer) : FnOk P w K mg base CX0 2 f fd ["spans", "cycle"] (spOf K 2 sp_law_is_spans) := by
  have nd := (sc_law_is_spans).nd
  exact fn_ok w_law_is_spans F sc_law_is_spans (fun cdv A outer s H E hr =>
    (s_cons (s_if (t_not (t_val (e_isi .tuple B.isinstance_ B.tuple_ (by decide +kernel) (e_var 0))))
      (s_one (s_ret e_bl))
      s_nil)
    (s_cons (s_asg 2 nd e_int)
    (s_cons (s_for [0, 1] [3] .never rfl (i_seq (e_var 0)) (g_name 3 nd)
      (s_cons (s_if (t_bop (w_or (t_not (t_val (e_isi .tuple B.isinstance_ B.tuple_ (by decide +kernel) (e_var 3)))) (w_or (t_neS (e_len B.len_ (e_var 3)) e_int) (w_or (t_not (t_val (e_call F_law_integer (hr.mono (j := 1) (by decide)) (a_cons (e_ixs (e_var 3) e_int) a_nil)))) (w_or1 (t_not (t_val (e_call F_law_integer (hr.mono (j := 1) (by decide)) (a_cons (e_ixs (e_var 3) e_int) a_nil)))))))))
          (s_one (s_ret e_bl))
          s_nil)
        (s_cons (s_if (t_bop (w_or (t_lt (e_ixs (e_var 3) e_int) (e_var 2)) (w_or (t_le (e_ixs (e_var 3) e_int) (e_ixs (e_var 3) e_int)) (w_or1 (t_gt (e_ixs (e_var 3) e_int) (e_var 1))))))
          (s_one (s_ret e_bl))
          s_nil)
        (s_one (s_asg 2 nd (e_addG (e_ixs (e_var 3) e_int) e_int))))))
    (s_one (s_ret e_bl)))))) pure_law_is_spans
abbrev s_law_is_table : Stmt := topS 73
theorem sc_law_is_table : FnScope ["table", "cycle", "before", "line"] ["table", "cycle"] (defScope s_law_is_table) := ⟨rfl, rfl, rfl, by decide +kernel, rfl, by decide +kernel, by decide +kernel⟩
set_option maxHeartbeats 0 in
theorem ok_law_is_table {f : Addr} {fd : FuncData} (B : Blt mg) (F : Fun K "_law_is_table" "_law_is_table" s_law_is_table f fd) (F_law_same : FnD P w K mg base 8 "_law_same" ["actual", "due"] sp_law_same) (F_law_integer : FnD P w K mg base 1 "_law_integer" ["x"] sp_law_integer) (F_law_is_spans : FnD P w K mg base 2 "_law_is_spans" ["spans", "cycle"] sp_law_is_spans) : FnOk P w K mg base CX0 9 f fd ["table", "cycle"] (spOf K 2 sp_law_is_table) := by
  have nd := (sc_law_is_table).nd
  exact fn_ok w_law_is_table F sc_law_is_table (fun cdv A outer s H E hr =>
    (s_cons (s_if (t_bop (w_or (t_not (t_val (e_isi .tuple B.isinstance_ B.tuple_ (by decide +kernel) (e_var 0)))) (w_or (t_neS (e_len B.len_ (e_var 0)) e_int) (w_or1 (t_not (t_val (e_call F_law_same (hr.mono (j := 8) (by decide)) (a_cons (e_ixs (e_var 0) e_int) (a_cons (e_var 1) a_nil)))))))))
      (s_one (s_ret e_bl))
      s_nil)
    (s_cons (s_if (t_bop (w_or (t_not (t_val (e_isi .tuple B.isinstance_ B.tuple_ (by decide +kernel) (e_ixs (e_var 0) e_int)))) (w_or1 (t_eqS (e_len B.len_ (e_ixs (e_var 0) e_int)) e_int))))
      (s_one (s_ret e_bl))
      s_nil)
    (s_cons (s_asg 2 nd (e_neg e_int))
    (s_cons (s_for [0, 1] [3] .never rfl (i_seq (e_ixs (e_var 0) e_int)) (g_name 3 nd)
      (s_cons (s_if (t_bop (w_or (t_not (t_val (e_isi .tuple B.isinstance_ B.tuple_ (by decide +kernel) (e_var 3)))) (w_or (t_neS (e_len B.len_ (e_var 3)) e_int) (w_or1 (t_not (t_val (e_call F_law_integer (hr.mono (j := 1) (by decide)) (a_cons (e_ixs (e_var 3) e_int) a_nil))))))))
          (s_one (s_ret e_bl))
          s_nil)
        (s_cons (s_if (t_bop (w_or (t_le (e_ixs (e_var 3) e_int) (e_var 2)) (w_or1 (t_not (t_val (e_call F_law_is_spans (hr.mono (j := 2) (by decide)) (a_cons (e_ixs (e_var 3) e_int) (a_cons (e_var 1) a_nil))))))))
          (s_one (s_ret e_bl))
          s_nil)
        (s_one (s_asg 2 nd (e_ixs (e_var 3) e_int))))))
    (s_one (s_ret (e_eqS (e_ixs (e_ixs (e_ixs (e_var 0) e_int) e_int) e_int) e_int)))))))) pure_law_is_table
abbrev s_law_long_table : Stmt := topS 74
theorem sc_law_long_table : FnScope ["draws", "script", "cycle", "lines", "start", "k"] ["draws", "script", "cycle"] (defScope s_law_long_table) := ⟨rfl, rfl, rfl, by decide +kernel, rfl, by decide +kernel, by decide +kernel⟩
set_option maxHeartbeats 0 in
theorem ok_law_long_table {f : Addr} {fd : FuncData} (B : Blt mg) (F : Fun K "_law_long_table" "_law_long_table" s_law_long_table f fd) (F_law_take : FnD P w K mg base 1 "_law_take" ["draws", "many"] sp_law_take) (F_law_table : FnD P w K mg base 3 "_law_table" ["draws", "script", "cycle"] sp_law_table) (F_law_phases : FnD P w K mg base 2 "_law_phases" ["draws", "cycle"] sp_law_phases) : FnOk P w K mg base CX0 4 f fd ["draws", "script", "cycle"] (spOf K 3 sp_law_long_table) := by
  have nd := (sc_law_long_table).nd
  exact fn_ok w_law_long_table F sc_law_long_table (fun cdv A outer s H E hr =>
    (s_cons (s_if (t_gt (e_call F_law_take (hr.mono (j := 1) (by decide)) (a_cons (e_var 0) (a_cons e_int a_nil))) e_int)
      (s_one (s_ret (e_call F_law_table (hr.mono (j := 3) (by decide)) (a_cons (e_var 0) (a_cons (e_var 1) (a_cons (e_var 2) a_nil))))))
      s_nil)
    (s_cons (s_asg 3 nd (e_lst (a_cons (e_tup (a_cons e_int (a_cons (e_call F_law_phases (hr.mono (j := 2) (by decide)) (a_cons (e_var 0) (a_cons (e_var 2) a_nil))) a_nil))) a_nil)))
    (s_cons (s_asg 4 nd e_int)
    (s_cons (s_for [0, 1, 2] [5] .never rfl (i_rng1 B.range_ (e_addG e_int (e_call F_law_take (hr.mono (j := 1) (by decide)) (a_cons (e_var 0) (a_cons e_int a_nil))))) (g_name 5 nd)
      (s_cons (s_asg 4 nd (e_addG (e_addG (e_var 4) e_int) (e_call F_law_take (hr.mono (j := 1) (by decide)) (a_cons (e_var 0) (a_cons (e_addG (e_var 2) e_int) a_nil)))))
        (s_one (s_expr (e_append (i := 3) (e_tup (a_cons (e_var 4) (a_cons (e_call F_law_phases (hr.mono (j := 2) (by decide)) (a_cons (e_var 0) (a_cons (e_var 2) a_nil))) a_nil))))))))
    (s_one (s_ret (e_tup (a_cons (e_var 2) (a_cons (e_tuple B.tuple_ (e_var 3)) a_nil)))))))))) pure_law_long_table
abbrev s_law_signed : Stmt := topS 75
theorem sc_law_signed : FnScope ["draws", "script", "number"] ["draws", "script"] (defScope s_law_signed) := ⟨rfl, rfl, rfl, by decide +kernel, rfl, by decide +kernel, by decide +kernel⟩
set_option maxHeartbeats 0 in
theorem ok_law_signed {f : Addr} {fd : FuncData} (B : Blt mg) (F : Fun K "_law_signed" "_law_signed" s_law_signed f fd) (F_law_size : FnD P w K mg base 2 "_law_size" ["draws", "script"] sp_law_size) (F_law_take : FnD P w K mg base 1 "_law_take" ["draws", "many"] sp_law_take) : FnOk P w K mg base CX0 3 f fd ["draws", "script"] (spOf K 2 sp_law_signed) := by
  have nd := (sc_law_signed).nd
  exact fn_ok w_law_signed F sc_law_signed (fun cdv A outer s H E hr =>
    (s_cons (s_asg 2 nd (e_call F_law_size (hr.mono (j := 2) (by decide)) (a_cons (e_var 0) (a_cons (e_var 1) a_nil))))
    (s_cons (s_if (t_eqS (e_call F_law_take (hr.mono (j := 1) (by decide)) (a_cons (e_var 0) (a_cons e_int a_nil))) e_int)
      (s_one (s_ret (e_sub e_int (e_var 2))))
      s_nil)
    (s_one (s_ret (e_var 2)))))) pure_law_signed
abbrev s_law_pair : Stmt := topS 76
theorem sc_law_pair : FnScope ["draws", "script", "cycle", "low"] ["draws", "script", "cycle"] (defScope s_law_pair) := ⟨rfl, rfl, rfl, by decide +kernel, rfl, by decide +kernel, by decide +kernel⟩
set_option maxHeartbeats 0 in
theorem ok_law_pair {f : Addr} {fd : FuncData} (B : Blt mg) (F : Fun K "_law_pair" "_law_pair" s_law_pair f fd) (F_law_take : FnD P w K mg base 1 "_law_take" ["draws", "many"] sp_law_take) (F_law_signed : FnD P w K mg base 3 "_law_signed" ["draws", "script"] sp_law_signed) : FnOk P w K mg base CX0 4 f fd ["draws", "script", "cycle"] (spOf K 3 sp_law_pair) := by
  have nd := (sc_law_pair).nd
  exact fn_ok w_law_pair F sc_law_pair (fun cdv A outer s H E hr =>
    (s_cons (s_if (t_eqS (e_call F_law_take (hr.mono (j := 1) (by decide)) (a_cons (e_var 0) (a_cons e_int a_nil))) e_int)
      (s_one (s_ret (e_tup (a_cons (e_call F_law_signed (hr.mono (j := 3) (by decide)) (a_cons (e_var 0) (a_cons (e_var 1) a_nil))) (a_cons (e_call F_law_signed (hr.mono (j := 3) (by decide)) (a_cons (e_var 0) (a_cons (e_var 1) a_nil))) a_nil)))))
      s_nil)
    (s_cons (s_asg 3 nd (e_sub (e_call F_law_take (hr.mono (j := 1) (by decide)) (a_cons (e_var 0) (a_cons (e_addG (e_var 2) e_int) a_nil))) e_int))
    (s_one (s_ret (e_tup (a_cons (e_var 3) (a_cons (e_addG (e_var 3) (e_call F_law_take (hr.mono (j := 1) (by decide)) (a_cons (e_var 0) (a_cons (e_addG (e_var 2) e_int) a_nil)))) a_nil)))))))) pure_law_pair
abbrev s_law_other_start : Stmt := topS 77
theorem sc_law_other_start : FnScope ["draws", "script", "lines", "at", "kind"] ["draws", "script", "lines", "at"] (defScope s_law_other_start) := ⟨rfl, rfl, rfl, by decide +kernel, rfl, by decide +kernel, by decide +kernel⟩
set_option maxHeartbeats 0 in
theorem ok_law_other_start {f : Addr} {fd : FuncData} (B : Blt mg) (F : Fun K "_law_other_start" "_law_other_start" s_law_other_start f fd) (F_law_take : FnD P w K mg base 1 "_law_take" ["draws", "many"] sp_law_take) (F_law_signed : FnD P w K mg base 3 "_law_signed" ["draws", "script"] sp_law_signed) : FnOk P w K mg base CX0 4 f fd ["draws", "script", "lines", "at"] (spOf K 4 sp_law_other_start) := by
  have nd := (sc_law_other_start).nd
  exact fn_ok w_law_other_start F sc_law_other_start (fun cdv A outer s H E hr =>
    (s_cons (s_asg 4 nd (e_call F_law_take (hr.mono (j := 1) (by decide)) (a_cons (e_var 0) (a_cons e_int a_nil))))
    (s_cons (s_if (t_eqS (e_var 4) e_int)
      (s_one (s_ret (e_ixs (e_ixs (e_var 2) (e_max rfl B.max_ e_int (e_sub (e_var 3) e_int))) e_int)))
      s_nil)
    (s_cons (s_if (t_eqS (e_var 4) e_int)
      (s_one (s_ret (e_addG (e_ixs (e_ixs (e_var 2) (e_var 3)) e_int) e_int)))
      s_nil)
    (s_cons (s_if (t_eqS (e_var 4) e_int)
      (s_one (s_ret (e_sub (e_ixs (e_ixs (e_var 2) (e_var 3)) e_int) e_int)))
      s_nil)
    (s_one (s_ret (e_addG (e_ixs (e_ixs (e_var 2) (e_var 3)) e_int) (e_call F_law_signed (hr.mono (j := 3) (by decide)) (a_cons (e_var 0) (a_cons (e_var 1) a_nil))))))))))) pure_law_other_start
abbrev s_law_changed : Stmt := topS 78
abbrev N_law_changed : List Str := ["draws", "script", "table", "cycle", "lines", "kind", "at", "other", "kept", "k"]
theorem sc_law_changed : FnScope ["draws", "script", "table", "cycle", "lines", "kind", "at", "other", "kept", "k"] ["draws", "script", "table"] (defScope s_law_changed) := ⟨rfl, rfl, rfl, by decide +kernel, rfl, by decide +kernel, by decide +kernel⟩
set_option maxHeartbeats 0 in
theorem ok_law_changed {f : Addr} {fd : FuncData} (B : Blt mg) (F : Fun K "_law_changed" "_law_changed" s_law_changed f fd) (F_law_take : FnD P w K mg base 1 "_law_take" ["draws", "many"] sp_law_take) (F_law_signed : FnD P w K mg base 3 "_law_signed" ["draws", "script"] sp_law_signed) (F_law_other_start : FnD P w K mg base 4 "_law_other_start" ["draws", "script", "lines", "at"] sp_law_other_start) (F_law_pair : FnD P w K mg base 4 "_law_pair" ["draws", "script", "cycle"] sp_law_pair) : FnOk P w K mg base CX0 5 f fd ["draws", "script", "table"] (spOf K 3 sp_law_changed) := by
  have nd := (sc_law_changed).nd
  exact fn_ok w_law_changed F sc_law_changed (fun cdv A outer s H E hr =>
    (s_cons (s_asg 3 nd (e_ixs (e_var 2) e_int))
    (s_cons (s_asg 4 nd (e_list B.list_ (e_ixs (e_var 2) e_int)))
    (s_cons (s_asg 5 nd (e_call F_law_take (hr.mono (j := 1) (by decide)) (a_cons (e_var 0) (a_cons e_int a_nil))))
    (s_cons (s_asg 6 nd (e_call F_law_take (hr.mono (j := 1) (by decide)) (a_cons (e_var 0) (a_cons (e_len B.len_ (e_var 4)) a_nil))))
    (s_cons (s_if (t_eqS (e_var 5) e_int)
      (s_one (s_asg 3 nd (e_ixs (e_lst (a_cons e_int (a_cons (e_neg e_int) (a_cons e_int (a_cons e_int (a_cons e_int (a_cons (e_call F_law_signed (hr.mono (j := 3) (by decide)) (a_cons (e_var 0) (a_cons (e_var 1) a_nil))) a_nil))))))) (e_call F_law_take (hr.mono (j := 1) (by decide)) (a_cons (e_var 0) (a_cons e_int a_nil))))))
      (s_one (s_if (t_eqS (e_var 5) e_int)
          (s_one (s_asg 4 nd (e_slL (e_var 4) e_int)))
          (s_one (s_if (t_bop (w_and (t_eqS (e_var 5) e_int) (w_and1 (t_eqS (e_call F_law_take (hr.mono (j := 1) (by decide)) (a_cons (e_var 0) (a_cons e_int a_nil))) e_int))))
              (s_one (s_asg 4 nd (e_lst a_nil)))
              (s_one (s_if (t_eqS (e_var 5) e_int)
                  (s_cons (s_asg 7 nd (e_call F_law_take (hr.mono (j := 1) (by decide)) (a_cons (e_var 0) (a_cons (e_len B.len_ (e_var 4)) a_nil))))
                    (s_cons (s_asg 8 nd (e_ixs (e_var 4) (e_var 6)))
                    (s_cons (s_set 4 (e_ixs (e_var 4) (e_var 7)) (e_var 6))
                    (s_one (s_set 4 (e_var 8) (e_var 7))))))
                  (s_one (s_if (t_eqS (e_var 5) e_int)
                      (s_one (s_set 4 (e_tup (a_cons (e_call F_law_other_start (hr.mono (j := 4) (by decide)) (a_cons (e_var 0) (a_cons (e_var 1) (a_cons (e_var 4) (a_cons (e_var 6) a_nil))))) (a_cons (e_ixs (e_ixs (e_var 4) (e_var 6)) e_int) a_nil))) (e_var 6)))
                      (s_one (s_set 4 (e_tup (a_cons (e_ixs (e_ixs (e_var 4) (e_var 6)) e_int) (a_cons (e_tuple B.tuple_ (e_lc rfl nd (i_rng1 B.range_ (e_addG e_int (e_call F_law_take (hr.mono (j := 1) (by decide)) (a_cons (e_var 0) (a_cons e_int a_nil))))) (blkOk_by (N := N_law_changed) (sc := defScope s_law_changed) (own := [("k", 9)]) (by decide +kernel)) (fun _ _ _ _ _ => (g_name 9 nd)) (fun _ _ _ _ _ => ts_nil) (fun _ _ _ _ _ => (e_call F_law_pair (hr.mono (j := 4) (by decide)) (a_cons (e_var 0) (a_cons (e_var 1) (a_cons (e_ixs (e_var 2) e_int) a_nil))))))) a_nil))) (e_var 6))))))))))))
    (s_one (s_ret (e_tup (a_cons (e_var 3) (a_cons (e_tuple B.tuple_ (e_var 4)) a_nil))))))))))) pure_law_changed
abbrev s_law_error : Stmt := topS 79
theorem sc_law_error : FnScope ["made", "one", "other", "e", "names"] ["made", "one", "other"] (defScope s_law_error) := ⟨rfl, rfl, rfl, by decide +kernel, rfl, by decide +kernel, by decide +kernel⟩
set_option maxHeartbeats 0 in
theorem ok_law_error {f : Addr} {fd : FuncData} (B : Blt mg) (F : Fun K "_law_error" "_law_error" s_law_error f fd) {C_Times : Addr} (T_Times : ClsT K mg 0 C_Times) (M_Times_made : FnS P w K mg base 23 C_Times "made" ["cycle", "when"] sp_Times_made) (M_Times_init : FnI P w K mg base 6 0 C_Times pre_Times_init post_Times_init) {C_NoCycle C_NoTable C_NoWhen S_StoreError : Addr} (gS : mg "StoreError" = some (.ref S_StoreError)) (Z0 : XRow K mg C_NoCycle S_StoreError 0) (Z1 : XRow K mg C_NoTable S_StoreError 1) (Z2 : XRow K mg C_NoWhen S_StoreError 2) (X_made : ∃ fm fdm psm, SMet K C_Times "made" fm ∧ FnOk P w K mg base (L2.CX P w) 23 fm fdm psm (fun vs H Q E => spOf K 2 sp_Times_made vs H Q E ∨ spXM K C_NoCycle C_NoWhen BadC OkC Bad_when_table vs H Q E) ∧ Binds K fdm psm []) (X_init : ∃ fi fdi psi, Mk K C_Times fi ∧ FnOk P w K mg base (L2.CX P w) 6 fi fdi psi (fun vs H Q E => spIni K 0 C_Times pre_Times_init post_Times_init vs H Q E ∨ spXI K C_Times C_NoTable BadI vs H Q E) ∧ Binds K fdi psi []) (V_ValueError : mg "ValueError" = none) : FnOk P w K mg base CX0 25 f fd ["made", "one", "other"] (spOf K 3 sp_law_error) := by
  have nd := (sc_law_error).nd
  exact fn_ok w_law_error F sc_law_error (fun cdv A outer s H E hr =>
    (by obtain ⟨fm, fdm, psm, SM, Fm, bm⟩ := X_made; obtain ⟨fi, fdi, psi, Mc, Fi, bi⟩ := X_init; exact (s_cons (s_tryN gS Z0 Z1 Z2 T_Times Mc Fi bi (hr.mono (j := 6 + 1) (by decide)) B.isinstance_ V_ValueError nd (hw := fun _ _ _ => pv 0) (hy := fun _ _ _ _ => pv 1) (hz := fun _ _ _ _ => pv 2) (hcal := fun W pn xe tk => cal_sm T_Times SM Fm bm (hr.mono (j := 23) (by decide)) tk (pv 1) (pv 2)) (hn := fun _ _ _ _ => pv 3) (hq := fun _ _ _ _ => pv 4))
    (s_one (s_ret e_str))))) pure_law_error
abbrev s_law_bad_when : Stmt := topS 80
abbrev N_law_bad_when : List Str := ["draws", "script", "cycle", "kind", "start", "when", "strange", "good", "name", "every"]
theorem sc_law_bad_when : FnScope ["draws", "script", "cycle", "kind", "start", "when", "strange", "good", "name", "every"] ["draws", "script", "cycle"] (defScope s_law_bad_when) := ⟨rfl, rfl, rfl, by decide +kernel, rfl, by decide +kernel, by decide +kernel⟩
set_option maxHeartbeats 0 in
theorem ok_law_bad_when {f : Addr} {fd : FuncData} (B : Blt mg) (F : Fun K "_law_bad_when" "_law_bad_when" s_law_bad_when f fd) (F_law_take : FnD P w K mg base 1 "_law_take" ["draws", "many"] sp_law_take) (F_law_size : FnD P w K mg base 2 "_law_size" ["draws", "script"] sp_law_size) (F_law_pick : FnD P w K mg base 2 "_law_pick" ["draws", "row"] sp_law_pick) (F_law_when : FnD P w K mg base 4 "_law_when" ["draws", "cycle", "low"] sp_law_when) : FnOk P w K mg base CX0 5 f fd ["draws", "script", "cycle"] (spOf K 3 sp_law_bad_when) := by
  have nd := (sc_law_bad_when).nd
  exact fn_ok w_law_bad_when F sc_law_bad_when (fun cdv A outer s H E hr =>
    (s_cons (s_asg 3 nd (e_call F_law_take (hr.mono (j := 1) (by decide)) (a_cons (e_var 0) (a_cons e_int a_nil))))
    (s_cons (s_asg 4 nd (e_call F_law_size (hr.mono (j := 2) (by decide)) (a_cons (e_var 0) (a_cons (e_var 1) a_nil))))
    (s_cons (s_asg 5 nd (e_tup (a_cons e_str (a_cons (e_var 4) (a_cons (e_sub (e_var 4) (e_call F_law_size (hr.mono (j := 2) (by decide)) (a_cons (e_var 0) (a_cons (e_var 1) a_nil)))) a_nil)))))
    (s_cons (s_setLc 6 rfl nd (i_rng2 B.range_ e_int (e_var 2)) (blkOk_by (N := N_law_bad_when) (sc := defScope s_law_bad_when) (own := [("every", 9)]) (by decide +kernel)) (fun _ _ _ _ _ => (g_name 9 nd)) (fun _ _ _ _ _ => (ts_one (t_gt (e_mod (e_int1 B.int_ (e_var 2)) (e_var 9)) e_int))) (fun _ _ _ _ _ => (e_var 9)))
    (s_cons (s_if (t_bop (w_and (t_eqS (e_var 3) e_int) (w_and1 (t_gt (e_len B.len_ (e_var 6)) e_int))))
      (s_one (s_asg 5 nd (e_tup (a_cons e_str (a_cons (e_var 4) (a_cons e_int (a_cons (e_call F_law_pick (hr.mono (j := 2) (by decide)) (a_cons (e_var 0) (a_cons (e_var 6) a_nil))) (a_cons (e_ixs (e_lst (a_cons e_non (a_cons e_int a_nil))) (e_call F_law_take (hr.mono (j := 1) (by decide)) (a_cons (e_var 0) (a_cons e_int a_nil)))) a_nil))))))))
      s_nil)
    (s_cons (s_if (t_eqS (e_var 3) e_int)
      (s_one (s_asg 5 nd (e_tup (a_cons e_str (a_cons (e_sub (e_neg e_int) (e_var 4)) (a_cons (e_call F_law_size (hr.mono (j := 2) (by decide)) (a_cons (e_var 0) (a_cons (e_var 1) a_nil))) a_nil))))))
      s_nil)
    (s_cons (s_if (t_eqS (e_var 3) e_int)
      (s_one (s_asg 5 nd (e_tup (a_cons e_str (a_cons (e_sub (e_neg e_int) (e_var 4)) a_nil)))))
      s_nil)
    (s_cons (s_if (t_eqS (e_var 3) e_int)
      (s_one (s_asg 5 nd (e_tup (a_cons e_str (a_cons (e_var 4) (a_cons e_int (a_cons e_int (a_cons e_non a_nil))))))))
      s_nil)
    (s_cons (s_if (t_eqS (e_var 3) e_int)
      (s_one (s_asg 5 nd (e_tup (a_cons e_str (a_cons (e_var 4) (a_cons (e_addG (e_addG (e_var 2) e_int) (e_call F_law_take (hr.mono (j := 1) (by decide)) (a_cons (e_var 0) (a_cons e_int a_nil)))) (a_cons (e_var 2) (a_cons e_non a_nil))))))))
      s_nil)
    (s_cons (s_if (t_eqS (e_var 3) e_int)
      (s_one (s_asg 5 nd (e_tup (a_cons e_str (a_cons (e_var 4) (a_cons e_int (a_cons (e_addG (e_addG (e_var 2) e_int) (e_call F_law_size (hr.mono (j := 2) (by decide)) (a_cons (e_var 0) (a_cons (e_var 1) a_nil)))) (a_cons e_int a_nil))))))))
      s_nil)
    (s_cons (s_if (t_eqS (e_var 3) e_int)
      (s_one (s_asg 5 nd (e_tup (a_cons e_str (a_cons (e_var 4) (a_cons e_int (a_cons (e_var 2) (a_cons (e_sub e_int (e_call F_law_size (hr.mono (j := 2) (by decide)) (a_cons (e_var 0) (a_cons (e_var 1) a_nil)))) a_nil))))))))
      s_nil)
    (s_cons (s_if (t_eqS (e_var 3) e_int)
      (s_one (s_asg 5 nd (e_tup (a_cons e_str (a_cons (e_sub (e_neg e_int) (e_var 4)) (a_cons e_int (a_cons e_int (a_cons e_int a_nil))))))))
      s_nil)
    (s_cons (s_if (t_eqS (e_var 3) e_int)
      (s_one (s_asg 5 nd (e_tup (a_cons e_str (a_cons (e_var 4) (a_cons e_int (a_cons (e_sub e_int (e_call F_law_take (hr.mono (j := 1) (by decide)) (a_cons (e_var 0) (a_cons e_int a_nil)))) (a_cons e_non a_nil))))))))
      s_nil)
    (s_cons (s_if (t_eqS (e_call F_law_take (hr.mono (j := 1) (by decide)) (a_cons (e_var 0) (a_cons e_int a_nil))) e_int)
      (s_one (s_ret (e_var 5)))
      s_nil)
    (s_cons (s_asg 7 nd (e_call F_law_when (hr.mono (j := 4) (by decide)) (a_cons (e_var 0) (a_cons (e_var 2) (a_cons (e_var 4) a_nil)))))
    (s_cons (s_asg 8 nd (e_ixs (e_lst (a_cons e_str (a_cons e_str a_nil))) (e_call F_law_take (hr.mono (j := 1) (by decide)) (a_cons (e_var 0) (a_cons e_int a_nil)))))
    (s_one (s_ret (e_ixs (e_lst (a_cons (e_tup (a_cons (e_var 8) (a_cons (e_var 5) (a_cons (e_var 7) a_nil)))) (a_cons (e_tup (a_cons (e_var 8) (a_cons (e_var 7) (a_cons (e_var 5) a_nil)))) a_nil))) (e_call F_law_take (hr.mono (j := 1) (by decide)) (a_cons (e_var 0) (a_cons e_int a_nil))))))))))))))))))))))) pure_law_bad_when
abbrev s_law_chain : Stmt := topS 81
theorem sc_law_chain : FnScope ["draws", "cycle", "depth", "when", "k", "leaf", "name"] ["draws", "cycle", "depth"] (defScope s_law_chain) := ⟨rfl, rfl, rfl, by decide +kernel, rfl, by decide +kernel, by decide +kernel⟩
set_option maxHeartbeats 0 in
theorem ok_law_chain {f : Addr} {fd : FuncData} (B : Blt mg) (F : Fun K "_law_chain" "_law_chain" s_law_chain f fd) (F_law_leaf_when : FnD P w K mg base 3 "_law_leaf_when" ["draws", "cycle", "low"] sp_law_leaf_when) (F_law_take : FnD P w K mg base 1 "_law_take" ["draws", "many"] sp_law_take) : FnOk P w K mg base CX0 4 f fd ["draws", "cycle", "depth"] (spOf K 3 sp_law_chain) := by
  have nd := (sc_law_chain).nd
  exact fn_ok w_law_chain F sc_law_chain (fun cdv A outer s H E hr =>
    (s_cons (s_asg 3 nd (e_call F_law_leaf_when (hr.mono (j := 3) (by decide)) (a_cons (e_var 0) (a_cons (e_var 1) (a_cons (e_call F_law_take (hr.mono (j := 1) (by decide)) (a_cons (e_var 0) (a_cons e_int a_nil))) a_nil)))))
    (s_cons (s_for [0, 1, 2] [4] .never rfl (i_rng1 B.range_ (e_sub (e_var 2) e_int)) (g_name 4 nd)
      (s_cons (s_asg 5 nd (e_call F_law_leaf_when (hr.mono (j := 3) (by decide)) (a_cons (e_var 0) (a_cons (e_var 1) (a_cons (e_call F_law_take (hr.mono (j := 1) (by decide)) (a_cons (e_var 0) (a_cons e_int a_nil))) a_nil)))))
        (s_cons (s_asg 6 nd (e_ixs (e_lst (a_cons e_str (a_cons e_str a_nil))) (e_call F_law_take (hr.mono (j := 1) (by decide)) (a_cons (e_var 0) (a_cons e_int a_nil)))))
        (s_one (s_asg 3 nd (e_ixs (e_lst (a_cons (e_tup (a_cons (e_var 6) (a_cons (e_var 3) (a_cons (e_var 5) a_nil)))) (a_cons (e_tup (a_cons (e_var 6) (a_cons (e_var 5) (a_cons (e_var 3) a_nil)))) a_nil))) (e_call F_law_take (hr.mono (j := 1) (by decide)) (a_cons (e_var 0) (a_cons e_int a_nil)))))))))
    (s_one (s_ret (e_var 3)))))) pure_law_chain
abbrev s_law : Stmt := topS 82
theorem sc_law : FnScope ["script", "draws", "table", "other", "due", "cycle", "strange", "good", "bad", "depth"] ["script"] (defScope s_law) := ⟨rfl, rfl, rfl, by decide +kernel, rfl, by decide +kernel, by decide +kernel⟩
set_option maxHeartbeats 0 in
theorem ok_law {f : Addr} {fd : FuncData} (B : Blt mg) (F : Fun K "law" "law" s_law f fd) (F_law_draws : FnD P w K mg base 1 "_law_draws" ["script", "many"] sp_law_draws) (F_law_long_table : FnD P w K mg base 4 "_law_long_table" ["draws", "script", "cycle"] sp_law_long_table) (F_law_cycle : FnD P w K mg base 2 "_law_cycle" ["draws"] sp_law_cycle) (F_law_changed : FnD P w K mg base 5 "_law_changed" ["draws", "script", "table"] sp_law_changed) (F_law_is_table : FnD P w K mg base 9 "_law_is_table" ["table", "cycle"] sp_law_is_table) (F_law_error : FnD P w K mg base 25 "_law_error" ["made", "one", "other"] sp_law_error) (F_law_size : FnD P w K mg base 2 "_law_size" ["draws", "script"] sp_law_size) (F_law_take : FnD P w K mg base 1 "_law_take" ["draws", "many"] sp_law_take) (F_law_when : FnD P w K mg base 4 "_law_when" ["draws", "cycle", "low"] sp_law_when) (F_law_bad_when : FnD P w K mg base 5 "_law_bad_when" ["draws", "script", "cycle"] sp_law_bad_when) (F_law_chain : FnD P w K mg base 4 "_law_chain" ["draws", "cycle", "depth"] sp_law_chain) : FnOk P w K mg base CX0 26 f fd ["script"] (spOf K 1 sp_law) := by
  have nd := (sc_law).nd
  exact fn_ok w_law F sc_law (fun cdv A outer s H E hr =>
    (s_cons (s_asg 1 nd (e_call F_law_draws (hr.mono (j := 1) (by decide)) (a_cons (e_var 0) (a_cons e_int a_nil))))
    (s_cons (s_asg 2 nd (e_call F_law_long_table (hr.mono (j := 4) (by decide)) (a_cons (e_var 1) (a_cons (e_var 0) (a_cons (e_call F_law_cycle (hr.mono (j := 2) (by decide)) (a_cons (e_var 1) a_nil)) a_nil)))))
    (s_cons (s_asg 3 nd (e_call F_law_changed (hr.mono (j := 5) (by decide)) (a_cons (e_var 1) (a_cons (e_var 0) (a_cons (e_var 2) a_nil)))))
    (s_cons (s_asg 4 nd e_str)
    (s_cons (s_if (t_bop (w_and (t_le e_int (e_ixs (e_var 3) e_int)) (w_and (t_le (e_ixs (e_var 3) e_int) e_int) (w_and1 (t_val (e_call F_law_is_table (hr.mono (j := 9) (by decide)) (a_cons (e_var 3) (a_cons (e_ixs (e_var 3) e_int) a_nil))))))))
      (s_one (s_asg 4 nd e_str))
      s_nil)
    (s_cons (s_if (t_bop (w_or (t_neS (e_call F_law_error (hr.mono (j := 25) (by decide)) (a_cons e_bl (a_cons (e_ixs (e_var 2) e_int) (a_cons (e_ixs (e_var 2) e_int) a_nil)))) e_str) (w_or1 (t_neS (e_call F_law_error (hr.mono (j := 25) (by decide)) (a_cons e_bl (a_cons (e_ixs (e_var 3) e_int) (a_cons (e_ixs (e_var 3) e_int) a_nil)))) (e_var 4)))))
      (s_one (s_ret e_bl))
      s_nil)
    (s_cons (s_asg 5 nd (e_ixs (e_var 2) e_int))
    (s_cons (s_asg 6 nd (e_ixs (e_lst (a_cons e_int (a_cons (e_sub (e_neg e_int) (e_call F_law_size (hr.mono (j := 2) (by decide)) (a_cons (e_var 1) (a_cons (e_var 0) a_nil)))) (a_cons e_int (a_cons (e_addG e_int (e_call F_law_size (hr.mono (j := 2) (by decide)) (a_cons (e_var 1) (a_cons (e_var 0) a_nil)))) a_nil))))) (e_call F_law_take (hr.mono (j := 1) (by decide)) (a_cons (e_var 1) (a_cons e_int a_nil)))))
    (s_cons (s_asg 7 nd (e_call F_law_when (hr.mono (j := 4) (by decide)) (a_cons (e_var 1) (a_cons (e_var 5) (a_cons (e_call F_law_size (hr.mono (j := 2) (by decide)) (a_cons (e_var 1) (a_cons (e_var 0) a_nil))) a_nil)))))
    (s_cons (s_asg 8 nd (e_call F_law_bad_when (hr.mono (j := 5) (by decide)) (a_cons (e_var 1) (a_cons (e_var 0) (a_cons (e_var 5) a_nil)))))
    (s_cons (s_if (t_bop (w_or (t_neS (e_call F_law_error (hr.mono (j := 25) (by decide)) (a_cons e_bl (a_cons (e_var 6) (a_cons (e_var 7) a_nil)))) e_str) (w_or1 (t_neS (e_call F_law_error (hr.mono (j := 25) (by decide)) (a_cons e_bl (a_cons (e_var 6) (a_cons (e_var 8) a_nil)))) e_str))))
      (s_one (s_ret e_bl))
      s_nil)
    (s_cons (s_if (t_bop (w_or (t_neS (e_call F_law_error (hr.mono (j := 25) (by decide)) (a_cons e_bl (a_cons (e_var 5) (a_cons (e_var 8) a_nil)))) e_str) (w_or1 (t_neS (e_call F_law_error (hr.mono (j := 25) (by decide)) (a_cons e_bl (a_cons (e_var 5) (a_cons (e_var 7) a_nil)))) e_str))))
      (s_one (s_ret e_bl))
      s_nil)
    (s_cons (s_asg 9 nd (e_addG e_int (e_call F_law_take (hr.mono (j := 1) (by decide)) (a_cons (e_var 1) (a_cons e_int a_nil)))))
    (s_one (s_ret (e_eqS (e_call F_law_error (hr.mono (j := 25) (by decide)) (a_cons e_bl (a_cons (e_var 5) (a_cons (e_call F_law_chain (hr.mono (j := 4) (by decide)) (a_cons (e_var 1) (a_cons (e_var 5) (a_cons (e_var 9) a_nil)))) a_nil)))) (e_ixs (e_lst (a_cons e_str (a_cons e_str a_nil))) (e_int1 B.int_ (e_gt (e_var 9) e_int)))))))))))))))))))) pure_law
theorem okx_when_table {f C : Addr} {fd : FuncData} (F : Fun K "when_table" "when_table" s_when_table f fd) (T : XC K mg "NoWhen" C) {k : Nat} {sp : FSpec} (Fi : FnD P w K mg base k "is_when" ["cycle", "when"] sp) {Bad : D → D → Prop}
    (hbad : ∀ a b, Bad a b → (cUn fNot (cCallN 2 sp (cCons (cVar 0) (cCons (cVar 1) cNil)))) (env0 [a, b] 0) fun r _ => r = .val (.bl true)) : FnOk P w K mg base (L2.CX P w) (k + 1) f fd ["cycle", "when"] (spXB K C Bad) := by
  have nd := (sc_when_table).nd
  refine F.okX sc_when_table (fun vs H Q E h => ?_) (fun cdv A outer s H vs Q E hr h => ?_)
  · obtain ⟨a, b, u, v, rfl, _⟩ := h
    rfl
  · obtain ⟨a, b, u, v, rfl, la, lb, ra, rb, bad, hE⟩ := h
    refine ⟨_, pss_cons (ps_if (t_not (np := 2) (He := H) (t_val (e_call Fi (hr.mono (Nat.le_refl _)) (a_cons (e_var 0) (a_cons (e_var 1) a_nil))))) (pss_one (ps_raise rfl (takes_of rfl rfl rfl rfl) (pmk_own PySem.F.excBase_ValueError T.xP T.gC T.kP (raises_own T.bP T.tP) rfl))) pss_nil) pss_never, ?_⟩
    refine ⟨env0 [a, b] 0, _, rep0 (N := ["cycle", "when"]) (by decide) rfl ⟨u, _, rfl, .of ra, v, _, rfl, .of rb, rfl⟩ (apA2 la lb), hbad a b bad, fun r e1 v1 H1 h1 s1 r1 => ?_⟩
    subst h1
    have e2 : v1 = .bl true := r1.1
    subst e2
    refine ⟨true, rfl, ?_⟩
    dsimp only
    rw [if_pos rfl]
    exact hE H1 (ext_of la lb s1)

theorem okx_Times_init {f C CT : Addr} {fd : FuncData} (F : Fun K "__init__" "Times.__init__" s_Times_init f fd) (T : XC K mg "NoTable" C) (Fi : FnD P w K mg base 2 "is_table" ["table"] sp_is_table) : FnOk P w K mg base (L2.CX P w) 3 f fd ["self", "table"] (spXI K CT C BadI) := by
  have nd := (sc_Times_init).nd
  refine F.okX sc_Times_init (fun vs H Q E h => ?_) (fun cdv A outer s H vs Q E hr h => ?_)
  · obtain ⟨p, dx, v, d, rfl, _⟩ := h
    rfl
  · obtain ⟨p, dx, v, d, rfl, hp, rd, bad, hE⟩ := h
    refine ⟨_, pss_cons (ps_if (t_not (np := 2) (He := H) (t_val (e_call Fi (hr.mono (Nat.le_refl _)) (a_cons (e_var 1) a_nil)))) (pss_one (ps_raise rfl (takes_of rfl rfl rfl rfl) (pmk_own PySem.F.excBase_ValueError T.xP T.gC T.kP (raises_own T.bP T.tP) rfl))) pss_nil) pss_never, ?_⟩
    refine ⟨[none, some d], _, rep01 (N := ["self", "table"]) rfl rd, badI d bad, fun r e1 v1 H1 h1 s1 r1 => ?_⟩
    subst h1
    have e2 : v1 = .bl true := r1.1
    subst e2
    refine ⟨true, rfl, ?_⟩
    dsimp only
    rw [if_pos rfl]
    exact hE H1 (ext01 rd.immL s1)
theorem okx_Times_made {f C0 C2 CT : Addr} {fd : FuncData} (F : Fun K "made" "Times.made" s_Times_made f fd) (T0 : XC K mg "NoCycle" C0) (Fc : FnD P w K mg base 1 "is_cycle" ["cycle"] sp_is_cycle) (Fb : FnB P w K mg base 19 "when_table" ["cycle", "when"] C2 Bad_when_table) (T : ClsT K mg 0 CT) (M : FnI P w K mg base 6 0 CT pre_Times_init post_Times_init) : FnOk P w K mg base (L2.CX P w) 23 f fd ["cycle", "when"] (spXM K C0 C2 BadC OkC Bad_when_table) := by
  have nd := (sc_Times_made).nd
  obtain ⟨fb, fdb, Gb, mb, kb, bb⟩ := Fb.ex
  obtain ⟨fi, fdi, psi, Mk, Fi, bi⟩ := M.ex
  refine F.okX sc_Times_made (fun vs H Q E h => ?_) (fun cdv A outer s H vs Q E hr h => ?_)
  · obtain ⟨b, c, u, v, rfl, _⟩ := h
    rfl
  · obtain ⟨b, c, u, v, rfl, lb, lc, rb, rc, h⟩ := h
    have tk := takes_of (X := cxOf (L2.CX P w) P w K mg base N_Times_made "Times.made" (defScope s_Times_made) f cdv A outer s H E) (E := E) rfl rfl rfl rfl
    refine ⟨_, pss_cons (ps_if (t_not (np := 2) (He := H) (t_val (e_call Fc (hr.mono (by decide)) (a_cons (e_var 0) a_nil)))) (pss_one (ps_raise rfl (takes_of rfl rfl rfl rfl) (pmk_own PySem.F.excBase_ValueError T0.xP T0.gC T0.kP (raises_own T0.bP T0.tP) rfl))) pss_nil) (pss_one (ps_ret (pe_make (x := cNm 0) Mk Fi (hr.mono (by decide)) rfl T.mg bi .nil pass0 (pa_cons (pe_callS Gb (hr.mono (by decide)) rfl mb kb bb (fun σ => passAt tk σ) (pa_cons (pv 0) (pa_cons (pv 1) pa_nil))) pa_nil)))), ?_⟩
    have R0 : Rep K 2 H (L2.start (["cycle", "when"] : List Str) [u, v]) H (env0 [b, c] 0) := rep0 (N := ["cycle", "when"]) (by decide) rfl ⟨u, _, rfl, .of rb, v, _, rfl, .of rc, rfl⟩ (apA2 lb lc)
    rcases h with ⟨bad, hE⟩ | ⟨ok, bad, hE⟩
    · refine ⟨env0 [b, c] 0, _, R0, badC b c bad, fun r e1 v1 H1 h1 s1 r1 => ?_⟩
      subst h1
      have e2 : v1 = .bl true := r1.1
      subst e2
      refine ⟨true, rfl, ?_⟩
      dsimp only
      rw [if_pos rfl]
      exact hE H1 (ext_of lb lc s1)
    · refine ⟨env0 [b, c] 0, _, R0, okC b c ok, fun r e1 v1 H1 h1 s1 r1 => ?_⟩
      subst h1
      have e2 : v1 = .bl false := r1.1
      subst e2
      have x1 := ext_of lb lc s1
      refine ⟨false, rfl, ?_⟩
      dsimp only
      rw [if_neg Bool.false_ne_true]
      exact ⟨u, rfl, v, rfl, b, c, u, v, rfl, lb, lc, RpI.kp x1.kp _ _ rb, RpI.kp x1.kp _ _ rc, bad, fun H' e => hE H' fun b o z => e b o (x1 b o z)⟩

end
set_option maxHeartbeats 0 in
theorem all_mk {l : PySem.W.OpenLaw} {w : World} {K : PySem.W.Frag} {h : Heap} {mg : Str → Option Value} {fa f0 f1 f2 f3 f4 f5 f6 f7 f8 f9 f10 f11 f12 f13 f14 f15 f16 f17 f18 f19 f20 f21 f22 f23 f24 f25 f26 f27 f28 f29 f30 f31 f32 f33 f34 f35 f36 f37 f38 f39 f40 f41 f42 f43 f44 f45 f46 f47 f48 f49 C_Times p26 C_NoCycle C_NoTable C_NoWhen S_StoreError : Addr} (X : K.In h) (G : h.Ns mainGlobals mg) (hfa : mg "law" = some (.ref fa))
    {od0 an0 od1 an1 od2 an2 od3 an3 od4 an4 od5 an5 od6 an6 od7 an7 od8 an8 od9 an9 od10 an10 od11 an11 od12 an12 od13 an13 od14 an14 od15 an15 od16 an16 od17 an17 od18 an18 od19 an19 od20 an20 od21 an21 od22 an22 od23 an23 od24 an24 od25 an25 od26 an26 od27 an27 od28 an28 od29 an29 od30 an30 od31 an31 od32 an32 od33 an33 od34 an34 od35 an35 od36 an36 od37 an37 od38 an38 od39 an39 od40 an40 od41 an41 od42 an42 od43 an43 od44 an44 od45 an45 od46 an46 od47 an47 od48 an48 od49 an49 : Option Addr} {sl0 sl1 sl2 sl3 sl4 sl5 sl6 sl7 sl8 sl9 sl10 sl11 sl12 sl13 sl14 sl15 sl16 sl17 sl18 sl19 sl20 sl21 sl22 sl23 sl24 sl25 sl26 sl27 sl28 sl29 sl30 sl31 sl32 sl33 sl34 sl35 sl36 sl37 sl38 sl39 sl40 sl41 sl42 sl43 sl44 sl45 sl46 sl47 sl48 sl49 : Array (Option Value)} {oc0 kV0 dc0 pm0 cd0 ct0 oc1 kV1 dc1 pm1 cd1 ct1 oc2 kV2 dc2 pm2 cd2 ct2 oc3 kV3 dc3 pm3 cd3 ct3 oc4 kV4 dc4 pm4 cd4 ct4 oc5 kV5 dc5 pm5 cd5 ct5 oc6 kV6 dc6 pm6 cd6 ct6 oc7 kV7 dc7 pm7 cd7 ct7 oc8 kV8 dc8 pm8 cd8 ct8 oc9 kV9 dc9 pm9 cd9 ct9 oc10 kV10 dc10 pm10 cd10 ct10 oc11 kV11 dc11 pm11 cd11 ct11 oc12 kV12 dc12 pm12 cd12 ct12 oc13 kV13 dc13 pm13 cd13 ct13 oc14 kV14 dc14 pm14 cd14 ct14 oc15 kV15 dc15 pm15 cd15 ct15 oc16 kV16 dc16 pm16 cd16 ct16 oc17 kV17 dc17 pm17 cd17 ct17 oc18 kV18 dc18 pm18 cd18 ct18 oc19 kV19 dc19 pm19 cd19 ct19 oc20 kV20 dc20 pm20 cd20 ct20 oc21 kV21 dc21 pm21 cd21 ct21 oc22 kV22 dc22 pm22 cd22 ct22 oc23 kV23 dc23 pm23 cd23 ct23 oc24 kV24 dc24 pm24 cd24 ct24 oc25 kV25 dc25 pm25 cd25 ct25 oc26 kV26 dc26 pm26 cd26 ct26 oc27 kV27 dc27 pm27 cd27 ct27 oc28 kV28 dc28 pm28 cd28 ct28 oc29 kV29 dc29 pm29 cd29 ct29 oc30 kV30 dc30 pm30 cd30 ct30 oc31 kV31 dc31 pm31 cd31 ct31 oc32 kV32 dc32 pm32 cd32 ct32 oc33 kV33 dc33 pm33 cd33 ct33 oc34 kV34 dc34 pm34 cd34 ct34 oc35 kV35 dc35 pm35 cd35 ct35 oc36 kV36 dc36 pm36 cd36 ct36 oc37 kV37 dc37 pm37 cd37 ct37 oc38 kV38 dc38 pm38 cd38 ct38 oc39 kV39 dc39 pm39 cd39 ct39 oc40 kV40 dc40 pm40 cd40 ct40 oc41 kV41 dc41 pm41 cd41 ct41 oc42 kV42 dc42 pm42 cd42 ct42 oc43 kV43 dc43 pm43 cd43 ct43 oc44 kV44 dc44 pm44 cd44 ct44 oc45 kV45 dc45 pm45 cd45 ct45 oc46 kV46 dc46 pm46 cd46 ct46 oc47 kV47 dc47 pm47 cd47 ct47 oc48 kV48 dc48 pm48 cd48 ct48 oc49 kV49 dc49 pm49 cd49 ct49 : Value} {rs26 : List Value}
    (ns_Times : PySem.W.nsIn K mainGlobals (cNm 0) = some (some (.ref C_Times))) (c1_Times : PySem.W.plainGet K C_Times Str.empty = true) (c2_Times : PySem.W.hasDictIn K C_Times = true) (c3_Times : PySem.W.plainOver K C_Times = true) (c4_Times : PySem.W.findIn K (.ref C_Times) "__setattr__" = some (some (.builtin "object.__setattr__"))) (ha_Times : PySem.W.findIn K (.ref C_Times) "__class__" = some (some (.builtin "object.__class__"))) (hn_Times : PySem.W.specialIn K (.builtin "object.__class__") "__get__" = some (some (.builtin "getset_descriptor.__get__"))) (ht_Times : PySem.W.takesIn K (.builtin "object.__class__") = some true) (hm_Times : PySem.W.mroIn K C_Times (.type "object") = some true) (sf_Times : PySem.W.selfFirst K C_Times = true)
    (A_Times_table : PySem.W.findIn K (.ref C_Times) "table" = some none)
    (a0 : PySem.W.nsIn K mainGlobals "spans_of" = some (some (.ref f0))) (l0 : K.lookup f0 = some ⟨oc0, od0, .func (PySem.W.fnOf "spans_of" "spans_of" (defArgs s_spans_of) (defBody s_spans_of) (defScope s_spans_of) .none kV0 dc0 pm0 an0 cd0 ct0), sl0⟩) (c0 : PySem.W.codeIn K cd0 "spans_of" = true) (k0 : PySem.W.keepIn K (.ref f0) = true)
    (a1 : PySem.W.nsIn K mainGlobals "is_spans" = some (some (.ref f1))) (l1 : K.lookup f1 = some ⟨oc1, od1, .func (PySem.W.fnOf "is_spans" "is_spans" (defArgs s_is_spans) (defBody s_is_spans) (defScope s_is_spans) .none kV1 dc1 pm1 an1 cd1 ct1), sl1⟩) (c1 : PySem.W.codeIn K cd1 "is_spans" = true) (k1 : PySem.W.keepIn K (.ref f1) = true)
    (a2 : PySem.W.nsIn K mainGlobals "full_mask" = some (some (.ref f2))) (l2 : K.lookup f2 = some ⟨oc2, od2, .func (PySem.W.fnOf "full_mask" "full_mask" (defArgs s_full_mask) (defBody s_full_mask) (defScope s_full_mask) .none kV2 dc2 pm2 an2 cd2 ct2), sl2⟩) (c2 : PySem.W.codeIn K cd2 "full_mask" = true) (k2 : PySem.W.keepIn K (.ref f2) = true)
    (a3 : PySem.W.nsIn K mainGlobals "mask_of" = some (some (.ref f3))) (l3 : K.lookup f3 = some ⟨oc3, od3, .func (PySem.W.fnOf "mask_of" "mask_of" (defArgs s_mask_of) (defBody s_mask_of) (defScope s_mask_of) .none kV3 dc3 pm3 an3 cd3 ct3), sl3⟩) (c3 : PySem.W.codeIn K cd3 "mask_of" = true) (k3 : PySem.W.keepIn K (.ref f3) = true)
    (a4 : PySem.W.nsIn K mainGlobals "mask_spans" = some (some (.ref f4))) (l4 : K.lookup f4 = some ⟨oc4, od4, .func (PySem.W.fnOf "mask_spans" "mask_spans" (defArgs s_mask_spans) (defBody s_mask_spans) (defScope s_mask_spans) .none kV4 dc4 pm4 an4 cd4 ct4), sl4⟩) (c4 : PySem.W.codeIn K cd4 "mask_spans" = true) (k4 : PySem.W.keepIn K (.ref f4) = true)
    (a5 : PySem.W.nsIn K mainGlobals "phase_bit" = some (some (.ref f5))) (l5 : K.lookup f5 = some ⟨oc5, od5, .func (PySem.W.fnOf "phase_bit" "phase_bit" (defArgs s_phase_bit) (defBody s_phase_bit) (defScope s_phase_bit) .none kV5 dc5 pm5 an5 cd5 ct5), sl5⟩) (c5 : PySem.W.codeIn K cd5 "phase_bit" = true) (k5 : PySem.W.keepIn K (.ref f5) = true)
    (a6 : PySem.W.nsIn K mainGlobals "turned_mask" = some (some (.ref f6))) (l6 : K.lookup f6 = some ⟨oc6, od6, .func (PySem.W.fnOf "turned_mask" "turned_mask" (defArgs s_turned_mask) (defBody s_turned_mask) (defScope s_turned_mask) .none kV6 dc6 pm6 an6 cd6 ct6), sl6⟩) (c6 : PySem.W.codeIn K cd6 "turned_mask" = true) (k6 : PySem.W.keepIn K (.ref f6) = true)
    (a7 : PySem.W.nsIn K mainGlobals "covered_mask" = some (some (.ref f7))) (l7 : K.lookup f7 = some ⟨oc7, od7, .func (PySem.W.fnOf "covered_mask" "covered_mask" (defArgs s_covered_mask) (defBody s_covered_mask) (defScope s_covered_mask) .none kV7 dc7 pm7 an7 cd7 ct7), sl7⟩) (c7 : PySem.W.codeIn K cd7 "covered_mask" = true) (k7 : PySem.W.keepIn K (.ref f7) = true)
    (a8 : PySem.W.nsIn K mainGlobals "first_within" = some (some (.ref f8))) (l8 : K.lookup f8 = some ⟨oc8, od8, .func (PySem.W.fnOf "first_within" "first_within" (defArgs s_first_within) (defBody s_first_within) (defScope s_first_within) .none kV8 dc8 pm8 an8 cd8 ct8), sl8⟩) (c8 : PySem.W.codeIn K cd8 "first_within" = true) (k8 : PySem.W.keepIn K (.ref f8) = true)
    (a9 : PySem.W.nsIn K mainGlobals "pieces_of" = some (some (.ref f9))) (l9 : K.lookup f9 = some ⟨oc9, od9, .func (PySem.W.fnOf "pieces_of" "pieces_of" (defArgs s_pieces_of) (defBody s_pieces_of) (defScope s_pieces_of) .none kV9 dc9 pm9 an9 cd9 ct9), sl9⟩) (c9 : PySem.W.codeIn K cd9 "pieces_of" = true) (k9 : PySem.W.keepIn K (.ref f9) = true)
    (a10 : PySem.W.nsIn K mainGlobals "stretches_of" = some (some (.ref f10))) (l10 : K.lookup f10 = some ⟨oc10, od10, .func (PySem.W.fnOf "stretches_of" "stretches_of" (defArgs s_stretches_of) (defBody s_stretches_of) (defScope s_stretches_of) .none kV10 dc10 pm10 an10 cd10 ct10), sl10⟩) (c10 : PySem.W.codeIn K cd10 "stretches_of" = true) (k10 : PySem.W.keepIn K (.ref f10) = true)
    (a11 : PySem.W.nsIn K mainGlobals "met_pieces" = some (some (.ref f11))) (l11 : K.lookup f11 = some ⟨oc11, od11, .func (PySem.W.fnOf "met_pieces" "met_pieces" (defArgs s_met_pieces) (defBody s_met_pieces) (defScope s_met_pieces) .none kV11 dc11 pm11 an11 cd11 ct11), sl11⟩) (c11 : PySem.W.codeIn K cd11 "met_pieces" = true) (k11 : PySem.W.keepIn K (.ref f11) = true)
    (a12 : PySem.W.nsIn K mainGlobals "table_of" = some (some (.ref f12))) (l12 : K.lookup f12 = some ⟨oc12, od12, .func (PySem.W.fnOf "table_of" "table_of" (defArgs s_table_of) (defBody s_table_of) (defScope s_table_of) .none kV12 dc12 pm12 an12 cd12 ct12), sl12⟩) (c12 : PySem.W.codeIn K cd12 "table_of" = true) (k12 : PySem.W.keepIn K (.ref f12) = true)
    (a13 : PySem.W.nsIn K mainGlobals "is_cycle" = some (some (.ref f13))) (l13 : K.lookup f13 = some ⟨oc13, od13, .func (PySem.W.fnOf "is_cycle" "is_cycle" (defArgs s_is_cycle) (defBody s_is_cycle) (defScope s_is_cycle) .none kV13 dc13 pm13 an13 cd13 ct13), sl13⟩) (c13 : PySem.W.codeIn K cd13 "is_cycle" = true) (k13 : PySem.W.keepIn K (.ref f13) = true)
    (a14 : PySem.W.nsIn K mainGlobals "is_table" = some (some (.ref f14))) (l14 : K.lookup f14 = some ⟨oc14, od14, .func (PySem.W.fnOf "is_table" "is_table" (defArgs s_is_table) (defBody s_is_table) (defScope s_is_table) .none kV14 dc14 pm14 an14 cd14 ct14), sl14⟩) (c14 : PySem.W.codeIn K cd14 "is_table" = true) (k14 : PySem.W.keepIn K (.ref f14) = true)
    (a15 : PySem.W.nsIn K mainGlobals "shortest" = some (some (.ref f15))) (l15 : K.lookup f15 = some ⟨oc15, od15, .func (PySem.W.fnOf "shortest" "shortest" (defArgs s_shortest) (defBody s_shortest) (defScope s_shortest) .none kV15 dc15 pm15 an15 cd15 ct15), sl15⟩) (c15 : PySem.W.codeIn K cd15 "shortest" = true) (k15 : PySem.W.keepIn K (.ref f15) = true)
    (a16 : PySem.W.nsIn K mainGlobals "span_table" = some (some (.ref f16))) (l16 : K.lookup f16 = some ⟨oc16, od16, .func (PySem.W.fnOf "span_table" "span_table" (defArgs s_span_table) (defBody s_span_table) (defScope s_span_table) .none kV16 dc16 pm16 an16 cd16 ct16), sl16⟩) (c16 : PySem.W.codeIn K cd16 "span_table" = true) (k16 : PySem.W.keepIn K (.ref f16) = true)
    (a17 : PySem.W.nsIn K mainGlobals "either" = some (some (.ref f17))) (l17 : K.lookup f17 = some ⟨oc17, od17, .func (PySem.W.fnOf "either" "either" (defArgs s_either) (defBody s_either) (defScope s_either) .none kV17 dc17 pm17 an17 cd17 ct17), sl17⟩) (c17 : PySem.W.codeIn K cd17 "either" = true) (k17 : PySem.W.keepIn K (.ref f17) = true)
    (a18 : PySem.W.nsIn K mainGlobals "without" = some (some (.ref f18))) (l18 : K.lookup f18 = some ⟨oc18, od18, .func (PySem.W.fnOf "without" "without" (defArgs s_without) (defBody s_without) (defScope s_without) .none kV18 dc18 pm18 an18 cd18 ct18), sl18⟩) (c18 : PySem.W.codeIn K cd18 "without" = true) (k18 : PySem.W.keepIn K (.ref f18) = true)
    (a19 : PySem.W.nsIn K mainGlobals "is_when" = some (some (.ref f19))) (l19 : K.lookup f19 = some ⟨oc19, od19, .func (PySem.W.fnOf "is_when" "is_when" (defArgs s_is_when) (defBody s_is_when) (defScope s_is_when) .none kV19 dc19 pm19 an19 cd19 ct19), sl19⟩) (c19 : PySem.W.codeIn K cd19 "is_when" = true) (k19 : PySem.W.keepIn K (.ref f19) = true)
    (a20 : PySem.W.nsIn K mainGlobals "is_valid" = some (some (.ref f20))) (l20 : K.lookup f20 = some ⟨oc20, od20, .func (PySem.W.fnOf "is_valid" "is_valid" (defArgs s_is_valid) (defBody s_is_valid) (defScope s_is_valid) .none kV20 dc20 pm20 an20 cd20 ct20), sl20⟩) (c20 : PySem.W.codeIn K cd20 "is_valid" = true) (k20 : PySem.W.keepIn K (.ref f20) = true)
    (a21 : PySem.W.nsIn K mainGlobals "is_valid_round" = some (some (.ref f21))) (l21 : K.lookup f21 = some ⟨oc21, od21, .func (PySem.W.fnOf "is_valid_round" "is_valid_round" (defArgs s_is_valid_round) (defBody s_is_valid_round) (defScope s_is_valid_round) .none kV21 dc21 pm21 an21 cd21 ct21), sl21⟩) (c21 : PySem.W.codeIn K cd21 "is_valid_round" = true) (k21 : PySem.W.keepIn K (.ref f21) = true)
    (a22 : PySem.W.nsIn K mainGlobals "when_table" = some (some (.ref f22))) (l22 : K.lookup f22 = some ⟨oc22, od22, .func (PySem.W.fnOf "when_table" "when_table" (defArgs s_when_table) (defBody s_when_table) (defScope s_when_table) .none kV22 dc22 pm22 an22 cd22 ct22), sl22⟩) (c22 : PySem.W.codeIn K cd22 "when_table" = true) (k22 : PySem.W.keepIn K (.ref f22) = true)
    (a23 : PySem.W.nsIn K mainGlobals "valid_table" = some (some (.ref f23))) (l23 : K.lookup f23 = some ⟨oc23, od23, .func (PySem.W.fnOf "valid_table" "valid_table" (defArgs s_valid_table) (defBody s_valid_table) (defScope s_valid_table) .none kV23 dc23 pm23 an23 cd23 ct23), sl23⟩) (c23 : PySem.W.codeIn K cd23 "valid_table" = true) (k23 : PySem.W.keepIn K (.ref f23) = true)
    (a24 : PySem.W.nsIn K mainGlobals "round_table" = some (some (.ref f24))) (l24 : K.lookup f24 = some ⟨oc24, od24, .func (PySem.W.fnOf "round_table" "round_table" (defArgs s_round_table) (defBody s_round_table) (defScope s_round_table) .none kV24 dc24 pm24 an24 cd24 ct24), sl24⟩) (c24 : PySem.W.codeIn K cd24 "round_table" = true) (k24 : PySem.W.keepIn K (.ref f24) = true)
    (h25 : PySem.W.findIn K (.ref C_Times) "__init__" = some (some (.ref f25))) (i25 : PySem.W.isFn K (.ref f25) = true)
    (m25 : PySem.W.makesIn K C_Times = true) (n25 : PySem.W.keepIn K (.ref C_Times) = true)
    (l25 : K.lookup f25 = some ⟨oc25, od25, .func (PySem.W.fnOf "__init__" "Times.__init__" (defArgs s_Times_init) (defBody s_Times_init) (defScope s_Times_init) .none kV25 dc25 pm25 an25 cd25 ct25), sl25⟩) (c25 : PySem.W.codeIn K cd25 "Times.__init__" = true) (k25 : PySem.W.keepIn K (.ref f25) = true)
    (h26 : PySem.W.findCls K (.ref C_Times) (.type "type") "made" = some (.get (.builtin "staticmethod.__get__") (.ref p26) .none (.ref C_Times))) (g26 : PySem.W.readsIn K C_Times (.type "type") = true) (t26 : PySem.W.specialIn K (.ref C_Times) "__getattribute__" = some (some (.builtin "type.__getattribute__"))) (r26 : PySem.W.recIn K p26 "staticmethod" = some (.ref f26 :: rs26))
    (l26 : K.lookup f26 = some ⟨oc26, od26, .func (PySem.W.fnOf "made" "Times.made" (defArgs s_Times_made) (defBody s_Times_made) (defScope s_Times_made) .none kV26 dc26 pm26 an26 cd26 ct26), sl26⟩) (c26 : PySem.W.codeIn K cd26 "Times.made" = true) (k26 : PySem.W.keepIn K (.ref f26) = true)
    (a27 : PySem.W.nsIn K mainGlobals "_law_draws" = some (some (.ref f27))) (l27 : K.lookup f27 = some ⟨oc27, od27, .func (PySem.W.fnOf "_law_draws" "_law_draws" (defArgs s_law_draws) (defBody s_law_draws) (defScope s_law_draws) .none kV27 dc27 pm27 an27 cd27 ct27), sl27⟩) (c27 : PySem.W.codeIn K cd27 "_law_draws" = true) (k27 : PySem.W.keepIn K (.ref f27) = true)
    (a28 : PySem.W.nsIn K mainGlobals "_law_take" = some (some (.ref f28))) (l28 : K.lookup f28 = some ⟨oc28, od28, .func (PySem.W.fnOf "_law_take" "_law_take" (defArgs s_law_take) (defBody s_law_take) (defScope s_law_take) .none kV28 dc28 pm28 an28 cd28 ct28), sl28⟩) (c28 : PySem.W.codeIn K cd28 "_law_take" = true) (k28 : PySem.W.keepIn K (.ref f28) = true)
    (a29 : PySem.W.nsIn K mainGlobals "_law_pick" = some (some (.ref f29))) (l29 : K.lookup f29 = some ⟨oc29, od29, .func (PySem.W.fnOf "_law_pick" "_law_pick" (defArgs s_law_pick) (defBody s_law_pick) (defScope s_law_pick) .none kV29 dc29 pm29 an29 cd29 ct29), sl29⟩) (c29 : PySem.W.codeIn K cd29 "_law_pick" = true) (k29 : PySem.W.keepIn K (.ref f29) = true)
    (a30 : PySem.W.nsIn K mainGlobals "_law_size" = some (some (.ref f30))) (l30 : K.lookup f30 = some ⟨oc30, od30, .func (PySem.W.fnOf "_law_size" "_law_size" (defArgs s_law_size) (defBody s_law_size) (defScope s_law_size) .none kV30 dc30 pm30 an30 cd30 ct30), sl30⟩) (c30 : PySem.W.codeIn K cd30 "_law_size" = true) (k30 : PySem.W.keepIn K (.ref f30) = true)
    (a31 : PySem.W.nsIn K mainGlobals "_law_same" = some (some (.ref f31))) (l31 : K.lookup f31 = some ⟨oc31, od31, .func (PySem.W.fnOf "_law_same" "_law_same" (defArgs s_law_same) (defBody s_law_same) (defScope s_law_same) .none kV31 dc31 pm31 an31 cd31 ct31), sl31⟩) (c31 : PySem.W.codeIn K cd31 "_law_same" = true) (k31 : PySem.W.keepIn K (.ref f31) = true)
    (a32 : PySem.W.nsIn K mainGlobals "_law_cycle" = some (some (.ref f32))) (l32 : K.lookup f32 = some ⟨oc32, od32, .func (PySem.W.fnOf "_law_cycle" "_law_cycle" (defArgs s_law_cycle) (defBody s_law_cycle) (defScope s_law_cycle) .none kV32 dc32 pm32 an32 cd32 ct32), sl32⟩) (c32 : PySem.W.codeIn K cd32 "_law_cycle" = true) (k32 : PySem.W.keepIn K (.ref f32) = true)
    (a33 : PySem.W.nsIn K mainGlobals "_law_spans" = some (some (.ref f33))) (l33 : K.lookup f33 = some ⟨oc33, od33, .func (PySem.W.fnOf "_law_spans" "_law_spans" (defArgs s_law_spans) (defBody s_law_spans) (defScope s_law_spans) .none kV33 dc33 pm33 an33 cd33 ct33), sl33⟩) (c33 : PySem.W.codeIn K cd33 "_law_spans" = true) (k33 : PySem.W.keepIn K (.ref f33) = true)
    (a34 : PySem.W.nsIn K mainGlobals "_law_phases" = some (some (.ref f34))) (l34 : K.lookup f34 = some ⟨oc34, od34, .func (PySem.W.fnOf "_law_phases" "_law_phases" (defArgs s_law_phases) (defBody s_law_phases) (defScope s_law_phases) .none kV34 dc34 pm34 an34 cd34 ct34), sl34⟩) (c34 : PySem.W.codeIn K cd34 "_law_phases" = true) (k34 : PySem.W.keepIn K (.ref f34) = true)
    (a35 : PySem.W.nsIn K mainGlobals "_law_table" = some (some (.ref f35))) (l35 : K.lookup f35 = some ⟨oc35, od35, .func (PySem.W.fnOf "_law_table" "_law_table" (defArgs s_law_table) (defBody s_law_table) (defScope s_law_table) .none kV35 dc35 pm35 an35 cd35 ct35), sl35⟩) (c35 : PySem.W.codeIn K cd35 "_law_table" = true) (k35 : PySem.W.keepIn K (.ref f35) = true)
    (a36 : PySem.W.nsIn K mainGlobals "_law_leaf_when" = some (some (.ref f36))) (l36 : K.lookup f36 = some ⟨oc36, od36, .func (PySem.W.fnOf "_law_leaf_when" "_law_leaf_when" (defArgs s_law_leaf_when) (defBody s_law_leaf_when) (defScope s_law_leaf_when) .none kV36 dc36 pm36 an36 cd36 ct36), sl36⟩) (c36 : PySem.W.codeIn K cd36 "_law_leaf_when" = true) (k36 : PySem.W.keepIn K (.ref f36) = true)
    (a37 : PySem.W.nsIn K mainGlobals "_law_when" = some (some (.ref f37))) (l37 : K.lookup f37 = some ⟨oc37, od37, .func (PySem.W.fnOf "_law_when" "_law_when" (defArgs s_law_when) (defBody s_law_when) (defScope s_law_when) .none kV37 dc37 pm37 an37 cd37 ct37), sl37⟩) (c37 : PySem.W.codeIn K cd37 "_law_when" = true) (k37 : PySem.W.keepIn K (.ref f37) = true)
    (a38 : PySem.W.nsIn K mainGlobals "_law_integer" = some (some (.ref f38))) (l38 : K.lookup f38 = some ⟨oc38, od38, .func (PySem.W.fnOf "_law_integer" "_law_integer" (defArgs s_law_integer) (defBody s_law_integer) (defScope s_law_integer) .none kV38 dc38 pm38 an38 cd38 ct38), sl38⟩) (c38 : PySem.W.codeIn K cd38 "_law_integer" = true) (k38 : PySem.W.keepIn K (.ref f38) = true)
    (a39 : PySem.W.nsIn K mainGlobals "_law_is_spans" = some (some (.ref f39))) (l39 : K.lookup f39 = some ⟨oc39, od39, .func (PySem.W.fnOf "_law_is_spans" "_law_is_spans" (defArgs s_law_is_spans) (defBody s_law_is_spans) (defScope s_law_is_spans) .none kV39 dc39 pm39 an39 cd39 ct39), sl39⟩) (c39 : PySem.W.codeIn K cd39 "_law_is_spans" = true) (k39 : PySem.W.keepIn K (.ref f39) = true)
    (a40 : PySem.W.nsIn K mainGlobals "_law_is_table" = some (some (.ref f40))) (l40 : K.lookup f40 = some ⟨oc40, od40, .func (PySem.W.fnOf "_law_is_table" "_law_is_table" (defArgs s_law_is_table) (defBody s_law_is_table) (defScope s_law_is_table) .none kV40 dc40 pm40 an40 cd40 ct40), sl40⟩) (c40 : PySem.W.codeIn K cd40 "_law_is_table" = true) (k40 : PySem.W.keepIn K (.ref f40) = true)
    (a41 : PySem.W.nsIn K mainGlobals "_law_long_table" = some (some (.ref f41))) (l41 : K.lookup f41 = some ⟨oc41, od41, .func (PySem.W.fnOf "_law_long_table" "_law_long_table" (defArgs s_law_long_table) (defBody s_law_long_table) (defScope s_law_long_table) .none kV41 dc41 pm41 an41 cd41 ct41), sl41⟩) (c41 : PySem.W.codeIn K cd41 "_law_long_table" = true) (k41 : PySem.W.keepIn K (.ref f41) = true)
    (a42 : PySem.W.nsIn K mainGlobals "_law_signed" = some (some (.ref f42))) (l42 : K.lookup f42 = some ⟨oc42, od42, .func (PySem.W.fnOf "_law_signed" "_law_signed" (defArgs s_law_signed) (defBody s_law_signed) (defScope s_law_signed) .none kV42 dc42 pm42 an42 cd42 ct42), sl42⟩) (c42 : PySem.W.codeIn K cd42 "_law_signed" = true) (k42 : PySem.W.keepIn K (.ref f42) = true)
    (a43 : PySem.W.nsIn K mainGlobals "_law_pair" = some (some (.ref f43))) (l43 : K.lookup f43 = some ⟨oc43, od43, .func (PySem.W.fnOf "_law_pair" "_law_pair" (defArgs s_law_pair) (defBody s_law_pair) (defScope s_law_pair) .none kV43 dc43 pm43 an43 cd43 ct43), sl43⟩) (c43 : PySem.W.codeIn K cd43 "_law_pair" = true) (k43 : PySem.W.keepIn K (.ref f43) = true)
    (a44 : PySem.W.nsIn K mainGlobals "_law_other_start" = some (some (.ref f44))) (l44 : K.lookup f44 = some ⟨oc44, od44, .func (PySem.W.fnOf "_law_other_start" "_law_other_start" (defArgs s_law_other_start) (defBody s_law_other_start) (defScope s_law_other_start) .none kV44 dc44 pm44 an44 cd44 ct44), sl44⟩) (c44 : PySem.W.codeIn K cd44 "_law_other_start" = true) (k44 : PySem.W.keepIn K (.ref f44) = true)
    (a45 : PySem.W.nsIn K mainGlobals "_law_changed" = some (some (.ref f45))) (l45 : K.lookup f45 = some ⟨oc45, od45, .func (PySem.W.fnOf "_law_changed" "_law_changed" (defArgs s_law_changed) (defBody s_law_changed) (defScope s_law_changed) .none kV45 dc45 pm45 an45 cd45 ct45), sl45⟩) (c45 : PySem.W.codeIn K cd45 "_law_changed" = true) (k45 : PySem.W.keepIn K (.ref f45) = true)
    (a46 : PySem.W.nsIn K mainGlobals "_law_error" = some (some (.ref f46))) (l46 : K.lookup f46 = some ⟨oc46, od46, .func (PySem.W.fnOf "_law_error" "_law_error" (defArgs s_law_error) (defBody s_law_error) (defScope s_law_error) .none kV46 dc46 pm46 an46 cd46 ct46), sl46⟩) (c46 : PySem.W.codeIn K cd46 "_law_error" = true) (k46 : PySem.W.keepIn K (.ref f46) = true)
    (a47 : PySem.W.nsIn K mainGlobals "_law_bad_when" = some (some (.ref f47))) (l47 : K.lookup f47 = some ⟨oc47, od47, .func (PySem.W.fnOf "_law_bad_when" "_law_bad_when" (defArgs s_law_bad_when) (defBody s_law_bad_when) (defScope s_law_bad_when) .none kV47 dc47 pm47 an47 cd47 ct47), sl47⟩) (c47 : PySem.W.codeIn K cd47 "_law_bad_when" = true) (k47 : PySem.W.keepIn K (.ref f47) = true)
    (a48 : PySem.W.nsIn K mainGlobals "_law_chain" = some (some (.ref f48))) (l48 : K.lookup f48 = some ⟨oc48, od48, .func (PySem.W.fnOf "_law_chain" "_law_chain" (defArgs s_law_chain) (defBody s_law_chain) (defScope s_law_chain) .none kV48 dc48 pm48 an48 cd48 ct48), sl48⟩) (c48 : PySem.W.codeIn K cd48 "_law_chain" = true) (k48 : PySem.W.keepIn K (.ref f48) = true)
    (a49 : PySem.W.nsIn K mainGlobals "law" = some (some (.ref f49))) (l49 : K.lookup f49 = some ⟨oc49, od49, .func (PySem.W.fnOf "law" "law" (defArgs s_law) (defBody s_law) (defScope s_law) .none kV49 dc49 pm49 an49 cd49 ct49), sl49⟩) (c49 : PySem.W.codeIn K cd49 "law" = true) (k49 : PySem.W.keepIn K (.ref f49) = true)
    (z0 : PySem.W.nsIn K mainGlobals "len" = some none) (z1 : PySem.W.nsIn K mainGlobals "range" = some none) (z2 : PySem.W.nsIn K mainGlobals "int" = some none) (z3 : PySem.W.nsIn K mainGlobals "abs" = some none) (z4 : PySem.W.nsIn K mainGlobals "list" = some none) (z5 : PySem.W.nsIn K mainGlobals "tuple" = some none) (z6 : PySem.W.nsIn K mainGlobals "sum" = some none) (z7 : PySem.W.nsIn K mainGlobals "any" = some none) (z8 : PySem.W.nsIn K mainGlobals "sorted" = some none) (z9 : PySem.W.nsIn K mainGlobals "max" = some none) (z10 : PySem.W.nsIn K mainGlobals "min" = some none) (z11 : PySem.W.nsIn K mainGlobals "divmod" = some none) (z12 : PySem.W.nsIn K mainGlobals "isinstance" = some none) (z13 : PySem.W.nsIn K mainGlobals "zip" = some none) (z14 : PySem.W.nsIn K mainGlobals "reversed" = some none) (z15 : PySem.W.nsIn K mainGlobals "bool" = some none) (z16 : PySem.W.nsIn K mainGlobals "str" = some none) (z17 : PySem.W.nsIn K mainGlobals "set" = some none) (z18 : PySem.W.nsIn K mainGlobals "all" = some none) (z19 : PySem.W.nsIn K mainGlobals "enumerate" = some none) (yC_NoCycle : PySem.W.nsIn K mainGlobals "NoCycle" = some (some (.ref C_NoCycle))) (xC_NoCycle : PySem.W.excIn K C_NoCycle [.type "ValueError", .type "Exception", .type "BaseException", .type "object"] "ValueError.__new__" = true) (kC_NoCycle : PySem.W.keepIn K (.ref C_NoCycle) = true) (bC_NoCycle : PySem.W.subIn K (.ref C_NoCycle) (.type "BaseException") = some true) (tC_NoCycle : PySem.W.typeIn K (.ref C_NoCycle) = some (.type "type")) (dC_NoCycle : PySem.W.hasDictIn K C_NoCycle = true) (sC_NoCycle : PySem.W.subIn K (.ref C_NoCycle) (.ref C_NoCycle) = some true) (yC_NoTable : PySem.W.nsIn K mainGlobals "NoTable" = some (some (.ref C_NoTable))) (xC_NoTable : PySem.W.excIn K C_NoTable [.type "ValueError", .type "Exception", .type "BaseException", .type "object"] "ValueError.__new__" = true) (kC_NoTable : PySem.W.keepIn K (.ref C_NoTable) = true) (bC_NoTable : PySem.W.subIn K (.ref C_NoTable) (.type "BaseException") = some true) (tC_NoTable : PySem.W.typeIn K (.ref C_NoTable) = some (.type "type")) (dC_NoTable : PySem.W.hasDictIn K C_NoTable = true) (sC_NoTable : PySem.W.subIn K (.ref C_NoTable) (.ref C_NoTable) = some true) (yC_NoWhen : PySem.W.nsIn K mainGlobals "NoWhen" = some (some (.ref C_NoWhen))) (xC_NoWhen : PySem.W.excIn K C_NoWhen [.type "ValueError", .type "Exception", .type "BaseException", .type "object"] "ValueError.__new__" = true) (kC_NoWhen : PySem.W.keepIn K (.ref C_NoWhen) = true) (bC_NoWhen : PySem.W.subIn K (.ref C_NoWhen) (.type "BaseException") = some true) (tC_NoWhen : PySem.W.typeIn K (.ref C_NoWhen) = some (.type "type")) (dC_NoWhen : PySem.W.hasDictIn K C_NoWhen = true) (sC_NoWhen : PySem.W.subIn K (.ref C_NoWhen) (.ref C_NoWhen) = some true) (yS : PySem.W.nsIn K mainGlobals "StoreError" = some (some (.ref S_StoreError))) (Zr0 : XRow K mg C_NoCycle S_StoreError 0) (Zr1 : XRow K mg C_NoTable S_StoreError 1) (Zr2 : XRow K mg C_NoWhen S_StoreError 2) (zV : PySem.W.nsIn K mainGlobals "ValueError" = some none) {t_GREATEST_DEPTH : Tok} (y_GREATEST_DEPTH : PySem.W.nsIn K mainGlobals "GREATEST_DEPTH" = some (some (.int 12 t_GREATEST_DEPTH))) {t_LONGEST_CYCLE : Tok} (y_LONGEST_CYCLE : PySem.W.nsIn K mainGlobals "LONGEST_CYCLE" = some (some (.int 60 t_LONGEST_CYCLE)))  :
    ∃ fd : FuncData, (∀ (s : Shared) (v : Value), BindsTo s fd ⟨[v], []⟩ [("script", v)]) ∧ ∀ base : Heap, K.In base → base.Ns mainGlobals mg → FnOk l.prog w K mg base CX0 26 fa fd ["script"] (spOf K 1 sp_law) := by
  have e := hfa.symm.trans (PySem.W.mg_of X G a49)
  cases e
  have U0 := fun_mk (st := s_spans_of) l0 c0 k0
  have U1 := fun_mk (st := s_is_spans) l1 c1 k1
  have U2 := fun_mk (st := s_full_mask) l2 c2 k2
  have U3 := fun_mk (st := s_mask_of) l3 c3 k3
  have U4 := fun_mk (st := s_mask_spans) l4 c4 k4
  have U5 := fun_mk (st := s_phase_bit) l5 c5 k5
  have U6 := fun_mk (st := s_turned_mask) l6 c6 k6
  have U7 := fun_mk (st := s_covered_mask) l7 c7 k7
  have U8 := fun_mk (st := s_first_within) l8 c8 k8
  have U9 := fun_mk (st := s_pieces_of) l9 c9 k9
  have U10 := fun_mk (st := s_stretches_of) l10 c10 k10
  have U11 := fun_mk (st := s_met_pieces) l11 c11 k11
  have U12 := fun_mk (st := s_table_of) l12 c12 k12
  have U13 := fun_mk (st := s_is_cycle) l13 c13 k13
  have U14 := fun_mk (st := s_is_table) l14 c14 k14
  have U15 := fun_mk (st := s_shortest) l15 c15 k15
  have U16 := fun_mk (st := s_span_table) l16 c16 k16
  have U17 := fun_mk (st := s_either) l17 c17 k17
  have U18 := fun_mk (st := s_without) l18 c18 k18
  have U19 := fun_mk (st := s_is_when) l19 c19 k19
  have U20 := fun_mk (st := s_is_valid) l20 c20 k20
  have U21 := fun_mk (st := s_is_valid_round) l21 c21 k21
  have U22 := fun_mk (st := s_when_table) l22 c22 k22
  have U23 := fun_mk (st := s_valid_table) l23 c23 k23
  have U24 := fun_mk (st := s_round_table) l24 c24 k24
  have U25 := fun_mk (st := s_Times_init) l25 c25 k25
  have U26 := fun_mk (st := s_Times_made) l26 c26 k26
  have U27 := fun_mk (st := s_law_draws) l27 c27 k27
  have U28 := fun_mk (st := s_law_take) l28 c28 k28
  have U29 := fun_mk (st := s_law_pick) l29 c29 k29
  have U30 := fun_mk (st := s_law_size) l30 c30 k30
  have U31 := fun_mk (st := s_law_same) l31 c31 k31
  have U32 := fun_mk (st := s_law_cycle) l32 c32 k32
  have U33 := fun_mk (st := s_law_spans) l33 c33 k33
  have U34 := fun_mk (st := s_law_phases) l34 c34 k34
  have U35 := fun_mk (st := s_law_table) l35 c35 k35
  have U36 := fun_mk (st := s_law_leaf_when) l36 c36 k36
  have U37 := fun_mk (st := s_law_when) l37 c37 k37
  have U38 := fun_mk (st := s_law_integer) l38 c38 k38
  have U39 := fun_mk (st := s_law_is_spans) l39 c39 k39
  have U40 := fun_mk (st := s_law_is_table) l40 c40 k40
  have U41 := fun_mk (st := s_law_long_table) l41 c41 k41
  have U42 := fun_mk (st := s_law_signed) l42 c42 k42
  have U43 := fun_mk (st := s_law_pair) l43 c43 k43
  have U44 := fun_mk (st := s_law_other_start) l44 c44 k44
  have U45 := fun_mk (st := s_law_changed) l45 c45 k45
  have U46 := fun_mk (st := s_law_error) l46 c46 k46
  have U47 := fun_mk (st := s_law_bad_when) l47 c47 k47
  have U48 := fun_mk (st := s_law_chain) l48 c48 k48
  have U49 := fun_mk (st := s_law) l49 c49 k49
  refine ⟨PySem.W.fnOf "law" "law" (defArgs s_law) (defBody s_law) (defScope s_law) .none kV49 dc49 pm49 an49 cd49 ct49, fun s v => .of_eq rfl, fun base _ _ => ?_⟩
  have B : Blt mg := ⟨PySem.W.mg_none_of X G z0, PySem.W.mg_none_of X G z1, PySem.W.mg_none_of X G z2, PySem.W.mg_none_of X G z3, PySem.W.mg_none_of X G z4, PySem.W.mg_none_of X G z5, PySem.W.mg_none_of X G z6, PySem.W.mg_none_of X G z7, PySem.W.mg_none_of X G z8, PySem.W.mg_none_of X G z9, PySem.W.mg_none_of X G z10, PySem.W.mg_none_of X G z11, PySem.W.mg_none_of X G z12, PySem.W.mg_none_of X G z13, PySem.W.mg_none_of X G z14, PySem.W.mg_none_of X G z15, PySem.W.mg_none_of X G z16, PySem.W.mg_none_of X G z17, PySem.W.mg_none_of X G z18, PySem.W.mg_none_of X G z19⟩
  have T_Times : ClsT K mg 0 C_Times := ClsT.mk' (PySem.W.mg_of X G ns_Times) ns_Times c1_Times c2_Times c3_Times c4_Times ha_Times hn_Times ht_Times hm_Times sf_Times
  have T_NoCycle : XC K mg "NoCycle" C_NoCycle := ⟨PySem.W.mg_of X G yC_NoCycle, xC_NoCycle, kC_NoCycle, bC_NoCycle, tC_NoCycle, PySem.W.exm_ref bC_NoCycle dC_NoCycle tC_NoCycle sC_NoCycle⟩
  have T_NoTable : XC K mg "NoTable" C_NoTable := ⟨PySem.W.mg_of X G yC_NoTable, xC_NoTable, kC_NoTable, bC_NoTable, tC_NoTable, PySem.W.exm_ref bC_NoTable dC_NoTable tC_NoTable sC_NoTable⟩
  have T_NoWhen : XC K mg "NoWhen" C_NoWhen := ⟨PySem.W.mg_of X G yC_NoWhen, xC_NoWhen, kC_NoWhen, bC_NoWhen, tC_NoWhen, PySem.W.exm_ref bC_NoWhen dC_NoWhen tC_NoWhen sC_NoWhen⟩
  have F_law_draws : FnD l.prog w K mg base 1 "_law_draws" ["script", "many"] sp_law_draws := ⟨_, _, ok_law_draws B U27, PySem.W.mg_of X G a27, (U27).kp, (U27).binds fun _ _ _ _ _ _ us hl => match us, hl with | [_, _], _ => rfl⟩
  have F_law_take : FnD l.prog w K mg base 1 "_law_take" ["draws", "many"] sp_law_take := ⟨_, _, ok_law_take B U28, PySem.W.mg_of X G a28, (U28).kp, (U28).binds fun _ _ _ _ _ _ us hl => match us, hl with | [_, _], _ => rfl⟩
  have F_law_spans : FnD l.prog w K mg base 1 "_law_spans" ["cells"] sp_law_spans := ⟨_, _, ok_law_spans B U33, PySem.W.mg_of X G a33, (U33).kp, (U33).binds fun _ _ _ _ _ _ us hl => match us, hl with | [_], _ => rfl⟩
  have F_law_phases : FnD l.prog w K mg base 2 "_law_phases" ["draws", "cycle"] sp_law_phases := ⟨_, _, ok_law_phases B U34 F_law_take F_law_spans, PySem.W.mg_of X G a34, (U34).kp, (U34).binds fun _ _ _ _ _ _ us hl => match us, hl with | [_, _], _ => rfl⟩
  have F_law_size : FnD l.prog w K mg base 2 "_law_size" ["draws", "script"] sp_law_size := ⟨_, _, ok_law_size B U30 F_law_take, PySem.W.mg_of X G a30, (U30).kp, (U30).binds fun _ _ _ _ _ _ us hl => match us, hl with | [_, _], _ => rfl⟩
  have F_law_table : FnD l.prog w K mg base 3 "_law_table" ["draws", "script", "cycle"] sp_law_table := ⟨_, _, ok_law_table B U35 F_law_phases F_law_take F_law_size, PySem.W.mg_of X G a35, (U35).kp, (U35).binds fun _ _ _ _ _ _ us hl => match us, hl with | [_, _, _], _ => rfl⟩
  have F_law_long_table : FnD l.prog w K mg base 4 "_law_long_table" ["draws", "script", "cycle"] sp_law_long_table := ⟨_, _, ok_law_long_table B U41 F_law_take F_law_table F_law_phases, PySem.W.mg_of X G a41, (U41).kp, (U41).binds fun _ _ _ _ _ _ us hl => match us, hl with | [_, _, _], _ => rfl⟩
  have F_law_cycle : FnD l.prog w K mg base 2 "_law_cycle" ["draws"] sp_law_cycle := ⟨_, _, ok_law_cycle B U32 F_law_take, PySem.W.mg_of X G a32, (U32).kp, (U32).binds fun _ _ _ _ _ _ us hl => match us, hl with | [_], _ => rfl⟩
  have F_law_signed : FnD l.prog w K mg base 3 "_law_signed" ["draws", "script"] sp_law_signed := ⟨_, _, ok_law_signed B U42 F_law_size F_law_take, PySem.W.mg_of X G a42, (U42).kp, (U42).binds fun _ _ _ _ _ _ us hl => match us, hl with | [_, _], _ => rfl⟩
  have F_law_other_start : FnD l.prog w K mg base 4 "_law_other_start" ["draws", "script", "lines", "at"] sp_law_other_start := ⟨_, _, ok_law_other_start B U44 F_law_take F_law_signed, PySem.W.mg_of X G a44, (U44).kp, (U44).binds fun _ _ _ _ _ _ us hl => match us, hl with | [_, _, _, _], _ => rfl⟩
  have F_law_pair : FnD l.prog w K mg base 4 "_law_pair" ["draws", "script", "cycle"] sp_law_pair := ⟨_, _, ok_law_pair B U43 F_law_take F_law_signed, PySem.W.mg_of X G a43, (U43).kp, (U43).binds fun _ _ _ _ _ _ us hl => match us, hl with | [_, _, _], _ => rfl⟩
  have F_law_changed : FnD l.prog w K mg base 5 "_law_changed" ["draws", "script", "table"] sp_law_changed := ⟨_, _, ok_law_changed B U45 F_law_take F_law_signed F_law_other_start F_law_pair, PySem.W.mg_of X G a45, (U45).kp, (U45).binds fun _ _ _ _ _ _ us hl => match us, hl with | [_, _, _], _ => rfl⟩
  have F_law_same : FnD l.prog w K mg base 8 "_law_same" ["actual", "due"] sp_law_same := ⟨_, _, ok_law_same B U31 (PySem.W.mg_of X G a31), PySem.W.mg_of X G a31, (U31).kp, (U31).binds fun _ _ _ _ _ _ us hl => match us, hl with | [_, _], _ => rfl⟩
  have F_law_integer : FnD l.prog w K mg base 1 "_law_integer" ["x"] sp_law_integer := ⟨_, _, ok_law_integer B U38, PySem.W.mg_of X G a38, (U38).kp, (U38).binds fun _ _ _ _ _ _ us hl => match us, hl with | [_], _ => rfl⟩
  have F_law_is_spans : FnD l.prog w K mg base 2 "_law_is_spans" ["spans", "cycle"] sp_law_is_spans := ⟨_, _, ok_law_is_spans B U39 F_law_integer, PySem.W.mg_of X G a39, (U39).kp, (U39).binds fun _ _ _ _ _ _ us hl => match us, hl with | [_, _], _ => rfl⟩
  have F_law_is_table : FnD l.prog w K mg base 9 "_law_is_table" ["table", "cycle"] sp_law_is_table := ⟨_, _, ok_law_is_table B U40 F_law_same F_law_integer F_law_is_spans, PySem.W.mg_of X G a40, (U40).kp, (U40).binds fun _ _ _ _ _ _ us hl => match us, hl with | [_, _], _ => rfl⟩
  have F_is_cycle : FnD l.prog w K mg base 1 "is_cycle" ["cycle"] sp_is_cycle := ⟨_, _, ok_is_cycle B U13 (PySem.W.mg_of X G y_LONGEST_CYCLE), PySem.W.mg_of X G a13, (U13).kp, (U13).binds fun _ _ _ _ _ _ us hl => match us, hl with | [_], _ => rfl⟩
  have F_is_valid_round : FnD l.prog w K mg base 1 "is_valid_round" ["cycle", "when"] sp_is_valid_round := ⟨_, _, ok_is_valid_round B U21, PySem.W.mg_of X G a21, (U21).kp, (U21).binds fun _ _ _ _ _ _ us hl => match us, hl with | [_, _], _ => rfl⟩
  have F_is_valid : FnD l.prog w K mg base 17 "is_valid" ["cycle", "when", "depth"] sp_is_valid := ⟨_, _, ok_is_valid B U20 (PySem.W.mg_of X G a20) F_is_valid_round, PySem.W.mg_of X G a20, (U20).kp, (U20).binds fun _ _ _ _ _ _ us hl => match us, hl with | [_, _, _], _ => rfl⟩
  have F_is_when : FnD l.prog w K mg base 18 "is_when" ["cycle", "when"] sp_is_when := ⟨_, _, ok_is_when B U19 F_is_valid (PySem.W.mg_of X G y_GREATEST_DEPTH), PySem.W.mg_of X G a19, (U19).kp, (U19).binds fun _ _ _ _ _ _ us hl => match us, hl with | [_, _], _ => rfl⟩
  have F_full_mask : FnD l.prog w K mg base 1 "full_mask" ["cycle"] sp_full_mask := ⟨_, _, ok_full_mask B U2, PySem.W.mg_of X G a2, (U2).kp, (U2).binds fun _ _ _ _ _ _ us hl => match us, hl with | [_], _ => rfl⟩
  have F_stretches_of : FnD l.prog w K mg base 1 "stretches_of" ["pieces"] sp_stretches_of := ⟨_, _, ok_stretches_of B U10, PySem.W.mg_of X G a10, (U10).kp, (U10).binds fun _ _ _ _ _ _ us hl => match us, hl with | [_], _ => rfl⟩
  have F_turned_mask : FnD l.prog w K mg base 2 "turned_mask" ["mask", "cycle", "moment"] sp_turned_mask := ⟨_, _, ok_turned_mask B U6 F_full_mask, PySem.W.mg_of X G a6, (U6).kp, (U6).binds fun _ _ _ _ _ _ us hl => match us, hl with | [_, _, _], _ => rfl⟩
  have F_first_within : FnD l.prog w K mg base 3 "first_within" ["mask", "cycle", "start", "end"] sp_first_within := ⟨_, _, ok_first_within B U8 F_turned_mask, PySem.W.mg_of X G a8, (U8).kp, (U8).binds fun _ _ _ _ _ _ us hl => match us, hl with | [_, _, _, _], _ => rfl⟩
  have F_covered_mask : FnD l.prog w K mg base 3 "covered_mask" ["cycle", "start", "end"] sp_covered_mask := ⟨_, _, ok_covered_mask B U7 F_full_mask F_turned_mask, PySem.W.mg_of X G a7, (U7).kp, (U7).binds fun _ _ _ _ _ _ us hl => match us, hl with | [_, _, _], _ => rfl⟩
  have F_spans_of : FnD l.prog w K mg base 1 "spans_of" ["cells"] sp_spans_of := ⟨_, _, ok_spans_of B U0, PySem.W.mg_of X G a0, (U0).kp, (U0).binds fun _ _ _ _ _ _ us hl => match us, hl with | [_], _ => rfl⟩
  have F_phase_bit : FnD l.prog w K mg base 1 "phase_bit" ["mask", "phase"] sp_phase_bit := ⟨_, _, ok_phase_bit B U5, PySem.W.mg_of X G a5, (U5).kp, (U5).binds fun _ _ _ _ _ _ us hl => match us, hl with | [_, _], _ => rfl⟩
  have F_mask_spans : FnD l.prog w K mg base 2 "mask_spans" ["mask", "cycle"] sp_mask_spans := ⟨_, _, ok_mask_spans B U4 F_spans_of F_phase_bit, PySem.W.mg_of X G a4, (U4).kp, (U4).binds fun _ _ _ _ _ _ us hl => match us, hl with | [_, _], _ => rfl⟩
  have F_table_of : FnD l.prog w K mg base 4 "table_of" ["cycle", "pieces"] sp_table_of := ⟨_, _, ok_table_of B U12 F_stretches_of F_first_within F_covered_mask F_mask_spans, PySem.W.mg_of X G a12, (U12).kp, (U12).binds fun _ _ _ _ _ _ us hl => match us, hl with | [_, _], _ => rfl⟩
  have F_span_table : FnD l.prog w K mg base 5 "span_table" ["cycle", "start", "end"] sp_span_table := ⟨_, _, ok_span_table B U16 F_full_mask F_table_of, PySem.W.mg_of X G a16, (U16).kp, (U16).binds fun _ _ _ _ _ _ us hl => match us, hl with | [_, _, _], _ => rfl⟩
  have F_round_table : FnD l.prog w K mg base 5 "round_table" ["cycle", "when"] sp_round_table := ⟨_, _, ok_round_table B U24 F_table_of, PySem.W.mg_of X G a24, (U24).kp, (U24).binds fun _ _ _ _ _ _ us hl => match us, hl with | [_, _], _ => rfl⟩
  have F_mask_of : FnD l.prog w K mg base 1 "mask_of" ["spans"] sp_mask_of := ⟨_, _, ok_mask_of B U3, PySem.W.mg_of X G a3, (U3).kp, (U3).binds fun _ _ _ _ _ _ us hl => match us, hl with | [_], _ => rfl⟩
  have F_pieces_of : FnD l.prog w K mg base 2 "pieces_of" ["table"] sp_pieces_of := ⟨_, _, ok_pieces_of B U9 F_mask_of, PySem.W.mg_of X G a9, (U9).kp, (U9).binds fun _ _ _ _ _ _ us hl => match us, hl with | [_], _ => rfl⟩
  have F_met_pieces : FnD l.prog w K mg base 3 "met_pieces" ["table", "other"] sp_met_pieces := ⟨_, _, ok_met_pieces B U11 F_pieces_of, PySem.W.mg_of X G a11, (U11).kp, (U11).binds fun _ _ _ _ _ _ us hl => match us, hl with | [_, _], _ => rfl⟩
  have F_either : FnD l.prog w K mg base 5 "either" ["table", "other"] sp_either := ⟨_, _, ok_either B U17 F_table_of F_met_pieces, PySem.W.mg_of X G a17, (U17).kp, (U17).binds fun _ _ _ _ _ _ us hl => match us, hl with | [_, _], _ => rfl⟩
  have F_without : FnD l.prog w K mg base 5 "without" ["table", "other"] sp_without := ⟨_, _, ok_without B U18 F_table_of F_met_pieces, PySem.W.mg_of X G a18, (U18).kp, (U18).binds fun _ _ _ _ _ _ us hl => match us, hl with | [_, _], _ => rfl⟩
  have F_valid_table : FnD l.prog w K mg base 21 "valid_table" ["cycle", "when"] sp_valid_table := ⟨_, _, ok_valid_table B U23 (PySem.W.mg_of X G a23) F_span_table F_round_table F_either F_without, PySem.W.mg_of X G a23, (U23).kp, (U23).binds fun _ _ _ _ _ _ us hl => match us, hl with | [_, _], _ => rfl⟩
  have F_when_table : FnD l.prog w K mg base 22 "when_table" ["cycle", "when"] sp_when_table := ⟨_, _, ok_when_table B U22 F_is_when F_valid_table, PySem.W.mg_of X G a22, (U22).kp, (U22).binds fun _ _ _ _ _ _ us hl => match us, hl with | [_, _], _ => rfl⟩
  have F_is_spans : FnD l.prog w K mg base 1 "is_spans" ["spans", "cycle"] sp_is_spans := ⟨_, _, ok_is_spans B U1, PySem.W.mg_of X G a1, (U1).kp, (U1).binds fun _ _ _ _ _ _ us hl => match us, hl with | [_, _], _ => rfl⟩
  have F_is_table : FnD l.prog w K mg base 2 "is_table" ["table"] sp_is_table := ⟨_, _, ok_is_table B U14 F_is_cycle F_is_spans, PySem.W.mg_of X G a14, (U14).kp, (U14).binds fun _ _ _ _ _ _ us hl => match us, hl with | [_], _ => rfl⟩
  have F_shortest : FnD l.prog w K mg base 5 "shortest" ["table"] sp_shortest := ⟨_, _, ok_shortest B U15 F_table_of F_pieces_of, PySem.W.mg_of X G a15, (U15).kp, (U15).binds fun _ _ _ _ _ _ us hl => match us, hl with | [_], _ => rfl⟩
  have M_Times_init : FnI l.prog w K mg base 6 0 C_Times pre_Times_init post_Times_init := ⟨_, _, _, ⟨m25, h25, i25, n25⟩, ok_Times_init B U25 F_is_table F_shortest T_Times A_Times_table, (U25).binds fun _ _ _ _ _ _ us hl => match us, hl with | [_, _], _ => rfl⟩
  have M_Times_made : FnS l.prog w K mg base 23 C_Times "made" ["cycle", "when"] sp_Times_made := ⟨_, _, ok_Times_made B U26 F_is_cycle F_when_table T_Times M_Times_init, (U26).binds fun _ _ _ _ _ _ us hl => match us, hl with | [_, _], _ => rfl, ⟨_, _, _, g26, t26, h26, r26⟩, k26⟩
  have Fb_when_table : FnB l.prog w K mg base 19 "when_table" ["cycle", "when"] C_NoWhen Bad_when_table := ⟨_, _, okx_when_table U22 T_NoWhen F_is_when bad_when_table, PySem.W.mg_of X G a22, (U22).kp, (U22).binds fun _ _ _ _ _ _ us hl => match us, hl with | [_, _], _ => rfl⟩
  have X_made : ∃ fm fdm psm, SMet K C_Times "made" fm ∧ FnOk l.prog w K mg base (L2.CX l.prog w) 23 fm fdm psm (fun vs H Q E => spOf K 2 sp_Times_made vs H Q E ∨ spXM K C_NoCycle C_NoWhen BadC OkC Bad_when_table vs H Q E) ∧ Binds K fdm psm [] := ⟨_, _, _, ⟨⟨_, _, _, g26, t26, h26, r26⟩, k26⟩, okOr (ok_Times_made (P := l.prog) (w := w) (base := base) B U26 F_is_cycle F_when_table T_Times M_Times_init) (okx_Times_made U26 T_NoCycle F_is_cycle Fb_when_table T_Times M_Times_init), (U26).binds fun _ _ _ _ _ _ us hl => match us, hl with | [_, _], _ => rfl⟩
  have X_init : ∃ fi fdi psi, Mk K C_Times fi ∧ FnOk l.prog w K mg base (L2.CX l.prog w) 6 fi fdi psi (fun vs H Q E => spIni K 0 C_Times pre_Times_init post_Times_init vs H Q E ∨ spXI K C_Times C_NoTable BadI vs H Q E) ∧ Binds K fdi psi [] := ⟨_, _, _, ⟨m25, h25, i25, n25⟩, okOr (ok_Times_init (P := l.prog) (w := w) (base := base) B U25 F_is_table F_shortest T_Times A_Times_table) ((okx_Times_init U25 T_NoTable F_is_table).mono (by decide)), (U25).binds fun _ _ _ _ _ _ us hl => match us, hl with | [_, _], _ => rfl⟩
  have F_law_error : FnD l.prog w K mg base 25 "_law_error" ["made", "one", "other"] sp_law_error := ⟨_, _, ok_law_error B U46 T_Times M_Times_made M_Times_init (PySem.W.mg_of X G yS) Zr0 Zr1 Zr2 X_made X_init (PySem.W.mg_none_of X G zV), PySem.W.mg_of X G a46, (U46).kp, (U46).binds fun _ _ _ _ _ _ us hl => match us, hl with | [_, _, _], _ => rfl⟩
  have F_law_pick : FnD l.prog w K mg base 2 "_law_pick" ["draws", "row"] sp_law_pick := ⟨_, _, ok_law_pick B U29 F_law_take, PySem.W.mg_of X G a29, (U29).kp, (U29).binds fun _ _ _ _ _ _ us hl => match us, hl with | [_, _], _ => rfl⟩
  have F_law_leaf_when : FnD l.prog w K mg base 3 "_law_leaf_when" ["draws", "cycle", "low"] sp_law_leaf_when := ⟨_, _, ok_law_leaf_when B U36 F_law_take F_law_pick, PySem.W.mg_of X G a36, (U36).kp, (U36).binds fun _ _ _ _ _ _ us hl => match us, hl with | [_, _, _], _ => rfl⟩
  have F_law_when : FnD l.prog w K mg base 4 "_law_when" ["draws", "cycle", "low"] sp_law_when := ⟨_, _, ok_law_when B U37 F_law_leaf_when F_law_take, PySem.W.mg_of X G a37, (U37).kp, (U37).binds fun _ _ _ _ _ _ us hl => match us, hl with | [_, _, _], _ => rfl⟩
  have F_law_bad_when : FnD l.prog w K mg base 5 "_law_bad_when" ["draws", "script", "cycle"] sp_law_bad_when := ⟨_, _, ok_law_bad_when B U47 F_law_take F_law_size F_law_pick F_law_when, PySem.W.mg_of X G a47, (U47).kp, (U47).binds fun _ _ _ _ _ _ us hl => match us, hl with | [_, _, _], _ => rfl⟩
  have F_law_chain : FnD l.prog w K mg base 4 "_law_chain" ["draws", "cycle", "depth"] sp_law_chain := ⟨_, _, ok_law_chain B U48 F_law_leaf_when F_law_take, PySem.W.mg_of X G a48, (U48).kp, (U48).binds fun _ _ _ _ _ _ us hl => match us, hl with | [_, _, _], _ => rfl⟩
  exact ok_law (P := l.prog) (w := w) (base := base) B U49 F_law_draws F_law_long_table F_law_cycle F_law_changed F_law_is_table F_law_error F_law_size F_law_take F_law_when F_law_bad_when F_law_chain
end Lw
open PySem PySem.W PyProof.Rows
set_option maxHeartbeats 0 in
theorem PySem.Challenge.cw_ateverymoment_k24_errors_of_times_holds : PySem.Challenge.rw_ateverymoment_k24_errors_of_times.Holds := by
  w_on; o_law; k_head; (case hw => w_witness2)
  k_fill
  refine L2.walk_of (l := PySem.Challenge.rw_ateverymoment_k24_errors_of_times) (n := 63) (k := 26) (x := "script") (CX := fun _ => L2.CX0) (sp := fun w => DL.spOf _ 1 DL.sp_law) rfl (by decide) rfl ⟨rfl, by decide, by decide⟩ (fun w h Y => PySem.W.kIn_of Y) ?F (fun _ H a ns hl hO hS => DL.law_start hl hO hS) (fun _ _ _ _ _ h => h)
  case F =>
    intro w mg fa h KX G hmg
    refine' Lw.all_mk KX G hmg ?ns_Times ?c1_Times ?c2_Times ?c3_Times ?c4_Times ?ha_Times ?hn_Times ?ht_Times ?hm_Times ?sf_Times ?A_Times_table ?a0 ?l0 ?c0 ?k0 ?a1 ?l1 ?c1 ?k1 ?a2 ?l2 ?c2 ?k2 ?a3 ?l3 ?c3 ?k3 ?a4 ?l4 ?c4 ?k4 ?a5 ?l5 ?c5 ?k5 ?a6 ?l6 ?c6 ?k6 ?a7 ?l7 ?c7 ?k7 ?a8 ?l8 ?c8 ?k8 ?a9 ?l9 ?c9 ?k9 ?a10 ?l10 ?c10 ?k10 ?a11 ?l11 ?c11 ?k11 ?a12 ?l12 ?c12 ?k12 ?a13 ?l13 ?c13 ?k13 ?a14 ?l14 ?c14 ?k14 ?a15 ?l15 ?c15 ?k15 ?a16 ?l16 ?c16 ?k16 ?a17 ?l17 ?c17 ?k17 ?a18 ?l18 ?c18 ?k18 ?a19 ?l19 ?c19 ?k19 ?a20 ?l20 ?c20 ?k20 ?a21 ?l21 ?c21 ?k21 ?a22 ?l22 ?c22 ?k22 ?a23 ?l23 ?c23 ?k23 ?a24 ?l24 ?c24 ?k24 ?h25 ?i25 ?m25 ?n25 ?l25 ?c25 ?k25 ?h26 ?g26 ?t26 ?r26 ?l26 ?c26 ?k26 ?a27 ?l27 ?c27 ?k27 ?a28 ?l28 ?c28 ?k28 ?a29 ?l29 ?c29 ?k29 ?a30 ?l30 ?c30 ?k30 ?a31 ?l31 ?c31 ?k31 ?a32 ?l32 ?c32 ?k32 ?a33 ?l33 ?c33 ?k33 ?a34 ?l34 ?c34 ?k34 ?a35 ?l35 ?c35 ?k35 ?a36 ?l36 ?c36 ?k36 ?a37 ?l37 ?c37 ?k37 ?a38 ?l38 ?c38 ?k38 ?a39 ?l39 ?c39 ?k39 ?a40 ?l40 ?c40 ?k40 ?a41 ?l41 ?c41 ?k41 ?a42 ?l42 ?c42 ?k42 ?a43 ?l43 ?c43 ?k43 ?a44 ?l44 ?c44 ?k44 ?a45 ?l45 ?c45 ?k45 ?a46 ?l46 ?c46 ?k46 ?a47 ?l47 ?c47 ?k47 ?a48 ?l48 ?c48 ?k48 ?a49 ?l49 ?c49 ?k49 ?z0 ?z1 ?z2 ?z3 ?z4 ?z5 ?z6 ?z7 ?z8 ?z9 ?z10 ?z11 ?z12 ?z13 ?z14 ?z15 ?z16 ?z17 ?z18 ?z19 ?yC_NoCycle ?xC_NoCycle ?kC_NoCycle ?bC_NoCycle ?tC_NoCycle ?dC_NoCycle ?sC_NoCycle ?yC_NoTable ?xC_NoTable ?kC_NoTable ?bC_NoTable ?tC_NoTable ?dC_NoTable ?sC_NoTable ?yC_NoWhen ?xC_NoWhen ?kC_NoWhen ?bC_NoWhen ?tC_NoWhen ?dC_NoWhen ?sC_NoWhen ?yS ?Zr0 ?Zr1 ?Zr2 ?zV ?y_GREATEST_DEPTH ?y_LONGEST_CYCLE
    (case ns_Times => k_is); (case c1_Times => k_is); (case c2_Times => k_is); (case c3_Times => k_is); (case c4_Times => k_is); (case ha_Times => k_is); (case hn_Times => k_is); (case ht_Times => k_is); (case hm_Times => k_is); (case sf_Times => k_is); (case A_Times_table => k_is); (case a0 => k_is); (case l0 => k_is); (case c0 => k_is); (case k0 => k_is); (case a1 => k_is); (case l1 => k_is); (case c1 => k_is); (case k1 => k_is); (case a2 => k_is); (case l2 => k_is); (case c2 => k_is); (case k2 => k_is); (case a3 => k_is); (case l3 => k_is); (case c3 => k_is); (case k3 => k_is); (case a4 => k_is); (case l4 => k_is); (case c4 => k_is); (case k4 => k_is); (case a5 => k_is); (case l5 => k_is); (case c5 => k_is); (case k5 => k_is); (case a6 => k_is); (case l6 => k_is); (case c6 => k_is); (case k6 => k_is); (case a7 => k_is); (case l7 => k_is); (case c7 => k_is); (case k7 => k_is); (case a8 => k_is); (case l8 => k_is); (case c8 => k_is); (case k8 => k_is); (case a9 => k_is); (case l9 => k_is); (case c9 => k_is); (case k9 => k_is); (case a10 => k_is); (case l10 => k_is); (case c10 => k_is); (case k10 => k_is); (case a11 => k_is); (case l11 => k_is); (case c11 => k_is); (case k11 => k_is); (case a12 => k_is); (case l12 => k_is); (case c12 => k_is); (case k12 => k_is); (case a13 => k_is); (case l13 => k_is); (case c13 => k_is); (case k13 => k_is); (case a14 => k_is); (case l14 => k_is); (case c14 => k_is); (case k14 => k_is); (case a15 => k_is); (case l15 => k_is); (case c15 => k_is); (case k15 => k_is); (case a16 => k_is); (case l16 => k_is); (case c16 => k_is); (case k16 => k_is); (case a17 => k_is); (case l17 => k_is); (case c17 => k_is); (case k17 => k_is); (case a18 => k_is); (case l18 => k_is); (case c18 => k_is); (case k18 => k_is); (case a19 => k_is); (case l19 => k_is); (case c19 => k_is); (case k19 => k_is); (case a20 => k_is); (case l20 => k_is); (case c20 => k_is); (case k20 => k_is); (case a21 => k_is); (case l21 => k_is); (case c21 => k_is); (case k21 => k_is); (case a22 => k_is); (case l22 => k_is); (case c22 => k_is); (case k22 => k_is); (case a23 => k_is); (case l23 => k_is); (case c23 => k_is); (case k23 => k_is); (case a24 => k_is); (case l24 => k_is); (case c24 => k_is); (case k24 => k_is); (case h25 => k_is); (case i25 => k_is); (case m25 => k_is); (case n25 => k_is); (case l25 => k_is); (case c25 => k_is); (case k25 => k_is); (case h26 => k_is); (case g26 => k_is); (case t26 => k_is); (case r26 => k_is); (case l26 => k_is); (case c26 => k_is); (case k26 => k_is); (case a27 => k_is); (case l27 => k_is); (case c27 => k_is); (case k27 => k_is); (case a28 => k_is); (case l28 => k_is); (case c28 => k_is); (case k28 => k_is); (case a29 => k_is); (case l29 => k_is); (case c29 => k_is); (case k29 => k_is); (case a30 => k_is); (case l30 => k_is); (case c30 => k_is); (case k30 => k_is); (case a31 => k_is); (case l31 => k_is); (case c31 => k_is); (case k31 => k_is); (case a32 => k_is); (case l32 => k_is); (case c32 => k_is); (case k32 => k_is); (case a33 => k_is); (case l33 => k_is); (case c33 => k_is); (case k33 => k_is); (case a34 => k_is); (case l34 => k_is); (case c34 => k_is); (case k34 => k_is); (case a35 => k_is); (case l35 => k_is); (case c35 => k_is); (case k35 => k_is); (case a36 => k_is); (case l36 => k_is); (case c36 => k_is); (case k36 => k_is); (case a37 => k_is); (case l37 => k_is); (case c37 => k_is); (case k37 => k_is); (case a38 => k_is); (case l38 => k_is); (case c38 => k_is); (case k38 => k_is); (case a39 => k_is); (case l39 => k_is); (case c39 => k_is); (case k39 => k_is); (case a40 => k_is); (case l40 => k_is); (case c40 => k_is); (case k40 => k_is); (case a41 => k_is); (case l41 => k_is); (case c41 => k_is); (case k41 => k_is); (case a42 => k_is); (case l42 => k_is); (case c42 => k_is); (case k42 => k_is); (case a43 => k_is); (case l43 => k_is); (case c43 => k_is); (case k43 => k_is); (case a44 => k_is); (case l44 => k_is); (case c44 => k_is); (case k44 => k_is); (case a45 => k_is); (case l45 => k_is); (case c45 => k_is); (case k45 => k_is); (case a46 => k_is); (case l46 => k_is); (case c46 => k_is); (case k46 => k_is); (case a47 => k_is); (case l47 => k_is); (case c47 => k_is); (case k47 => k_is); (case a48 => k_is); (case l48 => k_is); (case c48 => k_is); (case k48 => k_is); (case a49 => k_is); (case l49 => k_is); (case c49 => k_is); (case k49 => k_is); (case z0 => k_is); (case z1 => k_is); (case z2 => k_is); (case z3 => k_is); (case z4 => k_is); (case z5 => k_is); (case z6 => k_is); (case z7 => k_is); (case z8 => k_is); (case z9 => k_is); (case z10 => k_is); (case z11 => k_is); (case z12 => k_is); (case z13 => k_is); (case z14 => k_is); (case z15 => k_is); (case z16 => k_is); (case z17 => k_is); (case z18 => k_is); (case z19 => k_is); (case yC_NoCycle => k_is); (case xC_NoCycle => k_exc); (case kC_NoCycle => k_is); (case bC_NoCycle => k_is); (case tC_NoCycle => k_is); (case dC_NoCycle => k_is); (case sC_NoCycle => first | rfl | k_is); (case yC_NoTable => k_is); (case xC_NoTable => k_exc); (case kC_NoTable => k_is); (case bC_NoTable => k_is); (case tC_NoTable => k_is); (case dC_NoTable => k_is); (case sC_NoTable => first | rfl | k_is); (case yC_NoWhen => k_is); (case xC_NoWhen => k_exc); (case kC_NoWhen => k_is); (case bC_NoWhen => k_is); (case tC_NoWhen => k_is); (case dC_NoWhen => k_is); (case sC_NoWhen => first | rfl | k_is); (case yS => k_is); (case Zr0 => (refine' DL.XRow.mk0 ?hg ?hk ?hs ?hd ?ha ?hn ?ht ?hm ?sV ?bS ?dS ?tS ?sS ?x0 ?x1 ?x2 ?x3 ?x4 ?x5 ?x6 ?x7 ?x8 ?x9 ?x10 ?x11; (case hg => k_is); (case hk => k_is); (case hs => k_is); (case hd => k_is); (case ha => k_is); (case hn => k_is); (case ht => k_is); (case hm => k_is); (case sV => k_is); (case bS => k_is); (case dS => k_is); (case tS => k_is); (case sS => k_is); (case x0 => (refine' DL.XIn.mk' (PySem.W.mg_of KX G ?q1) ?q2 ?q3 ?q4 ?q5; (case q1 => k_is); (case q2 => k_is); (case q3 => k_is); (case q4 => k_is); (case q5 => first | rfl | k_is))); (case x1 => (refine' DL.XIn.mk' (PySem.W.mg_of KX G ?q1) ?q2 ?q3 ?q4 ?q5; (case q1 => k_is); (case q2 => k_is); (case q3 => k_is); (case q4 => k_is); (case q5 => first | rfl | k_is))); (case x2 => (refine' DL.XIn.mk' (PySem.W.mg_of KX G ?q1) ?q2 ?q3 ?q4 ?q5; (case q1 => k_is); (case q2 => k_is); (case q3 => k_is); (case q4 => k_is); (case q5 => first | rfl | k_is))); (case x3 => (refine' DL.XIn.mk' (PySem.W.mg_of KX G ?q1) ?q2 ?q3 ?q4 ?q5; (case q1 => k_is); (case q2 => k_is); (case q3 => k_is); (case q4 => k_is); (case q5 => first | rfl | k_is))); (case x4 => (refine' DL.XIn.mk' (PySem.W.mg_of KX G ?q1) ?q2 ?q3 ?q4 ?q5; (case q1 => k_is); (case q2 => k_is); (case q3 => k_is); (case q4 => k_is); (case q5 => first | rfl | k_is))); (case x5 => (refine' DL.XIn.mk' (PySem.W.mg_of KX G ?q1) ?q2 ?q3 ?q4 ?q5; (case q1 => k_is); (case q2 => k_is); (case q3 => k_is); (case q4 => k_is); (case q5 => first | rfl | k_is))); (case x6 => (refine' DL.XIn.mk' (PySem.W.mg_of KX G ?q1) ?q2 ?q3 ?q4 ?q5; (case q1 => k_is); (case q2 => k_is); (case q3 => k_is); (case q4 => k_is); (case q5 => first | rfl | k_is))); (case x7 => (refine' DL.XIn.mk' (PySem.W.mg_of KX G ?q1) ?q2 ?q3 ?q4 ?q5; (case q1 => k_is); (case q2 => k_is); (case q3 => k_is); (case q4 => k_is); (case q5 => first | rfl | k_is))); (case x8 => (refine' DL.XIn.mk' (PySem.W.mg_of KX G ?q1) ?q2 ?q3 ?q4 ?q5; (case q1 => k_is); (case q2 => k_is); (case q3 => k_is); (case q4 => k_is); (case q5 => first | rfl | k_is))); (case x9 => (refine' DL.XIn.mk' (PySem.W.mg_of KX G ?q1) ?q2 ?q3 ?q4 ?q5; (case q1 => k_is); (case q2 => k_is); (case q3 => k_is); (case q4 => k_is); (case q5 => first | rfl | k_is))); (case x10 => (refine' DL.XIn.mk' (PySem.W.mg_of KX G ?q1) ?q2 ?q3 ?q4 ?q5; (case q1 => k_is); (case q2 => k_is); (case q3 => k_is); (case q4 => k_is); (case q5 => first | rfl | k_is))); (case x11 => (refine' DL.XIn.mk' (PySem.W.mg_of KX G ?q1) ?q2 ?q3 ?q4 ?q5; (case q1 => k_is); (case q2 => k_is); (case q3 => k_is); (case q4 => k_is); (case q5 => first | rfl | k_is))))); (case Zr1 => (refine' DL.XRow.mk1 ?hg ?hk ?hs ?hd ?ha ?hn ?ht ?hm ?sV ?bS ?dS ?tS ?sS ?x0 ?x1 ?x2 ?x3 ?x4 ?x5 ?x6 ?x7 ?x8 ?x9 ?x10 ?x11; (case hg => k_is); (case hk => k_is); (case hs => k_is); (case hd => k_is); (case ha => k_is); (case hn => k_is); (case ht => k_is); (case hm => k_is); (case sV => k_is); (case bS => k_is); (case dS => k_is); (case tS => k_is); (case sS => k_is); (case x0 => (refine' DL.XIn.mk' (PySem.W.mg_of KX G ?q1) ?q2 ?q3 ?q4 ?q5; (case q1 => k_is); (case q2 => k_is); (case q3 => k_is); (case q4 => k_is); (case q5 => first | rfl | k_is))); (case x1 => (refine' DL.XIn.mk' (PySem.W.mg_of KX G ?q1) ?q2 ?q3 ?q4 ?q5; (case q1 => k_is); (case q2 => k_is); (case q3 => k_is); (case q4 => k_is); (case q5 => first | rfl | k_is))); (case x2 => (refine' DL.XIn.mk' (PySem.W.mg_of KX G ?q1) ?q2 ?q3 ?q4 ?q5; (case q1 => k_is); (case q2 => k_is); (case q3 => k_is); (case q4 => k_is); (case q5 => first | rfl | k_is))); (case x3 => (refine' DL.XIn.mk' (PySem.W.mg_of KX G ?q1) ?q2 ?q3 ?q4 ?q5; (case q1 => k_is); (case q2 => k_is); (case q3 => k_is); (case q4 => k_is); (case q5 => first | rfl | k_is))); (case x4 => (refine' DL.XIn.mk' (PySem.W.mg_of KX G ?q1) ?q2 ?q3 ?q4 ?q5; (case q1 => k_is); (case q2 => k_is); (case q3 => k_is); (case q4 => k_is); (case q5 => first | rfl | k_is))); (case x5 => (refine' DL.XIn.mk' (PySem.W.mg_of KX G ?q1) ?q2 ?q3 ?q4 ?q5; (case q1 => k_is); (case q2 => k_is); (case q3 => k_is); (case q4 => k_is); (case q5 => first | rfl | k_is))); (case x6 => (refine' DL.XIn.mk' (PySem.W.mg_of KX G ?q1) ?q2 ?q3 ?q4 ?q5; (case q1 => k_is); (case q2 => k_is); (case q3 => k_is); (case q4 => k_is); (case q5 => first | rfl | k_is))); (case x7 => (refine' DL.XIn.mk' (PySem.W.mg_of KX G ?q1) ?q2 ?q3 ?q4 ?q5; (case q1 => k_is); (case q2 => k_is); (case q3 => k_is); (case q4 => k_is); (case q5 => first | rfl | k_is))); (case x8 => (refine' DL.XIn.mk' (PySem.W.mg_of KX G ?q1) ?q2 ?q3 ?q4 ?q5; (case q1 => k_is); (case q2 => k_is); (case q3 => k_is); (case q4 => k_is); (case q5 => first | rfl | k_is))); (case x9 => (refine' DL.XIn.mk' (PySem.W.mg_of KX G ?q1) ?q2 ?q3 ?q4 ?q5; (case q1 => k_is); (case q2 => k_is); (case q3 => k_is); (case q4 => k_is); (case q5 => first | rfl | k_is))); (case x10 => (refine' DL.XIn.mk' (PySem.W.mg_of KX G ?q1) ?q2 ?q3 ?q4 ?q5; (case q1 => k_is); (case q2 => k_is); (case q3 => k_is); (case q4 => k_is); (case q5 => first | rfl | k_is))); (case x11 => (refine' DL.XIn.mk' (PySem.W.mg_of KX G ?q1) ?q2 ?q3 ?q4 ?q5; (case q1 => k_is); (case q2 => k_is); (case q3 => k_is); (case q4 => k_is); (case q5 => first | rfl | k_is))))); (case Zr2 => (refine' DL.XRow.mk2 ?hg ?hk ?hs ?hd ?ha ?hn ?ht ?hm ?sV ?bS ?dS ?tS ?sS ?x0 ?x1 ?x2 ?x3 ?x4 ?x5 ?x6 ?x7 ?x8 ?x9 ?x10 ?x11; (case hg => k_is); (case hk => k_is); (case hs => k_is); (case hd => k_is); (case ha => k_is); (case hn => k_is); (case ht => k_is); (case hm => k_is); (case sV => k_is); (case bS => k_is); (case dS => k_is); (case tS => k_is); (case sS => k_is); (case x0 => (refine' DL.XIn.mk' (PySem.W.mg_of KX G ?q1) ?q2 ?q3 ?q4 ?q5; (case q1 => k_is); (case q2 => k_is); (case q3 => k_is); (case q4 => k_is); (case q5 => first | rfl | k_is))); (case x1 => (refine' DL.XIn.mk' (PySem.W.mg_of KX G ?q1) ?q2 ?q3 ?q4 ?q5; (case q1 => k_is); (case q2 => k_is); (case q3 => k_is); (case q4 => k_is); (case q5 => first | rfl | k_is))); (case x2 => (refine' DL.XIn.mk' (PySem.W.mg_of KX G ?q1) ?q2 ?q3 ?q4 ?q5; (case q1 => k_is); (case q2 => k_is); (case q3 => k_is); (case q4 => k_is); (case q5 => first | rfl | k_is))); (case x3 => (refine' DL.XIn.mk' (PySem.W.mg_of KX G ?q1) ?q2 ?q3 ?q4 ?q5; (case q1 => k_is); (case q2 => k_is); (case q3 => k_is); (case q4 => k_is); (case q5 => first | rfl | k_is))); (case x4 => (refine' DL.XIn.mk' (PySem.W.mg_of KX G ?q1) ?q2 ?q3 ?q4 ?q5; (case q1 => k_is); (case q2 => k_is); (case q3 => k_is); (case q4 => k_is); (case q5 => first | rfl | k_is))); (case x5 => (refine' DL.XIn.mk' (PySem.W.mg_of KX G ?q1) ?q2 ?q3 ?q4 ?q5; (case q1 => k_is); (case q2 => k_is); (case q3 => k_is); (case q4 => k_is); (case q5 => first | rfl | k_is))); (case x6 => (refine' DL.XIn.mk' (PySem.W.mg_of KX G ?q1) ?q2 ?q3 ?q4 ?q5; (case q1 => k_is); (case q2 => k_is); (case q3 => k_is); (case q4 => k_is); (case q5 => first | rfl | k_is))); (case x7 => (refine' DL.XIn.mk' (PySem.W.mg_of KX G ?q1) ?q2 ?q3 ?q4 ?q5; (case q1 => k_is); (case q2 => k_is); (case q3 => k_is); (case q4 => k_is); (case q5 => first | rfl | k_is))); (case x8 => (refine' DL.XIn.mk' (PySem.W.mg_of KX G ?q1) ?q2 ?q3 ?q4 ?q5; (case q1 => k_is); (case q2 => k_is); (case q3 => k_is); (case q4 => k_is); (case q5 => first | rfl | k_is))); (case x9 => (refine' DL.XIn.mk' (PySem.W.mg_of KX G ?q1) ?q2 ?q3 ?q4 ?q5; (case q1 => k_is); (case q2 => k_is); (case q3 => k_is); (case q4 => k_is); (case q5 => first | rfl | k_is))); (case x10 => (refine' DL.XIn.mk' (PySem.W.mg_of KX G ?q1) ?q2 ?q3 ?q4 ?q5; (case q1 => k_is); (case q2 => k_is); (case q3 => k_is); (case q4 => k_is); (case q5 => first | rfl | k_is))); (case x11 => (refine' DL.XIn.mk' (PySem.W.mg_of KX G ?q1) ?q2 ?q3 ?q4 ?q5; (case q1 => k_is); (case q2 => k_is); (case q3 => k_is); (case q4 => k_is); (case q5 => first | rfl | k_is))))); (case zV => k_is); (case y_GREATEST_DEPTH => k_is); (case y_LONGEST_CYCLE => k_is)