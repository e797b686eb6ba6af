import PyProof.Rows.All
import HandS.ForMost
import HandS.IsInst
import HandS.Walk
import HandS.Flow
import HandS.Style
import HandS.WideBits
import HandS.Zip
import HandS.Rev
import HandS.RevRange
import HandS.RevTup
import HandS.TupAny
import HandS.More
import HandS.Conv
import KE.KDictZip
import KE.KRevSl
import KE.GoesMore
import HandS.SortRule
import HandS.Defaults
import HandS.FStr
import PyProof.Rows.StrIntSpec
import PyProof.StrLawsOcc
import PyProof.Rows.FactsT3
import HandS.SetFor
import HandS.Strs
import HandS.Text
import KE.GoesEnum
import HandS.SortKw
import KE.DatumOrd
import OpenK.AllK
import KE.KDictWalk
import KE.KDictCopyH
import HandS.DictComp
import HandS.Replace
import HandS.Text
import HandS.SetKeys
import KE.DataFind
import KE.SortKeyHeap
import HandS.Keys
import HandS.Strs
import HandS.Deep
import PyProof.RulesMatchSeq
import PyProof.Rows.MatchSeqLen
import PySem.Challenge.RW_ateverymoment_k78_spans_of_questions
set_option Elab.async false
set_option linter.all false
set_option maxRecDepth 100000

namespace DL
open PySem PySem.Spec PyProof.Rows L2

/-! ### data -/
/-- values: whole numbers and words -/
inductive Vl where
  | int (n : Int) | str (x : Str)
deriving DecidableEq
inductive D where
  | non | bl (b : Bool) | int (i : Int) | str (x : Str) | tup (ds : List D) | lst (ds : List D) | rol (ds : List D) | tpd (ds : List D) | rod (ks : List (List Vl)) (vs : List D) | obj (n : Nat) (ds : List D) | rdk (ks : List Vl) (vs : List D)

def isL : D → Bool
  | .lst _ => true
  | _ => false

def SqR (K : PySem.W.Frag) (H : Hp) (a : Addr) (xs : List V) : Prop :=
  (∃ o, H a = some (.frz o (.lst xs))) ∨
    ∃ (o : Obj) (its : Array Value) (n : Nat), K.lookup a = some o ∧ o.cls = .type "list" ∧ o.dict = none ∧ o.data = .seq its n ∧ its.size ≤ sizeLine ∧ Vals xs its.toList
theorem SqR.seq {K : PySem.W.Frag} {H : Hp} {a : Addr} {xs : List V} (h : SqR K H a xs) : SqL K H a xs := by
  rcases h with ⟨o, h⟩ | h
  · exact .inl (.inr ⟨o, h⟩)
  · exact .inr h

/-- a tuple that is known to have no dict -/
def TpK (K : PySem.W.Frag) (H : Hp) (a : Addr) (xs : List V) : Prop := (∃ o : Obj, H a = some (.frz o (.tup xs)) ∧ o.dict = none) ∨
    ∃ (o : Obj) (its : Array Value) (n : Nat), K.lookup a = some o ∧ o.cls = .type "tuple" ∧ o.dict = none ∧ o.data = .seq its n ∧ its.size ≤ sizeLine ∧ Vals xs its.toList
theorem TpK.t {K : PySem.W.Frag} {H : Hp} {a : Addr} {xs : List V} (h : TpK K H a xs) : SqT K H a xs := by
  rcases h with ⟨o, h, _⟩ | ⟨o, its, n, h1, h2, _, h3⟩
  · exact .inl (.inr ⟨o, h⟩)
  · exact .inr ⟨o, its, n, h1, h2, h3⟩
def Vl.key : Vl → L2.Key
  | .int n => .inl n
  | .str x => .inr x
/-- own classes and what their instances bear -/
def cNm : Nat → Str
  | 0 => "Times"
  | _ => "Reader"
def cAt : Nat → List Str
  | 0 => ["table"]
  | _ => ["text", "at"]
mutual
def RpI (K : PySem.W.Frag) (H : Hp) : D → V → Prop
  | .non, v => v = .non
  | .bl b, v => v = .bl b
  | .int i, v => v = .int i
  | .str x, v => v = .str x
  | .tup ds, v => ∃ a vs, v = .ref a ∧ H a = some (.tup vs) ∧ RpIs K H ds vs
  | .tpd ds, v => ∃ a vs, v = .ref a ∧ TpK K H a vs ∧ RpIs K H ds vs
  | .rod ks ds, v => ∃ (a : Addr) (kvs : List (List L2.Key × V)), v = .ref a ∧ (∃ o : Obj, H a = some (.frz o (.dT kvs))) ∧ kvs.map (·.1) = ks.map (·.map Vl.key) ∧ RpIs K H ds (kvs.map (·.2))
  | .rdk ks ds, v => ∃ (a : Addr) (kvs : List (L2.Key × V)), v = .ref a ∧ (∃ o : Obj, H a = some (.frz o (.dK kvs))) ∧ kvs.map (·.1) = ks.map Vl.key ∧ RpIs K H ds (kvs.map (·.2))
  | .rol ds, v => ∃ a vs, v = .ref a ∧ SqR K H a vs ∧ RpIs K H ds vs
  | .obj n ds, v => ∃ (a C dx : Addr) (kvs : List (Str × V)), v = .ref a ∧ PySem.W.nsIn K mainGlobals (cNm n) = some (some (.ref C)) ∧ H a = some (.ins C dx kvs) ∧ kvs.map (·.1) = cAt n ∧ RpIs K H ds (kvs.map (·.2))
  | .lst _, _ => False
def RpIs (K : PySem.W.Frag) (H : Hp) : List D → List V → Prop
  | [], vs => vs = []
  | d :: ds, vs => ∃ v r, vs = v :: r ∧ RpI K H d v ∧ RpIs K H ds r
end
def RpV (K : PySem.W.Frag) (H : Hp) : D → V → Prop
  | .lst ds, v => ∃ a vs, v = .ref a ∧ H a = some (.lst vs) ∧ RpIs K H ds vs
  | d, v => RpI K H d v

/-- all that is no list is kept -/
def Kp (H H' : Hp) : Prop := ∀ b o, H b = some o → (∀ xs, o ≠ .lst xs) → H' b = some o
theorem Kp.refl (H : Hp) : Kp H H := fun _ _ h _ => h
theorem Kp.trans {H H1 H2 : Hp} (a : Kp H H1) (b : Kp H1 H2) : Kp H H2 := fun c o h n => b c o (a c o h n) n
theorem Kp.tup {K : PySem.W.Frag} {H H' : Hp} (k : Kp H H') {a : Addr} {vs : List V} (h : SqT K H a vs) : SqT K H' a vs := by
  rcases h with (h | ⟨o, h⟩) | h
  · exact .inl (.inl (k _ _ h (fun _ e => nomatch e)))
  · exact .inl (.inr ⟨o, k _ _ h (fun _ e => nomatch e)⟩)
  · exact .inr h
theorem Kp.rol {K : PySem.W.Frag} {H H' : Hp} (k : Kp H H') {a : Addr} {vs : List V} (h : SqR K H a vs) : SqR K H' a vs := by
  rcases h with ⟨o, h⟩ | h
  · exact .inl ⟨o, k _ _ h (fun _ e => nomatch e)⟩
  · exact .inr h
mutual
theorem RpI.kp {K : PySem.W.Frag} {H H' : Hp} (k : Kp H H') : ∀ (d : D) (v : V), RpI K H d v → RpI K H' d v
  | .non, v, h => h
  | .bl _, v, h => h
  | .int _, v, h => h
  | .str _, v, h => h
  | .tup ds, v, h => by
    simp only [RpI] at h ⊢
    obtain ⟨a, vs, e, s, r⟩ := h
    exact ⟨a, vs, e, k _ _ s (fun _ z => nomatch z), RpIs.kp k ds vs r⟩
  | .tpd ds, v, h => by
    simp only [RpI] at h ⊢
    obtain ⟨a, vs, e, s, r⟩ := h
    refine ⟨a, vs, e, ?_, RpIs.kp k ds vs r⟩
    rcases s with ⟨o, s, d⟩ | s
    · exact .inl ⟨o, k _ _ s (fun _ z => nomatch z), d⟩
    · exact .inr s
  | .rod ks ds, v, h => by
    simp only [RpI] at h ⊢
    obtain ⟨a, kvs, e, s, m, r⟩ := h
    obtain ⟨o, s⟩ := s
    exact ⟨a, kvs, e, ⟨o, k _ _ s (fun _ z => nomatch z)⟩, m, RpIs.kp k ds _ r⟩
  | .rdk ks ds, v, h => by
    simp only [RpI] at h ⊢
    obtain ⟨a, kvs, e, s, m, r⟩ := h
    obtain ⟨o, s⟩ := s
    exact ⟨a, kvs, e, ⟨o, k _ _ s (fun _ z => nomatch z)⟩, m, RpIs.kp k ds _ r⟩
  | .rol ds, v, h => by
    simp only [RpI] at h ⊢
    obtain ⟨a, vs, e, s, r⟩ := h
    exact ⟨a, vs, e, k.rol s, RpIs.kp k ds vs r⟩
  | .obj n ds, v, h => by
    simp only [RpI] at h ⊢
    obtain ⟨a, C, dx, kvs, e, c, s, m, r⟩ := h
    exact ⟨a, C, dx, kvs, e, c, k _ _ s (fun _ z => nomatch z), m, RpIs.kp k ds _ r⟩
  | .lst _, v, h => by simp only [RpI] at h
theorem RpIs.kp {K : PySem.W.Frag} {H H' : Hp} (k : Kp H H') : ∀ (ds : List D) (vs : List V), RpIs K H ds vs → RpIs K H' ds vs
  | [], vs, h => by simp only [RpIs] at h ⊢; exact h
  | d :: ds, vs, h => by
    simp only [RpIs] at h ⊢
    obtain ⟨v, r, e, h1, h2⟩ := h
    exact ⟨v, r, e, RpI.kp k d v h1, RpIs.kp k ds r h2⟩
end
theorem RpV.of {K : PySem.W.Frag} {H : Hp} {d : D} {v : V} (h : RpI K H d v) : RpV K H d v := by
  cases d <;> first | exact h | (simp only [RpI] at h)
theorem RpV.imm {K : PySem.W.Frag} {H : Hp} {d : D} {v : V} (h : RpV K H d v) (n : isL d = false) : RpI K H d v := by
  cases d <;> first | exact h | (exact absurd n (by simp [isL]))
theorem RpV.kp {K : PySem.W.Frag} {H H' : Hp} {d : D} {v : V} (k : Kp H H') (h : RpV K H d v) (n : isL d = false) : RpV K H' d v := .of (RpI.kp k d v (h.imm n))
theorem RpV.kpl {K : PySem.W.Frag} {H H' : Hp} {ds : List D} {v : V} (k : Kp H H') (h : RpV K H (.lst ds) v) (e : ∀ a o, v = .ref a → H a = some o → H' a = some o) : RpV K H' (.lst ds) v := by
  obtain ⟨a, vs, e1, e2, r⟩ := h
  exact ⟨a, vs, e1, e a _ e1 e2, RpIs.kp k ds vs r⟩

theorem RpIs.length {K : PySem.W.Frag} {H : Hp} : ∀ {ds : List D} {vs : List V}, RpIs K H ds vs → ds.length = vs.length
  | [], vs, h => by simp only [RpIs] at h; subst h; rfl
  | d :: ds, vs, h => by
    simp only [RpIs] at h
    obtain ⟨v, r, rfl, _, h2⟩ := h
    simp only [List.length_cons, RpIs.length h2]
theorem RpIs.get {K : PySem.W.Frag} {H : Hp} : ∀ {ds : List D} {vs : List V} {i : Nat} {d : D}, RpIs K H ds vs → ds[i]? = some d → ∃ v, vs[i]? = some v ∧ RpI K H d v
  | [], vs, i, d, h, e => by simp at e
  | d0 :: ds, vs, 0, d, h, e => by
    simp only [RpIs] at h
    obtain ⟨v, r, rfl, h1, _⟩ := h
    simp at e; subst e
    exact ⟨v, rfl, h1⟩
  | d0 :: ds, vs, i + 1, d, h, e => by
    simp only [RpIs] at h
    obtain ⟨v, r, rfl, _, h2⟩ := h
    obtain ⟨u, e1, e2⟩ := RpIs.get h2 (by simpa using e)
    exact ⟨u, by simpa using e1, e2⟩
theorem RpIs.get' {K : PySem.W.Frag} {H : Hp} : ∀ {ds : List D} {vs : List V} {i : Nat} {v : V}, RpIs K H ds vs → vs[i]? = some v → ∃ d, ds[i]? = some d ∧ RpI K H d v := by
  intro ds vs i v h e
  have hl := h.length
  have hi : i < ds.length := by rw [hl]; exact (List.getElem?_eq_some_iff.mp e).1
  obtain ⟨u, e1, e2⟩ := h.get (List.getElem?_eq_getElem hi)
  rw [e] at e1; cases e1
  exact ⟨_, List.getElem?_eq_getElem hi, e2⟩
theorem RpIs.append {K : PySem.W.Frag} {H : Hp} : ∀ {ds es : List D} {vs us : List V}, RpIs K H ds vs → RpIs K H es us → RpIs K H (ds ++ es) (vs ++ us)
  | [], es, vs, us, h, g => by simp only [RpIs] at h; subst h; exact g
  | d :: ds, es, vs, us, h, g => by
    simp only [RpIs] at h
    obtain ⟨v, r, rfl, h1, h2⟩ := h
    show RpIs K H (d :: (ds ++ es)) (v :: (r ++ us))
    simp only [RpIs]
    exact ⟨v, _, rfl, h1, RpIs.append h2 g⟩
theorem RpIs.set {K : PySem.W.Frag} {H : Hp} {d : D} {v : V} (hv : RpI K H d v) : ∀ {ds : List D} {vs : List V} (i : Nat), RpIs K H ds vs → RpIs K H (ds.set i d) (vs.set i v)
  | [], vs, i, h => by simp only [RpIs] at h; subst h; simp [RpIs]
  | d0 :: ds, vs, 0, h => by
    simp only [RpIs] at h
    obtain ⟨w, r, rfl, _, h2⟩ := h
    simp only [List.set_cons_zero, RpIs]
    exact ⟨v, r, rfl, hv, h2⟩
  | d0 :: ds, vs, i + 1, h => by
    simp only [RpIs] at h
    obtain ⟨w, r, rfl, h1, h2⟩ := h
    simp only [List.set_cons_succ, RpIs]
    exact ⟨w, _, rfl, h1, RpIs.set hv i h2⟩
theorem RpIs.take {K : PySem.W.Frag} {H : Hp} : ∀ {ds : List D} {vs : List V} (n : Nat), RpIs K H ds vs → RpIs K H (ds.take n) (vs.take n)
  | ds, vs, 0, h => by simp [RpIs]
  | [], vs, n + 1, h => by simp only [RpIs] at h; subst h; simp [RpIs]
  | d0 :: ds, vs, n + 1, h => by
    simp only [RpIs] at h
    obtain ⟨w, r, rfl, h1, h2⟩ := h
    simp only [List.take_succ_cons, RpIs]
    exact ⟨w, _, rfl, h1, RpIs.take n h2⟩
theorem RpIs.drop {K : PySem.W.Frag} {H : Hp} : ∀ {ds : List D} {vs : List V} (n : Nat), RpIs K H ds vs → RpIs K H (ds.drop n) (vs.drop n)
  | ds, vs, 0, h => h
  | [], vs, n + 1, h => by simp only [RpIs] at h; subst h; simp [RpIs]
  | d0 :: ds, vs, n + 1, h => by
    simp only [RpIs] at h
    obtain ⟨w, r, rfl, h1, h2⟩ := h
    exact RpIs.drop n h2
theorem RpIs.reverse {K : PySem.W.Frag} {H : Hp} : ∀ {ds : List D} {vs : List V}, RpIs K H ds vs → RpIs K H ds.reverse vs.reverse
  | [], vs, h => by simp only [RpIs] at h; subst h; simp [RpIs]
  | d0 :: ds, vs, h => by
    simp only [RpIs] at h
    obtain ⟨w, r, rfl, h1, h2⟩ := h
    rw [List.reverse_cons, List.reverse_cons]
    refine RpIs.append (RpIs.reverse h2) ?_
    simp only [RpIs]
    exact ⟨w, [], rfl, h1, rfl⟩
theorem RpIs.dropLast {K : PySem.W.Frag} {H : Hp} {ds : List D} {vs : List V} (h : RpIs K H ds vs) : RpIs K H ds.dropLast vs.dropLast := by
  rw [List.dropLast_eq_take, List.dropLast_eq_take, h.length]
  exact RpIs.take _ h

/-! ### what a frame's slots hold -/
abbrev DEnv := List (Option D)
def LA (σ : L2.St) (env : DEnv) (b : Addr) : Prop := ∃ (i : Nat) (xs : List D), env[i]? = some (some (D.lst xs)) ∧ σ[i]? = some (some (V.ref b))
structure Rep (K : PySem.W.Frag) (np : Nat) (He : Hp) (σ : L2.St) (H : Hp) (env : DEnv) : Prop where
  len : σ.length = env.length
  val : ∀ (i : Nat) (d : D), env[i]? = some (some d) → ∃ v, σ[i]? = some (some v) ∧ RpV K H d v
  apart : ∀ (i j : Nat) (xs ys : List D) (a : Addr), env[i]? = some (some (D.lst xs)) → env[j]? = some (some (D.lst ys)) → σ[i]? = some (some (V.ref a)) → σ[j]? = some (some (V.ref a)) → i = j
  own : ∀ (i : Nat) (xs : List D) (a : Addr), np ≤ i → env[i]? = some (some (D.lst xs)) → σ[i]? = some (some (V.ref a)) → He a = none
  dom : ∀ b, H b = none → He b = none
section
variable {K : PySem.W.Frag} {np : Nat} {He : Hp} {σ σ' σ'' : L2.St} {H H' H'' : Hp} {env env' env'' : DEnv}
theorem Rep.la (R : Rep K np He σ H env) {b : Addr} (h : LA σ env b) : ∃ vs, H b = some (.lst vs) := by
  obtain ⟨i, xs, e, e2⟩ := h
  obtain ⟨v, e3, a, vs, rfl, e5, _⟩ := R.val i _ e
  rw [e2] at e3
  have e4 : b = a := by simpa using e3
  subst e4
  exact ⟨vs, e5⟩

structure SE (K : PySem.W.Frag) (np : Nat) (He : Hp) (σ : L2.St) (H : Hp) (env : DEnv) (H' : Hp) (env' : DEnv) : Prop where
  rep : Rep K np He σ H' env'
  shape : ∀ (i : Nat), env'[i]? = env[i]? ∨ ∃ (xs ys : List D), env[i]? = some (some (D.lst xs)) ∧ env'[i]? = some (some (D.lst ys))
  keep : ∀ b o, H b = some o → ¬ LA σ env b → H' b = some o
  dom : ∀ b, H' b = none → H b = none
theorem SE.refl (R : Rep K np He σ H env) : SE K np He σ H env H env := ⟨R, fun _ => .inl rfl, fun _ _ h _ => h, fun _ h => h⟩
theorem SE.la (s : SE K np He σ H env H' env') {b : Addr} : LA σ env' b ↔ LA σ env b := by
  constructor
  · rintro ⟨i, xs, e, e2⟩
    rcases s.shape i with h | ⟨ys, zs, h1, h2⟩
    · exact ⟨i, xs, h ▸ e, e2⟩
    · exact ⟨i, ys, h1, e2⟩
  · rintro ⟨i, xs, e, e2⟩
    rcases s.shape i with h | ⟨ys, zs, h1, h2⟩
    · exact ⟨i, xs, h.trans e, e2⟩
    · exact ⟨i, zs, h2, e2⟩
theorem SE.trans (a : SE K np He σ H env H' env') (b : SE K np He σ H' env' H'' env'') : SE K np He σ H env H'' env'' where
  rep := b.rep
  shape := fun i => by
    rcases b.shape i with h | ⟨ys, zs, h1, h2⟩
    · rcases a.shape i with g | ⟨us, ws, g1, g2⟩
      · exact .inl (h.trans g)
      · exact .inr ⟨us, ws, g1, h.trans g2⟩
    · rcases a.shape i with g | ⟨us, ws, g1, g2⟩
      · exact .inr ⟨ys, zs, g ▸ h1, h2⟩
      · exact .inr ⟨us, zs, g1, h2⟩
  keep := fun c o h n => b.keep c o (a.keep c o h n) fun z => n (a.la.mp z)
  dom := fun c h => a.dom c (b.dom c h)
theorem SE.kp (R : Rep K np He σ H env) (s : SE K np He σ H env H' env') : Kp H H' := fun b o h n => s.keep b o h fun z => by
  obtain ⟨vs, e⟩ := R.la z
  rw [h] at e
  exact n vs (Option.some.inj e)

/-! ### an expression's result: a value, or a list that stands in a slot -/
inductive RV where
  | val (d : D) | ref (i : Nat)
def RpR (K : PySem.W.Frag) (σ : L2.St) (H H' : Hp) (env' : DEnv) (v : V) : RV → Prop
  | .val d => RpV K H' d v ∧ (isL d = true → ∀ a, v = .ref a → H a = none)
  | .ref i => σ[i]? = some (some v) ∧ ∃ xs, env'[i]? = some (some (D.lst xs))
def getv (env : DEnv) (i : Nat) (k : D → Prop) : Prop :=
  match env[i]? with
  | some (some d) => k d
  | _ => False
theorem getv_of {i : Nat} {k : D → Prop} (h : getv env i k) : ∃ d, env[i]? = some (some d) ∧ k d := by
  unfold getv at h
  split at h
  · exact ⟨_, by assumption, h⟩
  · exact h.elim
def rs (env : DEnv) : RV → (D → Prop) → Prop
  | .val d, k => k d
  | .ref i, k => getv env i k
/-- behind further steps -/
theorem RpR.keep {v : V} {r : RV} (R : Rep K np He σ H env) (a : SE K np He σ H env H' env') (b : SE K np He σ H' env' H'' env'') (h : RpR K σ H H' env' v r) : RpR K σ H H'' env'' v r := by
  cases r with
  | ref i =>
    obtain ⟨e, xs, e2⟩ := h
    refine ⟨e, ?_⟩
    rcases b.shape i with g | ⟨us, ws, g1, g2⟩
    · exact ⟨xs, g.trans e2⟩
    · exact ⟨ws, g2⟩
  | val d =>
    obtain ⟨h1, h2⟩ := h
    refine ⟨?_, h2⟩
    by_cases hd : isL d = true
    · cases d with
      | lst ds =>
        refine h1.kpl (SE.kp a.rep b) fun c o e1 e2 => b.keep c o e2 fun z => ?_
        have z' := a.la.mp z
        obtain ⟨vs, e3⟩ := R.la z'
        rw [h2 rfl c e1] at e3
        cases e3
      | _ => simp [isL] at hd
    · exact h1.kp (SE.kp a.rep b) (by simpa using hd)
/-- what it stands for now -/
theorem RpR.rs {v : V} {r : RV} {k : D → Prop} (R : Rep K np He σ H' env') (h : RpR K σ H H' env' v r) (g : rs env' r k) : ∃ d, RpV K H' d v ∧ k d := by
  cases r with
  | val d => exact ⟨d, h.1, g⟩
  | ref i =>
    obtain ⟨d, e, q⟩ := getv_of g
    obtain ⟨u, e2, r⟩ := R.val i d e
    rw [h.1] at e2
    have e3 : v = u := by simpa using e2
    subst e3
    exact ⟨d, r, q⟩
end
end DL

namespace DL
open PySem PySem.Spec PyProof.Rows L2

abbrev W := DEnv → (RV → DEnv → Prop) → Prop
abbrev WA := DEnv → (List RV → DEnv → Prop) → Prop
def rE (K : PySem.W.Frag) (np : Nat) (He : Hp) (w : W) : TE := fun σ H Q => ∃ env Q0, Rep K np He σ H env ∧ w env Q0 ∧
  ∀ r env' v H', Q0 r env' → SE K np He σ H env H' env' → RpR K σ H H' env' v r → Q v H'
def TN (v : V) (r : RV) (vs : List V) (rl : List RV) : Prop := ∀ d, r = .val d → isL d = true → ∀ (j : Nat) (ys : List D), rl[j]? = some (.val (.lst ys)) → vs[j]? ≠ some v
def RpRs (K : PySem.W.Frag) (σ : L2.St) (H H' : Hp) (env' : DEnv) : List V → List RV → Prop
  | [], rl => rl = []
  | v :: vs, rl => ∃ r rest, rl = r :: rest ∧ RpR K σ H H' env' v r ∧ RpRs K σ H H' env' vs rest ∧ TN v r vs rest
def rA (K : PySem.W.Frag) (np : Nat) (He : Hp) (w : WA) : TA := fun σ H Q => ∃ env Q0, Rep K np He σ H env ∧ w env Q0 ∧
  ∀ rl env' vs H', Q0 rl env' → SE K np He σ H env H' env' → RpRs K σ H H' env' vs rl → Q vs H'
abbrev DE (X : Cx) (np : Nat) (He : Hp) (e : Expr) (w : W) : Prop := PE X e (rE X.K np He w)
abbrev DT (X : Cx) (np : Nat) (He : Hp) (e : Expr) (w : W) : Prop := PT X e (tB (rE X.K np He w))
abbrev DA (X : Cx) (np : Nat) (He : Hp) (es : List Expr) (w : WA) : Prop := PA X es (rA X.K np He w)

theorem PE.weak {X : Cx} {e : Expr} {t t' : TE} (h : PE X e t) (i : ∀ σ H Q, t' σ H Q → t σ H Q) : PE X e t' := ⟨fun pins s σ H Q I q => h.run pins s σ H Q I (i σ H Q q)⟩
theorem PT.weak {X : Cx} {e : Expr} {t t' : TT} (h : PT X e t) (i : ∀ σ H Q, t' σ H Q → t σ H Q) : PT X e t' := ⟨fun pins s σ H Q I q => h.run pins s σ H Q I (i σ H Q q)⟩
theorem PA.weak {X : Cx} {e : List Expr} {t t' : TA} (h : PA X e t) (i : ∀ σ H Q, t' σ H Q → t σ H Q) : PA X e t' := ⟨fun pos pins s σ H Q I q => h.run pos pins s σ H Q I (i σ H Q q)⟩

section
variable {K : PySem.W.Frag} {np : Nat} {He : Hp} {σ σ' σ'' : L2.St} {H H' H'' : Hp} {env env' env'' : DEnv}
/-- the heap grows -/
def Ext (H H' : Hp) : Prop := ∀ b o, H b = some o → H' b = some o
theorem Ext.refl (H : Hp) : Ext H H := fun _ _ h => h
theorem Ext.new {p : Addr} {o : HO} (h : H p = none) : Ext H (upd H p o) := fun b u e => by rw [upd_ne (ne_of_none e h)]; exact e
theorem Ext.kp (h : Ext H H') : Kp H H' := fun b o e _ => h b o e
theorem Ext.dom (h : Ext H H') : ∀ b, H' b = none → H b = none := fun b n => by
  cases q : H b with
  | none => rfl
  | some o => rw [h b o q] at n; cases n
theorem RpV.ext {d : D} {v : V} (x : Ext H H') (h : RpV K H d v) : RpV K H' d v := by
  cases d with
  | lst ds => exact h.kpl x.kp fun a o _ e => x a o e
  | _ => exact h.kp x.kp rfl
theorem SE.ext (R : Rep K np He σ H env) (x : Ext H H') : SE K np He σ H env H' env where
  rep := ⟨R.len, fun i d e => let ⟨v, e1, r⟩ := R.val i d e; ⟨v, e1, r.ext x⟩, R.apart, R.own, fun b n => R.dom b (x.dom b n)⟩
  shape := fun _ => .inl rfl
  keep := fun b o h _ => x b o h
  dom := x.dom

theorem RpRs.keep (R : Rep K np He σ H env) (a : SE K np He σ H env H' env') (b : SE K np He σ H' env' H'' env'') : ∀ {vs : List V} {rl : List RV}, RpRs K σ H H' env' vs rl → RpRs K σ H H'' env'' vs rl
  | [], rl, h => h
  | v :: vs, rl, h => by
    obtain ⟨r, rest, e, h1, h2, tn⟩ := h
    exact ⟨r, rest, e, h1.keep R a b, RpRs.keep R a b h2, tn⟩
/-- a later start -/
theorem RpR.start {v : V} {r : RV} (a : SE K np He σ H env H' env') (h : RpR K σ H' H'' env'' v r) : RpR K σ H H'' env'' v r := by
  cases r with
  | ref i => exact h
  | val d => exact ⟨h.1, fun n c e => a.dom c (h.2 n c e)⟩
theorem RpRs.start (a : SE K np He σ H env H' env') : ∀ {vs : List V} {rl : List RV}, RpRs K σ H' H'' env'' vs rl → RpRs K σ H H'' env'' vs rl
  | [], rl, h => h
  | v :: vs, rl, h => by
    obtain ⟨r, rest, e, h1, h2, tn⟩ := h
    exact ⟨r, rest, e, h1.start a, RpRs.start a h2, tn⟩
theorem RpRs.at : ∀ {vs : List V} {rl : List RV} {j : Nat} {v : V} {r : RV}, RpRs K σ H H' env' vs rl → vs[j]? = some v → rl[j]? = some r → RpR K σ H H' env' v r
  | [], rl, j, v, r, _, e, _ => by simp at e
  | u :: vs, rl, 0, v, r, h, e, e2 => by
    obtain ⟨r', rest, rfl, h1, h2, tn⟩ := h
    simp at e e2
    subst e e2
    exact h1
  | u :: vs, rl, j + 1, v, r, h, e, e2 => by
    obtain ⟨r', rest, rfl, h1, h2, tn⟩ := h
    exact RpRs.at h2 (by simpa using e) (by simpa using e2)
theorem TN.of {σ2 : L2.St} {v : V} {r : RV} {vs : List V} {rl : List RV} (h1 : RpR K σ H H' env' v r) (h2 : RpRs K σ2 H' H'' env'' vs rl) : TN v r vs rl := by
  intro d e il j ys e1 e2
  subst e
  cases d with
  | lst xs =>
    obtain ⟨a, us, rfl, h, _⟩ := h1.1
    have := (RpRs.at h2 e2 e1).2 rfl a rfl
    rw [this] at h
    cases h
  | _ => simp [isL] at il
def RpVs (K : PySem.W.Frag) (H : Hp) : List D → List V → Prop
  | [], vs => vs = []
  | d :: ds, vs => ∃ v r, vs = v :: r ∧ RpV K H d v ∧ RpVs K H ds r
def rsl (env : DEnv) : List RV → (List D → Prop) → Prop
  | [], k => k []
  | r :: rest, k => rs env r fun d => rsl env rest fun ds => k (d :: ds)
theorem RpRs.rs (R : Rep K np He σ H' env') : ∀ {vs : List V} {rl : List RV} {k : List D → Prop}, RpRs K σ H H' env' vs rl → rsl env' rl k → ∃ ds, RpVs K H' ds vs ∧ k ds
  | [], rl, k, h, g => by
    have e : rl = [] := h
    subst e
    exact ⟨[], rfl, g⟩
  | v :: vs, rl, k, h, g => by
    obtain ⟨r, rest, e, h1, h2, tn⟩ := h
    subst e
    obtain ⟨d, hd, g1⟩ := h1.rs R g
    obtain ⟨ds, hds, g2⟩ := RpRs.rs R h2 g1
    exact ⟨d :: ds, ⟨v, vs, rfl, hd, hds⟩, g2⟩
/-- no list among them -/
def immA : List D → Bool
  | [] => true
  | d :: ds => !isL d && immA ds
theorem RpVs.imm : ∀ {ds : List D} {vs : List V}, RpVs K H ds vs → immA ds = true → RpIs K H ds vs
  | [], vs, h, _ => by simp only [RpIs]; exact h
  | d :: ds, vs, h, n => by
    obtain ⟨v, r, e, h1, h2⟩ := h
    simp only [immA, Bool.and_eq_true, Bool.not_eq_true'] at n
    simp only [RpIs]
    exact ⟨v, r, e, h1.imm n.1, RpVs.imm h2 n.2⟩
theorem RpVs.length : ∀ {ds : List D} {vs : List V}, RpVs K H ds vs → ds.length = vs.length
  | [], vs, h => by cases (show vs = [] from h); rfl
  | d :: ds, vs, h => by
    obtain ⟨v, r, rfl, _, h2⟩ := h
    simp only [List.length_cons, RpVs.length h2]
end

section
variable {X : Cx} {np : Nat} {He : Hp} {a b c e : Expr} {es : List Expr} {wa wb wc : W} {ws : WA} {pos : Pos}

/-! ### names, constants -/
def pick (d : D) (a b : Prop) : Prop := match d with
  | .lst _ => a
  | _ => b
def cVar (i : Nat) : W := fun env Q => getv env i fun d => pick d (Q (.ref i) env) (Q (.val d) env)
theorem e_var (i : Nat) {x : Str} (hN : X.N[i]? = some x := by rfl) (hv : Vis X.env.scope x := by first | exact Or.inl rfl | exact Or.inr (Or.inl rfl) | exact Or.inr (Or.inr rfl)) (hd : (x == ("__debug__" : Str)) = false := by decide)
    (hcd : (x == ("__classdict__" : Str)) = false := by decide) : DE X np He (.Name x pos) (cVar i) := by
  refine PE.weak (pe_var hN hv hd hcd) fun σ H Q ⟨env, Q0, R, w, q⟩ => ?_
  obtain ⟨d, e, w⟩ := getv_of w
  obtain ⟨v, e1, r⟩ := R.val i d e
  refine ⟨v, e1, ?_⟩
  cases d with
  | lst ds => exact q (.ref i) env v H w (.refl R) ⟨e1, ds, e⟩
  | _ => exact q (.val _) env v H w (.refl R) ⟨r, fun n => by simp [isL] at n⟩
def cC (d : D) : W := fun env Q => Q (.val d) env
theorem e_int {i : Int} {j : Nat} : DE X np He (.Constant (.int i) j pos) (cC (.int i)) := PE.weak pe_int fun σ H Q ⟨env, Q0, R, w, q⟩ => q _ env _ H w (.refl R) ⟨rfl, fun n => by simp [isL] at n⟩
theorem e_bl {i : Bool} {j : Nat} : DE X np He (.Constant (.bool i) j pos) (cC (.bl i)) := PE.weak pe_bl fun σ H Q ⟨env, Q0, R, w, q⟩ => q _ env _ H w (.refl R) ⟨rfl, fun n => by simp [isL] at n⟩
theorem e_non {j : Nat} : DE X np He (.Constant .none j pos) (cC .non) := PE.weak pe_non fun σ H Q ⟨env, Q0, R, w, q⟩ => q _ env _ H w (.refl R) ⟨rfl, fun n => by simp [isL] at n⟩
theorem e_str {i : Str} {j : Nat} : DE X np He (.Constant (.str i) j pos) (cC (.str i)) := PE.weak pe_str fun σ H Q ⟨env, Q0, R, w, q⟩ => q _ env _ H w (.refl R) ⟨rfl, fun n => by simp [isL] at n⟩
/-! ### two operands -/
abbrev F2 := D → D → (D → Prop) → Prop
def cOp (f : F2) (wa wb : W) : W := fun env Q => wa env fun ra e1 => wb e1 fun rb e2 => rs e2 ra fun x => rs e2 rb fun y => f x y fun z => Q (.val z) e2
def OpD (K : PySem.W.Frag) (r : R2) (f : F2) : Prop := ∀ (H : Hp) (x y : D) (v w : V) (k : D → Prop) (Q : VK), RpV K H x v → RpV K H y w → f x y k →
  (∀ z u H', k z → Ext H H' → RpV K H' z u → (isL z = true → ∀ a, u = .ref a → H a = none) → Q u H') → r v w H Q
theorem two {ta tb : TE} {r : R2} {f : F2} (h : OpD X.K r f) : ∀ σ H Q, rE X.K np He (cOp f wa wb) σ H Q → tOp r (rE X.K np He wa) (rE X.K np He wb) σ H Q := by
  intro σ H Q ⟨env, Q0, R, w, q⟩
  refine ⟨env, _, R, w, fun ra e1 v1 H1 w1 s1 r1 => ⟨e1, _, s1.rep, w1, fun rb e2 v2 H2 w2 s2 r2 => ?_⟩⟩
  have r1' := r1.keep R s1 s2
  have s12 := s1.trans s2
  obtain ⟨x, hx, w2⟩ := r1'.rs s2.rep w2
  obtain ⟨y, hy, w2⟩ := r2.rs s2.rep w2
  refine h H2 x y v1 v2 _ Q hx hy w2 fun z u H' k ex rz fz => ?_
  exact q _ e2 u H' k (s12.trans (.ext s2.rep ex)) ⟨rz, fun n c e => s12.dom c (fz n c e)⟩
theorem e_op {op : Operator} {r : R2} {f : F2} (ho : OpR X (binaryOp op) r) (h : OpD X.K r f) (ha : DE X np He a wa) (hb : DE X np He b wb) : DE X np He (.BinOp a op b pos) (cOp f wa wb) :=
  PE.weak (pe_op ho ha hb) (two (ta := rE X.K np He wa) (tb := rE X.K np He wb) h)
theorem e_cmp {op : CmpOp} {r : R2} {f : F2} (ho : OpR X (compareOp op) r) (h : OpD X.K r f) (ha : DE X np He a wa) (hb : DE X np He b wb) (hm : behindInMarks op b = false) : DE X np He (.Compare a [op] [b] pos) (cOp f wa wb) :=
  PE.weak (pe_cmpR ho ha hb hm) (two (ta := rE X.K np He wa) (tb := rE X.K np He wb) h)
theorem t_cmp {op : CmpOp} {r : R2} {f : F2} (ho : OpR X (compareOp op) r) (h : OpD X.K r f) (ha : DE X np He a wa) (hb : DE X np He b wb) (hm : behindInMarks op b = false) : DT X np He (.Compare a [op] [b] pos) (cOp f wa wb) :=
  PT.weak (pt_cmpR ho ha hb hm) fun σ H Q h' => two (ta := rE X.K np He wa) (tb := rE X.K np He wb) h σ H _ h'
theorem e_ix {r : R2} {f : F2} (hr : IxR X r) (h : OpD X.K r f) (ha : DE X np He a wa) (hb : DE X np He b wb) (hs : PlainIx b := by exact fun _ _ => rfl) : DE X np He (.Subscript a b pos) (cOp f wa wb) :=
  PE.weak (pe_ix hr ha hb hs) (two (ta := rE X.K np He wa) (tb := rE X.K np He wb) h)

/-! ### two ints -/
def fI (g : Int → Int → (D → Prop) → Prop) : F2 := fun x y k => match x, y with
  | .int i, .int j => g i j k
  | _, _ => False
theorem fI_of {g : Int → Int → (D → Prop) → Prop} {x y : D} {k : D → Prop} (h : fI g x y k) : ∃ i j, x = .int i ∧ y = .int j ∧ g i j k := by
  unfold fI at h
  split at h
  · exact ⟨_, _, rfl, rfl, h⟩
  · exact h.elim
theorem opd_I {C : Int → Int → Prop} {g : Int → Int → Int} : OpD X.K (rI C fun i j => .int (g i j)) (fI fun i j k => C i j ∧ k (.int (g i j))) := by
  intro H x y v w k Q rx ry h q
  obtain ⟨i, j, rfl, rfl, hc, h⟩ := fI_of h
  exact ⟨i, j, rx, ry, hc, q _ _ H h (.refl H) rfl (fun n => by simp [isL] at n)⟩
theorem opd_I0 {g : Int → Int → Int} : OpD X.K (rI0 fun i j => .int (g i j)) (fI fun i j k => k (.int (g i j))) := by
  intro H x y v w k Q rx ry h q
  obtain ⟨i, j, rfl, rfl, h⟩ := fI_of h
  exact ⟨i, j, rx, ry, q _ _ H h (.refl H) rfl (fun n => by simp [isL] at n)⟩
theorem opd_B0 {g : Int → Int → Bool} : OpD X.K (rI0 fun i j => .bl (g i j)) (fI fun i j k => k (.bl (g i j))) := by
  intro H x y v w k Q rx ry h q
  obtain ⟨i, j, rfl, rfl, h⟩ := fI_of h
  exact ⟨i, j, rx, ry, q _ _ H h (.refl H) rfl (fun n => by simp [isL] at n)⟩
abbrev fSub : F2 := fI fun i j k => k (.int (i - j))
abbrev fMul : F2 := fI fun i j k => CMul i j ∧ k (.int (i * j))
abbrev fFdiv : F2 := fI fun i j k => CDiv i j ∧ k (.int (i / j))
abbrev fMod : F2 := fI fun i j k => 0 < j ∧ k (.int (i % j))
abbrev fPow : F2 := fI fun i j k => CPow i j ∧ k (.int (i ^ j.toNat))
abbrev fLt : F2 := fI fun i j k => k (.bl (decide (i < j)))
abbrev fLe : F2 := fI fun i j k => k (.bl (decide (i ≤ j)))
abbrev fGt : F2 := fI fun i j k => k (.bl (decide (j < i)))
abbrev fGe : F2 := fI fun i j k => k (.bl (decide (j ≤ i)))
section
variable (ha : DE X np He a wa) (hb : DE X np He b wb)
include ha hb
theorem e_sub : DE X np He (.BinOp a .Sub b pos) (cOp fSub wa wb) := e_op op_sub opd_I0 ha hb
theorem e_mul : DE X np He (.BinOp a .Mult b pos) (cOp fMul wa wb) := e_op op_mul opd_I ha hb
theorem e_fdiv : DE X np He (.BinOp a .FloorDiv b pos) (cOp fFdiv wa wb) := e_op op_fdiv opd_I ha hb
theorem e_mod : DE X np He (.BinOp a .Mod b pos) (cOp fMod wa wb) := e_op op_mod opd_I ha hb
theorem e_pow : DE X np He (.BinOp a .Pow b pos) (cOp fPow wa wb) := e_op op_pow opd_I ha hb
theorem t_lt : DT X np He (.Compare a [.Lt] [b] pos) (cOp fLt wa wb) := t_cmp op_lt opd_B0 ha hb (nomark _)
theorem t_le : DT X np He (.Compare a [.LtE] [b] pos) (cOp fLe wa wb) := t_cmp op_le opd_B0 ha hb (nomark _)
theorem t_gt : DT X np He (.Compare a [.Gt] [b] pos) (cOp fGt wa wb) := t_cmp op_gt opd_B0 ha hb (nomark _)
theorem t_ge : DT X np He (.Compare a [.GtE] [b] pos) (cOp fGe wa wb) := t_cmp op_ge opd_B0 ha hb (nomark _)
end
/-! ### == of scalars -/
def eqS : D → D → Option Bool
  | .non, .non => some true | .non, .int _ => some false | .int _, .non => some false | .non, .bl _ => some false | .bl _, .non => some false | .non, .str _ => some false | .str _, .non => some false
  | .int i, .int j => some (decide (i = j)) | .bl i, .bl j => some (decide (i = j)) | .str i, .str j => some (decide (i = j))
  | .int _, .str _ => some false | .str _, .int _ => some false | .bl _, .str _ => some false | .str _, .bl _ => some false
  | _, _ => none
def fEqS : F2 := fun x y k => match eqS x y with
  | some c => k (.bl c)
  | none => False
def fNeS : F2 := fun x y k => match eqS x y with
  | some c => k (.bl (!c))
  | none => False
theorem eqS_ok {K : PySem.W.Frag} {H : Hp} {x y : D} {v w : V} {c : Bool} (rx : RpV K H x v) (ry : RpV K H y w) (h : eqS x y = some c) : scal v w = true ∧ decide (v = w) = c := by
  cases x <;> cases y <;> first
    | (simp [eqS] at h; done)
    | (cases rx; cases ry; simp only [eqS, Option.some.injEq] at h; subst h; refine ⟨rfl, ?_⟩; simp)
theorem opd_eqS : OpD X.K rEq fEqS := by
  intro H x y v w k Q rx ry h q
  unfold fEqS at h
  split at h
  · rename_i c e
    obtain ⟨h1, h2⟩ := eqS_ok rx ry e
    refine ⟨h1, ?_⟩
    rw [h2]
    exact q _ _ H h (.refl H) rfl (fun n => by simp [isL] at n)
  · exact h.elim
theorem opd_neS : OpD X.K rNe fNeS := by
  intro H x y v w k Q rx ry h q
  unfold fNeS at h
  split at h
  · rename_i c e
    obtain ⟨h1, h2⟩ := eqS_ok rx ry e
    refine ⟨h1, ?_⟩
    rw [h2]
    exact q _ _ H h (.refl H) rfl (fun n => by simp [isL] at n)
  · exact h.elim
theorem e_eqS (ha : DE X np He a wa) (hb : DE X np He b wb) : DE X np He (.Compare a [.Eq] [b] pos) (cOp fEqS wa wb) := e_cmp op_eq opd_eqS ha hb (nomark _)
theorem t_eqS (ha : DE X np He a wa) (hb : DE X np He b wb) : DT X np He (.Compare a [.Eq] [b] pos) (cOp fEqS wa wb) := t_cmp op_eq opd_eqS ha hb (nomark _)
theorem t_neS (ha : DE X np He a wa) (hb : DE X np He b wb) : DT X np He (.Compare a [.NotEq] [b] pos) (cOp fNeS wa wb) := t_cmp op_ne opd_neS ha hb (nomark _)

/-! ### subscripts -/
def seqD : D → Option (List D)
  | .tup ds => some ds
  | .lst ds => some ds
  | .rol ds => some ds
  | .tpd ds => some ds
  | _ => none
theorem RpV.seq {K : PySem.W.Frag} {H : Hp} {d : D} {v : V} {ds : List D} (h : RpV K H d v) (e : seqD d = some ds) : ∃ a vs, v = .ref a ∧ (SqL K H a vs ∨ SqT K H a vs) ∧ RpIs K H ds vs := by
  cases d with
  | tup es =>
    simp only [seqD, Option.some.injEq] at e
    subst e
    obtain ⟨a, vs, e1, s, r⟩ := (show ∃ a vs, v = .ref a ∧ H a = some (.tup vs) ∧ RpIs K H es vs by simpa only [RpV, RpI] using h)
    exact ⟨a, vs, e1, .inr (.of s), r⟩
  | tpd es =>
    simp only [seqD, Option.some.injEq] at e
    subst e
    obtain ⟨a, vs, e1, s, r⟩ := (show ∃ a vs, v = .ref a ∧ TpK K H a vs ∧ RpIs K H es vs by simpa only [RpV, RpI] using h)
    exact ⟨a, vs, e1, .inr s.t, r⟩
  | rol es =>
    simp only [seqD, Option.some.injEq] at e
    subst e
    obtain ⟨a, vs, e1, s, r⟩ := (show ∃ a vs, v = .ref a ∧ SqR K H a vs ∧ RpIs K H es vs by simpa only [RpV, RpI] using h)
    exact ⟨a, vs, e1, .inl s.seq, r⟩
  | lst es =>
    simp only [seqD, Option.some.injEq] at e
    subst e
    obtain ⟨a, vs, e1, s, r⟩ := h
    exact ⟨a, vs, e1, .inl (.of s), r⟩
  | _ => simp [seqD] at e
def fIx : F2 := fun x y k => match seqD x, y with
  | some ds, .int i => (match atI ds i with
    | some d => k d
    | none => False)
  | _, _ => False
theorem atI_rp {K : PySem.W.Frag} {H : Hp} {ds : List D} {vs : List V} {i : Int} {d : D} (r : RpIs K H ds vs) (h : atI ds i = some d) : ∃ v, atI vs i = some v ∧ RpI K H d v := by
  unfold atI at h ⊢
  rw [← r.length]
  cases q : ixN ds.length i with
  | none => rw [q] at h; cases h
  | some j =>
    rw [q] at h
    exact r.get h
theorem opd_ix : OpD X.K (rIx X.K) fIx := by
  intro H x y v w k Q rx ry h q
  unfold fIx at h
  split at h
  · rename_i ds i e1
    split at h
    · rename_i d e2
      obtain ⟨a, vs, rfl, s, r⟩ := rx.seq e1
      obtain ⟨u, e3, ru⟩ := atI_rp r e2
      have hi : isL d = false := by
        cases d <;> first | rfl | (simp only [RpI] at ru)
      rcases s with s | s
      · exact .inl ⟨a, vs, i, u, rfl, ry, s, e3, q d u H h (.refl H) (.of ru) (fun n => by rw [hi] at n; cases n)⟩
      · exact .inr (.inl ⟨a, vs, i, u, rfl, ry, s, e3, q d u H h (.refl H) (.of ru) (fun n => by rw [hi] at n; cases n)⟩)
    · exact h.elim
  · exact h.elim
theorem e_ixs (ha : DE X np He a wa) (hb : DE X np He b wb) (hs : PlainIx b := by exact fun _ _ => rfl) : DE X np He (.Subscript a b pos) (cOp fIx wa wb) := e_ix ix_seq opd_ix ha hb hs

/-! ### one operand -/
abbrev F1 := D → (D → Prop) → Prop
def cUn (f : F1) (wa : W) : W := fun env Q => wa env fun ra e1 => rs e1 ra fun x => f x fun z => Q (.val z) e1
def fNeg : F1 := fun x k => match x with
  | .int i => k (.int (-i))
  | _ => False
def fNot : F1 := fun x k => match x with
  | .bl c => k (.bl (!c))
  | _ => False
def isN : D → Bool
  | .non => true
  | _ => false
def fIsN (neg : Bool) : F1 := fun x k => k (.bl (if neg = true then !isN x else isN x))
theorem e_neg (ha : DE X np He a wa) : DE X np He (.UnaryOp .USub a pos) (cUn fNeg wa) := by
  refine PE.weak (pe_un un_neg ha) fun σ H Q ⟨env, Q0, R, w, q⟩ => ⟨env, _, R, w, fun ra e1 v1 H1 w1 s1 r1 => ?_⟩
  obtain ⟨x, hx, w1⟩ := r1.rs s1.rep w1
  cases x <;> first | exact False.elim w1 | skip
  exact ⟨_, hx, q _ e1 _ H1 w1 s1 ⟨rfl, fun n => by simp [isL] at n⟩⟩
theorem t_not (ha : DT X np He a wa) : DT X np He (.UnaryOp .Not a pos) (cUn fNot wa) := by
  refine PT.weak (pt_not ha) fun σ H Q ⟨env, Q0, R, w, q⟩ => ⟨env, _, R, w, fun ra e1 v1 H1 w1 s1 r1 => ?_⟩
  obtain ⟨x, hx, w1⟩ := r1.rs s1.rep w1
  cases x with
  | bl c =>
    cases hx
    obtain ⟨c', e', q'⟩ := q (.val (.bl (!c))) e1 _ H1 w1 s1 ⟨rfl, fun n => by simp [isL] at n⟩
    cases e'
    exact ⟨c, rfl, q'⟩
  | _ => exact False.elim w1
theorem RpV.non_iff {K : PySem.W.Frag} {H : Hp} {d : D} {v : V} (h : RpV K H d v) : decide (v = .non) = isN d := by
  cases d with
  | non => cases h; rfl
  | bl _ => cases h; rfl
  | int _ => cases h; rfl
  | str _ => cases h; rfl
  | tup _ => simp only [RpV, RpI] at h; obtain ⟨a, _, rfl, _⟩ := h; rfl
  | rol _ => simp only [RpV, RpI] at h; obtain ⟨a, _, rfl, _⟩ := h; rfl
  | tpd _ => simp only [RpV, RpI] at h; obtain ⟨a, _, rfl, _⟩ := h; rfl
  | rod _ _ => simp only [RpV, RpI] at h; obtain ⟨a, _, rfl, _⟩ := h; rfl
  | rdk _ _ => simp only [RpV, RpI] at h; obtain ⟨a, _, rfl, _⟩ := h; rfl
  | obj _ _ => simp only [RpV, RpI] at h; obtain ⟨a, _, _, _, rfl, _⟩ := h; rfl
  | lst _ => obtain ⟨a, _, rfl, _⟩ := h; rfl
theorem isN_core (neg : Bool) : ∀ σ H Q, rE X.K np He (cUn (fIsN neg) wa) σ H Q → rE X.K np He wa σ H fun x H1 => Q (.bl (if neg = true then !decide (x = .non) else decide (x = .non))) H1 := by
  intro σ H Q ⟨env, Q0, R, w, q⟩
  refine ⟨env, _, R, w, fun ra e1 v1 H1 w1 s1 r1 => ?_⟩
  obtain ⟨x, hx, w1⟩ := r1.rs s1.rep w1
  rw [hx.non_iff]
  exact q (.val (.bl (if neg = true then !isN x else isN x))) e1 _ H1 w1 s1 ⟨rfl, fun n => by simp [isL] at n⟩
theorem e_isN {j : Nat} {pos' : Pos} (ha : DE X np He a wa) : DE X np He (.Compare a [.Is] [.Constant .none j pos'] pos) (cUn (fIsN false) wa) :=
  PE.weak (pe_cmp (pc_isN ha)) fun σ H Q h => isN_core false σ H _ h
theorem t_isN {j : Nat} {pos' : Pos} (ha : DE X np He a wa) : DT X np He (.Compare a [.Is] [.Constant .none j pos'] pos) (cUn (fIsN false) wa) :=
  PT.weak (pt_cmp (pc_isN ha)) fun σ H Q h => isN_core false σ H _ h
theorem t_notN {j : Nat} {pos' : Pos} (ha : DE X np He a wa) : DT X np He (.Compare a [.IsNot] [.Constant .none j pos'] pos) (cUn (fIsN true) wa) :=
  PT.weak (pt_cmp (pc_notN ha)) fun σ H Q h => isN_core true σ H _ h
/-- any value that is a bool, as a test -/
theorem t_val (h : DE X np He e wa) (he : ∀ whole, isTrue e X.env whole = (do let v ← whole; standAt e.pos; holding [v] (truthy v)) := by intro _; rfl) : DT X np He e wa := pt_val h he

/-! ### and, or, if -/
inductive ifb : D → Prop → Prop → Prop where
  | t {a b : Prop} (h : a) : ifb (.bl true) a b
  | f {a b : Prop} (h : b) : ifb (.bl false) a b
def cAnd (wa wb : W) : W := fun env Q => wa env fun ra e1 => rs e1 ra fun x => ifb x (wb e1 Q) (Q (.val (.bl false)) e1)
def cOr (wa wb : W) : W := fun env Q => wa env fun ra e1 => rs e1 ra fun x => ifb x (Q (.val (.bl true)) e1) (wb e1 Q)
def cIf (wc wa wb : W) : W := fun env Q => wc env fun rc e1 => rs e1 rc fun x => ifb x (wa e1 Q) (wb e1 Q)
theorem ifb_of {d : D} {A B : Prop} (h : ifb d A B) : (d = .bl true ∧ A) ∨ (d = .bl false ∧ B) := by
  cases h with
  | t h => exact .inl ⟨rfl, h⟩
  | f h => exact .inr ⟨rfl, h⟩
theorem rE.next {σ : L2.St} {H H1 : Hp} {env e1 : DEnv} {Q : VK} {Q0 : RV → DEnv → Prop} (s1 : SE X.K np He σ H env H1 e1) (w : wb e1 Q0)
    (q : ∀ r env' v H', Q0 r env' → SE X.K np He σ H env H' env' → RpR X.K σ H H' env' v r → Q v H') : rE X.K np He wb σ H1 Q :=
  ⟨e1, Q0, s1.rep, w, fun r env' v H' g s2 r2 => q r env' v H' g (s1.trans s2) (r2.start s1)⟩
abbrev DW (X : Cx) (np : Nat) (He : Hp) (e : Expr) (w : W) : Prop := PW X e (tB (rE X.K np He w))
theorem w_and1 (ha : DT X np He a wa) : DW X np He (.BoolOp .And [a] pos) wa := pw_and1 ha
theorem w_or1 (ha : DT X np He a wa) : DW X np He (.BoolOp .Or [a] pos) wa := pw_or1 ha
theorem PW.weak {e : Expr} {t t' : TT} (h : PW X e t) (i : ∀ σ H Q, t' σ H Q → t σ H Q) : PW X e t' := ⟨fun wh pins s σ H Q I q => h.run wh pins s σ H Q I (i σ H Q q)⟩
theorem w_and {rest : List Expr} (ha : DT X np He a wa) (hb : DW X np He (.BoolOp .And (b :: rest) pos) wb) : DW X np He (.BoolOp .And (a :: b :: rest) pos) (cAnd wa wb) := by
  refine DL.PW.weak (pw_and ha hb) fun σ H Q ⟨env, Q0, R, w, q⟩ => ⟨env, _, R, w, fun ra e1 v1 H1 w1 s1 r1 => ?_⟩
  obtain ⟨x, hx, w1⟩ := r1.rs s1.rep w1
  have w1z := ifb_of w1; clear w1; rcases w1z with ⟨rfl, w1⟩ | ⟨rfl, w1⟩
  · exact ⟨true, hx, rE.next s1 w1 q⟩
  · refine ⟨false, hx, ?_⟩
    obtain ⟨c, e, q'⟩ := q _ e1 (.bl false) H1 w1 s1 ⟨rfl, fun n => by simp [isL] at n⟩
    cases e
    exact q'
theorem w_or {rest : List Expr} (ha : DT X np He a wa) (hb : DW X np He (.BoolOp .Or (b :: rest) pos) wb) : DW X np He (.BoolOp .Or (a :: b :: rest) pos) (cOr wa wb) := by
  refine DL.PW.weak (pw_or ha hb) fun σ H Q ⟨env, Q0, R, w, q⟩ => ⟨env, _, R, w, fun ra e1 v1 H1 w1 s1 r1 => ?_⟩
  obtain ⟨x, hx, w1⟩ := r1.rs s1.rep w1
  have w1z := ifb_of w1; clear w1; rcases w1z with ⟨rfl, w1⟩ | ⟨rfl, w1⟩
  · refine ⟨true, hx, ?_⟩
    obtain ⟨c, e, q'⟩ := q _ e1 (.bl true) H1 w1 s1 ⟨rfl, fun n => by simp [isL] at n⟩
    cases e
    exact q'
  · exact ⟨false, hx, rE.next s1 w1 q⟩
theorem t_bop (h : DW X np He e wa) : DT X np He e wa := h.pt
theorem e_ifx (hc : DT X np He c wc) (ha : DE X np He a wa) (hb : DE X np He b wb) : DE X np He (.IfExp c a b pos) (cIf wc wa wb) := by
  refine PE.weak (pe_ifExp hc ha hb) fun σ H Q ⟨env, Q0, R, w, q⟩ => ⟨env, _, R, w, fun ra e1 v1 H1 w1 s1 r1 => ?_⟩
  obtain ⟨x, hx, w1⟩ := r1.rs s1.rep w1
  have w1z := ifb_of w1; clear w1; rcases w1z with ⟨rfl, w1⟩ | ⟨rfl, w1⟩
  · exact ⟨true, hx, rE.next s1 w1 q⟩
  · exact ⟨false, hx, rE.next s1 w1 q⟩
/-! ### arguments, displays -/
def cNil : WA := fun env Q => Q [] env
def cCons (wa : W) (ws : WA) : WA := fun env Q => wa env fun r e1 => ws e1 fun rl e2 => Q (r :: rl) e2
theorem a_nil : DA X np He [] cNil := PA.weak pa_nil fun σ H Q ⟨env, Q0, R, w, q⟩ => q [] env [] H w (.refl R) rfl
theorem a_cons (ha : DE X np He a wa) (hr : DA X np He es ws) (hs : starEach (a :: es) X.env = (false, eval a X.env) :: starEach es X.env := by rfl) : DA X np He (a :: es) (cCons wa ws) := by
  refine PA.weak (pa_cons ha hr hs) fun σ H Q ⟨env, Q0, R, w, q⟩ => ⟨env, _, R, w, fun r e1 v1 H1 w1 s1 r1 => ⟨e1, _, s1.rep, w1, fun rl e2 vs H2 w2 s2 r2 => ?_⟩⟩
  exact q (r :: rl) e2 (v1 :: vs) H2 w2 (s1.trans s2) ⟨r, rl, rfl, r1.keep R s1 s2, r2.start s1, .of r1 r2⟩
theorem line_of {n : Nat} (h : n ≤ 1000000) : n ≤ sizeLine := Nat.le_trans h (by rw [sizeLine_eq]; decide)
def cTup (ws : WA) : W := fun env Q => ws env fun rl e1 => rsl e1 rl fun ds => immA ds = true ∧ ds.length ≤ 1000000 ∧ Q (.val (.tup ds)) e1
def cLst (ws : WA) : W := fun env Q => ws env fun rl e1 => rsl e1 rl fun ds => immA ds = true ∧ ds.length ≤ 1000000 ∧ Q (.val (.lst ds)) e1
theorem e_tup {k : Nat} (h : DA X np He es ws) : DE X np He (.Tuple es k pos) (cTup ws) := by
  refine PE.weak (pe_tup h) fun σ H Q ⟨env, Q0, R, w, q⟩ => ⟨env, _, R, w, fun rl e1 vs H1 w1 s1 r1 => ?_⟩
  obtain ⟨ds, hd, im, sz, w1⟩ := r1.rs s1.rep w1
  refine ⟨by rw [← hd.length]; exact line_of sz, fun p np' => ?_⟩
  have ex : Ext H1 (upd H1 p (.tup vs)) := .new np'
  refine q _ e1 _ _ w1 (s1.trans (.ext s1.rep ex)) ⟨?_, fun n => by simp [isL] at n⟩
  show RpI _ _ _ _
  simp only [RpI]
  exact ⟨p, vs, rfl, upd_same, RpIs.kp ex.kp ds vs (hd.imm im)⟩
theorem e_lst (h : DA X np He es ws) : DE X np He (.List es pos) (cLst ws) := by
  refine PE.weak (pe_lst h) fun σ H Q ⟨env, Q0, R, w, q⟩ => ⟨env, _, R, w, fun rl e1 vs H1 w1 s1 r1 => ?_⟩
  obtain ⟨ds, hd, im, sz, w1⟩ := r1.rs s1.rep w1
  refine ⟨by rw [← hd.length]; exact line_of sz, fun p np' => ?_⟩
  have ex : Ext H1 (upd H1 p (.lst vs)) := .new np'
  refine q _ e1 _ _ w1 (s1.trans (.ext s1.rep ex)) ⟨⟨p, vs, rfl, upd_same, RpIs.kp ex.kp ds vs (hd.imm im)⟩, fun _ c e => ?_⟩
  cases e
  exact s1.dom p np'

/-! ### calls of what is built in -/
abbrev FA := List D → (D → Prop) → Prop
def CaD (K : PySem.W.Frag) (r : List V → Hp → VK → Prop) (f : FA) : Prop := ∀ (H : Hp) (ds : List D) (vs : List V) (k : D → Prop) (Q : VK), RpVs K H ds vs → f ds k →
  (∀ z u H', k z → Ext H H' → RpV K H' z u → (isL z = true → ∀ a, u = .ref a → H a = none) → Q u H') → r vs H Q
def cBi (f : FA) (ws : WA) : W := fun env Q => ws env fun rl e1 => rsl e1 rl fun ds => f ds fun z => Q (.val z) e1
theorem bi_core {r : List V → Hp → VK → Prop} {f : FA} (h : CaD X.K r f) : ∀ σ H Q, rE X.K np He (cBi f ws) σ H Q → tCB r (rA X.K np He ws) σ H Q := by
  intro σ H Q ⟨env, Q0, R, w, q⟩
  refine ⟨env, _, R, w, fun rl e1 vs H1 w1 s1 r1 => ?_⟩
  obtain ⟨ds, hd, w1⟩ := r1.rs s1.rep w1
  refine h H1 ds vs _ Q hd w1 fun z u H' k ex rz fz => ?_
  exact q _ e1 u H' k (s1.trans (.ext s1.rep ex)) ⟨rz, fun n c e => s1.dom c (fz n c e)⟩
theorem e_bi {id : String} {r : List V → Hp → VK → Prop} {f : FA} {x : Str} {p : Pos} (hc : CallR X (.builtin id) r) (h : CaD X.K r f) (hm : X.mg x = none) (hv : bootBuiltins x = some (.builtin id)) (ha : DA X np He (a :: es) ws) (hg : Gl X x := by rfl)
    (hn : x ≠ "__name__" := by decide) (hdb : (x == ("__debug__" : Str)) = false := by decide) (he : starEach (a :: es) X.env = (false, eval a X.env) :: starEach es X.env := by rfl) (hpl : (backTo pos (starEach es X.env)).any (·.1) = false := by rfl) :
    DE X np He (.Call (.Name x p) (a :: es) [] pos) (cBi f ws) := PE.weak (pe_callB hc hg hm hv ha hn hdb he hpl) (bi_core h)
theorem e_ty {T : String} {r : List V → Hp → VK → Prop} {f : FA} {x : Str} {p : Pos} (hc : CallR X (.type T) r) (h : CaD X.K r f) (hm : X.mg x = none) (hv : bootBuiltins x = some (.type T)) (ha : DA X np He (a :: es) ws) (hg : Gl X x := by rfl)
    (hn : x ≠ "__name__" := by decide) (hdb : (x == ("__debug__" : Str)) = false := by decide) (he : starEach (a :: es) X.env = (false, eval a X.env) :: starEach es X.env := by rfl) (hpl : (backTo pos (starEach es X.env)).any (·.1) = false := by rfl) :
    DE X np He (.Call (.Name x p) (a :: es) [] pos) (cBi f ws) := PE.weak (pe_callTy hc hg hm hv ha hn hdb he hpl) (bi_core h)
theorem RpVs.one {K : PySem.W.Frag} {H : Hp} {d : D} {vs : List V} (h : RpVs K H [d] vs) : ∃ v, vs = [v] ∧ RpV K H d v := by
  obtain ⟨v, r, rfl, h1, h2⟩ := h
  cases (show r = [] from h2)
  exact ⟨v, rfl, h1⟩
theorem RpVs.two {K : PySem.W.Frag} {H : Hp} {d e : D} {vs : List V} (h : RpVs K H [d, e] vs) : ∃ v w, vs = [v, w] ∧ RpV K H d v ∧ RpV K H e w := by
  obtain ⟨v, r, rfl, h1, h2⟩ := h
  obtain ⟨w, rfl, h3⟩ := RpVs.one h2
  exact ⟨v, w, rfl, h1, h3⟩
end
end DL

namespace DL
open PySem PySem.Spec PyProof.Rows L2
section
variable {X : Cx} {np : Nat} {He : Hp} {a b c e : Expr} {es : List Expr} {wa wb wc : W} {ws : WA} {pos : Pos}

/-! ### built-ins -/
def on1 (f : D → (D → Prop) → Prop) : FA := fun ds k => match ds with
  | [d] => f d k
  | _ => False
theorem on1_of {f : D → (D → Prop) → Prop} {ds : List D} {k : D → Prop} (h : on1 f ds k) : ∃ d, ds = [d] ∧ f d k := by
  unfold on1 at h
  split at h
  · exact ⟨_, rfl, h⟩
  · exact h.elim
def onS (f : List D → (D → Prop) → Prop) : FA := on1 fun d k => match seqD d with
  | some xs => f xs k
  | none => False
theorem onS_of {f : List D → (D → Prop) → Prop} {ds : List D} {k : D → Prop} (h : onS f ds k) : ∃ d xs, ds = [d] ∧ seqD d = some xs ∧ f xs k := by
  obtain ⟨d, e, g⟩ := on1_of h
  split at g
  · exact ⟨d, _, e, by assumption, g⟩
  · exact g.elim
def on2I (f : Int → Int → (D → Prop) → Prop) : FA := fun ds k => match ds with
  | [.int i, .int j] => f i j k
  | _ => False
theorem on2I_of {f : Int → Int → (D → Prop) → Prop} {ds : List D} {k : D → Prop} (h : on2I f ds k) : ∃ i j, ds = [.int i, .int j] ∧ f i j k := by
  unfold on2I at h
  split at h
  · exact ⟨_, _, rfl, h⟩
  · exact h.elim
def fLen : FA := onS fun xs k => k (.int xs.length)
theorem cad_len : CaD X.K (fun xs H Q => ∃ p ys, xs = [.ref p] ∧ (SqL X.K H p ys ∨ SqT X.K H p ys) ∧ Q (.int ys.length) H) fLen := by
  intro H ds vs k Q r h q
  obtain ⟨d, xs, rfl, e, h⟩ := onS_of h
  obtain ⟨v, rfl, rv⟩ := r.one
  obtain ⟨p, us, rfl, s, ru⟩ := rv.seq e
  exact ⟨p, us, rfl, s, by rw [← ru.length]; exact q _ _ H h (.refl H) rfl (fun n => by simp [isL] at n)⟩
theorem e_len {p : Pos} (hm : X.mg "len" = none) (ha : DE X np He a wa) (hg : Gl X "len" := by rfl) (he : starEach [a] X.env = (false, eval a X.env) :: starEach [] X.env := by rfl) :
    DE X np He (.Call (.Name "len" p) [a] [] pos) (cBi fLen (cCons wa cNil)) := e_bi call_len_seq cad_len hm PySem.boot_len (a_cons ha a_nil he) hg (he := he)
def fInt : FA := on1 fun d k => match d with
  | .int i => k (.int i)
  | .bl c => k (.int (if c then 1 else 0))
  | _ => False
theorem e_int1 {p : Pos} (hm : X.mg "int" = none) (ha : DE X np He a wa) (hg : Gl X "int" := by rfl) (he : starEach [a] X.env = (false, eval a X.env) :: starEach [] X.env := by rfl) :
    DE X np He (.Call (.Name "int" p) [a] [] pos) (cBi fInt (cCons wa cNil)) := by
  refine e_ty call_int1 ?_ hm (by decide +kernel) (a_cons ha a_nil he) hg (he := he)
  intro H ds vs k Q r h q
  obtain ⟨d, rfl, h⟩ := on1_of h
  obtain ⟨v, rfl, rv⟩ := r.one
  cases d <;> first | exact h.elim | skip
  · cases rv
    exact .inr ⟨_, rfl, q _ _ H h (.refl H) rfl (fun n => by simp [isL] at n)⟩
  · cases rv
    exact .inl ⟨_, rfl, q _ _ H h (.refl H) rfl (fun n => by simp [isL] at n)⟩
def fAbs : FA := on1 fun d k => match d with
  | .int i => k (.int (if i < 0 then -i else i))
  | _ => False
theorem e_abs {p : Pos} (hm : X.mg "abs" = none) (ha : DE X np He a wa) (hg : Gl X "abs" := by rfl) (he : starEach [a] X.env = (false, eval a X.env) :: starEach [] X.env := by rfl) :
    DE X np He (.Call (.Name "abs" p) [a] [] pos) (cBi fAbs (cCons wa cNil)) := by
  refine e_bi call_abs ?_ hm (by decide +kernel) (a_cons ha a_nil he) hg (he := he)
  intro H ds vs k Q r h q
  obtain ⟨d, rfl, h⟩ := on1_of h
  obtain ⟨v, rfl, rv⟩ := r.one
  cases d <;> first | exact h.elim | skip
  cases rv
  exact ⟨_, rfl, q _ _ H h (.refl H) rfl (fun n => by simp [isL] at n)⟩
def fMax : FA := on2I fun i j k => k (.int (if j > i then j else i))
def fMin : FA := on2I fun i j k => k (.int (if j < i then j else i))
theorem e_max {p : Pos} (hc : X.calm = true) (hm : X.mg "max" = none) (ha : DE X np He a wa) (hb : DE X np He b wb) (hg : Gl X "max" := by rfl) (he : starEach [a, b] X.env = (false, eval a X.env) :: starEach [b] X.env := by rfl) (he2 : starEach [b] X.env = (false, eval b X.env) :: starEach [] X.env := by rfl) (hpl : (backTo pos (starEach [b] X.env)).any (·.1) = false := by rfl) :
    DE X np He (.Call (.Name "max" p) [a, b] [] pos) (cBi fMax (cCons wa (cCons wb cNil))) := by
  refine e_bi (call_max2 hc) ?_ hm (by decide +kernel) (a_cons ha (a_cons hb a_nil he2) he) hg (he := he) (hpl := hpl)
  intro H ds vs k Q r h q
  obtain ⟨i, j, rfl, h⟩ := on2I_of h
  obtain ⟨v, w, rfl, rv, rw'⟩ := r.two
  cases rv; cases rw'
  exact ⟨i, j, rfl, q _ _ H h (.refl H) rfl (fun n => by simp [isL] at n)⟩
theorem e_min {p : Pos} (hc : X.calm = true) (hm : X.mg "min" = none) (ha : DE X np He a wa) (hb : DE X np He b wb) (hg : Gl X "min" := by rfl) (he : starEach [a, b] X.env = (false, eval a X.env) :: starEach [b] X.env := by rfl) (he2 : starEach [b] X.env = (false, eval b X.env) :: starEach [] X.env := by rfl) (hpl : (backTo pos (starEach [b] X.env)).any (·.1) = false := by rfl) :
    DE X np He (.Call (.Name "min" p) [a, b] [] pos) (cBi fMin (cCons wa (cCons wb cNil))) := by
  refine e_bi (call_min2 hc) ?_ hm (by decide +kernel) (a_cons ha (a_cons hb a_nil he2) he) hg (he := he) (hpl := hpl)
  intro H ds vs k Q r h q
  obtain ⟨i, j, rfl, h⟩ := on2I_of h
  obtain ⟨v, w, rfl, rv, rw'⟩ := r.two
  cases rv; cases rw'
  exact ⟨i, j, rfl, q _ _ H h (.refl H) rfl (fun n => by simp [isL] at n)⟩
def fList : FA := onS fun xs k => k (.lst xs)
def fTuple : FA := on1 fun d k => match d with
  | .tpd xs => k (.tpd xs)
  | .tup xs => k (.tup xs)
  | .lst xs => k (.tup xs)
  | .rol xs => k (.tup xs)
  | _ => False
theorem e_list {p : Pos} (hm : X.mg "list" = none) (ha : DE X np He a wa) (hg : Gl X "list" := by rfl) (he : starEach [a] X.env = (false, eval a X.env) :: starEach [] X.env := by rfl) :
    DE X np He (.Call (.Name "list" p) [a] [] pos) (cBi fList (cCons wa cNil)) := by
  refine e_ty call_list_of ?_ hm (by decide +kernel) (a_cons ha a_nil he) hg (he := he)
  intro H ds vs k Q r h q
  obtain ⟨d, xs, rfl, e, h⟩ := onS_of h
  obtain ⟨v, rfl, rv⟩ := r.one
  obtain ⟨p, us, rfl, s, ru⟩ := rv.seq e
  refine ⟨p, us, rfl, s, fun l nl => q _ _ _ h (.new nl) ⟨l, us, rfl, upd_same, RpIs.kp (Ext.new nl).kp xs us ru⟩ (fun _ a e => ?_)⟩
  cases e
  exact nl
theorem e_tuple {p : Pos} (hm : X.mg "tuple" = none) (ha : DE X np He a wa) (hg : Gl X "tuple" := by rfl) (he : starEach [a] X.env = (false, eval a X.env) :: starEach [] X.env := by rfl) :
    DE X np He (.Call (.Name "tuple" p) [a] [] pos) (cBi fTuple (cCons wa cNil)) := by
  refine e_ty call_tuple_of ?_ hm (by decide +kernel) (a_cons ha a_nil he) hg (he := he)
  intro H ds vs k Q r h q
  obtain ⟨d, rfl, h⟩ := on1_of h
  obtain ⟨v, rfl, rv⟩ := r.one
  have lst : ∀ {p : Addr} {us : List V} {xs : List D}, SqL X.K H p us → RpIs X.K H xs us → k (.tup xs) → ∃ (p' : Addr) (us' : List V), [V.ref p] = [.ref p'] ∧ ((SqL X.K H p' us' ∧ ∀ l, H l = none → Q (.ref l) (upd H l (.tup us'))) ∨ (SqT X.K H p' us' ∧ Q (.ref p') H)) := by
    intro p us xs s ru h
    refine ⟨p, us, rfl, .inl ⟨s, fun l nl => q _ _ _ h (.new nl) ?_ (fun n => by simp [isL] at n)⟩⟩
    show RpI _ _ _ _
    simp only [RpI]
    exact ⟨l, us, rfl, upd_same, RpIs.kp (Ext.new nl).kp xs us ru⟩
  cases d with
  | lst xs =>
    obtain ⟨p, us, rfl, s, ru⟩ := rv
    exact lst (.of s) ru h
  | rol xs =>
    obtain ⟨p, us, rfl, s, ru⟩ := (show ∃ a vs, v = .ref a ∧ SqR X.K H a vs ∧ RpIs X.K H xs vs by simpa only [RpV, RpI] using rv)
    exact lst s.seq ru h
  | tup xs =>
    obtain ⟨p, us, rfl, s, ru⟩ := (show ∃ a vs, v = .ref a ∧ H a = some (.tup vs) ∧ RpIs X.K H xs vs by simpa only [RpV, RpI] using rv)
    exact ⟨p, us, rfl, .inr ⟨.of s, q _ _ H h (.refl H) rv (fun n => by simp [isL] at n)⟩⟩
  | tpd xs =>
    obtain ⟨p, us, rfl, s, ru⟩ := (show ∃ a vs, v = .ref a ∧ TpK X.K H a vs ∧ RpIs X.K H xs vs by simpa only [RpV, RpI] using rv)
    exact ⟨p, us, rfl, .inr ⟨s.t, q _ _ H h (.refl H) rv (fun n => by simp [isL] at n)⟩⟩
  | _ => exact h.elim
/-- the ints, the bools of a list -/
def intsD : List D → Option (List Int)
  | [] => some []
  | .int i :: r => (intsD r).map (i :: ·)
  | _ => none
theorem intsD_ok {K : PySem.W.Frag} {H : Hp} : ∀ {ds : List D} {vs : List V} {ns : List Int}, RpIs K H ds vs → intsD ds = some ns → vs = ns.map V.int
  | [], vs, ns, r, h => by
    simp only [RpIs] at r
    simp only [intsD, Option.some.injEq] at h
    subst r h
    rfl
  | d :: ds, vs, ns, r, h => by
    cases d <;> first | (simp only [intsD] at h; cases h; done) | skip
    simp only [RpIs, RpI] at r
    obtain ⟨v, r', rfl, rfl, h2⟩ := r
    simp only [intsD, Option.map_eq_some_iff] at h
    obtain ⟨ms, e, rfl⟩ := h
    rw [List.map_cons, intsD_ok h2 e]
theorem intsD_map (ns : List Int) : intsD (ns.map D.int) = some ns := by
  induction ns with
  | nil => rfl
  | cons n r ih => simp [intsD, ih]
/-- a list only -/
def onL (f : List D → (D → Prop) → Prop) : FA := on1 fun d k => match d with
  | .lst xs => f xs k
  | _ => False
theorem onL_of {f : List D → (D → Prop) → Prop} {ds : List D} {k : D → Prop} (h : onL f ds k) : ∃ xs, ds = [.lst xs] ∧ f xs k := by
  obtain ⟨d, e, g⟩ := on1_of h
  split at g
  · exact ⟨_, e, g⟩
  · exact g.elim
/-! ### isinstance -/
def tyN : D → String
  | .non => "NoneType" | .bl _ => "bool" | .int _ => "int" | .str _ => "str" | .tup _ => "tuple" | .lst _ => "list" | .rol _ => "list" | .tpd _ => "tuple" | .rod _ _ => "dict" | .rdk _ _ => "dict" | .obj _ _ => "object"
def isRod : D → Bool
  | .rod _ _ => true
  | .rdk _ _ => true
  | .obj _ _ => true
  | _ => false
theorem tyN_ok {K : PySem.W.Frag} {H : Hp} {d : D} {v : V} (h : RpV K H d v) (nr : isRod d = false) : TyX K H v (.type (tyN d)) := by
  cases d with
  | non => cases h; exact .base .non
  | bl b => cases h; exact .base (.bl b)
  | int b => cases h; exact .base (.int b)
  | str b => cases h; exact .base (.str b)
  | lst ds => obtain ⟨a, vs, rfl, e, _⟩ := h; exact .base (.lst e)
  | rol ds =>
    obtain ⟨a, vs, rfl, s, _⟩ := (show ∃ a vs, v = .ref a ∧ SqR K H a vs ∧ RpIs K H ds vs by simpa only [RpV, RpI] using h)
    rcases s with ⟨o, s⟩ | ⟨o, its, n, s, c, _⟩
    · exact .base (.frz s)
    · exact .kList s c
  | tup ds =>
    obtain ⟨a, vs, rfl, s, _⟩ := (show ∃ a vs, v = .ref a ∧ H a = some (.tup vs) ∧ RpIs K H ds vs by simpa only [RpV, RpI] using h)
    exact .base (.tup s)
  | tpd ds =>
    obtain ⟨a, vs, rfl, s, _⟩ := (show ∃ a vs, v = .ref a ∧ TpK K H a vs ∧ RpIs K H ds vs by simpa only [RpV, RpI] using h)
    rcases s with ⟨o, s, _⟩ | ⟨o, its, n, s, c, _⟩
    · exact .fTuple s
    · exact .kTuple s c
  | rod ks ds => simp [isRod] at nr
  | rdk ks ds => simp [isRod] at nr
  | obj n ds => simp [isRod] at nr
inductive Ty5 where
  | tuple | list | bool | int | str
def Ty5.nm : Ty5 → String
  | .tuple => "tuple" | .list => "list" | .bool => "bool" | .int => "int" | .str => "str"
def isT : D → Ty5 → Bool
  | .tup _, .tuple => true
  | .tpd _, .tuple => true
  | .lst _, .list => true
  | .rol _, .list => true
  | .bl _, .bool => true
  | .bl _, .int => true
  | .int _, .int => true
  | .str _, .str => true
  | _, _ => false
theorem kit_all (d : D) (T : Ty5) : kitB (tyN d) T.nm = some (isT d T) := by
  cases d <;> cases T <;> (simp only [tyN, Ty5.nm, isT]; decide +kernel)
/-- it is no dict -/
def nrd (d : D) (A : Prop) : Prop := match d with
  | .rod _ _ => False
  | .rdk _ _ => False
  | .obj _ _ => False
  | _ => A
theorem nrd_of {d : D} {A : Prop} (h : nrd d A) : isRod d = false ∧ A := by
  cases d <;> first | exact h.elim | exact ⟨rfl, h⟩
def cIsi (T : Ty5) (wa : W) : W := fun env Q => wa env fun ra e1 => rs e1 ra fun x => nrd x (Q (.val (.bl (isT x T))) e1)
theorem e_isi (T : Ty5) {x : Str} {p p2 : Pos} (hm : X.mg "isinstance" = none) (hx : X.mg x = none) (hv : bootBuiltins x = some (.type T.nm)) (ha : DE X np He a wa) (hg : Gl X "isinstance" := by rfl) (hg2 : Gl X x := by rfl) (hn : x ≠ "__name__" := by decide)
    (hd : (x == ("__debug__" : Str)) = false := by decide) (he : starEach [a, .Name x p2] X.env = (false, eval a X.env) :: starEach [.Name x p2] X.env := by rfl) (hpl : (backTo pos (starEach [.Name x p2] X.env)).any (·.1) = false := by rfl) :
    DE X np He (.Call (.Name "isinstance" p) [a, .Name x p2] [] pos) (cIsi T wa) := by
  refine PE.weak (pe_callB call_isi hg hm (by decide +kernel) (pa_cons ha (pa_cons (pe_bltn (v := .ty T.nm) hg2 hx hv rfl hn hd) pa_nil) he) (he := he) (hpl := hpl)) fun σ H Q ⟨env, Q0, R, w, q⟩ => ⟨env, _, R, w, fun ra e1 v1 H1 w1 s1 r1 => ?_⟩
  obtain ⟨d, hd, w1⟩ := r1.rs s1.rep w1
  obtain ⟨nr, w1⟩ := nrd_of w1
  exact ⟨v1, .ty T.nm, .type (tyN d), .type T.nm, isT d T, rfl, .ty T.nm, tyN_ok hd nr, kit_ty (kit_all d T), q _ e1 _ H1 w1 s1 ⟨rfl, fun n => by simp [isL] at n⟩⟩
theorem kit2 {K : PySem.W.Frag} {d : D} {T U : Ty5} : PySem.W.kitAny K (.type (tyN d)) [.type T.nm, .type U.nm] = some (isT d T || isT d U) := by
  refine kitAny_cons (kit_ty (kit_all d T)) (fun h => ?_) (fun h => by rw [h]; rfl)
  refine kitAny_cons (kit_ty (kit_all d U)) (fun h' => ?_) (fun h' => by rw [h, h']; rfl)
  rw [h, h']
  rfl
def cIsi2 (T U : Ty5) (wa : W) : W := fun env Q => wa env fun ra e1 => rs e1 ra fun x => nrd x (Q (.val (.bl (isT x T || isT x U))) e1)
theorem e_isi2 (T U : Ty5) {x y : Str} {k : Nat} {p p2 p3 p4 : Pos} (hm : X.mg "isinstance" = none) (hx : X.mg x = none) (hy : X.mg y = none) (hv : bootBuiltins x = some (.type T.nm)) (hw : bootBuiltins y = some (.type U.nm)) (ha : DE X np He a wa)
    (hg : Gl X "isinstance" := by rfl) (hg2 : Gl X x := by rfl) (hg3 : Gl X y := by rfl) (hn : x ≠ "__name__" := by decide) (hn2 : y ≠ "__name__" := by decide)
    (hd : (x == ("__debug__" : Str)) = false := by decide) (hd2 : (y == ("__debug__" : Str)) = false := by decide) (he : starEach [a, .Tuple [.Name x p2, .Name y p3] k p4] X.env = (false, eval a X.env) :: starEach [.Tuple [.Name x p2, .Name y p3] k p4] X.env := by rfl) (hpl : (backTo pos (starEach [.Tuple [.Name x p2, .Name y p3] k p4] X.env)).any (·.1) = false := by rfl) :
    DE X np He (.Call (.Name "isinstance" p) [a, .Tuple [.Name x p2, .Name y p3] k p4] [] pos) (cIsi2 T U wa) := by
  refine PE.weak (pe_callB call_isiT hg hm (by decide +kernel) (pa_cons ha (pa_cons (pe_tup (pa_cons (pe_bltn (v := .ty T.nm) hg2 hx hv rfl hn hd) (pa_cons (pe_bltn (v := .ty U.nm) hg3 hy hw rfl hn2 hd2) pa_nil))) pa_nil) he) (he := he) (hpl := hpl)) fun σ H Q ⟨env, Q0, R, w, q⟩ => ⟨env, _, R, w, fun ra e1 v1 H1 w1 s1 r1 => ?_⟩
  refine ⟨by rw [sizeLine_eq]; show 2 ≤ 16777216; decide, fun p np' => ?_⟩
  have ex : Ext H1 (upd H1 p (.tup [.ty T.nm, .ty U.nm])) := .new np'
  have s2 := s1.trans (.ext s1.rep ex)
  have r2 := r1.keep R s1 (.ext s1.rep ex)
  obtain ⟨d, hd, w1⟩ := r2.rs s2.rep w1
  obtain ⟨nr, w1⟩ := nrd_of w1
  exact ⟨v1, p, _, .type (tyN d), [.type T.nm, .type U.nm], isT d T || isT d U, rfl, upd_same, .cons (.ty T.nm) (.cons (.ty U.nm) .nil), tyN_ok hd nr, kit2, q _ e1 _ _ w1 s2 ⟨rfl, fun n => by simp [isL] at n⟩⟩

/-! ### lists: +, * , in -/
def fAddG : F2 := fun x y k => match x, y with
  | .int i, .int j => k (.int (i + j))
  | .lst xs, .lst ys => xs.length + ys.length ≤ 1000000 ∧ k (.lst (xs ++ ys))
  | .tup xs, .tup ys => xs.length + ys.length ≤ 1000000 ∧ k (.tup (xs ++ ys))
  | .tpd xs, .tpd ys => xs.length + ys.length ≤ 1000000 ∧ k (.tup (xs ++ ys)) ∧ k (.tpd (xs ++ ys))
  | .tup xs, .tpd ys => xs.length + ys.length ≤ 1000000 ∧ k (.tup (xs ++ ys)) ∧ k (.tpd (xs ++ ys))
  | .tpd xs, .tup ys => xs.length + ys.length ≤ 1000000 ∧ k (.tup (xs ++ ys)) ∧ k (.tpd (xs ++ ys))
  | _, _ => False
theorem opd_addG : OpD X.K (fun x y H Q => rI0 (fun i j => V.int (i + j)) x y H Q ∨ rCat x y H Q ∨ rCatA X.K x y H Q) fAddG := by
  intro H x y v w k Q rx ry h q
  unfold fAddG at h
  split at h
  · cases rx; cases ry
    exact .inl ⟨_, _, rfl, rfl, q _ _ H h (.refl H) rfl (fun n => by simp [isL] at n)⟩
  · obtain ⟨a1, vs, rfl, e1, r1⟩ := rx
    obtain ⟨a2, us, rfl, e2, r2⟩ := ry
    refine .inr (.inl ⟨a1, a2, vs, us, rfl, rfl, e1, e2, by rw [← r1.length, ← r2.length]; exact line_of h.1, fun p np' => ?_⟩)
    have ex : Ext H (upd H p (.lst (vs ++ us))) := .new np'
    refine q _ _ _ h.2 ex ⟨p, _, rfl, upd_same, RpIs.kp ex.kp _ _ (r1.append r2)⟩ (fun _ c e => ?_)
    cases e
    exact np'
  · obtain ⟨a1, vs, rfl, e1, r1⟩ := rx
    obtain ⟨a2, us, rfl, e2, r2⟩ := ry
    refine .inr (.inr ⟨a1, a2, vs, us, rfl, rfl, .of e1, .of e2, by rw [← r1.length, ← r2.length]; exact line_of h.1, fun n1 => ?_, fun _ n2 => ?_, fun _ _ p np' => ?_⟩)
    · subst n1
      have hxs := List.eq_nil_of_length_eq_zero (r1.length.trans rfl)
      subst hxs
      exact q _ _ H h.2 (.refl H) ⟨a2, us, rfl, e2, r2⟩ (fun n => by simp [isL] at n)
    · subst n2
      have hys := List.eq_nil_of_length_eq_zero (r2.length.trans rfl)
      subst hys
      exact q _ _ H h.2 (.refl H) ⟨a1, vs, rfl, e1, by rw [List.append_nil]; exact r1⟩ (fun n => by simp [isL] at n)
    · have ex : Ext H (upd H p (.tup (vs ++ us))) := .new np'
      exact q _ _ _ h.2 ex ⟨p, _, rfl, upd_same, RpIs.kp ex.kp _ _ (r1.append r2)⟩ (fun n => by simp [isL] at n)
  · obtain ⟨a1, vs, rfl, e1, r1⟩ := rx
    obtain ⟨a2, us, rfl, e2, r2⟩ := ry
    refine .inr (.inr ⟨a1, a2, vs, us, rfl, rfl, e1.t, e2.t, by rw [← r1.length, ← r2.length]; exact line_of h.1, fun n1 => ?_, fun _ n2 => ?_, fun _ _ p np' => ?_⟩)
    · subst n1
      have hxs := List.eq_nil_of_length_eq_zero (r1.length.trans rfl)
      subst hxs
      exact q _ _ H h.2.2 (.refl H) ⟨a2, us, rfl, e2, r2⟩ (fun n => by simp [isL] at n)
    · subst n2
      have hys := List.eq_nil_of_length_eq_zero (r2.length.trans rfl)
      subst hys
      exact q _ _ H h.2.2 (.refl H) ⟨a1, vs, rfl, e1, by rw [List.append_nil]; exact r1⟩ (fun n => by simp [isL] at n)
    · have ex : Ext H (upd H p (.tup (vs ++ us))) := .new np'
      exact q _ _ _ h.2.1 ex ⟨p, _, rfl, upd_same, RpIs.kp ex.kp _ _ (r1.append r2)⟩ (fun n => by simp [isL] at n)
  · obtain ⟨a1, vs, rfl, e1, r1⟩ := rx
    obtain ⟨a2, us, rfl, e2, r2⟩ := ry
    refine .inr (.inr ⟨a1, a2, vs, us, rfl, rfl, .of e1, e2.t, by rw [← r1.length, ← r2.length]; exact line_of h.1, fun n1 => ?_, fun _ n2 => ?_, fun _ _ p np' => ?_⟩)
    · subst n1
      have hxs := List.eq_nil_of_length_eq_zero (r1.length.trans rfl)
      subst hxs
      exact q _ _ H h.2.2 (.refl H) ⟨a2, us, rfl, e2, r2⟩ (fun n => by simp [isL] at n)
    · subst n2
      have hys := List.eq_nil_of_length_eq_zero (r2.length.trans rfl)
      subst hys
      exact q _ _ H h.2.1 (.refl H) ⟨a1, vs, rfl, e1, by rw [List.append_nil]; exact r1⟩ (fun n => by simp [isL] at n)
    · have ex : Ext H (upd H p (.tup (vs ++ us))) := .new np'
      exact q _ _ _ h.2.1 ex ⟨p, _, rfl, upd_same, RpIs.kp ex.kp _ _ (r1.append r2)⟩ (fun n => by simp [isL] at n)
  · obtain ⟨a1, vs, rfl, e1, r1⟩ := rx
    obtain ⟨a2, us, rfl, e2, r2⟩ := ry
    refine .inr (.inr ⟨a1, a2, vs, us, rfl, rfl, e1.t, .of e2, by rw [← r1.length, ← r2.length]; exact line_of h.1, fun n1 => ?_, fun _ n2 => ?_, fun _ _ p np' => ?_⟩)
    · subst n1
      have hxs := List.eq_nil_of_length_eq_zero (r1.length.trans rfl)
      subst hxs
      exact q _ _ H h.2.1 (.refl H) ⟨a2, us, rfl, e2, r2⟩ (fun n => by simp [isL] at n)
    · subst n2
      have hys := List.eq_nil_of_length_eq_zero (r2.length.trans rfl)
      subst hys
      exact q _ _ H h.2.2 (.refl H) ⟨a1, vs, rfl, e1, by rw [List.append_nil]; exact r1⟩ (fun n => by simp [isL] at n)
    · have ex : Ext H (upd H p (.tup (vs ++ us))) := .new np'
      exact q _ _ _ h.2.1 ex ⟨p, _, rfl, upd_same, RpIs.kp ex.kp _ _ (r1.append r2)⟩ (fun n => by simp [isL] at n)
  · exact h.elim
theorem e_addG (ha : DE X np He a wa) (hb : DE X np He b wb) : DE X np He (.BinOp a .Add b pos) (cOp fAddG wa wb) := e_op (op_add.or (op_cat.or op_catA)) opd_addG ha hb
theorem RpIs.rep {K : PySem.W.Frag} {H : Hp} {ds : List D} {vs : List V} (h : RpIs K H ds vs) : ∀ n : Nat, RpIs K H (List.replicate n ds).flatten (List.replicate n vs).flatten
  | 0 => by simp [RpIs]
  | n + 1 => by
    rw [List.replicate_succ, List.replicate_succ, List.flatten_cons, List.flatten_cons]
    exact h.append (RpIs.rep h n)
/-- a flat value within a flat list -/
def flatD : D → Bool
  | .non => true | .bl _ => true | .int _ => true | .str _ => true
  | _ => false
def eqF : D → D → Bool
  | .non, .non => true
  | .bl a, .bl b => a == b
  | .bl a, .int b => (if a then 1 else 0) == b
  | .int a, .bl b => a == (if b then 1 else 0)
  | .int a, .int b => a == b
  | .str a, .str b => a == b
  | _, _ => false
def flatA : List D → Bool
  | [] => true
  | d :: r => flatD d && flatA r
def fIn (neg : Bool) : F2 := fun x y k => match seqD y with
  | some ys => flatD x = true ∧ flatA ys = true ∧ k (.bl (if neg then !(ys.any fun y => eqF y x) else ys.any fun y => eqF y x))
  | none => False
theorem flat_ok {K : PySem.W.Frag} {H : Hp} {d : D} {v : V} (h : RpV K H d v) (f : flatD d = true) : flatV v = true := by
  cases d <;> first | (cases h; rfl) | (simp [flatD] at f)
theorem eqF_ok {K : PySem.W.Frag} {H : Hp} {d e : D} {v w : V} (h : RpV K H d v) (g : RpV K H e w) (f : flatD d = true) (f' : flatD e = true) : eqV v w = eqF d e := by
  cases d <;> first | (simp [flatD] at f; done) | skip
  all_goals cases e <;> first | (simp [flatD] at f'; done) | (cases h; cases g; rfl)
theorem flatA_ok {K : PySem.W.Frag} {H : Hp} {d : D} {v : V} (hd : RpV K H d v) (fd : flatD d = true) : ∀ {ys : List D} {us : List V}, RpIs K H ys us → flatA ys = true → us.all flatV = true ∧ inV v us = ys.any fun y => eqF y d
  | [], us, r, _ => by
    simp only [RpIs] at r
    subst r
    exact ⟨rfl, rfl⟩
  | y :: ys, us, r, f => by
    simp only [RpIs] at r
    obtain ⟨u, r', rfl, h1, h2⟩ := r
    simp only [flatA, Bool.and_eq_true] at f
    obtain ⟨i1, i2⟩ := flatA_ok hd fd h2 f.2
    have h1' : RpV K H y u := .of h1
    refine ⟨by rw [List.all_cons, flat_ok h1' f.1, i1]; rfl, ?_⟩
    unfold inV at i2 ⊢
    rw [List.any_cons, List.any_cons, i2, eqF_ok h1' hd f.1 fd]
theorem opd_in {neg : Bool} : OpD X.K (rIn X.K neg) (fIn neg) := by
  intro H x y v w k Q rx ry h q
  unfold fIn at h
  split at h
  · rename_i ys e
    obtain ⟨f1, f2, h⟩ := h
    obtain ⟨p, us, rfl, s, ru⟩ := ry.seq e
    obtain ⟨i1, i2⟩ := flatA_ok rx f1 ru f2
    refine ⟨p, us, rfl, s, flat_ok rx f1, i1, ?_⟩
    rw [i2]
    exact q _ _ H h (.refl H) rfl (fun n => by simp [isL] at n)
  · exact h.elim
theorem e_notIn (ha : DE X np He a wa) (hb : DE X np He b wb) (hm : behindInMarks .NotIn b = false := by with_unfolding_all rfl) : DE X np He (.Compare a [.NotIn] [b] pos) (cOp (fIn true) wa wb) := e_cmp op_notIn_seq opd_in ha hb hm
theorem t_notIn (ha : DE X np He a wa) (hb : DE X np He b wb) (hm : behindInMarks .NotIn b = false := by with_unfolding_all rfl) : DT X np He (.Compare a [.NotIn] [b] pos) (cOp (fIn true) wa wb) := t_cmp op_notIn_seq opd_in ha hb hm
theorem e_in (ha : DE X np He a wa) (hb : DE X np He b wb) (hm : behindInMarks .In b = false := by with_unfolding_all rfl) : DE X np He (.Compare a [.In] [b] pos) (cOp (fIn false) wa wb) := e_cmp op_in_seq opd_in ha hb hm
theorem t_in (ha : DE X np He a wa) (hb : DE X np He b wb) (hm : behindInMarks .In b = false := by with_unfolding_all rfl) : DT X np He (.Compare a [.In] [b] pos) (cOp (fIn false) wa wb) := t_cmp op_in_seq opd_in ha hb hm

/-! ### slices -/
def cutD (xs : List D) (lo hi : Option Int) : List D := (xs.drop (HT.sIx xs.length 0 lo)).take (HT.sIx xs.length xs.length hi - HT.sIx xs.length 0 lo)
theorem cut_ok {K : PySem.W.Frag} {H : Hp} {ds : List D} {vs : List V} (r : RpIs K H ds vs) (lo hi : Option Int) : RpIs K H (cutD ds lo hi) (cutV vs lo hi) := by
  unfold cutD cutV
  rw [r.length]
  exact RpIs.take _ (RpIs.drop _ r)
def slD (x : D) (lo hi : Option Int) (k : D → Prop) : Prop := match x with
  | .lst xs => k (.lst (cutD xs lo hi))
  | .rol xs => k (.lst (cutD xs lo hi))
  | .tup xs => k (.tup (cutD xs lo hi))
  | .tpd xs => k (.tup (cutD xs lo hi)) ∧ k (.tpd (cutD xs lo hi))
  | _ => False
theorem whole_cut {xs : List V} {lo hi : Option Int} (h : HT.sIx xs.length 0 lo = 0 ∧ HT.sIx xs.length xs.length hi = xs.length) : cutV xs lo hi = xs := by
  unfold cutV
  rw [h.1, h.2]
  simp
theorem slr : SlR X (fun x lo hi H Q => rSlL X.K x lo hi H Q ∨ rSlA X.K x lo hi H Q) := sl_list.or sl_tupA
theorem sl_ok {H : Hp} {x : D} {v : V} {lo hi : Option Int} {k : D → Prop} {Q : VK} (rx : RpV X.K H x v) (h : slD x lo hi k)
    (q : ∀ z u H', k z → Ext H H' → RpV X.K H' z u → (isL z = true → ∀ a, u = .ref a → H a = none) → Q u H') : rSlL X.K v lo hi H Q ∨ rSlA X.K v lo hi H Q := by
  have lst : ∀ {xs : List D} {a : Addr} {vs : List V}, SqL X.K H a vs → RpIs X.K H xs vs → k (.lst (cutD xs lo hi)) → rSlL X.K (.ref a) lo hi H Q := fun {xs a vs} s r h => by
    refine ⟨a, vs, rfl, s, fun p np' => ?_⟩
    have ex : Ext H (upd H p (.lst (cutV vs lo hi))) := .new np'
    refine q _ _ _ h ex ⟨p, _, rfl, upd_same, RpIs.kp ex.kp _ _ (cut_ok r lo hi)⟩ (fun _ c e => ?_)
    cases e
    exact np'
  cases x with
  | lst xs => obtain ⟨a, vs, rfl, s, r⟩ := rx; exact .inl (lst (.of s) r h)
  | rol xs =>
    obtain ⟨a, vs, rfl, s, r⟩ := (show ∃ a vs, v = .ref a ∧ SqR X.K H a vs ∧ RpIs X.K H xs vs by simpa only [RpV, RpI] using rx)
    exact .inl (lst s.seq r h)
  | tup xs =>
    obtain ⟨a, vs, rfl, s, r⟩ := (show ∃ a vs, v = .ref a ∧ H a = some (.tup vs) ∧ RpIs X.K H xs vs by simpa only [RpV, RpI] using rx)
    refine .inr ⟨a, vs, rfl, .of s, fun hw => ?_, fun _ p np' => ?_⟩
    · refine q _ _ H h (.refl H) ?_ (fun n => by simp [isL] at n)
      show RpI _ _ _ _
      simp only [RpI]
      refine ⟨a, vs, rfl, s, ?_⟩
      have := cut_ok r lo hi
      rw [whole_cut hw] at this
      exact this
    · have ex : Ext H (upd H p (.tup (cutV vs lo hi))) := .new np'
      refine q _ _ _ h ex ?_ (fun n => by simp [isL] at n)
      show RpI _ _ _ _
      simp only [RpI]
      exact ⟨p, _, rfl, upd_same, RpIs.kp ex.kp _ _ (cut_ok r lo hi)⟩
  | tpd xs =>
    obtain ⟨a, vs, rfl, s, r⟩ := (show ∃ a vs, v = .ref a ∧ TpK X.K H a vs ∧ RpIs X.K H xs vs by simpa only [RpV, RpI] using rx)
    refine .inr ⟨a, vs, rfl, s.t, fun hw => ?_, fun _ p np' => ?_⟩
    · refine q _ _ H h.2 (.refl H) ?_ (fun n => by simp [isL] at n)
      show RpI _ _ _ _
      simp only [RpI]
      refine ⟨a, vs, rfl, s, ?_⟩
      have := cut_ok r lo hi
      rw [whole_cut hw] at this
      exact this
    · have ex : Ext H (upd H p (.tup (cutV vs lo hi))) := .new np'
      refine q _ _ _ h.1 ex ?_ (fun n => by simp [isL] at n)
      show RpI _ _ _ _
      simp only [RpI]
      exact ⟨p, _, rfl, upd_same, RpIs.kp ex.kp _ _ (cut_ok r lo hi)⟩
  | _ => exact False.elim h
def isI (d : D) (k : Int → Prop) : Prop := match d with
  | .int i => k i
  | _ => False
theorem isI_of {d : D} {k : Int → Prop} (h : isI d k) : ∃ i, d = .int i ∧ k i := by
  unfold isI at h
  split at h
  · exact ⟨_, rfl, h⟩
  · exact h.elim
def cSlL (wa wb : W) : W := fun env Q => wa env fun ra e1 => wb e1 fun rb e2 => rs e2 rb fun y => isI y fun lo => rs e2 ra fun x => slD x (some lo) none fun z => Q (.val z) e2
def cSlH (wa wb : W) : W := fun env Q => wa env fun ra e1 => wb e1 fun rb e2 => rs e2 rb fun y => isI y fun hi => rs e2 ra fun x => slD x none (some hi) fun z => Q (.val z) e2
theorem e_slL {p2 : Pos} (ha : DE X np He a wa) (hb : DE X np He b wb) : DE X np He (.Subscript a (.Slice (some b) none none p2) pos) (cSlL wa wb) := by
  refine PE.weak (pe_slice slr ha (po_some hb) po_none) fun σ H Q ⟨env, Q0, R, w, q⟩ => ⟨env, _, R, w, fun ra e1 v1 H1 w1 s1 r1 => ⟨e1, _, s1.rep, w1, fun rb e2 v2 H2 w2 s2 r2 => ?_⟩⟩
  obtain ⟨y, hy, w2⟩ := r2.rs s2.rep w2
  obtain ⟨i, rfl, w2⟩ := isI_of w2
  have s12 := s1.trans s2
  obtain ⟨x, hx, w2⟩ := (r1.keep R s1 s2).rs s2.rep w2
  exact ⟨i, hy, sl_ok hx w2 fun z u H' k ex rz fz => q _ e2 u H' k (s12.trans (.ext s2.rep ex)) ⟨rz, fun n c e => s12.dom c (fz n c e)⟩⟩
theorem e_slH {p2 : Pos} (ha : DE X np He a wa) (hb : DE X np He b wb) : DE X np He (.Subscript a (.Slice none (some b) none p2) pos) (cSlH wa wb) := by
  refine PE.weak (pe_slice slr ha po_none (po_some hb)) fun σ H Q ⟨env, Q0, R, w, q⟩ => ⟨env, _, R, w, fun ra e1 v1 H1 w1 s1 r1 => ⟨e1, _, s1.rep, w1, fun rb e2 v2 H2 w2 s2 r2 => ?_⟩⟩
  obtain ⟨y, hy, w2⟩ := r2.rs s2.rep w2
  obtain ⟨i, rfl, w2⟩ := isI_of w2
  have s12 := s1.trans s2
  obtain ⟨x, hx, w2⟩ := (r1.keep R s1 s2).rs s2.rep w2
  exact ⟨i, hy, sl_ok hx w2 fun z u H' k ex rz fz => q _ e2 u H' k (s12.trans (.ext s2.rep ex)) ⟨rz, fun n c e => s12.dom c (fz n c e)⟩⟩
end
end DL

namespace DL
open PySem PySem.Spec PyProof.Rows L2
section
variable {K : PySem.W.Frag} {np : Nat} {He : Hp} {σ σ' σ'' : L2.St} {H H' H'' : Hp} {env env' env'' : DEnv}

/-! ### a list in a slot is written -/
theorem kp_store {a : Addr} {us ws : List V} (h : H a = some (.lst us)) : Kp H (upd H a (.lst ws)) := fun b o e n => by
  have hb : b ≠ a := fun z => by
    subst z
    rw [h] at e
    exact n us (Option.some.inj e).symm
  rw [upd_ne hb]
  exact e
theorem SE.store {i : Nat} {xs ys : List D} {a : Addr} {us ws : List V} (R : Rep K np He σ H env) (h : env[i]? = some (some (D.lst xs))) (hs : σ[i]? = some (some (V.ref a))) (ha : H a = some (.lst us)) (r : RpIs K H ys ws) :
    SE K np He σ H env (upd H a (.lst ws)) (env.set i (some (D.lst ys))) := by
  have hi : i < env.length := (List.getElem?_eq_some_iff.mp h).1
  have kp : Kp H (upd H a (.lst ws)) := kp_store ha
  have isl : ∀ (j : Nat) (zs : List D), (env.set i (some (D.lst ys)))[j]? = some (some (D.lst zs)) → ∃ zs', env[j]? = some (some (D.lst zs')) := fun j zs e => by
    by_cases hj : i = j
    · subst hj; exact ⟨xs, h⟩
    · rw [List.getElem?_set_ne hj] at e; exact ⟨zs, e⟩
  refine ⟨⟨by rw [List.length_set]; exact R.len, fun j d e => ?_, fun j l zs zs' c e1 e2 s1 s2 => ?_, fun j zs c hj e s => ?_, fun b n => ?_⟩, fun j => ?_, fun b o e n => ?_, fun b n => ?_⟩
  · by_cases hj : i = j
    · subst hj
      rw [List.getElem?_set_self hi] at e
      cases e
      exact ⟨_, hs, a, ws, rfl, upd_same, RpIs.kp kp ys ws r⟩
    · rw [List.getElem?_set_ne hj] at e
      obtain ⟨v, e1, rv⟩ := R.val j d e
      refine ⟨v, e1, ?_⟩
      cases d with
      | lst zs =>
        refine rv.kpl kp fun c o ec eo => ?_
        subst ec
        have : c ≠ a := fun z => by
          subst z
          exact hj (R.apart i j xs zs c h e hs e1)
        rw [upd_ne this]
        exact eo
      | _ => exact rv.kp kp rfl
  · obtain ⟨w1, q1⟩ := isl j zs e1
    obtain ⟨w2, q2⟩ := isl l zs' e2
    exact R.apart j l w1 w2 c q1 q2 s1 s2
  · obtain ⟨w1, q1⟩ := isl j zs e
    exact R.own j w1 c hj q1 s
  · by_cases hb : b = a
    · subst hb; rw [upd_same] at n; cases n
    · rw [upd_ne hb] at n; exact R.dom b n
  · by_cases hj : i = j
    · subst hj
      exact .inr ⟨xs, ys, h, List.getElem?_set_self hi⟩
    · exact .inl (List.getElem?_set_ne hj)
  · have hb : b ≠ a := fun z => by
      subst z
      exact n ⟨i, xs, h, hs⟩
    rw [upd_ne hb]
    exact e
  · by_cases hb : b = a
    · subst hb; rw [upd_same] at n; cases n
    · rw [upd_ne hb] at n; exact n
def getl (env : DEnv) (i : Nat) (k : List D → Prop) : Prop := match env[i]? with
  | some (some (.lst xs)) => k xs
  | _ => False
theorem getl_of {i : Nat} {k : List D → Prop} (h : getl env i k) : ∃ xs, env[i]? = some (some (D.lst xs)) ∧ k xs := by
  unfold getl at h
  split at h
  · exact ⟨_, by assumption, h⟩
  · exact h.elim
/-- the list of a slot, by its address -/
theorem Rep.lst (R : Rep K np He σ H env) {i : Nat} {xs : List D} (h : env[i]? = some (some (D.lst xs))) : ∃ a us, σ[i]? = some (some (V.ref a)) ∧ H a = some (.lst us) ∧ RpIs K H xs us := by
  obtain ⟨v, e, a, us, rfl, e2, r⟩ := R.val i _ h
  exact ⟨a, us, e, e2, r⟩
end

section
variable {X : Cx} {np : Nat} {He : Hp} {a b c e : Expr} {es : List Expr} {wa wb wc : W} {ws : WA} {pos : Pos}
/-! ### methods of a list in a slot -/
abbrev FM := List D → List D → (D → List D → Prop) → Prop
def MeD (K : PySem.W.Frag) (r : V → List V → Hp → VK → Prop) (f : FM) : Prop := ∀ (H : Hp) (a : Addr) (us : List V) (xs : List D) (vs : List V) (ds : List D) (k : D → List D → Prop) (Q : VK), H a = some (.lst us) → RpIs K H xs us → RpVs K H ds vs → f xs ds k →
  (∀ z u ys ws, k z ys → RpIs K H ys ws → RpI K H z u → Q u (upd H a (.lst ws))) → r (.ref a) vs H Q
def cMeth (i : Nat) (f : FM) (ws : WA) : W := fun env Q => getl env i fun _ => ws env fun rl e1 => rsl e1 rl fun ds => getl e1 i fun xs => f xs ds fun z ys => Q (.val z) (e1.set i (some (.lst ys)))
theorem meth_core {i : Nat} {r : V → List V → Hp → VK → Prop} {f : FM} (h : MeD X.K r f) : ∀ σ H Q, rE X.K np He (cMeth i f ws) σ H Q → tBM X.K "list" r (tVar i) (rA X.K np He ws) σ H Q := by
  intro σ H Q ⟨env, Q0, R, w, q⟩
  obtain ⟨xs0, e0, w⟩ := getl_of w
  obtain ⟨a, us, es, ha, ra⟩ := R.lst e0
  refine ⟨.ref a, es, .inl ⟨rfl, us, .of ha⟩, env, _, R, w, fun rl e1 vs H1 w1 s1 r1 => ?_⟩
  obtain ⟨ds, hd, w1⟩ := r1.rs s1.rep w1
  obtain ⟨xs, e2, w1⟩ := getl_of w1
  obtain ⟨a', us', es', ha', ra'⟩ := s1.rep.lst e2
  rw [es] at es'
  have ea : a = a' := by simpa using es'
  subst ea
  refine h H1 a us' xs vs ds _ Q ha' ra' hd w1 fun z u ys ws' k ry rz => ?_
  have hz : isL z = false := by cases z <;> first | rfl | (simp only [RpI] at rz)
  refine q _ _ u _ k (s1.trans (.store s1.rep e2 es ha' ry)) ⟨.of (RpI.kp (kp_store ha') z u rz), fun n => by rw [hz] at n; cases n⟩
def fAppend : FM := fun xs ds k => match ds with
  | [d] => isL d = false ∧ xs.length < 1000000 ∧ k .non (xs ++ [d])
  | _ => False
theorem e_append {i : Nat} {x : Str} {p apos : Pos} (ha : DE X np He a wa) (hN : X.N[i]? = some x := by rfl) (hv : Vis X.env.scope x := by first | exact Or.inl rfl | exact Or.inr (Or.inl rfl) | exact Or.inr (Or.inr rfl)) (hd : (x == ("__debug__" : Str)) = false := by decide)
    (hcd : (x == ("__classdict__" : Str)) = false := by decide) (hbase : attributeBase (.Name x p) "append" X.env (eval (.Name x p) X.env) = eval (.Name x p) X.env := by rfl)
    (hfew : ((backTo pos (starEach [a] X.env)).all (fun x => !x.1) && (backToKw pos (keywordEach [] X.env)).all (fun x => x.1.isSome)
      && decide ([a].length + ([] : List Keyword).length + (if ([] : List Keyword).isEmpty then 0 else 1) < 30)) = true := by rfl)
    (hline : (apos.endLine == pos.line) = true := by rfl) (hs : starEach [a] X.env = (false, eval a X.env) :: starEach [] X.env := by rfl) :
    DE X np He (.Call (.Attribute (.Name x p) "append" apos) [a] [] pos) (cMeth i fAppend (cCons wa cNil)) := by
  refine PE.weak (pe_bm PySem.F.plainAttrs_list PySem.F.slot_list_append PySem.F.type_list_append mt_append (pv i hN hv hd hcd) (a_cons ha a_nil hs) hbase hfew hline hs) (meth_core ?_)
  intro H a us xs vs ds k Q ha ra rd h q
  unfold fAppend at h
  split at h
  · obtain ⟨h1, h2, h⟩ := h
    obtain ⟨v, rfl, rv⟩ := rd.one
    refine ⟨a, us, v, rfl, rfl, ha, by rw [← ra.length]; exact Nat.lt_of_lt_of_le h2 (line_of (Nat.le_refl _)), q _ _ _ _ h (ra.append ?_) ?_⟩
    · simp only [RpIs]
      exact ⟨v, [], rfl, rv.imm h1, rfl⟩
    · simp only [RpI]
  · exact h.elim
theorem meth0_core {i : Nat} {r : V → List V → Hp → VK → Prop} {f : FM} (h : MeD X.K r f) : ∀ σ H Q, rE X.K np He (cMeth i f cNil) σ H Q → tBM0 X.K "list" r (tVar i) σ H Q := by
  intro σ H Q ⟨env, Q0, R, w, q⟩
  obtain ⟨xs, e0, w⟩ := getl_of w
  obtain ⟨xs', e0', w⟩ := getl_of w
  obtain ⟨a, us, es, ha, ra⟩ := R.lst e0'
  refine ⟨.ref a, es, .inl ⟨rfl, us, .of ha⟩, h H a us xs' [] [] _ Q ha ra rfl w fun z u ys ws' k ry rz => ?_⟩
  have hz : isL z = false := by cases z <;> first | rfl | (simp only [RpI] at rz)
  exact q _ _ u _ k (.store R e0' es ha ry) ⟨.of (RpI.kp (kp_store ha) z u rz), fun n => by rw [hz] at n; cases n⟩
def fPop : FM := fun xs ds k => match ds with
  | [] => (match xs.getLast? with
    | some d => k d xs.dropLast
    | none => False)
  | _ => False
theorem e_pop {i : Nat} {x : Str} {p apos : Pos} (hN : X.N[i]? = some x := by rfl) (hv : Vis X.env.scope x := by first | exact Or.inl rfl | exact Or.inr (Or.inl rfl) | exact Or.inr (Or.inr rfl)) (hd : (x == ("__debug__" : Str)) = false := by decide)
    (hcd : (x == ("__classdict__" : Str)) = false := by decide) (hbase : attributeBase (.Name x p) "pop" X.env (eval (.Name x p) X.env) = eval (.Name x p) X.env := by rfl) (hline : (apos.endLine == pos.line) = true := by rfl) :
    DE X np He (.Call (.Attribute (.Name x p) "pop" apos) [] [] pos) (cMeth i fPop cNil) := by
  refine PE.weak (pe_bm0 PySem.F.plainAttrs_list PySem.F.slot_list_pop PySem.F.type_list_pop mt_pop (pv i hN hv hd hcd) hbase hline) (meth0_core ?_)
  intro H a us xs vs ds k Q ha ra rd h q
  unfold fPop at h
  split at h
  · cases (show vs = [] from rd)
    split at h
    · rename_i d e
      rw [List.getLast?_eq_getElem?] at e
      obtain ⟨u, e1, ru⟩ := ra.get e
      exact ⟨a, us, u, rfl, rfl, ha, by rw [← ra.length]; exact e1, q _ _ _ _ h ra.dropLast ru⟩
    · exact h.elim
  · exact h.elim
def fReverse : FM := fun xs ds k => match ds with
  | [] => k .non xs.reverse
  | _ => False
theorem e_reverse {i : Nat} {x : Str} {p apos : Pos} (hN : X.N[i]? = some x := by rfl) (hv : Vis X.env.scope x := by first | exact Or.inl rfl | exact Or.inr (Or.inl rfl) | exact Or.inr (Or.inr rfl)) (hd : (x == ("__debug__" : Str)) = false := by decide)
    (hcd : (x == ("__classdict__" : Str)) = false := by decide) (hbase : attributeBase (.Name x p) "reverse" X.env (eval (.Name x p) X.env) = eval (.Name x p) X.env := by rfl) (hline : (apos.endLine == pos.line) = true := by rfl) :
    DE X np He (.Call (.Attribute (.Name x p) "reverse" apos) [] [] pos) (cMeth i fReverse cNil) := by
  refine PE.weak (pe_bm0 PySem.F.plainAttrs_list PySem.F.slot_list_reverse PySem.F.type_list_reverse mt_reverse (pv i hN hv hd hcd) hbase hline) (meth0_core ?_)
  intro H a us xs vs ds k Q ha ra rd h q
  unfold fReverse at h
  split at h
  · cases (show vs = [] from rd)
    exact ⟨a, us, rfl, rfl, ha, q _ _ _ _ h ra.reverse rfl⟩
  · exact h.elim

/-! ### calls of own defs -/
structure FSpec where
  pre : List D → Prop
  post : List D → D → List D → Prop
def noRef (i : Nat) : List RV → Bool
  | [] => true
  | .ref j :: r => !(i == j) && noRef i r
  | .val _ :: r => noRef i r
def okR : List RV → Bool
  | [] => true
  | .ref i :: r => noRef i r && okR r
  | .val _ :: r => okR r
def upA : List RV → List D → DEnv → DEnv
  | .ref i :: rl, .lst ys :: ds, e => upA rl ds (e.set i (some (.lst ys)))
  | _ :: rl, _ :: ds, e => upA rl ds e
  | _, _, e => e
/-- what a def does to its list arguments -/
structure After (K : PySem.W.Frag) (H H' : Hp) (ds ds' : List D) (vs : List V) : Prop where
  len : ds'.length = ds.length
  keep : ∀ b o, H b = some o → (∀ (i : Nat) (xs : List D), ds[i]? = some (.lst xs) → vs[i]? ≠ some (.ref b)) → H' b = some o
  dom : ∀ b, H' b = none → H b = none
  lst : ∀ (i : Nat) (xs : List D) (v : V), ds[i]? = some (.lst xs) → vs[i]? = some v → ∃ ys, ds'[i]? = some (.lst ys) ∧ RpV K H' (.lst ys) v
def apA : List D → List V → Prop
  | .lst _ :: ds, v :: vs => (∀ (j : Nat) (xs : List D), ds[j]? = some (.lst xs) → vs[j]? ≠ some v) ∧ apA ds vs
  | _ :: ds, _ :: vs => apA ds vs
  | _, _ => True
def spOf (K : PySem.W.Frag) (n : Nat) (sp : FSpec) : Sp := fun vs H Q _ => ∃ ds, vs.length = n ∧ RpVs K H ds vs ∧ apA ds vs ∧ sp.pre ds ∧
  ∀ r ds' v H', sp.post ds r ds' → After K H H' ds ds' vs → RpV K H' r v → (isL r = true → ∀ a, v = .ref a → H a = none) → Q v H'
structure FnD (P : Program) (w : World) (K : PySem.W.Frag) (mg : Str → Option Value) (base : Heap) (k : Nat) (x : Str) (ps : List Str) (sp : FSpec) : Prop where
  ex : ∃ f fd, FnOk P w K mg base CX0 k f fd ps (spOf K ps.length sp) ∧ mg x = some (.ref f) ∧ PySem.W.keepIn K (.ref f) = true ∧ Binds K fd ps []
/-- results, values and data side by side -/
def Tri (K : PySem.W.Frag) (σ : L2.St) (H H' : Hp) (env : DEnv) : List RV → List V → List D → Prop
  | [], vs, ds => vs = [] ∧ ds = []
  | .val d :: rl, vs, ds => ∃ v vr dr, vs = v :: vr ∧ ds = d :: dr ∧ RpV K H' d v ∧ (isL d = true → (∀ a, v = .ref a → H a = none) ∧ ∀ (j : Nat) (ys : List D), rl[j]? = some (.val (.lst ys)) → vr[j]? ≠ some v) ∧ Tri K σ H H' env rl vr dr
  | .ref i :: rl, vs, ds => ∃ v vr xs dr, vs = v :: vr ∧ ds = .lst xs :: dr ∧ σ[i]? = some (some v) ∧ env[i]? = some (some (D.lst xs)) ∧ Tri K σ H H' env rl vr dr
theorem tri_of {K : PySem.W.Frag} {σ : L2.St} {H H' : Hp} {env : DEnv} (R : Rep K np He σ H' env) : ∀ {rl : List RV} {vs : List V} {k : List D → Prop}, RpRs K σ H H' env vs rl → rsl env rl k → ∃ ds, Tri K σ H H' env rl vs ds ∧ RpVs K H' ds vs ∧ k ds
  | [], vs, k, h, g => by
    cases vs with
    | nil => exact ⟨[], ⟨rfl, rfl⟩, rfl, g⟩
    | cons v vs => obtain ⟨r, rest, e, _⟩ := h; cases e
  | .val d :: rl, vs, k, h, g => by
    cases vs with
    | nil => cases (show (RV.val d :: rl) = [] from h)
    | cons v vs =>
      obtain ⟨r, rest, e, h1, h2, tn⟩ := h
      cases e
      obtain ⟨ds, t, rv, q⟩ := tri_of R h2 g
      exact ⟨d :: ds, ⟨v, vs, ds, rfl, rfl, h1.1, fun n => ⟨h1.2 n, tn d rfl n⟩, t⟩, ⟨v, vs, rfl, h1.1, rv⟩, q⟩
  | .ref i :: rl, vs, k, h, g => by
    cases vs with
    | nil => cases (show (RV.ref i :: rl) = [] from h)
    | cons v vs =>
      obtain ⟨r, rest, e, h1, h2, tn⟩ := h
      cases e
      obtain ⟨d, e1, g⟩ := getv_of g
      obtain ⟨ds, t, rv, q⟩ := tri_of R h2 g
      obtain ⟨hs, xs, e2⟩ := h1
      rw [e1] at e2
      have ed : d = .lst xs := by simpa using e2
      subst ed
      obtain ⟨u, e3, ru⟩ := R.val i _ e1
      rw [hs] at e3
      have eu : v = u := by simpa using e3
      subst eu
      exact ⟨_ :: ds, ⟨v, vs, xs, ds, rfl, rfl, hs, e1, t⟩, ⟨v, vs, rfl, ru, rv⟩, q⟩
section
variable {K : PySem.W.Frag} {σ : L2.St} {H H' : Hp} {env : DEnv}
/-- a list argument is a slot's or a new one -/
theorem Tri.arg : ∀ {rl : List RV} {vs : List V} {ds : List D} {j : Nat} {xs : List D}, Tri K σ H H' env rl vs ds → ds[j]? = some (.lst xs) →
    (∃ i v, rl[j]? = some (.ref i) ∧ vs[j]? = some v ∧ σ[i]? = some (some v) ∧ env[i]? = some (some (D.lst xs))) ∨ (∃ a, rl[j]? = some (.val (.lst xs)) ∧ vs[j]? = some (.ref a) ∧ H a = none)
  | [], vs, ds, j, xs, h, e => by
    obtain ⟨_, rfl⟩ := h
    simp at e
  | .val d :: rl, vs, ds, 0, xs, h, e => by
    obtain ⟨v, vr, dr, rfl, rfl, r, f, _⟩ := h
    simp at e
    subst e
    obtain ⟨a, us, rfl, _⟩ := r
    exact .inr ⟨a, rfl, rfl, (f rfl).1 a rfl⟩
  | .ref i :: rl, vs, ds, 0, xs, h, e => by
    obtain ⟨v, vr, xs', dr, rfl, rfl, s, g, _⟩ := h
    simp at e
    subst e
    exact .inl ⟨i, v, rfl, rfl, s, g⟩
  | .val d :: rl, vs, ds, j + 1, xs, h, e => by
    obtain ⟨v, vr, dr, rfl, rfl, _, _, t⟩ := h
    simpa using Tri.arg t (by simpa using e)
  | .ref i :: rl, vs, ds, j + 1, xs, h, e => by
    obtain ⟨v, vr, xs', dr, rfl, rfl, _, _, t⟩ := h
    simpa using Tri.arg t (by simpa using e)
theorem noRef_at {i : Nat} : ∀ {rl : List RV} {j l : Nat}, noRef i rl = true → rl[j]? = some (.ref l) → i ≠ l
  | [], j, l, _, e => by simp at e
  | .ref m :: rl, 0, l, h, e => by
    simp at e
    subst e
    simp only [noRef, Bool.and_eq_true, Bool.not_eq_true', beq_eq_false_iff_ne] at h
    exact h.1
  | .val d :: rl, 0, l, h, e => by simp at e
  | .ref m :: rl, j + 1, l, h, e => by
    simp only [noRef, Bool.and_eq_true] at h
    exact noRef_at h.2 (by simpa using e)
  | .val d :: rl, j + 1, l, h, e => noRef_at (rl := rl) (by simpa only [noRef] using h) (by simpa using e)
theorem Tri.apart (R0 : ∀ b, LA σ env b → H b ≠ none) (R : Rep K np He σ H' env) : ∀ {rl : List RV} {vs : List V} {ds : List D}, Tri K σ H H' env rl vs ds → okR rl = true → apA ds vs
  | [], vs, ds, h, _ => by
    obtain ⟨rfl, rfl⟩ := h
    trivial
  | .val d :: rl, vs, ds, h, ok => by
    obtain ⟨v, vr, dr, rfl, rfl, r, f, t⟩ := h
    have ih := Tri.apart R0 R t (by simpa only [okR] using ok)
    cases d with
    | lst xs =>
      refine ⟨fun j ys e q => ?_, ih⟩
      obtain ⟨a, us, rfl, _⟩ := r
      rcases t.arg e with ⟨i, v, e1, e2, e3, e4⟩ | ⟨a', e1, e2, e3⟩
      · rw [q] at e2
        cases e2
        exact R0 a ⟨i, ys, e4, e3⟩ ((f rfl).1 a rfl)
      · exact (f rfl).2 j ys e1 q
    | _ => exact ih
  | .ref i :: rl, vs, ds, h, ok => by
    obtain ⟨v, vr, xs, dr, rfl, rfl, s, g, t⟩ := h
    simp only [okR, Bool.and_eq_true] at ok
    have ih := Tri.apart R0 R t ok.2
    refine ⟨fun j ys e q => ?_, ih⟩
    obtain ⟨u, e5, a, us, rfl, _⟩ := R.val i _ g
    rw [s] at e5
    have ev : v = .ref a := by simpa using e5
    subst ev
    rcases t.arg e with ⟨l, v, e1, e2, e3, e4⟩ | ⟨a', e1, e2, e3⟩
    · rw [q] at e2
      cases e2
      exact noRef_at ok.1 e1 (R.apart i l xs ys a g e4 s e3)
    · rw [q] at e2
      cases e2
      exact R0 a ⟨i, xs, g, s⟩ e3
theorem upA_at : ∀ {rl : List RV} {vs : List V} {ds : List D} {ds' : List D} {env0 : DEnv} (j : Nat), Tri K σ H H' env rl vs ds → okR rl = true → env0.length = env.length → ds'.length = ds.length →
    (∀ (p : Nat) (xs : List D), ds[p]? = some (D.lst xs) → ∃ ys, ds'[p]? = some (D.lst ys)) →
    (∃ (p : Nat) (ys : List D) (v : V), rl[p]? = some (RV.ref j) ∧ ds'[p]? = some (D.lst ys) ∧ vs[p]? = some v ∧ σ[j]? = some (some v) ∧ (∃ xs, ds[p]? = some (D.lst xs) ∧ env[j]? = some (some (D.lst xs))) ∧ (upA rl ds' env0)[j]? = some (some (D.lst ys))) ∨ ((∀ (p : Nat), rl[p]? ≠ some (RV.ref j)) ∧ (upA rl ds' env0)[j]? = env0[j]?)
  | [], vs, ds, ds', env0, j, h, _, _, _, _ => .inr ⟨fun p => by simp, by unfold upA; rfl⟩
  | .val d :: rl, vs, ds, ds', env0, j, h, ok, hl, hd, hq => by
    obtain ⟨v, vr, dr, rfl, rfl, r, f, t⟩ := h
    cases ds' with
    | nil => simp at hd
    | cons d' ds' =>
      have ih := upA_at (ds' := ds') j t (by simpa only [okR] using ok) hl (by simpa using hd) (fun p xs e => by simpa using hq (p + 1) xs (by simpa using e))
      have eu : upA (.val d :: rl) (d' :: ds') env0 = upA rl ds' env0 := by
        cases d' <;> rfl
      rw [eu]
      rcases ih with ⟨p, ys, v', i1, i2, i3, i4, ⟨xs, i5, i6⟩, i7⟩ | ⟨i1, i2⟩
      · exact .inl ⟨p + 1, ys, v', by simpa using i1, by simpa using i2, by simpa using i3, i4, ⟨xs, by simpa using i5, i6⟩, i7⟩
      · refine .inr ⟨fun p => ?_, i2⟩
        cases p with
        | zero => simp
        | succ p => simpa using i1 p
  | .ref i :: rl, vs, ds, ds', env0, j, h, ok, hl, hd, hq => by
    obtain ⟨v, vr, xs, dr, rfl, rfl, s, g, t⟩ := h
    cases ds' with
    | nil => simp at hd
    | cons d' ds' =>
      obtain ⟨ys0, e0⟩ := hq 0 xs rfl
      simp at e0
      subst e0
      simp only [okR, Bool.and_eq_true] at ok
      have hi : i < env0.length := by rw [hl]; exact (List.getElem?_eq_some_iff.mp g).1
      have ih := upA_at (ds' := ds') (env0 := env0.set i (some (D.lst ys0))) j t ok.2 (by rw [List.length_set]; exact hl) (by simpa using hd) (fun p xs e => by simpa using hq (p + 1) xs (by simpa using e))
      show _ ∨ (_ ∧ (upA rl ds' (env0.set i (some (D.lst ys0))))[j]? = _)
      rcases ih with ⟨p, ys, v', i1, i2, i3, i4, ⟨xs', i5, i6⟩, i7⟩ | ⟨i1, i2⟩
      · exact .inl ⟨p + 1, ys, v', by simpa using i1, by simpa using i2, by simpa using i3, i4, ⟨xs', by simpa using i5, i6⟩, i7⟩
      · by_cases hj : i = j
        · subst hj
          exact .inl ⟨0, ys0, v, rfl, rfl, rfl, s, ⟨xs, rfl, g⟩, by show (upA rl ds' (env0.set i (some (D.lst ys0))))[i]? = _; rw [i2, List.getElem?_set_self hi]⟩
        · refine .inr ⟨fun p => ?_, by rw [i2, List.getElem?_set_ne hj]⟩
          cases p with
          | zero => simpa using fun z => hj z
          | succ p => simpa using i1 p
end
/-- behind a call -/
theorem SE.called {K : PySem.W.Frag} {σ : L2.St} {H H1 H' : Hp} {env e1 : DEnv} {rl : List RV} {vs : List V} {ds ds' : List D} (R : Rep K np He σ H env) (s1 : SE K np He σ H env H1 e1) (t : Tri K σ H H1 e1 rl vs ds) (ok : okR rl = true) (A : After K H1 H' ds ds' vs) :
    SE K np He σ H env H' (upA rl ds' e1) := by
  have la0 : ∀ b, LA σ env b → H b ≠ none := fun b z => by
    obtain ⟨us, e⟩ := R.la z
    rw [e]
    exact fun q => nomatch q
  have la1 : ∀ b, LA σ e1 b → H b ≠ none := fun b z => la0 b (s1.la.mp z)
  have argla : ∀ (i : Nat) (xs : List D) (b : Addr), ds[i]? = some (.lst xs) → vs[i]? = some (.ref b) → LA σ e1 b ∨ H b = none := fun i xs b e q => by
    rcases t.arg e with ⟨l, v, a1, a2, a3, a4⟩ | ⟨a', a1, a2, a3⟩
    · rw [q] at a2
      cases a2
      exact .inl ⟨l, xs, a4, a3⟩
    · rw [q] at a2
      cases a2
      exact .inr a3
  have hq : ∀ (p : Nat) (xs : List D), ds[p]? = some (D.lst xs) → ∃ ys, ds'[p]? = some (D.lst ys) := fun p xs e => by
    rcases t.arg e with ⟨l, v, a1, a2, a3, a4⟩ | ⟨a', a1, a2, a3⟩
    · obtain ⟨ys, q, _⟩ := A.lst p xs v e a2
      exact ⟨ys, q⟩
    · obtain ⟨ys, q, _⟩ := A.lst p xs _ e a2
      exact ⟨ys, q⟩
  have at_ := fun j => upA_at (env0 := e1) (ds' := ds') j t ok rfl A.len hq
  have kp1 : Kp H1 H' := fun b o e n => A.keep b o e fun i xs ed ev => by
    have hv : ∃ us, H1 b = some (.lst us) := by
      rcases t.arg ed with ⟨l, v, a1, a2, a3, a4⟩ | ⟨a', a1, a2, a3⟩
      · rw [ev] at a2
        cases a2
        exact s1.rep.la ⟨l, xs, a4, a3⟩
      · have rp : ∀ {rl : List RV} {vs : List V} {ds : List D} {i : Nat} {d : D} {v : V}, Tri K σ H H1 e1 rl vs ds → rl[i]? = some (.val d) → vs[i]? = some v → RpV K H1 d v := by
          intro rl
          induction rl with
          | nil => intro vs ds i d v _ e _; simp at e
          | cons r rl ih =>
            intro vs ds i d v t e ev
            cases r with
            | val d' =>
              obtain ⟨v', vr, dr, rfl, rfl, r, _, t⟩ := t
              cases i with
              | zero => simp at e ev; subst e ev; exact r
              | succ i => exact ih t (by simpa using e) (by simpa using ev)
            | ref m =>
              obtain ⟨v', vr, xs, dr, rfl, rfl, _, _, t⟩ := t
              cases i with
              | zero => simp at e
              | succ i => exact ih t (by simpa using e) (by simpa using ev)
        obtain ⟨c, us, ec, e3, _⟩ := rp t a1 ev
        cases ec
        exact ⟨us, e3⟩
    obtain ⟨us, e3⟩ := hv
    rw [e] at e3
    exact n us (Option.some.inj e3)
  have islst : ∀ (j : Nat) (ys : List D), (upA rl ds' e1)[j]? = some (some (D.lst ys)) → ∃ xs, e1[j]? = some (some (D.lst xs)) := fun j ys e => by
    rcases at_ j with ⟨p, zs, v, _, _, _, _, ⟨xs, _, i6⟩, _⟩ | ⟨_, i2⟩
    · exact ⟨xs, i6⟩
    · exact ⟨ys, i2 ▸ e⟩
  have lenU : ∀ (rl : List RV) (ds' : List D) (e : DEnv), (upA rl ds' e).length = e.length := by
    intro rl
    induction rl with
    | nil => intro ds' e; cases ds' <;> rfl
    | cons r rl ih =>
      intro ds' e
      cases ds' with
      | nil => cases r <;> rfl
      | cons d ds' =>
        cases r with
        | val d' => cases d <;> exact ih _ _
        | ref i =>
          cases d with
          | lst ys =>
            show (upA rl ds' (e.set i (some (.lst ys)))).length = _
            rw [ih, List.length_set]
          | _ => exact ih _ _
  refine ⟨⟨by rw [lenU]; exact s1.rep.len, fun j d e => ?_, fun i j xs ys a e2 e3 g2 g3 => ?_, fun i xs a hi e2 g2 => ?_, fun b n => s1.rep.dom b (A.dom b n)⟩, fun j => ?_, fun b o e n => ?_, fun b n => s1.dom b (A.dom b n)⟩
  · rcases at_ j with ⟨p, ys, v, i1, i2, i3, i4, ⟨xs, i5, i6⟩, i7⟩ | ⟨i1, i2⟩
    · rw [i7] at e
      cases e
      obtain ⟨ys', q1, q2⟩ := A.lst p xs v i5 i3
      rw [i2] at q1
      cases q1
      exact ⟨v, i4, q2⟩
    · rw [i2] at e
      obtain ⟨v, e2, rv⟩ := s1.rep.val j d e
      refine ⟨v, e2, ?_⟩
      cases d with
      | lst zs =>
        refine rv.kpl kp1 fun c o ec eo => ?_
        subst ec
        refine A.keep c o eo fun i xs ed ev => ?_
        rcases t.arg ed with ⟨l, v, a1, a2, a3, a4⟩ | ⟨a', a1, a2, a3⟩
        · rw [ev] at a2
          cases a2
          have := s1.rep.apart j l zs xs c e a4 e2 a3
          subst this
          exact i1 i a1
        · rw [ev] at a2
          cases a2
          exact la1 c ⟨j, zs, e, e2⟩ a3
      | _ => exact rv.kp kp1 rfl
  · obtain ⟨x1, q1⟩ := islst i xs e2
    obtain ⟨x2, q2⟩ := islst j ys e3
    exact s1.rep.apart i j x1 x2 a q1 q2 g2 g3
  · obtain ⟨x1, q1⟩ := islst i xs e2
    exact s1.rep.own i x1 a hi q1 g2
  · have sh : (upA rl ds' e1)[j]? = e1[j]? ∨ ∃ (xs ys : List D), e1[j]? = some (some (D.lst xs)) ∧ (upA rl ds' e1)[j]? = some (some (D.lst ys)) := by
      rcases at_ j with ⟨p, ys, v, i1, i2, i3, i4, ⟨xs, i5, i6⟩, i7⟩ | ⟨i1, i2⟩
      · exact .inr ⟨xs, ys, i6, i7⟩
      · exact .inl i2
    rcases sh with h | ⟨ys, zs, h1, h2⟩
    · rcases s1.shape j with g | ⟨us, ws, g1, g2⟩
      · exact .inl (h.trans g)
      · exact .inr ⟨us, ws, g1, h.trans g2⟩
    · rcases s1.shape j with g | ⟨us, ws, g1, g2⟩
      · exact .inr ⟨ys, zs, g ▸ h1, h2⟩
      · exact .inr ⟨us, zs, g1, h2⟩
  · refine A.keep b o (s1.keep b o e n) fun i xs ed ev => ?_
    rcases argla i xs b ed ev with z | z
    · exact n (s1.la.mp z)
    · rw [e] at z
      cases z
theorem Tri.len {K : PySem.W.Frag} {σ : L2.St} {H H' : Hp} {env : DEnv} : ∀ {rl : List RV} {vs : List V} {ds : List D}, Tri K σ H H' env rl vs ds → rl.length = vs.length
  | [], vs, ds, h => by rw [h.1]; rfl
  | .val d :: rl, vs, ds, h => by
    obtain ⟨v, vr, dr, rfl, rfl, _, _, t⟩ := h
    simp only [List.length_cons, Tri.len t]
  | .ref i :: rl, vs, ds, h => by
    obtain ⟨v, vr, xs, dr, rfl, rfl, _, _, t⟩ := h
    simp only [List.length_cons, Tri.len t]
def cCallN (n : Nat) (sp : FSpec) (ws : WA) : W := fun env Q => ws env fun rl e1 => rl.length = n ∧ rsl e1 rl fun ds => okR rl = true ∧ sp.pre ds ∧ ∀ r ds', sp.post ds r ds' → Q (.val r) (upA rl ds' e1)
theorem e_call {sp : FSpec} {k n : Nat} {ps : List Str} {x : Str} {p : Pos} (F : FnD X.prog X.w X.K X.mg X.base k x ps sp) (hr : Room k X.A) (ha : DA X np He (a :: es) ws) (hn : ps.length = n := by rfl) (hg : Gl X x := by rfl) (hdb : (x == ("__debug__" : Str)) = false := by decide)
    (he : starEach (a :: es) X.env = (false, eval a X.env) :: starEach es X.env := by rfl) (hpl : (backTo pos (starEach es X.env)).any (·.1) = false := by rfl) :
    DE X np He (.Call (.Name x p) (a :: es) [] pos) (cCallN n sp ws) := by
  subst hn
  obtain ⟨f, fd, F, hm, hk, hb⟩ := F.ex
  refine PE.weak (pe_call F hr hg hm hk hb .nil pass0 ha hdb he hpl) fun σ H Q ⟨env, Q0, R, w, q⟩ => ⟨env, _, R, w, fun rl e1 vs H1 w1 s1 r1 => ?_⟩
  obtain ⟨hn, w1⟩ := w1
  obtain ⟨ds, t, hd, ok, pre, w1⟩ := tri_of s1.rep r1 w1
  have la1 : ∀ b, LA σ e1 b → H b ≠ none := fun b z => by
    obtain ⟨us, e⟩ := R.la (s1.la.mp z)
    rw [e]
    exact fun q => nomatch q
  rw [List.append_nil]
  refine ⟨ds, by rw [← t.len]; exact hn, hd, t.apart la1 s1.rep ok, pre, fun r ds' v H' po A rv fr => ?_⟩
  exact q _ _ v H' (w1 r ds' po) (.called R s1 t ok A) ⟨rv, fun n c e => s1.dom c (fr n c e)⟩
end
end DL

namespace DL
open PySem PySem.Spec PyProof.Rows L2

/-! ### a statement's step -/
structure SS (K : PySem.W.Frag) (np : Nat) (He : Hp) (pr : List Nat) (σ : L2.St) (H : Hp) (env : DEnv) (σ' : L2.St) (H' : Hp) (env' : DEnv) : Prop where
  rep : Rep K np He σ' H' env'
  keep : ∀ b o, H b = some o → ¬ LA σ env b → H' b = some o ∧ ¬ LA σ' env' b
  par : ∀ (i : Nat) (xs : List D), i ∈ pr → env[i]? = some (some (D.lst xs)) → σ'[i]? = σ[i]? ∧ ∃ (ys : List D), env'[i]? = some (some (D.lst ys))
  dom : ∀ b, H' b = none → H b = none
  len : env'.length = env.length
section
variable {K : PySem.W.Frag} {np : Nat} {He : Hp} {pr pr' : List Nat} {σ σ' σ'' : L2.St} {H H' H'' : Hp} {env env' env'' : DEnv}
theorem SS.refl (R : Rep K np He σ H env) : SS K np He pr σ H env σ H env := ⟨R, fun _ _ h n => ⟨h, n⟩, fun _ xs _ e => ⟨rfl, xs, e⟩, fun _ h => h, rfl⟩
theorem SS.trans (a : SS K np He pr σ H env σ' H' env') (b : SS K np He pr σ' H' env' σ'' H'' env'') : SS K np He pr σ H env σ'' H'' env'' where
  rep := b.rep
  keep := fun c o h n => let ⟨h1, n1⟩ := a.keep c o h n; b.keep c o h1 n1
  par := fun i xs hi e => by
    obtain ⟨e1, ys, e2⟩ := a.par i xs hi e
    obtain ⟨e3, zs, e4⟩ := b.par i ys hi e2
    exact ⟨e3.trans e1, zs, e4⟩
  dom := fun c h => a.dom c (b.dom c h)
  len := b.len.trans a.len
theorem SE.ss (s : SE K np He σ H env H' env') (R : Rep K np He σ H env) : SS K np He pr σ H env σ H' env' where
  rep := s.rep
  keep := fun b o h n => ⟨s.keep b o h n, fun z => n (s.la.mp z)⟩
  par := fun i xs _ e => ⟨rfl, by
    rcases s.shape i with h | ⟨us, ws, g1, g2⟩
    · exact ⟨xs, h.trans e⟩
    · exact ⟨ws, g2⟩⟩
  dom := s.dom
  len := by rw [← s.rep.len, R.len]
theorem SS.sub (h : ∀ i ∈ pr, i ∈ pr') (s : SS K np He pr' σ H env σ' H' env') : SS K np He pr σ H env σ' H' env' := ⟨s.rep, s.keep, fun i xs hi e => s.par i xs (h i hi) e, s.dom, s.len⟩
theorem SS.kp (R : Rep K np He σ H env) (s : SS K np He pr σ H env σ' H' env') : Kp H H' := fun b o h n => (s.keep b o h fun z => by
  obtain ⟨vs, e⟩ := R.la z
  rw [h] at e
  exact n vs (Option.some.inj e)).1

/-! ### a value is stored -/
def isLo : Option D → Bool
  | some (.lst _) => true
  | _ => false
def stOk (np : Nat) (pr : List Nat) (env : DEnv) (i : Nat) (d : D) : Bool := match env[i]? with
  | none => false
  | some old => (!isL d || decide (np ≤ i)) && (!(pr.contains i) || !isLo old)
theorem SS.put {i : Nat} {d : D} {v : V} {H1 : Hp} {e1 : DEnv} (R : Rep K np He σ H env) (s : SE K np He σ H env H1 e1) (ok : stOk np pr e1 i d = true) (r : RpV K H1 d v) (fr : isL d = true → ∀ a, v = .ref a → H a = none) :
    SS K np He pr σ H env (σ.set i (some v)) H1 (e1.set i (some d)) := by
  have nla : isL d = true → ∀ a, v = .ref a → ¬ LA σ e1 a := fun n a e z => by
    obtain ⟨us, q⟩ := R.la (s.la.mp z)
    rw [fr n a e] at q
    cases q
  have R1 := s.rep
  have st := SE.ss (pr := pr) s R
  unfold stOk at ok
  split at ok
  · cases ok
  · rename_i old e
    have hi : i < e1.length := (List.getElem?_eq_some_iff.mp e).1
    have his : i < σ.length := by rw [R1.len]; exact hi
    simp only [Bool.and_eq_true, Bool.or_eq_true, Bool.not_eq_true', decide_eq_true_eq, List.contains_eq_mem, decide_eq_false_iff_not] at ok
    have isl : ∀ (j : Nat) (xs : List D), (e1.set i (some d))[j]? = some (some (D.lst xs)) → (j = i ∧ d = .lst xs) ∨ (j ≠ i ∧ e1[j]? = some (some (D.lst xs))) := fun j xs e => by
      by_cases hj : i = j
      · subst hj
        rw [List.getElem?_set_self hi] at e
        exact .inl ⟨rfl, by simpa using e⟩
      · rw [List.getElem?_set_ne hj] at e
        exact .inr ⟨fun z => hj z.symm, e⟩
    have σset : ∀ (j : Nat), j ≠ i → (σ.set i (some v))[j]? = σ[j]? := fun j hj => List.getElem?_set_ne fun z => hj z.symm
    have σself : (σ.set i (some v))[i]? = some (some v) := List.getElem?_set_self his
    refine ⟨⟨by rw [List.length_set, List.length_set]; exact R1.len, fun j d' e' => ?_, fun j l xs ys a e1' e2 s1 s2 => ?_, fun j xs a hj e' s' => ?_, R1.dom⟩, fun b o h n => ⟨s.keep b o h n, ?_⟩, fun j xs hj e' => ?_, s.dom, by rw [List.length_set]; exact st.len⟩
    · by_cases hj : i = j
      · subst hj
        rw [List.getElem?_set_self hi] at e'
        cases e'
        exact ⟨v, σself, r⟩
      · rw [List.getElem?_set_ne hj] at e'
        obtain ⟨u, e1, ru⟩ := R1.val j d' e'
        exact ⟨u, (List.getElem?_set_ne hj).trans e1, ru⟩
    · rcases isl j xs e1' with ⟨q1, q2⟩ | ⟨n1, q1⟩
      · rcases isl l ys e2 with ⟨q3, _⟩ | ⟨n2, q3⟩
        · exact q1.trans q3.symm
        · rw [q1, σself] at s1
          rw [σset l n2] at s2
          have ev : v = .ref a := by simpa using s1
          exact absurd ⟨l, ys, q3, s2⟩ (nla (by rw [q2]; rfl) a ev)
      · rw [σset j n1] at s1
        rcases isl l ys e2 with ⟨q3, q4⟩ | ⟨n2, q3⟩
        · rw [q3, σself] at s2
          have ev : v = .ref a := by simpa using s2
          exact absurd ⟨j, xs, q1, s1⟩ (nla (by rw [q4]; rfl) a ev)
        · rw [σset l n2] at s2
          exact R1.apart j l xs ys a q1 q3 s1 s2
    · rcases isl j xs e' with ⟨q1, q2⟩ | ⟨n1, q1⟩
      · rw [q1, σself] at s'
        have ev : v = .ref a := by simpa using s'
        exact R.dom a (fr (by rw [q2]; rfl) a ev)
      · rw [σset j n1] at s'
        exact R1.own j xs a hj q1 s'
    · rintro ⟨j, xs, q0, s1⟩
      rcases isl j xs q0 with ⟨q1, q2⟩ | ⟨n1, q1⟩
      · rw [q1, σself] at s1
        have ev : v = .ref b := by simpa using s1
        have z := fr (by rw [q2]; rfl) b ev
        rw [h] at z
        cases z
      · rw [σset j n1] at s1
        exact n (s.la.mp ⟨j, xs, q1, s1⟩)
    · obtain ⟨_, ys, e2⟩ := st.par j xs hj e'
      by_cases hji : j = i
      · rw [hji, e] at e2
        cases e2
        rcases ok.2 with z | z
        · rw [hji] at hj
          exact absurd hj z
        · simp [isLo] at z
      · exact ⟨σset j hji, ys, (List.getElem?_set_ne fun z => hji z.symm).trans e2⟩
end

/-! ### targets -/
abbrev G := D → DEnv → (DEnv → Prop) → Prop
abbrev Gs := List D → DEnv → (DEnv → Prop) → Prop
/-- slots outside sl stay -/
def Out (sl : List Nat) (σ σ' : L2.St) (env env' : DEnv) : Prop := ∀ j, j ∉ sl → σ'[j]? = σ[j]? ∧ env'[j]? = env[j]?
def rG (K : PySem.W.Frag) (np : Nat) (He : Hp) (pr sl : List Nat) (g : G) : TG := fun v σ H Q => ∃ env d Q0, Rep K np He σ H env ∧ RpI K H d v ∧ g d env Q0 ∧ ∀ env' σ', Q0 env' → SS K np He pr σ H env σ' H env' → Out sl σ σ' env env' → Q σ' H
def rGs (K : PySem.W.Frag) (np : Nat) (He : Hp) (pr sl : List Nat) (g : Gs) : TGs := fun vs σ H Q => ∃ env ds Q0, Rep K np He σ H env ∧ RpIs K H ds vs ∧ g ds env Q0 ∧ ∀ env' σ', Q0 env' → SS K np He pr σ H env σ' H env' → Out sl σ σ' env env' → Q σ' H
theorem PG.weak {X : Cx} {e : Expr} {t t' : TG} (h : PG X e t) (i : ∀ v σ H Q, t' v σ H Q → t v σ H Q) : PG X e t' := ⟨fun pins s σ H v u Q I r q => h.run pins s σ H v u Q I r (i v σ H Q q)⟩
theorem PGs.weak {X : Cx} {e : List Expr} {t t' : TGs} (h : PGs X e t) (i : ∀ v σ H Q, t' v σ H Q → t v σ H Q) : PGs X e t' := ⟨fun pins s σ H v u Q I r q => h.run pins s σ H v u Q I r (i v σ H Q q)⟩
section
variable {X : Cx} {np : Nat} {He : Hp} {pr sl : List Nat} {pos : Pos}
abbrev DG (X : Cx) (np : Nat) (He : Hp) (pr sl : List Nat) (e : Expr) (g : G) : Prop := PG X e (rG X.K np He pr sl g)
abbrev DGs (X : Cx) (np : Nat) (He : Hp) (pr sl : List Nat) (e : List Expr) (g : Gs) : Prop := PGs X e (rGs X.K np He pr sl g)
def gN (np : Nat) (pr : List Nat) (i : Nat) : G := fun d env k => stOk np pr env i d = true ∧ k (env.set i (some d))
theorem RpI.immL {K : PySem.W.Frag} {H : Hp} {d : D} {v : V} (h : RpI K H d v) : isL d = false := by
  cases d <;> first | rfl | (simp only [RpI] at h)
theorem g_name (i : Nat) {x : Str} (hN : X.N.Nodup) (hsl : i ∈ sl := by decide) (hi : X.N[i]? = some x := by rfl) (hx : Loc X.env.scope x := by first | exact Or.inl rfl | exact Or.inr rfl) (hf : X.fn x = true ∨ X.env.scope.names.lookup x = some .local := by first | exact .inl rfl | exact .inr rfl | assumption) :
    DG X np He pr sl (.Name x pos) (gN np pr i) := by
  refine PG.weak (pg_name hN hi hx hf) fun v σ H Q ⟨env, d, Q0, R, r, ⟨ok, w⟩, q⟩ => ?_
  refine q _ _ w (.put R (.refl R) ok (.of r) fun n => by rw [r.immL] at n; cases n) fun j hj => ?_
  have hji : i ≠ j := fun z => hj (z ▸ hsl)
  exact ⟨List.getElem?_set_ne hji, List.getElem?_set_ne hji⟩
def gNil' : Gs := fun ds env k => match ds with
  | [] => k env
  | _ => False
def gCons' (g : G) (gs : Gs) : Gs := fun ds env k => match ds with
  | d :: r => g d env fun e => gs r e k
  | [] => False
theorem g_nil : DGs X np He pr sl [] gNil' := by
  refine PGs.weak pgs_nil fun vs σ H Q ⟨env, ds, Q0, R, r, w, q⟩ => ?_
  cases ds with
  | nil =>
    simp only [RpIs] at r
    exact ⟨r, q env σ w (.refl R) fun _ _ => ⟨rfl, rfl⟩⟩
  | cons d ds => exact False.elim w
theorem g_cons {e : Expr} {es : List Expr} {g : G} {gs : Gs} (h1 : DG X np He pr sl e g) (h2 : DGs X np He pr sl es gs) (hs : (assignEach (e :: es) X.env).map (·.2) = assign e X.env :: (assignEach es X.env).map (·.2) := by rfl) : DGs X np He pr sl (e :: es) (gCons' g gs) := by
  refine PGs.weak (pgs_cons h1 h2 hs) fun vs σ H Q ⟨env, ds, Q0, R, r, w, q⟩ => ?_
  cases ds with
  | nil => exact False.elim w
  | cons d ds =>
    simp only [RpIs] at r
    obtain ⟨v, vr, rfl, r1, r2⟩ := r
    refine ⟨v, vr, rfl, env, d, _, R, r1, w, fun e1 σ1 w1 s1 o1 => ⟨e1, ds, _, s1.rep, r2, w1, fun e2 σ2 w2 s2 o2 => q e2 σ2 w2 (s1.trans s2) fun j hj => ?_⟩⟩
    exact ⟨(o2 j hj).1.trans (o1 j hj).1, (o2 j hj).2.trans (o1 j hj).2⟩
def gT (n : Nat) (gs : Gs) : G := fun d env k => match d with
  | .tup ds => ds.length = n ∧ gs ds env k
  | _ => False
theorem g_tup {es : List Expr} {k : Nat} {gs : Gs} {n : Nat} (hc : X.calm = true) (h : DGs X np He pr sl es gs)
    (hn : (assignEach es X.env).length = n := by rfl) (hst : (assignEach es X.env).findIdx? (·.1) = none := by rfl) : DG X np He pr sl (.Tuple es k pos) (gT n gs) := by
  refine PG.weak (pg_tup hc h hn hst) fun v σ H Q ⟨env, d, Q0, R, r, w, q⟩ => ?_
  cases d with
  | tup ds =>
    obtain ⟨hl, w⟩ := w
    simp only [RpI] at r
    obtain ⟨a, vs, rfl, s, r⟩ := r
    exact ⟨a, vs, rfl, .of s, by rw [← r.length]; exact hl, env, ds, Q0, R, r, w, q⟩
  | _ => exact False.elim w
end

/-! ### what is walked -/
structure Src where
  xs : List D
  chk : List (Nat × List D)
def chkE : List (Nat × List D) → DEnv → Prop
  | [], _ => True
  | (i, l) :: r, env => env[i]? = some (some (D.lst l)) ∧ chkE r env
abbrev WI := DEnv → (Src → DEnv → Prop) → Prop
/-- all that is neither list nor dict is kept -/
def KpS (H H' : Hp) : Prop := ∀ b o, H b = some o → (∀ xs, o ≠ .lst xs) → (∀ kvs, o ≠ .dT kvs) → (∀ kvs, o ≠ .dK kvs) → H' b = some o
theorem Kp.s {H H' : Hp} (k : Kp H H') : KpS H H' := fun b o h n _ _ => k b o h n
theorem KpS.tup {K : PySem.W.Frag} {H H' : Hp} (k : KpS H H') {a : Addr} {vs : List V} (h : SqT K H a vs) : SqT K H' a vs := by
  rcases h with (h | ⟨o, h⟩) | h
  · exact .inl (.inl (k _ _ h (fun _ e => nomatch e) (fun _ e => nomatch e) fun _ e => nomatch e))
  · exact .inl (.inr ⟨o, k _ _ h (fun _ e => nomatch e) (fun _ e => nomatch e) fun _ e => nomatch e⟩)
  · exact .inr h
theorem KpS.rol {K : PySem.W.Frag} {H H' : Hp} (k : KpS H H') {a : Addr} {vs : List V} (h : SqR K H a vs) : SqR K H' a vs := by
  rcases h with ⟨o, h⟩ | h
  · exact .inl ⟨o, k _ _ h (fun _ e => nomatch e) (fun _ e => nomatch e) fun _ e => nomatch e⟩
  · exact .inr h
mutual
theorem RpI.kps {K : PySem.W.Frag} {H H' : Hp} (k : KpS H H') : ∀ (d : D) (v : V), RpI K H d v → RpI K H' d v
  | .non, v, h => h
  | .bl _, v, h => h
  | .int _, v, h => h
  | .str _, v, h => h
  | .tup ds, v, h => by
    simp only [RpI] at h ⊢
    obtain ⟨a, vs, e, s, r⟩ := h
    exact ⟨a, vs, e, k _ _ s (fun _ z => nomatch z) (fun _ z => nomatch z) (fun _ z => nomatch z), RpIs.kps k ds vs r⟩
  | .tpd ds, v, h => by
    simp only [RpI] at h ⊢
    obtain ⟨a, vs, e, s, r⟩ := h
    refine ⟨a, vs, e, ?_, RpIs.kps k ds vs r⟩
    rcases s with ⟨o, s, d⟩ | s
    · exact .inl ⟨o, k _ _ s (fun _ z => nomatch z) (fun _ z => nomatch z) (fun _ z => nomatch z), d⟩
    · exact .inr s
  | .rod ks ds, v, h => by
    simp only [RpI] at h ⊢
    obtain ⟨a, kvs, e, s, m, r⟩ := h
    obtain ⟨o, s⟩ := s
    exact ⟨a, kvs, e, ⟨o, k _ _ s (fun _ z => nomatch z) (fun _ z => nomatch z) (fun _ z => nomatch z)⟩, m, RpIs.kps k ds _ r⟩
  | .rdk ks ds, v, h => by
    simp only [RpI] at h ⊢
    obtain ⟨a, kvs, e, s, m, r⟩ := h
    obtain ⟨o, s⟩ := s
    exact ⟨a, kvs, e, ⟨o, k _ _ s (fun _ z => nomatch z) (fun _ z => nomatch z) (fun _ z => nomatch z)⟩, m, RpIs.kps k ds _ r⟩
  | .rol ds, v, h => by
    simp only [RpI] at h ⊢
    obtain ⟨a, vs, e, s, r⟩ := h
    exact ⟨a, vs, e, k.rol s, RpIs.kps k ds vs r⟩
  | .obj n ds, v, h => by
    simp only [RpI] at h ⊢
    obtain ⟨a, C, dx, kvs, e, c, s, m, r⟩ := h
    exact ⟨a, C, dx, kvs, e, c, k _ _ s (fun _ z => nomatch z) (fun _ z => nomatch z) (fun _ z => nomatch z), m, RpIs.kps k ds _ r⟩
  | .lst _, v, h => by simp only [RpI] at h
theorem RpIs.kps {K : PySem.W.Frag} {H H' : Hp} (k : KpS H H') : ∀ (ds : List D) (vs : List V), RpIs K H ds vs → RpIs K H' ds vs
  | [], vs, h => by simp only [RpIs] at h ⊢; exact h
  | d :: ds, vs, h => by
    simp only [RpIs] at h ⊢
    obtain ⟨v, r, e, h1, h2⟩ := h
    exact ⟨v, r, e, RpI.kps k d v h1, RpIs.kps k ds r h2⟩
end
structure Stay (K : PySem.W.Frag) (np : Nat) (He : Hp) (σ1 : L2.St) (H H1 : Hp) (e1 : DEnv) (chk : List (Nat × List D)) (H' : Hp) : Prop where
  kp : KpS H1 H'
  keep : ∀ b xs, H b = none → H1 b = some (.lst xs) → ¬ LA σ1 e1 b → H' b = some (.lst xs)
  chk : ∀ p ∈ chk, ∀ a, σ1[p.1]? = some (some (V.ref a)) → ∃ us, H' a = some (.lst us) ∧ RpIs K H' p.2 us
def rI (K : PySem.W.Frag) (np : Nat) (He : Hp) (w : WI) : TI := fun σ H R => ∃ env Q0, Rep K np He σ H env ∧ w env Q0 ∧
  ∀ src e1 H1 J (Gd : Hp → Prop) (Y : Nat → Hp → V → Hp → Prop), Q0 src e1 → SE K np He σ H env H1 e1 → Walk J src.xs.length Gd Y → (∀ p ∈ src.chk, e1[p.1]? = some (some (D.lst p.2))) →
    (∀ i H2 x H3, i < src.xs.length → Y i H2 x H3 → Gd H2 → Ext H2 H3 ∧ ∃ d, src.xs[i]? = some d ∧ RpI K H3 d x) → (∀ H', Stay K np He σ H H1 e1 src.chk H' → Gd H') → R J H1
theorem PI.weak {X : Cx} {tg e : Expr} {t t' : TI} (h : PI X tg e t) (i : ∀ σ H R, t' σ H R → t σ H R) : PI X tg e t' := ⟨fun pins s σ H R I q => h.run pins s σ H R I (i σ H R q)⟩
section
variable {X : Cx} {np : Nat} {He : Hp} {a b c e tg : Expr} {es : List Expr} {wa wb wc : W} {ws : WA} {pos : Pos}
abbrev DI (X : Cx) (np : Nat) (He : Hp) (tg e : Expr) (w : WI) : Prop := PI X tg e (rI X.K np He w)
def iSeq (K : PySem.W.Frag) (tl : TE) : TI := fun σ H R => tl σ H fun x H1 => ∃ a, x = .ref a ∧ (((∃ xs, SqL K H1 a xs) ∧ R (Itl K a) H1) ∨ ((∃ xs, SqT K H1 a xs) ∧ R (Itt K a) H1))
theorem pi_seq {l : Expr} {tl : TE} (hl : PE X l tl) : PI X tg l (iSeq X.K tl) := by
  refine ⟨fun pins s σ H R I h => ?_⟩
  refine thn (hl.run pins s σ H _ I h) fun v s1 ⟨x, H1, I1, r1, q1⟩ => ?_
  obtain ⟨a, e, q⟩ := q1
  subst e
  cases r1
  rcases q with ⟨⟨xs, hq⟩, q⟩ | ⟨⟨xs, hq⟩, q⟩
  · obtain ⟨its, rv, p, hz⟩ := I1.list hq
    refine wpAny_pyIter_list p.isList ?_
    refine ⟨s1.heap.objs.size, [s1.heap.objs.size], _, _, H1, rfl, I1.kept (t' := s1.toks) fun b o e => Heap.get?_push_of_some _ e, turn_list a _, ⟨_, Heap.get?_push_size _ rfl, rfl, rfl⟩, fun b hb => ?_, q⟩
    have e : b = s1.heap.objs.size := by simpa using hb
    subst e
    exact I1.fpOk (Nat.le_refl _) (I1.hok.fresh (Nat.le_refl _))
  · obtain ⟨its, rv, p, hz⟩ := I1.tuple hq
    refine wpAny_pyIter_tuple (show s1.heap.IsTuple a its.toArray from p) ?_
    refine ⟨s1.heap.objs.size, [s1.heap.objs.size], _, _, H1, rfl, I1.kept (t' := s1.toks) fun b o e => Heap.get?_push_of_some _ e, turn_tuple a _, ⟨_, Heap.get?_push_size _ rfl, rfl, rfl⟩, fun b hb => ?_, q⟩
    have e : b = s1.heap.objs.size := by simpa using hb
    subst e
    exact I1.fpOk (Nat.le_refl _) (I1.hok.fresh (Nat.le_refl _))
/-- a list that bears data, read anew at each turn -/
theorem walk_rl {K : PySem.W.Frag} {a : Addr} {ds : List D} : Walk (Itl K a) ds.length (fun H => ∃ vs, SqL K H a vs ∧ RpIs K H ds vs) (fun i H x H' => H' = H ∧ ∃ d, ds[i]? = some d ∧ RpI K H d x) := by
  refine ⟨fun i H hi ⟨vs, s, r⟩ => ?_, fun H ⟨vs, s, r⟩ => ⟨vs, s, by rw [r.length]; exact Nat.le_refl _⟩, fun i H x H' hi ⟨vs, s, r⟩ y => ?_⟩
  · obtain ⟨v, e, _⟩ := r.get (List.getElem?_eq_getElem hi)
    exact ⟨vs, v, s, e⟩
  · obtain ⟨d, e, rd⟩ := r.get' (y.2 vs s)
    exact ⟨y.1, d, e, rd⟩
theorem walk_rt {K : PySem.W.Frag} {a : Addr} {ds : List D} : Walk (Itt K a) ds.length (fun H => ∃ vs, SqT K H a vs ∧ RpIs K H ds vs) (fun i H x H' => H' = H ∧ ∃ d, ds[i]? = some d ∧ RpI K H d x) := by
  refine ⟨fun i H hi ⟨vs, s, r⟩ => ?_, fun H ⟨vs, s, r⟩ => ⟨vs, s, by rw [r.length]; exact Nat.le_refl _⟩, fun i H x H' hi ⟨vs, s, r⟩ y => ?_⟩
  · obtain ⟨v, e, _⟩ := r.get (List.getElem?_eq_getElem hi)
    exact ⟨vs, v, s, e⟩
  · obtain ⟨d, e, rd⟩ := r.get' (y.2 vs s)
    exact ⟨y.1, d, e, rd⟩
/-- a walked thing: a value, or a list in a slot -/
def srcR (e1 : DEnv) (r : RV) (k : List D → List (Nat × List D) → Prop) : Prop := match r with
  | .val (.lst xs) => k xs []
  | .val (.tup xs) => k xs []
  | .val (.rol xs) => k xs []
  | .val (.tpd xs) => k xs []
  | .ref i => getl e1 i fun xs => k xs [(i, xs)]
  | _ => False
/-- where it stands -/
theorem src_at {K : PySem.W.Frag} {σ : L2.St} {H H1 : Hp} {env e1 : DEnv} {v : V} {r : RV} {k : List D → List (Nat × List D) → Prop} (R : Rep K np He σ H env) (s1 : SE K np He σ H env H1 e1) (h : RpR K σ H H1 e1 v r) (g : srcR e1 r k) :
    ∃ ds chk a, k ds chk ∧ v = .ref a ∧ (∀ p ∈ chk, e1[p.1]? = some (some (D.lst p.2))) ∧
      ((∀ H' : Hp, Stay K np He σ H H1 e1 chk H' → ∃ vs, SqL K H' a vs ∧ RpIs K H' ds vs) ∨ (∀ H' : Hp, Stay K np He σ H H1 e1 chk H' → ∃ vs, SqT K H' a vs ∧ RpIs K H' ds vs)) := by
  cases r with
  | ref i =>
    obtain ⟨xs, e, g⟩ := getl_of g
    obtain ⟨hs, _⟩ := h
    obtain ⟨a, us, e2, ha, ra⟩ := s1.rep.lst e
    rw [hs] at e2
    have ev : v = .ref a := by simpa using e2
    refine ⟨xs, [(i, xs)], a, g, ev, fun p hp => ?_, .inl fun H' st => ?_⟩
    · cases (show p = (i, xs) by simpa using hp)
      exact e
    · obtain ⟨us', h1, h2⟩ := st.chk (i, xs) (by simp) a (by rw [hs, ev])
      exact ⟨us', .of h1, h2⟩
  | val d =>
    obtain ⟨h, fr⟩ := h
    cases d with
    | lst xs =>
      obtain ⟨a, us, ev, ha, ra⟩ := h
      refine ⟨xs, [], a, g, ev, fun p hp => absurd hp (by simp), .inl fun H' st => ⟨us, .of (st.keep a _ (fr rfl a ev) ha fun z => ?_), RpIs.kps st.kp xs us ra⟩⟩
      obtain ⟨ws, q⟩ := R.la (s1.la.mp z)
      rw [fr rfl a ev] at q
      cases q
    | tup xs =>
      obtain ⟨a, us, ev, ha, ra⟩ := (show ∃ a vs, v = .ref a ∧ H1 a = some (.tup vs) ∧ RpIs K H1 xs vs by simpa only [RpV, RpI] using h)
      exact ⟨xs, [], a, g, ev, fun p hp => absurd hp (by simp), .inr fun H' st => ⟨us, st.kp.tup (.of ha), RpIs.kps st.kp xs us ra⟩⟩
    | tpd xs =>
      obtain ⟨a, us, ev, ha, ra⟩ := (show ∃ a vs, v = .ref a ∧ TpK K H1 a vs ∧ RpIs K H1 xs vs by simpa only [RpV, RpI] using h)
      exact ⟨xs, [], a, g, ev, fun p hp => absurd hp (by simp), .inr fun H' st => ⟨us, st.kp.tup ha.t, RpIs.kps st.kp xs us ra⟩⟩
    | rol xs =>
      obtain ⟨a, us, ev, ha, ra⟩ := (show ∃ a vs, v = .ref a ∧ SqR K H1 a vs ∧ RpIs K H1 xs vs by simpa only [RpV, RpI] using h)
      exact ⟨xs, [], a, g, ev, fun p hp => absurd hp (by simp), .inl fun H' st => ⟨us, (st.kp.rol ha).seq, RpIs.kps st.kp xs us ra⟩⟩
    | _ => exact False.elim g
theorem Stay.here {K : PySem.W.Frag} {σ : L2.St} {H H1 : Hp} {e1 : DEnv} {chk : List (Nat × List D)} (R : Rep K np He σ H1 e1) (h : ∀ p ∈ chk, e1[p.1]? = some (some (D.lst p.2))) : Stay K np He σ H H1 e1 chk H1 := by
  refine ⟨(Kp.refl _).s, fun _ _ _ h _ => h, fun p hp a ea => ?_⟩
  obtain ⟨a', us, e, ha, ra⟩ := R.lst (h p hp)
  rw [ea] at e
  have : a = a' := by simpa using e
  subst this
  exact ⟨us, ha, ra⟩
def iE (wa : W) : WI := fun env Q => wa env fun r e1 => srcR e1 r fun xs chk => Q ⟨xs, chk⟩ e1
theorem i_seq (ha : DE X np He a wa) : DI X np He tg a (iE wa) := by
  refine PI.weak (pi_seq ha) fun σ H R ⟨env, Q0, Rp, w, q⟩ => ⟨env, _, Rp, w, fun r e1 v H1 w1 s1 r1 => ?_⟩
  obtain ⟨ds, chk, a, k, rfl, hc, hs⟩ := src_at Rp s1 r1 w1
  have here := Stay.here (H := H) s1.rep hc
  refine ⟨a, rfl, ?_⟩
  rcases hs with hs | hs
  · obtain ⟨vs, s, _⟩ := hs H1 here
    refine .inl ⟨⟨vs, s⟩, q ⟨ds, chk⟩ e1 H1 _ _ _ k s1 walk_rl hc (fun i H2 x H3 _ ⟨y1, y2⟩ _ => ?_) hs⟩
    subst y1
    exact ⟨.refl _, y2⟩
  · obtain ⟨vs, s, _⟩ := hs H1 here
    refine .inr ⟨⟨vs, s⟩, q ⟨ds, chk⟩ e1 H1 _ _ _ k s1 walk_rt hc (fun i H2 x H3 _ ⟨y1, y2⟩ _ => ?_) hs⟩
    subst y1
    exact ⟨.refl _, y2⟩
/-- lo, lo + 1, .. -/
def rngD (lo : Int) : Nat → List D
  | 0 => []
  | n + 1 => .int lo :: rngD (lo + 1) n
theorem rngD_len (lo : Int) (n : Nat) : (rngD lo n).length = n := by
  induction n generalizing lo with
  | zero => rfl
  | succ n ih => simp [rngD, ih]
theorem rngD_get (lo : Int) (n i : Nat) (h : i < n) : (rngD lo n)[i]? = some (D.int (lo + i)) := by
  induction n generalizing lo i with
  | zero => omega
  | succ n ih =>
    cases i with
    | zero => simp [rngD]
    | succ i =>
      simp only [rngD, List.getElem?_cons_succ]
      rw [ih (lo + 1) i (by omega)]
      congr 2
      omega
theorem walk_rg {lo : Int} {n : Nat} : Walk (Itr lo n) (rngD lo n).length (fun _ => True) (YFn fun i => .int (lo + i)) := by
  rw [rngD_len]
  exact walk_range
def iR1 (wa : W) : WI := fun env Q => wa env fun r e1 => rs e1 r fun d => isI d fun j => j ≤ 1000000 ∧ -1000000 ≤ j ∧ Q ⟨rngD 0 j.toNat, []⟩ e1
theorem i_rng1 {p : Pos} (hm : X.mg "range" = none) (ha : DE X np He a wa) (hg : Gl X "range" := by rfl) (hs : starEach [a] X.env = [(false, eval a X.env)] := by rfl) : DI X np He tg (.Call (.Name "range" p) [a] [] pos) (iR1 wa) := by
  refine PI.weak (pi_range1 hg hm (pa_cons ha pa_nil hs) hs) fun σ H R ⟨env, Q0, Rp, w, q⟩ => ⟨env, _, Rp, w, fun r e1 v H1 w1 s1 r1 => ?_⟩
  obtain ⟨d, hd, w1⟩ := r1.rs s1.rep w1
  obtain ⟨j, rfl, h1, h2, w1⟩ := isI_of w1
  cases hd
  refine ⟨j, rfl, by omega, by omega, ?_⟩
  refine q ⟨rngD 0 j.toNat, []⟩ e1 H1 (Itr 0 j.toNat) _ _ w1 s1 walk_rg (fun p hp => absurd hp (by simp)) (fun i H2 x H3 hi y _ => ?_) (fun _ _ => trivial)
  obtain ⟨rfl, rfl⟩ := y
  refine ⟨.refl _, _, rngD_get 0 j.toNat i (by simpa [rngD_len] using hi), ?_⟩
  simp only [RpI]
/-- zip of two lists -/
def zipD : List D → List D → List D
  | x :: xs, y :: ys => .tup [x, y] :: zipD xs ys
  | _, _ => []
theorem zipD_len : ∀ (xs ys : List D), (zipD xs ys).length = min xs.length ys.length
  | [], ys => by simp [zipD]
  | x :: xs, [] => by simp [zipD]
  | x :: xs, y :: ys => by simp only [zipD, List.length_cons, zipD_len xs ys]; omega
theorem zipD_get : ∀ (xs ys : List D) (i : Nat) (x y : D), xs[i]? = some x → ys[i]? = some y → (zipD xs ys)[i]? = some (D.tup [x, y])
  | [], ys, i, x, y, h, _ => by simp at h
  | x0 :: xs, [], i, x, y, _, h => by simp at h
  | x0 :: xs, y0 :: ys, 0, x, y, h, g => by simp at h g; subst h g; simp [zipD]
  | x0 :: xs, y0 :: ys, i + 1, x, y, h, g => by
    simp only [zipD, List.getElem?_cons_succ]
    exact zipD_get xs ys i x y (by simpa using h) (by simpa using g)
theorem Stay.sub {K : PySem.W.Frag} {σ : L2.St} {H H1 H' : Hp} {e1 : DEnv} {c c' : List (Nat × List D)} (h : ∀ p ∈ c, p ∈ c') (s : Stay K np He σ H H1 e1 c' H') : Stay K np He σ H H1 e1 c H' := ⟨s.kp, s.keep, fun p hp => s.chk p (h p hp)⟩
end
end DL

namespace DL
open PySem PySem.Spec PyProof.Rows L2

/-! ### comprehensions -/
def wipeE (env : DEnv) : List Nat → DEnv
  | [] => env
  | v :: vs => (wipeE env vs).set v none
def back (env env0 : DEnv) : List Nat → DEnv
  | [] => env
  | v :: vs => (back env env0 vs).set v ((env0[v]?).getD none)
def noLs (env : DEnv) : List Nat → Bool
  | [] => true
  | v :: vs => !isLo ((env[v]?).getD none) && noLs env vs
section
variable {K : PySem.W.Frag} {np : Nat} {He : Hp} {σ σ' σ'' : L2.St} {H H' H'' : Hp} {env env' env'' : DEnv}
theorem wipeE_len (env : DEnv) : ∀ vs : List Nat, (wipeE env vs).length = env.length
  | [] => rfl
  | v :: vs => by unfold wipeE; rw [List.length_set, wipeE_len env vs]
theorem wipeE_out {i : Nat} : ∀ {vs : List Nat}, i ∉ vs → (wipeE env vs)[i]? = env[i]?
  | [], _ => rfl
  | v :: vs, h => by
    have h1 : v ≠ i := fun e => h (by rw [e]; exact List.mem_cons_self)
    have h2 : i ∉ vs := fun m => h (List.mem_cons_of_mem _ m)
    unfold wipeE
    rw [List.getElem?_set_ne h1]
    exact wipeE_out h2
theorem wipeE_some {i : Nat} {d : D} : ∀ {vs : List Nat}, (wipeE env vs)[i]? = some (some d) → env[i]? = some (some d) ∧ i ∉ vs
  | [], h => ⟨h, by simp⟩
  | v :: vs, h => by
    unfold wipeE at h
    by_cases hi : v = i
    · subst hi
      by_cases hv : v < (wipeE env vs).length
      · rw [List.getElem?_set_self hv] at h; cases h
      · rw [List.getElem?_eq_none (by simpa using hv)] at h; cases h
    · rw [List.getElem?_set_ne hi] at h
      obtain ⟨h1, h2⟩ := wipeE_some h
      exact ⟨h1, by simp only [List.mem_cons, not_or]; exact ⟨fun e => hi e.symm, h2⟩⟩
theorem back_len (env env0 : DEnv) : ∀ vs : List Nat, (back env env0 vs).length = env.length
  | [] => rfl
  | v :: vs => by unfold back; rw [List.length_set, back_len env env0 vs]
theorem back_out {env0 : DEnv} {i : Nat} : ∀ {vs : List Nat}, i ∉ vs → (back env env0 vs)[i]? = env[i]?
  | [], _ => rfl
  | v :: vs, h => by
    have h1 : v ≠ i := fun e => h (by rw [e]; exact List.mem_cons_self)
    have h2 : i ∉ vs := fun m => h (List.mem_cons_of_mem _ m)
    unfold back
    rw [List.getElem?_set_ne h1]
    exact back_out h2
theorem back_in {env0 : DEnv} {i : Nat} (hl : env.length = env0.length) : ∀ {vs : List Nat}, i ∈ vs → (back env env0 vs)[i]? = env0[i]?
  | [], h => by simp at h
  | v :: vs, h => by
    unfold back
    by_cases hi : v = i
    · subst hi
      by_cases hv : v < env0.length
      · rw [List.getElem?_set_self (by rw [back_len, hl]; exact hv), List.getElem?_eq_getElem hv]; rfl
      · rw [List.getElem?_eq_none (by rw [List.length_set, back_len, hl]; omega), List.getElem?_eq_none (by omega)]
    · rw [List.getElem?_set_ne hi]
      rcases List.mem_cons.mp h with z | z
      · exact absurd z.symm hi
      · exact back_in hl z
theorem noLs_at : ∀ {vs : List Nat} {i : Nat} {xs : List D}, noLs env vs = true → i ∈ vs → env[i]? ≠ some (some (D.lst xs))
  | [], i, xs, _, h => by simp at h
  | v :: vs, i, xs, n, h => by
    simp only [noLs, Bool.and_eq_true, Bool.not_eq_true'] at n
    rcases List.mem_cons.mp h with z | z
    · subst z
      intro e
      rw [e] at n
      simp [isLo] at n
    · exact noLs_at n.2 z
theorem Rep.wipe (R : Rep K np He σ H env) (vs : List Nat) : Rep K np He (wipe σ vs) H (wipeE env vs) where
  len := by rw [wipe_length, wipeE_len]; exact R.len
  val := fun i d e => by
    obtain ⟨e1, hi⟩ := wipeE_some e
    obtain ⟨v, e2, r⟩ := R.val i d e1
    exact ⟨v, (wipe_out hi).trans e2, r⟩
  apart := fun i j xs ys a e1 e2 s1 s2 => R.apart i j xs ys a (wipeE_some e1).1 (wipeE_some e2).1 (wipe_some s1).1 (wipe_some s2).1
  own := fun i xs a hi e s => R.own i xs a hi (wipeE_some e).1 (wipe_some s).1
  dom := R.dom
theorem la_wipe {vs : List Nat} {b : Addr} (h : LA (wipe σ vs) (wipeE env vs) b) : LA σ env b := by
  obtain ⟨i, xs, e, s⟩ := h
  exact ⟨i, xs, (wipeE_some e).1, (wipe_some s).1⟩
/-- the block's steps, seen from outside -/
structure In (K : PySem.W.Frag) (np : Nat) (He : Hp) (vs : List Nat) (σ : L2.St) (H : Hp) (env : DEnv) (H' : Hp) (env' : DEnv) : Prop where
  se : SE K np He (L2.wipe σ vs) H (wipeE env vs) H' env'
theorem SE.back {vs : List Nat} (R : Rep K np He σ H env) (n : noLs env vs = true) (s : SE K np He (L2.wipe σ vs) H (wipeE env vs) H' env') : SE K np He σ H env H' (back env' env vs) := by
  have hl : env'.length = env.length := by
    have h1 := s.rep.len
    rw [wipe_length, R.len] at h1
    exact h1.symm
  have kp : Kp H H' := fun b o h nl => s.keep b o h fun z => by
    obtain ⟨us, e⟩ := R.la (la_wipe z)
    rw [h] at e
    exact nl us (Option.some.inj e)
  have lst : ∀ (i : Nat) (xs : List D), (DL.back env' env vs)[i]? = some (some (D.lst xs)) → i ∉ vs ∧ env'[i]? = some (some (D.lst xs)) := fun i xs e => by
    by_cases hi : i ∈ vs
    · rw [back_in hl hi] at e
      exact absurd e (noLs_at n hi)
    · rw [back_out hi] at e
      exact ⟨hi, e⟩
  refine ⟨⟨by rw [back_len, hl]; exact R.len, fun i d e => ?_, fun i j xs ys a e1 e2 s1 s2 => ?_, fun i xs a hi e s' => ?_, s.rep.dom⟩, fun i => ?_, fun b o h nla => s.keep b o h fun z => nla (la_wipe z), s.dom⟩
  · by_cases hi : i ∈ vs
    · rw [back_in hl hi] at e
      obtain ⟨v, e1, r⟩ := R.val i d e
      refine ⟨v, e1, r.kp kp ?_⟩
      cases d with
      | lst xs => exact absurd e (noLs_at n hi)
      | _ => rfl
    · rw [back_out hi] at e
      obtain ⟨v, e1, r⟩ := s.rep.val i d e
      exact ⟨v, (wipe_some e1).1, r⟩
  · obtain ⟨h1, q1⟩ := lst i xs e1
    obtain ⟨h2, q2⟩ := lst j ys e2
    exact s.rep.apart i j xs ys a q1 q2 ((wipe_out h1).trans s1) ((wipe_out h2).trans s2)
  · obtain ⟨h1, q1⟩ := lst i xs e
    exact s.rep.own i xs a hi q1 ((wipe_out h1).trans s')
  · by_cases hi : i ∈ vs
    · exact .inl (back_in hl hi)
    · rw [back_out hi]
      rcases s.shape i with h | ⟨us, ws, g1, g2⟩
      · rw [wipeE_out hi] at h
        exact .inl h
      · exact .inr ⟨us, ws, (wipeE_some g1).1, g2⟩
theorem wipe_idem {σ2 : L2.St} {vs : List Nat} (hl : σ2.length = σ.length) (h : ∀ j, j ∉ vs → σ2[j]? = σ[j]?) : L2.wipe σ2 vs = L2.wipe σ vs := by
  have ins : ∀ (τ : L2.St) (ws : List Nat) (i : Nat), i ∈ ws → i < τ.length → (L2.wipe τ ws)[i]? = some none := by
    intro τ ws
    induction ws with
    | nil => intro i h; simp at h
    | cons w ws ih =>
      intro i h hi
      unfold L2.wipe
      by_cases hw : w = i
      · subst hw
        exact List.getElem?_set_self (by rw [wipe_length]; exact hi)
      · rw [List.getElem?_set_ne hw]
        rcases List.mem_cons.mp h with z | z
        · exact absurd z.symm hw
        · exact ih i z hi
  apply List.ext_getElem?
  intro i
  by_cases hi : i ∈ vs
  · by_cases hlt : i < σ.length
    · rw [ins _ _ i hi (by omega), ins _ _ i hi hlt]
    · rw [List.getElem?_eq_none (by rw [wipe_length]; omega), List.getElem?_eq_none (by rw [wipe_length]; omega)]
  · rw [wipe_out hi, wipe_out hi]
    exact h i hi
end

def lcGo (g : G) (wt we : W) (own : List Nat) (chk : List (Nat × List D)) (k : List D → DEnv → Prop) : List D → List D → DEnv → Prop
  | [], acc, env => chkE chk env ∧ k acc env
  | x :: xs, acc, env => chkE chk env ∧ g x env fun e2 => wt e2 fun rb e3 => rs e3 rb fun b =>
      ifb b (we e3 fun r e4 => rs e4 r fun y => isL y = false ∧ lcGo g wt we own chk k xs (acc ++ [y]) (wipeE e4 own)) (lcGo g wt we own chk k xs acc (wipeE e3 own))
@[irreducible] def Loop (p : Prop) : Prop := p
theorem Loop.out {p : Prop} (h : Loop p) : p := by unfold Loop at h; exact h
theorem Loop.mk {p : Prop} (h : p) : Loop p := by unfold Loop; exact h
def cLc (own : List Nat) (wi : WI) (g : G) (wt we : W) : W := fun env Q => wi env fun src e1 => noLs e1 own = true ∧ src.xs.length ≤ 1000000 ∧
  Loop (lcGo g wt we own src.chk (fun acc e => Q (.val (.lst acc)) (back e e1 own)) src.xs [] (wipeE e1 own))
theorem chkE_at : ∀ {chk : List (Nat × List D)} {env : DEnv} {p : Nat × List D}, chkE chk env → p ∈ chk → env[p.1]? = some (some (D.lst p.2))
  | [], env, p, _, h => by simp at h
  | (i, l) :: r, env, p, c, h => by
    rcases List.mem_cons.mp h with z | z
    · subst z; exact c.1
    · exact chkE_at c.2 z
section
variable {X : Cx} {np : Nat} {He : Hp} {pos : Pos}
def tTrue : W := cC (.bl true)
theorem PTs.weak {es : List Expr} {t t' : TT} (h : PTs X es t) (i : ∀ σ H Q, t' σ H Q → t σ H Q) : PTs X es t' := ⟨fun pins s σ H Q I q => h.run pins s σ H Q I (i σ H Q q)⟩
theorem ts_nil : PTs X [] (tB (rE X.K np He tTrue)) := DL.PTs.weak pts_nil fun σ H Q ⟨env, Q0, R, w, q⟩ => by
  obtain ⟨c, e, q'⟩ := q _ env (.bl true) H w (.refl R) ⟨rfl, fun n => by simp [isL] at n⟩
  cases e
  exact q'
theorem ts_one {c : Expr} {wc : W} (h : DT X np He c wc) : PTs X [c] (tB (rE X.K np He wc)) := pts_one h
/-- the core: the reading of a comprehension -/
theorem lc_read {K : PySem.W.Frag} {own : List Nat} {wi : WI} {g : G} {wt we : W} : ∀ σ H Q, rE K np He (cLc own wi g wt we) σ H Q → tLc (rI K np He wi) (rG K np He [] own g) (tB (rE K np He wt)) (rE K np He we) own σ H Q := by
  intro σ H Q ⟨env, Q0, R, w, q⟩
  refine ⟨env, _, R, w, fun src e1 H1 J Gd Y w1 s1 wk hc hy hg Dn hD => ?_⟩
  obtain ⟨nl, sz, w1l⟩ := w1
  have w1 := w1l.out
  have R1 := s1.rep
  have R1' : Rep K np He (L2.wipe σ own) H1 (wipeE e1 own) := R1.wipe own
  have hDe : ∀ a, H1 a ≠ none → a ≠ Dn := fun a h z => h (z ▸ hD)
  have DLA : ∀ {e2 : DEnv} {H2 : Hp}, SE K np He (L2.wipe σ own) H1 (wipeE e1 own) H2 e2 → ¬ LA (L2.wipe σ own) e2 Dn := fun s z => by
    obtain ⟨us, e⟩ := R1'.la (s.la.mp z)
    rw [hD] at e
    cases e
  -- a step of the block, with the new list written in it
  have wr : ∀ {H2 : Hp} {e2 : DEnv} {us ws : List V}, SE K np He (L2.wipe σ own) H1 (wipeE e1 own) H2 e2 → (H2 Dn = some (.lst us) ∨ H2 Dn = none) → SE K np He (L2.wipe σ own) H1 (wipeE e1 own) (upd H2 Dn (.lst ws)) e2 := fun {H2 e2 us ws} s hd => by
    have kp : Kp H2 (upd H2 Dn (.lst ws)) := fun b o e n => by
      have hb : b ≠ Dn := fun z => by
        subst z
        rcases hd with z | z
        · rw [z] at e; exact n us (Option.some.inj e).symm
        · rw [z] at e; cases e
      rw [upd_ne hb]
      exact e
    refine ⟨⟨s.rep.len, fun i d e => ?_, s.rep.apart, s.rep.own, fun b n => ?_⟩, s.shape, fun b o h n => ?_, fun b n => ?_⟩
    · obtain ⟨v, ev, r⟩ := s.rep.val i d e
      refine ⟨v, ev, ?_⟩
      cases d with
      | lst zs =>
        refine r.kpl kp fun a o ea eo => ?_
        subst ea
        have : a ≠ Dn := fun z => by
          subst z
          exact DLA s ⟨i, zs, e, ev⟩
        rw [upd_ne this]
        exact eo
      | _ => exact r.kp kp rfl
    · by_cases hb : b = Dn
      · subst hb; rw [upd_same] at n; cases n
      · rw [upd_ne hb] at n; exact s.rep.dom b n
    · have hb : b ≠ Dn := hDe b (by rw [h]; exact fun z => nomatch z)
      rw [upd_ne hb]
      exact s.keep b o h n
    · by_cases hb : b = Dn
      · subst hb; rw [upd_same] at n; cases n
      · rw [upd_ne hb] at n; exact s.dom b n
  let Pv : Nat → Hp → Prop := fun i H2 => ∃ acc us e2, H2 Dn = some (.lst us) ∧ RpIs K H2 acc us ∧ acc.length ≤ i ∧ SE K np He (L2.wipe σ own) H1 (wipeE e1 own) H2 e2 ∧ (∀ j ∈ own, e2[j]? = (wipeE e1 own)[j]?) ∧
    lcGo g wt we own src.chk (fun acc e => Q0 (.val (.lst acc)) (back e e1 own)) (src.xs.drop i) acc e2
  have stay : ∀ {H2 : Hp} {e2 : DEnv}, SE K np He (L2.wipe σ own) H1 (wipeE e1 own) H2 e2 → chkE src.chk e2 → Stay K np He σ H H1 e1 src.chk H2 := fun {H2 e2} s c => by
    refine ⟨(SE.kp R1' s).s, fun b o _ h n => s.keep b _ h fun z => n (la_wipe z), fun p hp a ea => ?_⟩
    have e := chkE_at c hp
    obtain ⟨a', us, e3, ha, ra⟩ := s.rep.lst e
    have e4 := (wipe_some e3).1
    rw [ea] at e4
    have : a = a' := by simpa using e4
    subst this
    exact ⟨us, ha, ra⟩
  have chk_of : ∀ {xs acc : List D} {e2 : DEnv} {k : List D → DEnv → Prop}, lcGo g wt we own src.chk k xs acc e2 → chkE src.chk e2 := fun {xs acc e2 k} h => by
    cases xs with
    | nil => exact h.1
    | cons x xs => exact h.1
  refine lc_it wk Pv ⟨[], [], wipeE e1 own, upd_same, by simp [RpIs], Nat.zero_le _, wr (us := []) (.refl R1') (.inr hD), fun _ _ => rfl, w1⟩ ?_ ?_ ?_
  · rintro i H2 hi ⟨acc, us, e2, hd, ra, la, s, _, go⟩
    exact hg H2 (stay s (chk_of go))
  · rintro i x H2 H3 hi ⟨acc, us, e2, hd, ra, la, s, ho, go⟩ y
    have st := stay s (chk_of go)
    obtain ⟨ex, d, ed, rd⟩ := hy i H2 x H3 hi y (hg H2 st)
    have dr : src.xs.drop i = d :: src.xs.drop (i + 1) := by
      rw [← List.getElem_cons_drop hi]
      rw [List.getElem?_eq_getElem hi] at ed
      rw [Option.some.inj ed]
    rw [dr] at go
    obtain ⟨_, go⟩ := go
    have s3 : SE K np He (L2.wipe σ own) H1 (wipeE e1 own) H3 e2 := s.trans (.ext s.rep ex)
    refine ⟨e2, d, _, s3.rep, rd, go, fun e4 σ4 w4 s4 o4 => ⟨?_, ?_⟩⟩
    · exact (wipe_idem (by rw [s4.rep.len, s4.len, ← s3.rep.len]) fun j hj => (o4 j hj).1).trans (by
        refine wipe_idem (by rw [wipe_length]) fun j hj => wipe_out hj)
    · -- the element
      have R4 := s4.rep
      -- from the block's start, the target's slots apart
      have cl : ∀ {H5 : Hp} {e5 : DEnv}, SE K np He σ4 H3 e4 H5 e5 → SE K np He (L2.wipe σ own) H1 (wipeE e1 own) H5 (wipeE e5 own) := fun {H5 e5} s5 => by
        have hl4 : σ4.length = (L2.wipe σ own).length := by rw [s4.rep.len, s4.len, ← s3.rep.len]
        have hw : L2.wipe σ4 own = L2.wipe σ own := (wipe_idem hl4 fun j hj => (o4 j hj).1).trans (wipe_idem (by rw [wipe_length]) fun j hj => wipe_out hj)
        have R5 := s5.rep.wipe own
        rw [hw] at R5
        have ela : ∀ b, LA σ4 e4 b → LA (L2.wipe σ own) e2 b := fun b z => by
          obtain ⟨j, xs, q1, q2⟩ := z
          by_cases hj : j ∈ own
          · exfalso
            -- a target's slot holds no list
            obtain ⟨v, e6, r6⟩ := R4.val j _ q1
            obtain ⟨a, us', ea, eh, _⟩ := r6
            have z' := s4.keep
            rw [q2] at e6
            have eb : b = a := by simpa [ea] using e6
            subst eb
            by_cases hla : LA (L2.wipe σ own) e2 b
            · obtain ⟨l, ys, g1, g2⟩ := hla
              have hlo : l ∉ own := fun m => by
                rw [ho l m] at g1
                exact (wipeE_some g1).2 m
              have g1' := (o4 l hlo).2.trans g1
              have g2' := (o4 l hlo).1.trans g2
              have := R4.apart j l xs ys b q1 g1' q2 g2'
              exact hlo (this ▸ hj)
            · exact (z' b _ eh hla).2 ⟨j, xs, q1, q2⟩
          · exact ⟨j, xs, (o4 j hj).2 ▸ q1, (o4 j hj).1 ▸ q2⟩
        have ela2 : ∀ b, LA (L2.wipe σ own) e2 b → LA σ4 e4 b := fun b z => by
          obtain ⟨l, ys, g1, g2⟩ := z
          have hlo : l ∉ own := fun m => by
            rw [ho l m] at g1
            exact (wipeE_some g1).2 m
          exact ⟨l, ys, (o4 l hlo).2.trans g1, (o4 l hlo).1.trans g2⟩
        refine ⟨R5, fun j => ?_, fun b o h n => ?_, fun b n => s3.dom b (s5.dom b n)⟩
        · by_cases hj : j ∈ own
          · left
            have w0 : ∀ (τ : DEnv) (ws : List Nat), j ∈ ws → (wipeE τ ws)[j]? = if j < τ.length then some none else none := by
              intro τ ws
              induction ws with
              | nil => intro h; simp at h
              | cons w ws ih =>
                intro h
                unfold wipeE
                by_cases hw : w = j
                · subst hw
                  by_cases hlt : w < τ.length
                  · rw [List.getElem?_set_self (by rw [wipeE_len]; exact hlt), if_pos hlt]
                  · rw [List.getElem?_eq_none (by rw [List.length_set, wipeE_len]; omega), if_neg hlt]
                · rw [List.getElem?_set_ne hw]
                  rcases List.mem_cons.mp h with z | z
                  · exact absurd z.symm hw
                  · exact ih z
            have l5 : e5.length = e1.length := by
              have h1 := s5.rep.len
              have h2 := R4.len
              have h3 := s4.len
              have h4 := s3.rep.len
              have h5 := R1'.len
              rw [wipeE_len] at h5
              omega
            rw [w0 _ _ hj, w0 _ _ hj, l5]
          · rw [wipeE_out hj, wipeE_out hj]
            have h45 := s5.shape j
            rw [(o4 j hj).2] at h45
            have h12 := s3.shape j
            rw [wipeE_out hj] at h12
            rcases h45 with h | ⟨us, ws, g1, g2⟩
            · rcases h12 with k | ⟨us, ws, k1, k2⟩
              · exact .inl (h.trans k)
              · exact .inr ⟨us, ws, k1, h.trans k2⟩
            · rcases h12 with k | ⟨us', ws', k1, k2⟩
              · exact .inr ⟨us, ws, k ▸ g1, g2⟩
              · exact .inr ⟨us', ws, k1, g2⟩
        · have h3 := s3.keep b o h n
          have nla : ¬ LA (L2.wipe σ own) e2 b := fun z => n (s3.la.mp z)
          exact s5.keep b o h3 fun z => nla (ela b z)
      have hd3 : H3 Dn = some (.lst us) := ex Dn _ hd
      have dla4 : ¬ LA σ4 e4 Dn := fun z => by
        obtain ⟨j, xs, q1, q2⟩ := z
        by_cases hj : j ∈ own
        · by_cases hla : LA (L2.wipe σ own) e2 Dn
          · exact DLA s3 hla
          · exact (s4.keep Dn _ hd3 hla).2 ⟨j, xs, q1, q2⟩
        · exact DLA s3 ⟨j, xs, (o4 j hj).2 ▸ q1, (o4 j hj).1 ▸ q2⟩
      refine ⟨e4, _, R4, w4, fun rb e5 vb H5 w5 s5 r5 => ?_⟩
      obtain ⟨b, hb, w5⟩ := r5.rs s5.rep w5
      have hd5 : H5 Dn = some (.lst us) := s5.keep Dn _ hd3 dla4
      have fin : ∀ {H6 : Hp} {e6 : DEnv} {acc' : List D} {us' : List V}, SE K np He σ4 H3 e4 H6 e6 → H6 Dn = some (.lst us') → RpIs K H6 acc' us' → acc'.length ≤ i + 1 → lcGo g wt we own src.chk (fun acc e => Q0 (.val (.lst acc)) (back e e1 own)) (src.xs.drop (i + 1)) acc' (wipeE e6 own) → Pv (i + 1) H6 := fun {H6 e6 acc' us'} s6 h6 r6 l6 go6 => by
        refine ⟨acc', us', wipeE e6 own, h6, r6, l6, cl s6, fun j hj => ?_, go6⟩
        rcases (cl s6).shape j with z | ⟨us, ws, g1, g2⟩
        · exact z
        · exact absurd hj (wipeE_some g1).2
      have w5z := ifb_of w5; clear w5; rcases w5z with ⟨rfl, w5⟩ | ⟨rfl, w5⟩
      · refine ⟨true, hb, ?_⟩
        dsimp only
        rw [if_pos rfl]
        refine ⟨e5, _, s5.rep, w5, fun r e6 v H6 w6 s6 r6 => ?_⟩
        have s56 := s5.trans s6
        obtain ⟨y', hy', w6⟩ := r6.rs s6.rep w6
        obtain ⟨ny, w6⟩ := w6
        have hd6 : H6 Dn = some (.lst us) := s56.keep Dn _ hd3 dla4
        have kp46 : Kp H3 H6 := SE.kp R4 s56
        have kp6 : Kp H6 (upd H6 Dn (.lst (us ++ [v]))) := kp_store hd6
        refine ⟨us, hd6, ?_, ?_⟩
        · rw [← ra.length]
          exact Nat.lt_of_lt_of_le (show acc.length < 1000000 by omega) (line_of (Nat.le_refl _))
        · -- the list written
          have ra3 : RpIs K H3 acc us := RpIs.kp ex.kp acc us ra
          have r7 : RpIs K (upd H6 Dn (.lst (us ++ [v]))) (acc ++ [y']) (us ++ [v]) := by
            refine RpIs.append (RpIs.kp kp6 _ _ (RpIs.kp kp46 acc us ra3)) ?_
            simp only [RpIs]
            exact ⟨v, [], rfl, RpI.kp kp6 _ _ (hy'.imm ny), rfl⟩
          have s7 : SE K np He (L2.wipe σ own) H1 (wipeE e1 own) (upd H6 Dn (.lst (us ++ [v]))) (wipeE e6 own) := wr (us := us) (cl s56) (.inl hd6)
          refine ⟨acc ++ [y'], us ++ [v], wipeE e6 own, upd_same, r7, by rw [List.length_append, List.length_singleton]; omega, s7, fun j hj => ?_, w6⟩
          rcases s7.shape j with z | ⟨us, ws, g1, g2⟩
          · exact z
          · exact absurd hj (wipeE_some g1).2
      · refine ⟨false, hb, ?_⟩
        dsimp only
        rw [if_neg Bool.false_ne_true]
        exact fin s5 hd5 (RpIs.kp (SE.kp R4 s5) _ _ (RpIs.kp ex.kp acc us ra)) (by omega) w5
  · rintro H2 ⟨acc, us, e2, hd, ra, la, s, ho, go⟩
    rw [List.drop_length] at go
    obtain ⟨_, go⟩ := go
    refine q _ _ _ _ go (s1.trans (.back R1 nl s)) ⟨⟨Dn, us, rfl, hd, ra⟩, fun _ a ea => ?_⟩
    cases ea
    exact s1.dom Dn hD
theorem e_lc {elt tg iter : Expr} {ifs : List Expr} {scope : Scope} {own : List (Str × Nat)} {ow : List Nat} {wi : WI} {g : G} {wt we : W} (hc : X.calm = true) (hN : X.N.Nodup) (hi : DI X np He tg iter wi) (ok : BlkOk X.N X.env.scope scope own)
    (hg : ∀ (s : Shared) (H : Hp) (C : Addr) (cl : List (Str × Addr)) (fp : List Addr), DG (X.blk s H scope (compEnvC scope cl C X.env) fp) np He [] ow tg g)
    (ht : ∀ (s : Shared) (H : Hp) (C : Addr) (cl : List (Str × Addr)) (fp : List Addr), PTs (X.blk s H scope (compEnvC scope cl C X.env) fp) ifs (tB (rE X.K np He wt)))
    (he : ∀ (s : Shared) (H : Hp) (C : Addr) (cl : List (Str × Addr)) (fp : List Addr), DE (X.blk s H scope (compEnvC scope cl C X.env) fp) np He elt we) (hw : own.map (·.2) = ow := by rfl) (hs : ∀ x, foldedSetIterable iter X.env x = pure x := by intro _; rfl) :
    DE X np He (.ListComp elt [⟨tg, iter, ifs, 0⟩] scope pos) (cLc ow wi g wt we) := by
  subst hw
  exact PE.weak (pe_lc hc hN hi ok hg ht he hs) (lc_read (own := own.map (·.2)))
end
end DL

namespace DL
open PySem PySem.Spec PyProof.Rows L2

structure Kt where
  nx : DEnv → Prop
  rt : D → DEnv → Prop
  bk : DEnv → Prop := fun _ => False
  ct : DEnv → Prop := fun _ => False
abbrev WS := DEnv → Kt → Prop
structure Goes (K : PySem.W.Frag) (np : Nat) (He : Hp) (pr : List Nat) (σ : L2.St) (H : Hp) (env : DEnv) (K0 : Kt) (D : Ends) : Prop where
  nx : ∀ env' σ' H', K0.nx env' → SS K np He pr σ H env σ' H' env' → D.nx σ' H'
  rt : ∀ d env' σ' H' v, K0.rt d env' → SS K np He pr σ H env σ' H' env' → RpV K H' d v → (isL d = true → ∀ a, v = .ref a → He a = none) → D.rt v H'
  bk : ∀ env' σ' H', K0.bk env' → SS K np He pr σ H env σ' H' env' → D.bk σ' H'
  ct : ∀ env' σ' H', K0.ct env' → SS K np He pr σ H env σ' H' env' → D.ct σ' H'
def rS (K : PySem.W.Frag) (np : Nat) (He : Hp) (pr : List Nat) (w : WS) : TS := fun D σ H => ∃ env K0, Rep K np He σ H env ∧ w env K0 ∧ Goes K np He pr σ H env K0 D
abbrev DS (X : Cx) (np : Nat) (He : Hp) (pr : List Nat) (s : Stmt) (w : WS) : Prop := PS X s (rS X.K np He pr w)
abbrev DSs (X : Cx) (np : Nat) (He : Hp) (pr : List Nat) (s : List Stmt) (w : WS) : Prop := PSs X s (rS X.K np He pr w)
theorem PS.weak {X : Cx} {e : Stmt} {t t' : TS} (h : PS X e t) (i : ∀ D σ H, t' D σ H → t D σ H) : PS X e t' := ⟨fun pins s σ H D I q => h.run pins s σ H D I (i D σ H q)⟩
theorem PSs.weak {X : Cx} {e : List Stmt} {t t' : TS} (h : PSs X e t) (i : ∀ D σ H, t' D σ H → t D σ H) : PSs X e t' := ⟨fun pins s σ H D I q => h.run pins s σ H D I (i D σ H q)⟩
theorem Goes.from {K : PySem.W.Frag} {np : Nat} {He : Hp} {pr : List Nat} {σ σ1 : L2.St} {H H1 : Hp} {env e1 : DEnv} {K0 : Kt} {D : Ends} (g : Goes K np He pr σ H env K0 D) (s : SS K np He pr σ H env σ1 H1 e1) : Goes K np He pr σ1 H1 e1 K0 D :=
  ⟨fun a b c h t => g.nx a b c h (s.trans t), fun d a b c v h t => g.rt d a b c v h (s.trans t), fun a b c h t => g.bk a b c h (s.trans t), fun a b c h t => g.ct a b c h (s.trans t)⟩
section
variable {X : Cx} {np : Nat} {He : Hp} {pr : List Nat} {a b c e : Expr} {es : List Expr} {wa wb wc we wi : W} {ws : WA} {pos : Pos} {st : Stmt} {sts : List Stmt} {u v : WS}
def cNilS : WS := fun env K => K.nx env
def cSeq (w u : WS) : WS := fun env K => w env { K with nx := fun e => u e K }
theorem s_nil : DSs X np He pr [] cNilS := PSs.weak pss_nil fun D σ H ⟨env, K0, R, w, g⟩ => g.nx env σ H w (.refl R)
theorem s_cons (h1 : DS X np He pr st u) (h2 : DSs X np He pr sts v) : DSs X np He pr (st :: sts) (cSeq u v) :=
  PSs.weak (pss_cons h1 h2) fun D σ H ⟨env, K0, R, w, g⟩ => ⟨env, _, R, w, fun e1 σ1 H1 w1 s1 => ⟨e1, K0, s1.rep, w1, g.from s1⟩, g.rt, g.bk, g.ct⟩
theorem s_one (h1 : DS X np He pr st u) : DSs X np He pr [st] u := pss_one h1
def cAsg (np : Nat) (pr : List Nat) (i : Nat) (we : W) : WS := fun env K => we env fun r e1 => match r with
  | .val d => stOk np pr e1 i d = true ∧ K.nx (e1.set i (some d))
  | .ref _ => False
theorem asg_core {i : Nat} : ∀ D σ H, rS X.K np He pr (cAsg np pr i we) D σ H → tAsg (rE X.K np He we) (gName i) D σ H := by
  intro D σ H ⟨env, K0, R, w, g⟩
  refine ⟨env, _, R, w, fun r e1 v1 H1 w1 s1 r1 => ?_⟩
  cases r with
  | ref j => exact False.elim w1
  | val d =>
    obtain ⟨ok, w1⟩ := w1
    exact g.nx _ _ _ w1 (.put R s1 ok r1.1 r1.2)
theorem s_asg (i : Nat) {x : Str} {pos' : Pos} (hN : X.N.Nodup) (he : DE X np He e we) (hi : X.N[i]? = some x := by rfl) (hx : Loc X.env.scope x := by first | exact Or.inl rfl | exact Or.inr rfl) (hs : swapsWith e (some (.Name x pos')) pos.line X.env = pure false := by rfl) (hf : X.fn x = true ∨ X.env.scope.names.lookup x = some .local := by first | exact .inl rfl | exact .inr rfl | assumption) :
    DS X np He pr (.Assign [.Name x pos'] e pos) (cAsg np pr i we) := PS.weak (ps_set hN hi hx he hs hf) asg_core
theorem s_setLc (i : Nat) {y : Str} {py : Pos} {elt tg iter : Expr} {ifs : List Expr} {scope : Scope} {own : List (Str × Nat)} {ow : List Nat} {spos : Pos} {wI : WI} {g : G} {wt we : W} (hc : X.calm = true) (hN : X.N.Nodup) (hi : DI X np He tg iter wI) (ok : BlkOk X.N X.env.scope scope own)
    (hg : ∀ (s : Shared) (H : Hp) (C : Addr) (cl : List (Str × Addr)) (fp : List Addr), DG (X.blk s H scope (compEnvC scope cl C X.env) fp) np He [] ow tg g)
    (ht : ∀ (s : Shared) (H : Hp) (C : Addr) (cl : List (Str × Addr)) (fp : List Addr), PTs (X.blk s H scope (compEnvC scope cl C X.env) fp) ifs (tB (rE X.K np He wt)))
    (he : ∀ (s : Shared) (H : Hp) (C : Addr) (cl : List (Str × Addr)) (fp : List Addr), DE (X.blk s H scope (compEnvC scope cl C X.env) fp) np He elt we) (hw : own.map (·.2) = ow := by rfl) (hy : X.N[i]? = some y := by rfl) (hyl : X.env.scope.names.lookup y = some .local := by rfl)
    (hsw : swapsWith (.ListComp elt [⟨tg, iter, ifs, 0⟩] scope pos) (some (.Name y py)) spos.line X.env = pure true := by exact sw_true rfl rfl rfl (by decide +kernel)) (hs : ∀ x, foldedSetIterable iter X.env x = pure x := by intro _; rfl) :
    DS X np He pr (.Assign [.Name y py] (.ListComp elt [⟨tg, iter, ifs, 0⟩] scope pos) spos) (cAsg np pr i (cLc ow wI g wt we)) := by
  subst hw
  exact PS.weak (ps_setLc (wi := rI X.K np He wI) (g := rG X.K np He [] (own.map (·.2)) g) (tt := tB (rE X.K np He wt)) (te := rE X.K np He we) hc hN hy hyl hsw hi ok hg ht he hs) (by
    intro D σ H h
    have h' := asg_core D σ H h
    exact lc_read σ H _ h')
def cEx (we : W) : WS := fun env K => we env fun _ e1 => K.nx e1
theorem s_expr (he : DE X np He e we) (hs : swapsWith e none pos.line X.env = pure false := by rfl) : DS X np He pr (.Expr e pos) (cEx we) := by
  refine PS.weak (ps_expr he hs) fun D σ H ⟨env, K0, R, w, g⟩ => ⟨env, _, R, w, fun r e1 v1 H1 w1 s1 r1 => g.nx _ _ _ w1 (s1.ss R)⟩
def cRet (np : Nat) (we : W) : WS := fun env K => we env fun r e1 => match r with
  | .val d => K.rt d e1
  | .ref i => np ≤ i ∧ getv e1 i fun d => K.rt d e1
theorem s_ret (he : DE X np He e we) : DS X np He pr (.Return (some e) pos) (cRet np we) := by
  refine PS.weak (ps_ret he) fun D σ H ⟨env, K0, R, w, g⟩ => ⟨env, _, R, w, fun r e1 v1 H1 w1 s1 r1 => ?_⟩
  cases r with
  | val d => exact g.rt d e1 σ H1 v1 w1 (s1.ss R) r1.1 fun n a ea => R.dom a (r1.2 n a ea)
  | ref i =>
    obtain ⟨hi, w1⟩ := w1
    obtain ⟨d, ed, w1⟩ := getv_of w1
    obtain ⟨v, ev, rv⟩ := s1.rep.val i d ed
    rw [r1.1] at ev
    have evv : v1 = v := by simpa using ev
    subst evv
    refine g.rt d e1 σ H1 v1 w1 (s1.ss R) rv fun n a ea => ?_
    cases d with
    | lst xs => exact s1.rep.own i xs a hi ed (by rw [r1.1, ea])
    | _ => simp [isL] at n
def cIte (wc : W) (u v : WS) : WS := fun env K => wc env fun r e1 => rs e1 r fun d => ifb d (u e1 K) (v e1 K)
theorem s_if {p q : List Stmt} (hc : DT X np He c wc) (ha : DSs X np He pr p u) (hb : DSs X np He pr q v) : DS X np He pr (.If c p q pos) (cIte wc u v) := by
  refine PS.weak (ps_if hc ha hb) fun D σ H ⟨env, K0, R, w, g⟩ => ⟨env, _, R, w, fun r e1 v1 H1 w1 s1 r1 => ?_⟩
  obtain ⟨d, hd, w1⟩ := r1.rs s1.rep w1
  have w1z := ifb_of w1; clear w1; rcases w1z with ⟨rfl, w1⟩ | ⟨rfl, w1⟩
  · refine ⟨true, hd, ?_⟩
    dsimp only
    rw [if_pos rfl]
    exact ⟨e1, K0, s1.rep, w1, g.from (s1.ss R)⟩
  · refine ⟨false, hd, ?_⟩
    dsimp only
    rw [if_neg Bool.false_ne_true]
    exact ⟨e1, K0, s1.rep, w1, g.from (s1.ss R)⟩
/-- a, (b, c) = e -/
def cUnp (we : W) (g : G) : WS := fun env K => we env fun r e1 => match r with
  | .val d => isL d = false ∧ g d e1 K.nx
  | .ref _ => False
theorem s_unp {tg : Expr} {g : G} {sl : List Nat} (he : DE X np He e we) (hg : DG X np He pr sl tg g) (hs : swapsWithSole [tg] e pos.line X.env = pure false := by rfl) (hw : swappedStores [tg] e X.env = pure none := by rfl)
    (h1 : (assignEach [tg] X.env).map (·.2) = [assign tg X.env] := by rfl) : DS X np He pr (.Assign [tg] e pos) (cUnp we g) := by
  refine PS.weak (ps_asg he hg hs hw h1) fun D σ H ⟨env, K0, R, w, g⟩ => ⟨env, _, R, w, fun r e1 v1 H1 w1 s1 r1 => ?_⟩
  cases r with
  | ref j => exact False.elim w1
  | val d =>
    obtain ⟨im, w1⟩ := w1
    exact ⟨e1, d, _, s1.rep, r1.1.imm im, w1, fun e2 σ2 w2 s2 o2 => g.nx e2 σ2 H1 w2 ((s1.ss R).trans s2)⟩
/-- a, b = x, y -/
def put1 (np : Nat) (pr : List Nat) (i : Nat) (d : D) (env : DEnv) (k : DEnv → Prop) : Prop := isL d = false ∧ stOk np pr env i d = true ∧ k (env.set i (some d))
def cPar2 (np : Nat) (pr : List Nat) (i j : Nat) (ws : WA) : WS := fun env K => ws env fun rl e1 => rsl e1 rl fun ds => match ds with
  | [x, y] => put1 np pr i x e1 fun e2 => put1 np pr j y e2 K.nx
  | _ => False
theorem s_par2 (i j : Nat) {x y : Str} {px py pt : Pos} {kt k2 pt2} (hc : X.calm = true) (hN : X.N.Nodup) (ha : DA X np He [a, b] ws) (hi : X.N[i]? = some x := by rfl) (hj : X.N[j]? = some y := by rfl) (hij : i ≠ j := by decide)
    (hx : X.env.scope.names.lookup x = some .local := by rfl) (hy : X.env.scope.names.lookup y = some .local := by rfl)
    (hw : swappedStores [.Tuple [.Name x px, .Name y py] kt pt] (.Tuple [a, b] k2 pt2) X.env = pure (some [x, y]) := by rfl)
    (hs : swapsWithSole [.Tuple [.Name x px, .Name y py] kt pt] (.Tuple [a, b] k2 pt2) pos.line X.env = pure false := by rfl) :
    DS X np He pr (.Assign [.Tuple [.Name x px, .Name y py] kt pt] (.Tuple [a, b] k2 pt2) pos) (cPar2 np pr i j ws) := by
  refine PS.weak (ps_par hc hN hi hj hij hx hy ha hw hs) fun D σ H ⟨env, K0, R, w, g⟩ => ⟨env, _, R, w, fun rl e1 vs H1 w1 s1 r1 => ?_⟩
  obtain ⟨ds, hd, w1⟩ := r1.rs s1.rep w1
  split at w1
  · rename_i d1 d2
    obtain ⟨v, w, rfl, rv, rw'⟩ := hd.two
    obtain ⟨i1, o1, i2, o2, w1⟩ := w1
    refine ⟨v, w, rfl, ?_⟩
    have p1 := SS.put (pr := pr) s1.rep (.refl s1.rep) o1 rv (fun n => by rw [i1] at n; cases n)
    have p2 := SS.put (pr := pr) p1.rep (.refl p1.rep) o2 rw' (fun n => by rw [i2] at n; cases n)
    exact g.nx _ _ _ w1 ((s1.ss R).trans (p1.trans p2))
  · exact w1.elim
/-- xs[k] = e -/
def cSet (i : Nat) (we wi : W) : WS := fun env K => we env fun r e1 => match r with
  | .val d => isL d = false ∧ getl e1 i fun _ => wi e1 fun ri e2 => rs e2 ri fun y => isI y fun k => getl e2 i fun xs => (match ixN xs.length k with
    | some j => K.nx (e2.set i (some (.lst (xs.set j d))))
    | none => False)
  | .ref _ => False
theorem s_set (i : Nat) {x : Str} {p p2 : Pos} {ix : Expr} (he : DE X np He e we) (hi : DE X np He ix wi) (hN : X.N[i]? = some x := by rfl) (hv : Vis X.env.scope x := by first | exact Or.inl rfl | exact Or.inr (Or.inl rfl) | exact Or.inr (Or.inr rfl)) (hd : (x == ("__debug__" : Str)) = false := by decide)
    (hcd : (x == ("__classdict__" : Str)) = false := by decide)
    (ha : ∀ v, assign (.Subscript (.Name x p) ix p2) X.env v = (do
      let ov ← holding [v] (eval (.Name x p) X.env)
      let iv ← holding [v, ov] (eval ix X.env)
      standAt p2
      holding [v, ov, iv] (setItem ov iv v)
      release [v, ov, iv] []) := by intro _; rfl)
    (hs : swapsWithSole [.Subscript (.Name x p) ix p2] e pos.line X.env = pure false := by rfl) (hw : swappedStores [.Subscript (.Name x p) ix p2] e X.env = pure none := by rfl)
    (h1 : (assignEach [.Subscript (.Name x p) ix p2] X.env).map (·.2) = [assign (.Subscript (.Name x p) ix p2) X.env] := by rfl) :
    DS X np He pr (.Assign [.Subscript (.Name x p) ix p2] e pos) (cSet i we wi) := by
  refine PS.weak (ps_asg he (pg_sub (pv i hN hv hd hcd) hi set_list ha) hs hw h1) fun D σ H ⟨env, K0, R, w, g⟩ => ⟨env, _, R, w, fun r e1 v1 H1 w1 s1 r1 => ?_⟩
  cases r with
  | ref j => exact False.elim w1
  | val d =>
    obtain ⟨im, w1⟩ := w1
    obtain ⟨xs0, e0, w1⟩ := getl_of w1
    obtain ⟨a, us, es, ha, ra⟩ := s1.rep.lst e0
    refine ⟨.ref a, es, e1, _, s1.rep, w1, fun ri e2 v2 H2 w2 s2 r2 => ?_⟩
    obtain ⟨y, hy, w2⟩ := r2.rs s2.rep w2
    obtain ⟨k, rfl, w2⟩ := isI_of w2
    obtain ⟨xs, e3, w2⟩ := getl_of w2
    split at w2
    · rename_i j hj
      obtain ⟨a', us', es', ha', ra'⟩ := s2.rep.lst e3
      rw [es] at es'
      have ea : a = a' := by simpa using es'
      subst ea
      cases hy
      refine ⟨a, us', k, j, rfl, rfl, ha', by rw [← ra'.length]; exact hj, ?_⟩
      have rd : RpI X.K H2 d v1 := RpI.kp (SE.kp s1.rep s2) d v1 (r1.1.imm im)
      exact g.nx _ σ _ w2 (((s1.trans s2).trans (.store s2.rep e3 es ha' (ra'.set rd j))).ss R)
    · exact w2.elim

/-! ### loops -/
def goFor (g : G) (wb : WS) (chk : List (Nat × List D)) (K : Kt) : List D → DEnv → Prop
  | [], env => chkE chk env ∧ K.nx env
  | x :: xs, env => chkE chk env ∧ g x env fun e2 => wb e2 { nx := goFor g wb chk K xs, rt := K.rt, bk := K.nx, ct := goFor g wb chk K xs }
def cFor (pr : List Nat) (wI : WI) (g : G) (wb : WS) : WS := fun env K => wI env fun src e1 => (src.chk.all fun p => pr.contains p.1) = true ∧ Loop (goFor g wb src.chk K src.xs e1)
theorem s_for {tg iter : Expr} {body : List Stmt} {wI : WI} {g : G} {wb : WS} (pr' sl : List Nat) (hx : PassesOwn (model X.prog X.w) X.A X.env X.xe) (hc : X.calm = true) (hi : DI X np He tg iter wI) (hg : DG X np He pr' sl tg g) (hb : DSs X np He pr' body wb)
    (hp : (pr.all fun i => pr'.contains i) = true := by decide) (hs : ∀ x, foldedSetIterable iter X.env x = pure x := by intro _; rfl) : DS X np He pr (.For tg iter body [] pos) (cFor pr' wI g wb) := by
  refine PS.weak (ps_for hx hc hi hg hb hs) fun D σ H ⟨env, K0, R, w, gs⟩ => ⟨env, _, R, w, fun src e1 H1 J Gd Y w1 s1 wk hck hy hgd => ?_⟩
  have sub : ∀ i ∈ pr, i ∈ pr' := fun i h => by
    have := List.all_eq_true.mp hp i h
    simpa [List.contains_eq_mem] using this
  obtain ⟨hpr, w1l⟩ := w1
  have w1 := w1l.out
  have cpr : ∀ p ∈ src.chk, p.1 ∈ pr' := fun p h => by
    have := List.all_eq_true.mp hpr p h
    simpa [List.contains_eq_mem] using this
  let Pv : Nat → L2.St → Hp → Prop := fun i σ2 H2 => ∃ e2, SS X.K np He pr' σ H1 e1 σ2 H2 e2 ∧ goFor g wb src.chk K0 (src.xs.drop i) e2
  have out : ∀ {σ2 : L2.St} {H2 : Hp} {e2 : DEnv}, SS X.K np He pr' σ H1 e1 σ2 H2 e2 → SS X.K np He pr σ H env σ2 H2 e2 := fun s => (s1.ss R).trans (s.sub sub)
  have cgo : ∀ {xs : List DL.D} {e2 : DEnv}, goFor g wb src.chk K0 xs e2 → chkE src.chk e2 := fun {xs e2} h => by
    cases xs with
    | nil => exact h.1
    | cons x xs => exact h.1
  have gd : ∀ {σ2 : L2.St} {H2 : Hp} {e2 : DEnv}, SS X.K np He pr' σ H1 e1 σ2 H2 e2 → chkE src.chk e2 → Gd H2 := fun {σ2 H2 e2} s c => by
    refine hgd H2 ⟨(s.kp s1.rep).s, fun b o _ h n => (s.keep b _ h n).1, fun p hp a ea => ?_⟩
    obtain ⟨q1, _⟩ := s.par p.1 p.2 (cpr p hp) (hck p hp)
    obtain ⟨a', us, e3, ha, ra⟩ := s.rep.lst (chkE_at c hp)
    rw [q1, ea] at e3
    have : a = a' := by simpa using e3
    subst this
    exact ⟨us, ha, ra⟩
  refine for_it wk Pv ⟨e1, .refl s1.rep, w1⟩ ?_ ?_ ?_
  · rintro i σ2 H2 hi ⟨e2, s, go⟩
    exact gd s (cgo go)
  · rintro i x σ2 H2 H3 hi ⟨e2, s, go⟩ y
    obtain ⟨ex, d, ed, rd⟩ := hy i H2 x H3 hi y (gd s (cgo go))
    have dr : src.xs.drop i = d :: src.xs.drop (i + 1) := by
      rw [← List.getElem_cons_drop hi]
      rw [List.getElem?_eq_getElem hi] at ed
      rw [Option.some.inj ed]
    rw [dr] at go
    obtain ⟨_, go⟩ := go
    have s3 : SS X.K np He pr' σ H1 e1 σ2 H3 e2 := s.trans ((SE.ext s.rep ex).ss s.rep)
    refine ⟨e2, d, _, s3.rep, rd, go, fun e4 σ4 w4 s4 o4 => ?_⟩
    refine ⟨e4, _, s4.rep, w4, ⟨fun e5 σ5 H5 w5 s5 => ⟨e5, (s3.trans s4).trans s5, w5⟩, fun d e5 σ5 H5 v w5 s5 rv fr => ?_, fun e5 σ5 H5 w5 s5 => ?_, fun e5 σ5 H5 w5 s5 => ⟨e5, (s3.trans s4).trans s5, w5⟩⟩⟩
    · exact gs.rt d e5 σ5 H5 v w5 (out ((s3.trans s4).trans s5)) rv fr
    · exact gs.nx e5 σ5 H5 w5 (out ((s3.trans s4).trans s5))
  · rintro σ2 H2 ⟨e2, s, go⟩
    rw [List.drop_length] at go
    exact gs.nx e2 σ2 H2 go.2 (out s)
end

/-! ### a def -/
def outs (env : DEnv) (n : Nat) : List D := (env.take n).map fun o => o.getD .non
def env0 (ds : List D) (n : Nat) : DEnv := ds.map some ++ List.replicate n none
theorem RpVs.get {K : PySem.W.Frag} {H : Hp} : ∀ {ds : List D} {vs : List V} {i : Nat} {d : D}, RpVs K H ds vs → ds[i]? = some d → ∃ v, vs[i]? = some v ∧ RpV K H d v
  | [], vs, i, d, _, e => by simp at e
  | d0 :: ds, vs, 0, d, h, e => by
    obtain ⟨v, r, rfl, h1, _⟩ := h
    simp at e
    subst e
    exact ⟨v, rfl, h1⟩
  | d0 :: ds, vs, i + 1, d, h, e => by
    obtain ⟨v, r, rfl, _, h2⟩ := h
    obtain ⟨u, e1, e2⟩ := RpVs.get h2 (by simpa using e)
    exact ⟨u, by simpa using e1, e2⟩
theorem apA_get : ∀ {ds : List D} {vs : List V} {i j : Nat} {xs ys : List D} {v : V}, apA ds vs → ds[i]? = some (.lst xs) → ds[j]? = some (.lst ys) → vs[i]? = some v → vs[j]? = some v → i = j
  | [], vs, i, j, xs, ys, v, _, e, _, _, _ => by simp at e
  | d :: ds, [], i, j, xs, ys, v, _, _, _, e, _ => by simp at e
  | d :: ds, w :: vs, i, j, xs, ys, v, h, e1, e2, s1, s2 => by
    have tl : apA ds vs := by
      cases d with
      | lst zs => exact h.2
      | _ => exact h
    cases i with
    | zero =>
      cases j with
      | zero => rfl
      | succ j =>
        simp at e1 s1
        subst e1 s1
        exact absurd (by simpa using s2) (h.1 j ys (by simpa using e2))
    | succ i =>
      cases j with
      | zero =>
        simp at e2 s2
        subst e2 s2
        exact absurd (by simpa using s1) (h.1 i xs (by simpa using e1))
      | succ j =>
        congr 1
        exact apA_get tl (by simpa using e1) (by simpa using e2) (by simpa using s1) (by simpa using s2)
section
variable {P : Program} {w : World} {K : PySem.W.Frag} {mg : Str → Option Value} {base : Heap}
theorem env0_get {ds : List D} {n i : Nat} {d : D} (h : (env0 ds n)[i]? = some (some d)) : ds[i]? = some d := by
  unfold env0 at h
  by_cases hi : i < ds.length
  · rw [List.getElem?_append_left (by simpa using hi)] at h
    simpa using h
  · rw [List.getElem?_append_right (by simpa using hi)] at h
    by_cases h2 : i - (ds.map some).length < n
    · rw [List.getElem?_replicate_of_lt h2] at h
      cases h
    · rw [List.getElem?_eq_none (by simpa using h2)] at h
      cases h
theorem start_get {N : List Str} {vs : List V} {i : Nat} {v : V} (h : vs[i]? = some v) : (L2.start N vs)[i]? = some (some v) := by
  unfold L2.start
  have hi : i < vs.length := (List.getElem?_eq_some_iff.mp h).1
  rw [List.getElem?_append_left (by simpa using hi)]
  simp [h]
theorem start_at {N : List Str} {vs : List V} {i : Nat} {v : V} (h : (L2.start N vs)[i]? = some (some v)) : vs[i]? = some v := by
  unfold L2.start at h
  by_cases hi : i < vs.length
  · rw [List.getElem?_append_left (by simpa using hi)] at h
    simpa using h
  · rw [List.getElem?_append_right (by simpa using hi)] at h
    by_cases h2 : i - (vs.map some).length < N.length - vs.length
    · rw [List.getElem?_replicate_of_lt h2] at h
      cases h
    · rw [List.getElem?_eq_none (by simpa using h2)] at h
      cases h
theorem fn_ok {x : Str} {st : Stmt} {f : Addr} {fd : FuncData} {N ps : List Str} {k : Nat} {sp : FSpec} (wS : WS) (F : Fun K x x st f fd) (S : FnScope N ps (defScope st))
    (deriv : ∀ (cdv : Value) (A : Around) (outer : List Env) (s : Shared) (H : Hp) (E : XK), Room k (A.deeper (envOfC x (defScope st) s.heap.objs.size f cdv)) →
      DSs (cxOf CX0 P w K mg base N x (defScope st) f cdv A outer s H E).nox ps.length H (List.range ps.length) (defBody st) wS)
    (pure : ∀ ds, ds.length = ps.length → sp.pre ds → wS (env0 ds (N.length - ps.length)) { nx := fun e => sp.post ds .non (outs e ps.length), rt := fun d e => sp.post ds d (outs e ps.length) }) :
    FnOk P w K mg base CX0 (k + 1) f fd ps (spOf K ps.length sp) := by
  have hNl : ps.length ≤ N.length := by
    have := congrArg List.length S.pre
    rw [List.length_take] at this
    omega
  refine F.ok S (fun vs H Q E h => ?_) (fun cdv A outer s H vs Q E hr h => ?_)
  · obtain ⟨ds, hl, _⟩ := h
    exact hl
  · obtain ⟨ds, hl, rv, ap, pre, q⟩ := h
    have hdl : ds.length = ps.length := by rw [rv.length]; exact hl
    refine ⟨_, deriv cdv A outer s H E hr, ?_⟩
    have R : Rep K ps.length H (L2.start N vs) H (env0 ds (N.length - ps.length)) := by
      refine ⟨?_, fun i d e => ?_, fun i j xs ys a e1 e2 s1 s2 => ?_, fun i xs a hi e s' => ?_, fun _ h => h⟩
      · unfold L2.start env0
        simp [hl, hdl]
      · obtain ⟨v, e1, r1⟩ := rv.get (env0_get e)
        exact ⟨v, start_get e1, r1⟩
      · exact apA_get ap (env0_get e1) (env0_get e2) (start_at s1) (start_at s2)
      · have := env0_get e
        have hi' : i < ds.length := (List.getElem?_eq_some_iff.mp this).1
        omega
    have A1 : ∀ {σ' : L2.St} {H' : Hp} {env' : DEnv}, SS K ps.length H (List.range ps.length) (L2.start N vs) H (env0 ds (N.length - ps.length)) σ' H' env' → After K H H' ds (outs env' ps.length) vs := fun {σ' H' env'} st => by
      have el : env'.length = ds.length + (N.length - ps.length) := by
        rw [st.len]
        unfold env0
        simp
      refine ⟨?_, fun b o h n => ?_, st.dom, fun i xs v e ev => ?_⟩
      · unfold outs
        rw [List.length_map, List.length_take]
        omega
      · refine (st.keep b o h fun z => ?_).1
        obtain ⟨i, xs, e, s1⟩ := z
        exact n i xs (env0_get e) (start_at s1)
      · have hi : i < ds.length := (List.getElem?_eq_some_iff.mp e).1
        have e0 : (env0 ds (N.length - ps.length))[i]? = some (some (D.lst xs)) := by
          unfold env0
          rw [List.getElem?_append_left (by simpa using hi)]
          simp [e]
        obtain ⟨q1, ys, q2⟩ := st.par i xs (List.mem_range.mpr (by omega)) e0
        rw [start_get ev] at q1
        obtain ⟨u, q3, ru⟩ := st.rep.val i _ q2
        rw [q1] at q3
        have euv : v = u := by simpa using q3
        subst euv
        refine ⟨ys, ?_, ru⟩
        unfold outs
        rw [List.getElem?_map, List.getElem?_take_of_lt (by omega), q2]
        rfl
    refine ⟨_, _, R, pure ds hdl pre, ⟨fun env' σ' H' h st => ?_, fun d env' σ' H' v h st rv fr => ?_, fun _ _ _ h _ => h.elim, fun _ _ _ h _ => h.elim⟩⟩
    · exact q .non _ .non H' h (A1 st) rfl fun n => by simp [isL] at n
    · exact q d _ v H' h (A1 st) rv fr
end
end DL

namespace DL
open PySem PySem.Spec PyProof.Rows L2
/-! ### reasoning over data -/
theorem ifb_t {A B : Prop} (h : A) : ifb (.bl true) A B := .t h
theorem ifb_f {A B : Prop} (h : B) : ifb (.bl false) A B := .f h
theorem ifb_dec {p : Prop} {_ : Decidable p} {A B : Prop} (h1 : p → A) (h2 : ¬ p → B) : ifb (.bl (decide p)) A B := by
  by_cases h : p
  · rw [decide_eq_true h]; exact .t (h1 h)
  · rw [decide_eq_false h]; exact .f (h2 h)
theorem ifb_ndec {p : Prop} {_ : Decidable p} {A B : Prop} (h1 : ¬ p → A) (h2 : p → B) : ifb (.bl (!decide p)) A B := by
  by_cases h : p
  · rw [decide_eq_true h]; exact .f (h2 h)
  · rw [decide_eq_false h]; exact .t (h1 h)
theorem ifb_nr {α : Type} {x : α} {_ : Decidable (x = x)} {A B : Prop} (h : B) : ifb (.bl (!decide (x = x))) A B := by
  rw [decide_eq_true (rfl : x = x)]; exact ifb_f h
theorem ifb_er {α : Type} {x : α} {_ : Decidable (x = x)} {A B : Prop} (h : A) : ifb (.bl (decide (x = x))) A B := by
  rw [decide_eq_true (rfl : x = x)]; exact ifb_t h
theorem goFor_ind {g : G} {wb : WS} {chk : List (Nat × List D)} {K : Kt} (I : List D → DEnv → Prop)
    (hs : ∀ x r env nxt, I (x :: r) env → (∀ e, I r e → nxt e) → chkE chk env ∧ g x env fun e2 => wb e2 { nx := nxt, rt := K.rt, bk := K.nx, ct := nxt })
    (hd : ∀ env, I [] env → chkE chk env ∧ K.nx env) : ∀ xs env, I xs env → goFor g wb chk K xs env
  | [], env, h => hd env h
  | x :: r, env, h => hs x r env _ h fun e he => goFor_ind I hs hd r e he
theorem goFor_rng {g : G} {wb : WS} {chk : List (Nat × List D)} {K : Kt} (I : Int → DEnv → Prop) : ∀ (n : Nat) (lo : Int) (env : DEnv), I lo env →
    (∀ j env nxt, lo ≤ j → j < lo + n → I j env → (∀ e, I (j + 1) e → nxt e) → chkE chk env ∧ g (.int j) env fun e2 => wb e2 { nx := nxt, rt := K.rt, bk := K.nx, ct := nxt }) →
    (∀ env, I (lo + n) env → chkE chk env ∧ K.nx env) → goFor g wb chk K (rngD lo n) env
  | 0, lo, env, h, _, hd => hd env (by simpa using h)
  | n + 1, lo, env, h, hs, hd => by
    refine hs lo env _ (Int.le_refl _) (by omega) h fun e he => ?_
    exact goFor_rng I n (lo + 1) e he (fun j env nxt h1 h2 => hs j env nxt (by omega) (by omega)) (fun env h => hd env (by rw [show lo + ((n + 1 : Nat) : Int) = lo + 1 + (n : Int) by omega]; exact h))
theorem loop_rng {g : G} {wb : WS} {chk : List (Nat × List D)} {K : Kt} {n : Nat} {lo : Int} {env : DEnv} (I : Int → DEnv → Prop) (h0 : I lo env)
    (hs : ∀ j env nxt, lo ≤ j → j < lo + n → I j env → (∀ e, I (j + 1) e → nxt e) → chkE chk env ∧ g (.int j) env fun e2 => wb e2 { nx := nxt, rt := K.rt, bk := K.nx, ct := nxt })
    (hd : ∀ env, I (lo + n) env → chkE chk env ∧ K.nx env) : Loop (goFor g wb chk K (rngD lo n) env) := .mk (goFor_rng I n lo env h0 hs hd)
theorem loop_for {g : G} {wb : WS} {chk : List (Nat × List D)} {K : Kt} {xs : List D} {env : DEnv} (I : List D → DEnv → Prop) (h0 : I xs env)
    (hs : ∀ x r env nxt, I (x :: r) env → (∀ e, I r e → nxt e) → chkE chk env ∧ g x env fun e2 => wb e2 { nx := nxt, rt := K.rt, bk := K.nx, ct := nxt })
    (hd : ∀ env, I [] env → chkE chk env ∧ K.nx env) : Loop (goFor g wb chk K xs env) := .mk (goFor_ind I hs hd xs env h0)
theorem lcGo_ind {g : G} {wt we : W} {own : List Nat} {chk : List (Nat × List D)} {k : List D → DEnv → Prop} (I : List D → List D → DEnv → Prop)
    (hs : ∀ x r acc env (nxt : List D → DEnv → Prop), I (x :: r) acc env → (∀ a e, I r a e → nxt a e) → chkE chk env ∧ g x env fun e2 => wt e2 fun rb e3 => rs e3 rb fun b =>
      ifb b (we e3 fun r e4 => rs e4 r fun y => isL y = false ∧ nxt (acc ++ [y]) (wipeE e4 own)) (nxt acc (wipeE e3 own)))
    (hd : ∀ acc env, I [] acc env → chkE chk env ∧ k acc env) : ∀ xs acc env, I xs acc env → lcGo g wt we own chk k xs acc env
  | [], acc, env, h => hd acc env h
  | x :: r, acc, env, h => hs x r acc env _ h fun a e he => lcGo_ind I hs hd r a e he
/-- each item gives f of it, the slots stay -/
theorem lcGo_map {g : G} {wt we : W} {own : List Nat} {chk : List (Nat × List D)} {k : List D → DEnv → Prop} (f : D → D) (env : DEnv) (xs0 : List D)
    (hs : ∀ x (nxt : List D → DEnv → Prop) acc, x ∈ xs0 → nxt (acc ++ [f x]) env → chkE chk env ∧ g x env fun e2 => wt e2 fun rb e3 => rs e3 rb fun b =>
      ifb b (we e3 fun r e4 => rs e4 r fun y => isL y = false ∧ nxt (acc ++ [y]) (wipeE e4 own)) (nxt acc (wipeE e3 own)))
    (hd : chkE chk env ∧ k (xs0.map f) env) : Loop (lcGo g wt we own chk k xs0 [] env) := by
  refine Loop.mk ?_
  refine lcGo_ind (fun r acc e => e = env ∧ acc ++ r.map f = xs0.map f ∧ ∀ x ∈ r, x ∈ xs0) ?_ ?_ xs0 [] env ⟨rfl, by simp, fun _ h => h⟩
  · rintro x r acc e nxt ⟨rfl, h, hm⟩ hn
    exact hs x nxt acc (hm x (by simp)) (hn _ _ ⟨rfl, by simpa using h, fun y hy => hm y (by simp [hy])⟩)
  · rintro acc e ⟨rfl, h, _⟩
    have : acc = xs0.map f := by simpa using h
    rw [this]
    exact hd
/-- the items that pass p -/
theorem lcGo_filter {g : G} {wt we : W} {own : List Nat} {chk : List (Nat × List D)} {k : List D → DEnv → Prop} (p : D → Bool) (f : D → D) (env : DEnv) (xs0 : List D)
    (hs : ∀ x (nxt : List D → DEnv → Prop) acc, x ∈ xs0 → nxt (acc ++ if p x then [f x] else []) env → chkE chk env ∧ g x env fun e2 => wt e2 fun rb e3 => rs e3 rb fun b =>
      ifb b (we e3 fun r e4 => rs e4 r fun y => isL y = false ∧ nxt (acc ++ [y]) (wipeE e4 own)) (nxt acc (wipeE e3 own)))
    (hd : chkE chk env ∧ k ((xs0.filter p).map f) env) : Loop (lcGo g wt we own chk k xs0 [] env) := by
  refine Loop.mk ?_
  refine lcGo_ind (fun r acc e => e = env ∧ acc ++ (r.filter p).map f = (xs0.filter p).map f ∧ ∀ x ∈ r, x ∈ xs0) ?_ ?_ xs0 [] env ⟨rfl, by simp, fun _ h => h⟩
  · rintro x r acc e nxt ⟨rfl, h, hm⟩ hn
    refine hs x nxt acc (hm x (by simp)) (hn _ _ ⟨rfl, ?_, fun y hy => hm y (by simp [hy])⟩)
    rw [← h]
    by_cases hp : p x = true
    · simp [hp, List.filter_cons]
    · simp [hp, List.filter_cons]
  · rintro acc e ⟨rfl, h, _⟩
    have : acc = (xs0.filter p).map f := by simpa using h
    rw [this]
    exact hd
def IsInts (xs : List D) : Prop := ∃ ns : List Int, xs = ns.map D.int
theorem loop_lc {g : G} {wt we : W} {own : List Nat} {chk : List (Nat × List D)} {k : List D → DEnv → Prop} {xs : List D} {env : DEnv} (I : List D → List D → DEnv → Prop) (h0 : I xs [] env)
    (hs : ∀ x r acc env (nxt : List D → DEnv → Prop), I (x :: r) acc env → (∀ a e, I r a e → nxt a e) → chkE chk env ∧ g x env fun e2 => wt e2 fun rb e3 => rs e3 rb fun b =>
      ifb b (we e3 fun r e4 => rs e4 r fun y => isL y = false ∧ nxt (acc ++ [y]) (wipeE e4 own)) (nxt acc (wipeE e3 own)))
    (hd : ∀ acc env, I [] acc env → chkE chk env ∧ k acc env) : Loop (lcGo g wt we own chk k xs [] env) := .mk (lcGo_ind I hs hd xs [] env h0)
theorem fn_false {P : Program} {w : World} {K : PySem.W.Frag} {mg : Str → Option Value} {base : Heap} {k n : Nat} {f : Addr} {fd : FuncData} {ps : List Str} {sp : FSpec} (h : ∀ ds, sp.pre ds → False) : FnOk P w K mg base CX0 k f fd ps (spOf K n sp) :=
  ⟨fun vs H Q E ⟨ds, _, _, _, pre, _⟩ => (h ds pre).elim, fun A outer s H args us vs Q E _ _ _ _ ⟨ds, _, _, _, pre, _⟩ => (h ds pre).elim⟩
/-- the law's own start -/
def sp_law : FSpec where
  pre := fun ds => ∃ ns : List Int, ds = [.rol (ns.map D.int)] ∧ ns.length ≤ 63
  post := fun _ r _ => r = .bl true
theorem RpIs.ints {K : PySem.W.Frag} {H : Hp} : ∀ ns : List Int, RpIs K H (ns.map D.int) (ns.map V.int)
  | [] => by simp [RpIs]
  | n :: r => by
    simp only [List.map_cons, RpIs, RpI]
    exact ⟨_, _, rfl, rfl, RpIs.ints r⟩
theorem law_start {K : PySem.W.Frag} {H : Hp} {a : Addr} {ns : List Int} (hl : ns.length ≤ 63) (hO : Only H) (hS : SqL K H a (ns.map V.int)) : spOf K 1 sp_law [.ref a] H (fun v _ => v = .bl true) fun _ _ _ => False := by
  have hr : SqR K H a (ns.map V.int) := by
    rcases hS with (h | ⟨o, h⟩) | h
    · rcases hO a with n | ⟨o, xs, n⟩
      · rw [n] at h; cases h
      · rw [n] at h; cases h
    · exact .inl ⟨o, h⟩
    · exact .inr h
  refine ⟨[.rol (ns.map D.int)], rfl, ⟨_, [], rfl, ?_, rfl⟩, trivial, ⟨ns, rfl, hl⟩, fun r ds' v H' po _ rv _ => ?_⟩
  · show RpI _ _ _ _
    simp only [RpI]
    exact ⟨a, _, rfl, hr, RpIs.ints ns⟩
  · cases (show r = .bl true from po)
    exact rv
end DL

namespace DL
open PySem PySem.Spec PyProof.Rows L2
section
variable {X : Cx} {np : Nat} {He : Hp} {pos : Pos} {a b c d : Expr}
/-! ### a op b op' c op'' d -/
end
end DL

namespace DL
open PySem PySem.Spec PyProof.Rows L2
/-! ### every other item -/
def ev {α : Type} : List α → List α
  | [] => []
  | [x] => [x]
  | x :: _ :: r => x :: ev r
theorem RpIs.ev {K : PySem.W.Frag} {H : Hp} : ∀ {ds : List D} {vs : List V}, RpIs K H ds vs → RpIs K H (DL.ev ds) (DL.ev vs)
  | [], vs, h => by simp only [RpIs] at h; subst h; simp [DL.ev, RpIs]
  | [d], vs, h => by
    simp only [RpIs] at h
    obtain ⟨v, r, rfl, h1, rfl⟩ := h
    exact ⟨v, [], rfl, h1, rfl⟩
  | d :: e :: ds, vs, h => by
    simp only [RpIs] at h
    obtain ⟨v, r, rfl, h1, w, r2, rfl, h2, h3⟩ := h
    exact ⟨v, _, rfl, h1, RpIs.ev h3⟩
section
variable {X : Cx} {np : Nat} {He : Hp} {a b : Expr} {wa wb : W} {pos : Pos}
end
end DL

namespace DL
open PySem PySem.Spec PyProof.Rows L2
/-! ### tuple(zip(xs, ys)) of two lists -/
/-- what the list has got so far -/
def Got (H : Hp) (xs ys : List V) (acc : Array Value) (i : Nat) : Prop := acc.size = i ∧ ∀ (j : Nat) (v : Value), acc[j]? = some v → ∃ (T : Addr) (x y : V), v = Value.ref T ∧ H T = some (.tup [x, y]) ∧ xs[j]? = some x ∧ ys[j]? = some y
theorem Got.ext {H H' : Hp} {xs ys : List V} {acc : Array Value} {i : Nat} (x : Ext H H') (g : Got H xs ys acc i) : Got H' xs ys acc i :=
  ⟨g.1, fun j v h => let ⟨T, a, b, e1, e2, e3, e4⟩ := g.2 j v h; ⟨T, a, b, e1, x _ _ e2, e3, e4⟩⟩
theorem Got.push {H : Hp} {xs ys : List V} {acc : Array Value} {i : Nat} {T : Addr} {x y : V} (g : Got H xs ys acc i) (h : H T = some (.tup [x, y])) (hx : xs[i]? = some x) (hy : ys[i]? = some y) : Got H xs ys (acc.push (.ref T)) (i + 1) := by
  refine ⟨by rw [Array.size_push, g.1], fun j v e => ?_⟩
  rw [Array.getElem?_push] at e
  split at e
  · rename_i e1
    rw [g.1] at e1
    cases e
    subst e1
    exact ⟨T, x, y, rfl, h, hx, hy⟩
  · exact g.2 j v e
/-- the zip between two turns: its tuple is out or not -/
def ZAt (h : Heap) (z TI TO i1 i2 l1 l2 S : Addr) (i : Nat) : Prop := IsPair h TI (.ref i1) (.ref i2) ∧ h.IsListIter i1 l1 i ∧ h.IsListIter i2 l2 i ∧
  ((IsZip h z TI TO .none ∧ ∃ a b, IsPair h TO a b) ∨ ∃ T f oT, IsZipHeld h z TI TO T f ∧ h.get? T = some oT ∧ T ≠ z ∧ T ≠ i1 ∧ T ≠ i2 ∧ T ≠ S)
theorem ZAt.but {h h' : Heap} {z TI TO i1 i2 l1 l2 S : Addr} {i : Nat} (Z : ZAt h z TI TO i1 i2 l1 l2 S i) (d : S ≠ TI ∧ S ≠ i1 ∧ S ≠ i2 ∧ S ≠ z ∧ S ≠ TO) (k : ∀ b o, b ≠ S → h.get? b = some o → h'.get? b = some o) : ZAt h' z TI TO i1 i2 l1 l2 S i := by
  obtain ⟨hTI, h1, h2, hz⟩ := Z
  refine ⟨k _ _ d.1.symm hTI, h1.at fun o e => k _ o d.2.1.symm e, h2.at fun o e => k _ o d.2.2.1.symm e, ?_⟩
  rcases hz with ⟨hz, a, b, hTO⟩ | ⟨T, f, oT, hz, hT, r1, r2, r3, r4⟩
  · exact .inl ⟨k _ _ d.2.2.2.1.symm hz, a, b, k _ _ d.2.2.2.2.symm hTO⟩
  · exact .inr ⟨T, f, oT, k _ _ d.2.2.2.1.symm hz, k _ _ r4 hT, r1, r2, r3, r4⟩
section
variable {X : Cx} {pins : List (Addr × Obj)} {σ : L2.St}
theorem SqL.ext' {K : PySem.W.Frag} {H H' : Hp} {a : Addr} {xs : List V} (e : Ext H H') (h : SqL K H a xs) : SqL K H' a xs := by
  rcases h with (h | ⟨o, h⟩) | h
  · exact .inl (.inl (e _ _ h))
  · exact .inl (.inr ⟨o, e _ _ h⟩)
  · exact .inr h
end
end DL

namespace DL
open PySem PySem.Spec PyProof.Rows L2
section
variable {X : Cx} {pins : List (Addr × Obj)} {σ : L2.St}
end
section
variable {X : Cx} {np : Nat} {He : Hp} {a b : Expr} {wa wb : W} {pos : Pos}
end
end DL

namespace DL
open PySem PySem.Spec PyProof.Rows L2
/-! ### zip of lists and tuples in any mix -/
def SqG (k : Bool) (K : PySem.W.Frag) (H : Hp) (a : Addr) (xs : List V) : Prop := match k with
  | true => SqT K H a xs
  | false => SqL K H a xs
def ItA (k : Bool) (h : Heap) (it a : Addr) (i : Nat) : Prop := match k with
  | true => h.IsTupleIter it a i
  | false => h.IsListIter it a i
def ArA (k : Bool) (h : Heap) (a : Addr) (its : Array Value) : Prop := match k with
  | true => h.IsTuple a its
  | false => h.IsList a its
theorem draws_any {prog : Program} {w : World} {A : Around} (hh : A.handled = none) (k : Bool) (it a : Addr) (hne : a ≠ it) (its : Array Value) :
    Draws prog w A it [it, a] its.size (fun i v => its[i]? = some v) (fun i h => ItA k h it a i ∧ ArA k h a its) := by
  cases k
  · exact Draws.list hh it a hne its
  · exact Draws.tuple hh it a hne its
section
variable {X : Cx} {pins : List (Addr × Obj)} {σ : L2.St} {H : Hp} {s : Shared}
theorem inv_any (J : Inv X pins σ H s) {k : Bool} {a : Addr} {xs : List V} (h : SqG k X.K H a xs) : ∃ its : List Value, Vals xs its ∧ ArA k s.heap a its.toArray ∧ a < s.heap.objs.size := by
  cases k
  · obtain ⟨its, r, p, _⟩ := J.list h
    exact ⟨its, r, p.isList, p.lt⟩
  · obtain ⟨its, r, p, _⟩ := J.tuple h
    obtain ⟨o, ho, _⟩ := id p
    exact ⟨its, r, p, Heap.lt_size ho⟩
theorem sq_inj (J : Inv X pins σ H s) {k : Bool} {a : Addr} {xs ys : List V} (h : SqG k X.K H a xs) (g : SqG k X.K H a ys) : xs = ys := by
  cases k
  · exact J.list_inj h g
  · exact J.tuple_inj h g
theorem ita_at {k : Bool} {h h' : Heap} {it a : Addr} {i : Nat} (x : ItA k h it a i) (e : ∀ o, h.get? it = some o → h'.get? it = some o) : ItA k h' it a i := by
  cases k
  · exact Heap.IsListIter.at x e
  · exact Heap.IsTupleIter.at x e
theorem ita_obj {k : Bool} {h : Heap} {it a : Addr} {i : Nat} (x : ItA k h it a i) : ∃ o, h.get? it = some o ∧ ∀ v, o.data ≠ .cell v := by
  cases k
  · obtain ⟨o, e, _, d⟩ := x; exact ⟨o, e, fun v q => by rw [d] at q; cases q⟩
  · obtain ⟨o, e, _, d⟩ := x; exact ⟨o, e, fun v q => by rw [d] at q; cases q⟩
end
def ItzG (ka kb : Bool) (K : PySem.W.Frag) (a b : Addr) : It where
  go := fun i H => ∃ (xs ys : List V) (x y : V), SqG ka K H a xs ∧ SqG kb K H b ys ∧ xs[i]? = some x ∧ ys[i]? = some y
  yld := fun i H v H' => ∃ T x y, v = .ref T ∧ H T = none ∧ H' = upd H T (.tup [x, y]) ∧ (∀ xs, SqG ka K H a xs → xs[i]? = some x) ∧ ∀ ys, SqG kb K H b ys → ys[i]? = some y
  stop := fun i H => ∃ xs ys : List V, SqG ka K H a xs ∧ SqG kb K H b ys ∧ ((i = xs.length ∧ i ≤ ys.length) ∨ (i = ys.length ∧ i ≤ xs.length))
theorem sep_of {z TI TO i1 i2 a b : Addr} (D : ZipApart z TI TO i1 i2 a b) : ZipSep2 z TI TO i1 i2 [i1, a] [i2, b] where
  TIz := D.TIz
  TOz := D.TOz
  TITO := D.TITO
  TIi1 := D.TIi1
  mem1 := by simp
  zf1 := by simp [D.i1z.symm, D.l1z.symm]
  Tf1 := by simp [D.TOi1, D.l1TO.symm]
  TIi2 := D.TIi2
  mem2 := by simp
  zf2 := by simp [D.i2z.symm, D.l2z.symm]
  Tf2 := by simp [D.TOi2, D.l2TO.symm]
  sep1_2 := by simp [D.i12, D.l2i1.symm]
  sep2_1 := by simp [D.i12.symm, D.l1i2.symm]
theorem turn_any {P : Program} {w : World} {K : PySem.W.Frag} {elts : List Expr} {kk : Nat} {tpos : Pos} {ka kb : Bool} {a b z TI TO i1 i2 : Addr} (D : ZipApart z TI TO i1 i2 a b) :
    Turn P w K (.Tuple elts kk tpos) (ItzG ka kb K a b) [z, TI, TO, i1, i2] z (fun i h => IsZip h z TI TO .none ∧ IsPair h TI (.ref i1) (.ref i2) ∧ (∃ x y, IsPair h TO x y) ∧ ItA ka h i1 a i ∧ ItA kb h i2 b i) where
  mem := List.mem_cons_self
  obj := fun i h ⟨hz, hTI, ⟨x, y, hTO⟩, h1, h2⟩ c hc => by
    simp only [List.mem_cons, List.not_mem_nil, or_false] at hc
    rcases hc with q | q | q | q | q <;> subst q
    · exact ⟨_, hz, fun v q => nomatch q⟩
    · exact ⟨_, hTI, fun v q => nomatch q⟩
    · exact ⟨_, hTO, fun v q => nomatch q⟩
    · exact ita_obj h1
    · exact ita_obj h2
  keep := fun i h h' ⟨hz, hTI, ⟨x, y, hTO⟩, h1, h2⟩ k => ⟨k z (by simp) _ hz, k TI (by simp) _ hTI, ⟨x, y, k TO (by simp) _ hTO⟩, ita_at h1 fun o q => k i1 (by simp) o q, ita_at h2 fun o q => k i2 (by simp) o q⟩
  item := by
    rintro X rfl rfl rfl hc i pins s σ H E J hf ⟨hz, hTI, ⟨x0, y0, hTO⟩, h1, h2⟩ ⟨xs, ys, x, y, q1, q2, hx, hy⟩
    obtain ⟨us, ru, p1, _⟩ := inv_any J q1
    obtain ⟨vs, rv, p2, _⟩ := inv_any J q2
    obtain ⟨u, hu, rx⟩ := ru.get hx
    obtain ⟨v, hv, ry⟩ := rv.get hy
    have S := sep_of D
    have lu : i < us.toArray.size := by rw [List.size_toArray]; exact (List.getElem?_eq_some_iff.mp hu).1
    have lv : i < vs.toArray.size := by rw [List.size_toArray]; exact (List.getElem?_eq_some_iff.mp hv).1
    have hzl : z < s.heap.objs.size := Heap.lt_size hz
    refine wpAny_pyNext_zipD2_item S (draws_any (A := X.A.in1) (J.ok.hd hc) ka i1 a D.l1i1 us.toArray) (draws_any (A := X.A.in1) (J.ok.hd hc) kb i2 b D.l2i2 vs.toArray) hz hTI hTO ⟨h1, p1⟩ ⟨h2, p2⟩ lu lv fun u' v' h' tk e1 e2 z' TO' st1 st2 hT hsz hk => ?_
    obtain rfl : u' = u := by rw [List.getElem?_toArray, hu] at e1; exact (Option.some.inj e1).symm
    obtain rfl : v' = v := by rw [List.getElem?_toArray, hv] at e2; exact (Option.some.inj e2).symm
    refine ⟨_, rfl, wpAny_letOwnedTupleGo_zip (s := { s with heap := h', toks := tk }) z' fun h'' z'' sb => ?_⟩
    have hT2 : h''.get? s.heap.objs.size = some { cls := .type "tuple", data := .seq #[u', v'] } := (sb.2 _ (Nat.ne_of_gt hzl)).trans hT
    have new : ObjOk X.prog X.w (upd H s.heap.objs.size (.tup [x, y])) h'' s.heap.objs.size (.tup [x, y]) := ⟨by show 2 ≤ sizeLine; decide, [u', v'], .cons rx (.cons ry .nil), ⟨_, hT2, rfl, _, rfl⟩⟩
    have kp : ∀ c o, c ∉ [z, TI, TO, i1, i2] → s.heap.get? c = some o → h''.get? c = some o := fun c o hb q => by
      simp only [List.mem_cons, List.not_mem_nil, or_false, not_or] at hb
      exact (sb.2 c hb.1).trans (hk c o hb.1 hb.2.2.1 hb.2.2.2.1 hb.2.2.2.2 q)
    have J1 : Inv X pins σ (upd H s.heap.objs.size (.tup [x, y])) { s with heap := h'', toks := tk } := J.turnedNew (t' := tk) (ch := [z, TI, TO, i1, i2]) kp hf (Nat.le_refl _) new
    refine ⟨.ref s.heap.objs.size, _, J1, rfl, ⟨_, x, y, rfl, J.hok.fresh (Nat.le_refl _), rfl, fun l hl => by rw [sq_inj J hl q1]; exact hx, fun l hl => by rw [sq_inj J hl q2]; exact hy⟩,
      ⟨z'', (sb.2 _ D.TIz).trans (hk _ _ D.TIz D.TITO D.TIi1 D.TIi2 hTI), ⟨u', v', (sb.2 _ D.TOz).trans TO'⟩, ita_at st1.1 fun o q => (sb.2 _ D.i1z).trans q, ita_at st2.1 fun o q => (sb.2 _ D.i2z).trans q⟩, fun c hc2 => ?_⟩
    have hlt : c < s.heap.objs.size := by
      simp only [List.mem_cons, List.not_mem_nil, or_false] at hc2
      rcases hc2 with q | q | q | q | q <;> subst q
      · exact hzl
      · exact Heap.lt_size hTI
      · exact Heap.lt_size hTO
      · obtain ⟨_, e, _⟩ := ita_obj h1; exact Heap.lt_size e
      · obtain ⟨_, e, _⟩ := ita_obj h2; exact Heap.lt_size e
    rw [upd_ne (Nat.ne_of_lt hlt)]
    exact (hf c hc2).1
  done := by
    rintro X rfl rfl rfl hc i pins s σ H E J hf ⟨hz, hTI, ⟨x0, y0, hTO⟩, h1, h2⟩ ⟨xs, ys, q1, q2, hend⟩
    obtain ⟨us, ru, p1, _⟩ := inv_any J q1
    obtain ⟨vs, rv, p2, _⟩ := inv_any J q2
    have e1 := ru.length
    have e2 := rv.length
    refine wpAny_pyNext_zipD2_end (sep_of D) (draws_any (A := X.A.in1) (J.ok.hd hc) ka i1 a D.l1i1 us.toArray) (draws_any (A := X.A.in1) (J.ok.hd hc) kb i2 b D.l2i2 vs.toArray) hz hTI hTO ⟨h1, p1⟩ ⟨h2, p2⟩ (by simp only [List.size_toArray]; omega) (by simp only [List.size_toArray]; omega) (by simp only [List.size_toArray]; omega) fun h' tk hk => ⟨rfl, ?_⟩
    exact J.turnedL (t' := tk) (ch := [z, TI, TO, i1, i2]) (fun c o hb q => by
      simp only [List.mem_cons, List.not_mem_nil, or_false, not_or] at hb
      exact hk c o hb.1 hb.2.2.1 hb.2.2.2.1 hb.2.2.2.2 q) hf
  self := fun A i s Q E st h => wpAny_pyIter_zip st.1 h
theorem begins_any (k : Bool) (a : Addr) (its : Array Value) : ∃ o, Begins (.ref a) o (fun h => ArA k h a its) ∧ ∀ (h : Heap) (it : Addr), h.get? it = some o → ItA k h it a 0 := by
  cases k
  · exact ⟨_, begins_list a its, fun h it e => ⟨_, e, rfl, rfl⟩⟩
  · exact ⟨_, begins_tuple a its, fun h it e => ⟨_, e, rfl, rfl⟩⟩
def iZipG (K : PySem.W.Frag) (ta : TA) : L2.TI := fun σ H R => ta σ H fun vs H1 => ∃ a b xs ys ka kb, vs = [.ref a, .ref b] ∧ SqG ka K H1 a xs ∧ SqG kb K H1 b ys ∧ R (ItzG ka kb K a b) H1
theorem pi_zipG {X : Cx} {e e2 : Expr} {ta : TA} {p pos tpos : Pos} {elts : List Expr} {kk : Nat} (hg : Gl X "zip") (hm : X.mg "zip" = none) (ha : PA X [e, e2] ta)
    (hs : starEach [e, e2] X.env = (false, eval e X.env) :: starEach [e2] X.env := by rfl) (hpl : (backTo pos (starEach [e2] X.env)).any (·.1) = false := by rfl) :
    PI X (.Tuple elts kk tpos) (.Call (.Name "zip" p) [e, e2] [] pos) (iZipG X.K ta) := by
  refine ⟨fun pins s σ H R J h => ?_⟩
  refine Call_ (ld_blt J hg hm PyProof.Rows.boot_zip (PyProof.Rows.callWith_type1 (thn (ha.run pos pins s σ H _ J h) fun us s1 ⟨vs, H1, J1, r1, q⟩ => ?_) hs hpl))
  obtain ⟨a, b, xs, ys, ka, kb, rfl, q1, q2, fin⟩ := q
  cases r1 with
  | cons ra rr =>
    cases rr with
    | cons rb rr =>
      cases rr
      cases ra
      cases rb
      obtain ⟨us, ru, p1, l1⟩ := inv_any J1 q1
      obtain ⟨vs, rv, p2, l2⟩ := inv_any J1 q2
      obtain ⟨o1, B1, f1⟩ := begins_any ka a us.toArray
      obtain ⟨o2, B2, f2⟩ := begins_any kb b vs.toArray
      refine zip_begins2 B1 B2 p1 p2 fun h' hz hTI hTO g1 g2 hsz hk => wpAny_pyIter_zip hz ?_
      have J2 : Inv X pins σ H1 { s1 with heap := h' } := J1.kept (t' := s1.toks) hk
      refine ⟨s1.heap.objs.size + 4, [s1.heap.objs.size + 4, s1.heap.objs.size + 2, s1.heap.objs.size + 3, s1.heap.objs.size, s1.heap.objs.size + 1], _, _, H1, rfl, J2, turn_any (PySem.W.ktu_apart s1.heap.objs.size a b l1 l2), ⟨hz, hTI, ⟨_, _, hTO⟩, f1 _ _ g1, f2 _ _ g2⟩, fun c hcm => ?_, fin⟩
      have hle : s1.heap.objs.size ≤ c := by
        simp only [List.mem_cons, List.not_mem_nil, or_false] at hcm
        rcases hcm with z | z | z | z | z
        · rw [z]; exact Nat.le_add_right _ _
        · rw [z]; exact Nat.le_add_right _ _
        · rw [z]; exact Nat.le_add_right _ _
        · rw [z]; exact Nat.le_refl _
        · rw [z]; exact Nat.le_add_right _ _
      exact J1.fpOk hle (J1.hok.fresh hle)
theorem walk_any {ka kb : Bool} {K : PySem.W.Frag} {a b : Addr} {xs ys : List D} : Walk (ItzG ka kb K a b) (zipD xs ys).length (fun H => (∃ vs, SqG ka K H a vs ∧ RpIs K H xs vs) ∧ ∃ vs, SqG kb K H b vs ∧ RpIs K H ys vs)
    (fun i H v H' => Ext H H' ∧ ∃ d, (zipD xs ys)[i]? = some d ∧ RpI K H' d v) := by
  rw [zipD_len]
  refine ⟨fun i H hi ⟨⟨vs, s, r⟩, us, s2, r2⟩ => ?_, fun H ⟨⟨vs, s, r⟩, us, s2, r2⟩ => ⟨vs, us, s, s2, by rw [← r.length, ← r2.length]; omega⟩, fun i H v H' hi ⟨⟨vs, s, r⟩, us, s2, r2⟩ y => ?_⟩
  · obtain ⟨v, e, _⟩ := r.get (List.getElem?_eq_getElem (show i < xs.length by omega))
    obtain ⟨u, e2, _⟩ := r2.get (List.getElem?_eq_getElem (show i < ys.length by omega))
    exact ⟨vs, us, v, u, s, s2, e, e2⟩
  · obtain ⟨T, x, z, rfl, hT, rfl, h4, h5⟩ := y
    obtain ⟨d1, e1, r1⟩ := r.get' (h4 vs s)
    obtain ⟨d2, e2, r2'⟩ := r2.get' (h5 us s2)
    have ex : Ext H (upd H T (.tup [x, z])) := .new hT
    refine ⟨ex, _, zipD_get xs ys i d1 d2 e1 e2, ?_⟩
    simp only [RpI, RpIs]
    exact ⟨T, _, rfl, upd_same, x, _, rfl, RpI.kp ex.kp _ _ r1, z, _, rfl, RpI.kp ex.kp _ _ r2', rfl⟩
theorem src_any {K : PySem.W.Frag} {np : Nat} {He : Hp} {σ : L2.St} {H H1 : Hp} {env e1 : DEnv} {v : V} {r : RV} {k : List D → List (Nat × List D) → Prop} (R : Rep K np He σ H env) (s1 : SE K np He σ H env H1 e1) (h : RpR K σ H H1 e1 v r) (g : srcR e1 r k) :
    ∃ ds chk a kd, k ds chk ∧ v = .ref a ∧ (∀ p ∈ chk, e1[p.1]? = some (some (D.lst p.2))) ∧ ∀ H' : Hp, Stay K np He σ H H1 e1 chk H' → ∃ vs, SqG kd K H' a vs ∧ RpIs K H' ds vs := by
  obtain ⟨ds, chk, a, h1, h2, h3, h4⟩ := src_at R s1 h g
  rcases h4 with h4 | h4
  · exact ⟨ds, chk, a, false, h1, h2, h3, h4⟩
  · exact ⟨ds, chk, a, true, h1, h2, h3, h4⟩
section
variable {X : Cx} {np : Nat} {He : Hp} {a b : Expr} {wa wb : W} {pos : Pos}
def iZG (wa wb : W) : WI := fun env Q => wa env fun ra e1 => wb e1 fun rb e2 => srcR e2 ra fun xs c1 => srcR e2 rb fun ys c2 => Q ⟨zipD xs ys, c1 ++ c2⟩ e2
theorem i_zipG {elts : List Expr} {kk : Nat} {tpos p : Pos} (hm : X.mg "zip" = none) (ha : DE X np He a wa) (hb : DE X np He b wb) (hg : Gl X "zip" := by rfl) (hs : starEach [a, b] X.env = (false, eval a X.env) :: starEach [b] X.env := by rfl) (hs2 : starEach [b] X.env = (false, eval b X.env) :: starEach [] X.env := by rfl) (hpl : (backTo pos (starEach [b] X.env)).any (·.1) = false := by rfl) :
    DI X np He (.Tuple elts kk tpos) (.Call (.Name "zip" p) [a, b] [] pos) (iZG wa wb) := by
  refine PI.weak (pi_zipG hg hm (pa_cons ha (pa_cons hb pa_nil hs2) hs) hs hpl) fun σ H R ⟨env, Q0, Rp, w, q⟩ => ⟨env, _, Rp, w, fun ra e1 v1 H1 w1 s1 r1 => ⟨e1, _, s1.rep, w1, fun rb e2 v2 H2 w2 s2 r2 => ?_⟩⟩
  have s12 := s1.trans s2
  obtain ⟨xs, c1, a1, ka, w2, rfl, hc1, st1⟩ := src_any Rp s12 (r1.keep Rp s1 s2) w2
  obtain ⟨ys, c2, a2, kb, w2, rfl, hc2, st2⟩ := src_any Rp s12 (r2.start s1) w2
  obtain ⟨vs, sv, _⟩ := st1 H2 (Stay.here s12.rep hc1)
  obtain ⟨us, su, _⟩ := st2 H2 (Stay.here s12.rep hc2)
  refine ⟨a1, a2, vs, us, ka, kb, rfl, sv, su, q ⟨zipD xs ys, c1 ++ c2⟩ e2 H2 _ _ _ w2 s12 walk_any (fun p hp => ?_) (fun i H3 x H4 hi y _ => y) (fun H' st => ?_)⟩
  · rcases List.mem_append.mp hp with z | z
    · exact hc1 p z
    · exact hc2 p z
  · exact ⟨st1 H' (st.sub fun p z => List.mem_append_left _ z), st2 H' (st.sub fun p z => List.mem_append_right _ z)⟩
end
end DL

namespace DL
open PySem PySem.Spec PyProof.Rows L2
/-! ### == and != of data at any depth -/
mutual
def toP : D → PyData
  | .non => .none
  | .bl b => .bool b
  | .int i => .int i
  | .str x => .str x
  | .tup ds => .tuple (toPs ds)
  | .lst ds => .list (toPs ds)
  | .rol ds => .list (toPs ds)
  | .tpd ds => .tuple (toPs ds)
  | .rod _ _ => .dict []
  | .rdk _ _ => .dict []
  | .obj _ _ => .dict []
def toPs : List D → List PyData
  | [] => []
  | d :: ds => toP d :: toPs ds
end
theorem lay_cons {d : D} {ds : List D} (h : PyData.canLayAll0 (toPs (d :: ds)) = true) : (toP d).canLay0 = true ∧ PyData.canLayAll0 (toPs ds) = true := by
  simpa only [toPs, PyData.canLayAll0, Bool.and_eq_true] using h
mutual
theorem RpI.dp {K : PySem.W.Frag} {H : Hp} : ∀ (d : D) (v : V), (toP d).canLay0 = true → RpI K H d v → Dp K H v (toP d)
  | .non, v, _, h => by cases h; exact .non
  | .bl b, v, _, h => by cases h; exact .bl b
  | .int i, v, _, h => by cases h; exact .int i
  | .str x, v, _, h => by cases h; exact .str x
  | .tup ds, v, l, h => by
    simp only [RpI] at h
    obtain ⟨a, vs, rfl, s, r⟩ := h
    exact .tup (.of s) (RpIs.dp ds vs (by simpa only [toP, PyData.canLay0] using l) r)
  | .tpd ds, v, l, h => by
    simp only [RpI] at h
    obtain ⟨a, vs, rfl, s, r⟩ := h
    exact .tup s.t (RpIs.dp ds vs (by simpa only [toP, PyData.canLay0] using l) r)
  | .rol ds, v, l, h => by
    simp only [RpI] at h
    obtain ⟨a, vs, rfl, s, r⟩ := h
    exact .lst s.seq (RpIs.dp ds vs (by simpa only [toP, PyData.canLay0] using l) r)
  | .lst ds, v, _, h => by simp only [RpI] at h
  | .rod _ _, v, l, h => by simp [toP, PyData.canLay0] at l
  | .rdk _ _, v, l, h => by simp [toP, PyData.canLay0] at l
  | .obj _ _, v, l, h => by simp [toP, PyData.canLay0] at l
theorem RpIs.dp {K : PySem.W.Frag} {H : Hp} : ∀ (ds : List D) (vs : List V), PyData.canLayAll0 (toPs ds) = true → RpIs K H ds vs → DpAll K H vs (toPs ds)
  | [], vs, _, h => by simp only [RpIs] at h; subst h; exact .nil
  | d :: ds, vs, l, h => by
    simp only [RpIs] at h
    obtain ⟨v, r, rfl, h1, h2⟩ := h
    exact .cons (RpI.dp d v (lay_cons l).1 h1) (RpIs.dp ds r (lay_cons l).2 h2)
end
theorem RpV.dp {K : PySem.W.Frag} {H : Hp} {d : D} {v : V} (h : RpV K H d v) (l : (toP d).canLay0 = true) : Dp K H v (toP d) := by
  cases d with
  | lst ds =>
    obtain ⟨a, vs, rfl, e, r⟩ := h
    exact .lst (.of e) (RpIs.dp ds vs (by simpa only [toP, PyData.canLay0] using l) r)
  | _ => exact RpI.dp _ v l (h.imm rfl)
theorem lay_of {x : PyData} (h : SeqAt.shaped x = true) : x.canLay0 = true := by
  unfold SeqAt.shaped at h
  rw [Bool.and_eq_true] at h
  exact h.1
def fEqD : F2 := fun x y k => SeqAt.shaped (toP x) = true ∧ SeqAt.shaped (toP y) = true ∧ k (.bl (PyData.eqv (toP x) (toP y)))
def fNeD : F2 := fun x y k => SeqAt.shaped (toP x) = true ∧ SeqAt.shaped (toP y) = true ∧ k (.bl (!PyData.eqv (toP x) (toP y)))
section
variable {X : Cx} {np : Nat} {He : Hp} {a b : Expr} {wa wb : W} {pos : Pos}
theorem opd_eqD : OpD X.K (rEqD X.K) fEqD := fun H x y v w k Q rx ry h q => ⟨_, _, rx.dp (lay_of h.1), ry.dp (lay_of h.2.1), h.1, h.2.1, q _ _ H h.2.2 (.refl H) rfl (fun n => by simp [isL] at n)⟩
theorem opd_neD : OpD X.K (rNeD X.K) fNeD := fun H x y v w k Q rx ry h q => ⟨_, _, rx.dp (lay_of h.1), ry.dp (lay_of h.2.1), h.1, h.2.1, q _ _ H h.2.2 (.refl H) rfl (fun n => by simp [isL] at n)⟩
variable (hu : X.A.units + 64 < cLine) (ha : DE X np He a wa) (hb : DE X np He b wb)
include hu ha hb
theorem e_eqD : DE X np He (.Compare a [.Eq] [b] pos) (cOp fEqD wa wb) := e_cmp (op_eqD hu) opd_eqD ha hb (nomark _)
theorem t_eqD : DT X np He (.Compare a [.Eq] [b] pos) (cOp fEqD wa wb) := t_cmp (op_eqD hu) opd_eqD ha hb (nomark _)
theorem t_neD : DT X np He (.Compare a [.NotEq] [b] pos) (cOp fNeD wa wb) := t_cmp (op_neD hu) opd_neD ha hb (nomark _)
end
/-! ### trees of ints and None -/
end DL

namespace DL
open PySem PySem.Spec PyProof.Rows L2
/-! ### sorted: lists of triples of ints, of any length -/
abbrev T3 := Int × Int × Int
def IsT3 (h : Heap) (v : Value) (q : T3) : Prop := ∃ a o t u w n, v = .ref a ∧ h.get? a = some o ∧ o.cls = .type "tuple" ∧ o.data = .seq #[.int q.1 t, .int q.2.1 u, .int q.2.2 w] n
theorem IsT3.on {h h' : Heap} {v : Value} {q : T3} (x : IsT3 h v q) (k : ∀ b o, h.get? b = some o → o.cls = .type "tuple" → h'.get? b = some o) : IsT3 h' v q := by
  obtain ⟨a, o, t, u, w, n, e, ho, hc, hd⟩ := x
  exact ⟨a, o, t, u, w, n, e, k a o ho hc, hc, hd⟩
section
variable {prog : Program} {w : World} {A : Around} {E : Value → Shared → Prop} {s : Shared}
end
theorem IsT3.inj {h : Heap} {v : Value} {q r : T3} (x : IsT3 h v q) (y : IsT3 h v r) : q = r := by
  obtain ⟨a, o, t, u, w, n, e, ho, hc, hd⟩ := x
  obtain ⟨a', o', t', u', w', n', e', ho', hc', hd'⟩ := y
  rw [e] at e'
  cases e'
  rw [ho] at ho'
  cases ho'
  rw [hd] at hd'
  obtain ⟨q1, q2, q3⟩ := q
  obtain ⟨r1, r2, r3⟩ := r
  simp at hd'
  obtain ⟨⟨⟨h1, _⟩, ⟨h2, _⟩, h3, _⟩, _⟩ := hd'
  rw [h1, h2, h3]
def Trp (K : PySem.W.Frag) (H : Hp) (x : V) (q : T3) : Prop := ∃ t, x = V.ref t ∧ SqT K H t [.int q.1, .int q.2.1, .int q.2.2]
section
variable {X : Cx}
theorem Trp.at {pins : List (Addr × Obj)} {σ : L2.St} {H : Hp} {s : Shared} (J : Inv X pins σ H s) {x : V} {u : Value} {q : T3} (t : Trp X.K H x q) (r : RelV x u) : IsT3 s.heap u q := by
  obtain ⟨a, rfl, h⟩ := t
  obtain rfl : u = Value.ref a := r
  obtain ⟨its, rv, ⟨o, ho, hc, n, hd⟩, _⟩ := J.tuple h
  cases rv with
  | cons r1 rr =>
    cases rr with
    | cons r2 rr =>
      cases rr with
      | cons r3 rr =>
        cases rr
        obtain ⟨t1, rfl⟩ := r1
        obtain ⟨t2, rfl⟩ := r2
        obtain ⟨t3, rfl⟩ := r3
        exact ⟨a, o, t1, t2, t3, n, rfl, ho, hc, hd⟩
end
section
variable {X : Cx} {np : Nat} {He : Hp} {a : Expr} {wa : W} {pos : Pos}
end
end DL

namespace DL
open PySem PySem.Spec PyProof.Rows L2
/-! ### defs with one keyword-only parameter whose default is None -/
structure FnKD (P : Program) (w : World) (K : PySem.W.Frag) (mg : Str → Option Value) (base : Heap) (k : Nat) (x : Str) (ps ks : List Str) (sp : FSpec) : Prop where
  ex : ∃ f fd u, FnOk P w K mg base CX0 k f fd ps (spOf K ps.length sp) ∧ mg x = some (.ref f) ∧ PySem.W.keepIn K (.ref f) = true ∧ KBn K fd ps 1 ks (fun us ws => us ++ ws) (fun vs zs => vs ++ zs) ∧ Binds K fd ps [u] ∧ RelV V.non u
section
variable {X : Cx} {np : Nat} {He : Hp} {a b : Expr} {wa wb : W} {pos : Pos}
end
end DL

set_option maxHeartbeats 2000000
/-! ### ranges of any size, from either end -/
namespace PySem
open Sem (wp)
section
variable {prog : Program} {w : World} {A : Around} {E : Value → Shared → Prop} {s : Shared} {r : Addr} {a b c : Int} {t u v : Tok}
end
end PySem
namespace DL
open PySem PySem.Spec PyProof.Rows L2
section
variable {X : Cx} {np : Nat} {He : Hp} {tg a b : Expr} {wa wb : W} {pos : Pos}
end
end DL

set_option maxHeartbeats 2000000
/-! ### an int's bits as a text, and how many of them are 1 -/
namespace DL
open PySem PySem.Spec PyProof.Rows L2 Builtin Float
section
variable {prog : Program} {w : World} {A : Around} {E : Value → Shared → Prop} {s : Shared}
end
end DL

set_option maxHeartbeats 2000000
namespace DL
open PySem PySem.Spec PyProof.Rows L2 Builtin
section
variable {X : Cx} {np : Nat} {He : Hp} {a : Expr} {wa : W} {pos : Pos}
end
/-! ### how many -/
end DL

namespace DL
open PySem PySem.Spec PyProof.Rows L2
section
variable {X : Cx} {np : Nat} {He : Hp} {a : Expr} {wa : W} {pos : Pos}
/-! ### the least and the greatest of a list of ints -/
def fMinL : FA := onL fun xs k => match intsD xs with
  | some ns => 0 < ns.length ∧ ∀ m, m ∈ ns → (∀ y, y ∈ ns → m ≤ y) → k (.int m)
  | none => False
def fMaxL : FA := onL fun xs k => match intsD xs with
  | some ns => 0 < ns.length ∧ ∀ m, m ∈ ns → (∀ y, y ∈ ns → y ≤ m) → k (.int m)
  | none => False
theorem e_minL {p : Pos} (hc : X.calm = true) (hm : X.mg "min" = none) (ha : DE X np He a wa) (hg : Gl X "min" := by rfl) (he : starEach [a] X.env = (false, eval a X.env) :: starEach [] X.env := by rfl) :
    DE X np He (.Call (.Name "min" p) [a] [] pos) (cBi fMinL (cCons wa cNil)) := by
  refine e_bi (cr_min hc) ?_ hm (by decide +kernel) (a_cons ha a_nil he) hg (he := he)
  intro H ds vs k Q r h q
  obtain ⟨xs, e0, g⟩ := onL_of h
  subst e0
  obtain ⟨v, rfl, rv⟩ := r.one
  obtain ⟨p, us, rfl, s, ru⟩ := rv
  split at g
  · rename_i ns e
    have e2 := intsD_ok ru e
    subst e2
    exact ⟨p, ns, rfl, .of s, g.1, fun m h1 h2 => q _ _ H (g.2 m h1 h2) (.refl H) rfl (fun n => by simp [isL] at n)⟩
  · exact g.elim
theorem e_maxL {p : Pos} (hc : X.calm = true) (hm : X.mg "max" = none) (ha : DE X np He a wa) (hg : Gl X "max" := by rfl) (he : starEach [a] X.env = (false, eval a X.env) :: starEach [] X.env := by rfl) :
    DE X np He (.Call (.Name "max" p) [a] [] pos) (cBi fMaxL (cCons wa cNil)) := by
  refine e_bi (cr_max hc) ?_ hm (by decide +kernel) (a_cons ha a_nil he) hg (he := he)
  intro H ds vs k Q r h q
  obtain ⟨xs, e0, g⟩ := onL_of h
  subst e0
  obtain ⟨v, rfl, rv⟩ := r.one
  obtain ⟨p, us, rfl, s, ru⟩ := rv
  split at g
  · rename_i ns e
    have e2 := intsD_ok ru e
    subst e2
    exact ⟨p, ns, rfl, .of s, g.1, fun m h1 h2 => q _ _ H (g.2 m h1 h2) (.refl H) rfl (fun n => by simp [isL] at n)⟩
  · exact g.elim
end
end DL

namespace DL
open PySem PySem.Spec PyProof.Rows L2
/-! ### texts -/
def strsD : List D → Option (List Str)
  | [] => some []
  | .str x :: r => (strsD r).map (x :: ·)
  | _ :: _ => none
theorem strsD_ok {K : PySem.W.Frag} {H : Hp} : ∀ {ds : List D} {vs : List V} {ns : List Str}, RpIs K H ds vs → strsD ds = some ns → vs = ns.map V.str
  | [], vs, ns, r, h => by
    simp only [RpIs] at r
    simp only [strsD, Option.some.injEq] at h
    subst r h
    rfl
  | d :: ds, vs, ns, r, h => by
    cases d <;> first | (simp only [strsD] at h; cases h; done) | skip
    simp only [RpIs, RpI] at r
    obtain ⟨v, r', rfl, rfl, h2⟩ := r
    simp only [strsD, Option.map_eq_some_iff] at h
    obtain ⟨ms, e, rfl⟩ := h
    rw [List.map_cons, strsD_ok h2 e]
theorem strsD_map (ns : List Str) : strsD (ns.map D.str) = some ns := by
  induction ns with
  | nil => rfl
  | cons n r ih => simp [strsD, ih]
def fIxS : F2 := fun x y k => match x, y with
  | .str z, .int i => z.length ≤ 1000000 ∧ (match L2.atI z.cps.toList i with
    | some c => k (.str ⟨#[c]⟩)
    | none => False)
  | _, _ => False
def fAddS : F2 := fun x y k => match x, y with
  | .str a, .str b => a.length + b.length ≤ 1000000 ∧ k (.str (a ++ b))
  | _, _ => False
def fJoin (z : Str) : F1 := fun x k => match x with
  | .lst xs => (match strsD xs with
    | some ys => (ys.map (·.length)).sum + ys.length * z.length ≤ 16777216 ∧ k (.str (Txt.join z ys))
    | none => False)
  | _ => False
def fSortS : FA := onL fun xs k => match strsD xs with
  | some zs => zs.length < 64 ∧ ∀ ys : List Str, ys.Perm zs → sortedS ys = true → k (.lst (ys.map D.str))
  | none => False
section
variable {X : Cx} {np : Nat} {He : Hp} {a b : Expr} {wa wb : W} {pos : Pos}
theorem opd_ixS : OpD X.K rIxS fIxS := by
  intro H x y v w k Q rx ry h q
  unfold fIxS at h
  split at h
  · cases rx; cases ry
    obtain ⟨h1, h⟩ := h
    split at h
    · rename_i c e
      exact ⟨_, _, c, rfl, rfl, line_of h1, e, q _ _ H h (.refl H) rfl (fun n => by simp [isL] at n)⟩
    · exact h.elim
  · exact h.elim
theorem e_ixStr (ha : DE X np He a wa) (hb : DE X np He b wb) (hs : PlainIx b := by exact fun _ _ => rfl) : DE X np He (.Subscript a b pos) (cOp fIxS wa wb) := e_ix ix_str opd_ixS ha hb hs
theorem e_addS (ha : DE X np He a wa) (hb : DE X np He b wb) : DE X np He (.BinOp a .Add b pos) (cOp fAddS wa wb) := by
  refine e_op op_add_str ?_ ha hb
  intro H x y v w k Q rx ry h q
  unfold fAddS at h
  split at h
  · cases rx; cases ry
    exact ⟨_, _, rfl, rfl, line_of h.1, q _ _ H h.2 (.refl H) rfl (fun n => by simp [isL] at n)⟩
  · exact h.elim
theorem e_join {z : Str} {j : Nat} {p apos : Pos} (ha : DE X np He a wa) (hs : starEach [a] X.env = [(false, eval a X.env)] := by rfl) (hbase : attributeBase (.Constant (.str z) j p) "join" X.env (eval (.Constant (.str z) j p) X.env) = eval (.Constant (.str z) j p) X.env := by rfl) (hline : (apos.endLine == pos.line) = true := by rfl) :
    DE X np He (.Call (.Attribute (.Constant (.str z) j p) "join" apos) [a] [] pos) (cUn (fJoin z) wa) := by
  refine PE.weak (pe_join pe_str ha hs hbase hline) fun σ H Q ⟨env, Q0, R, w, q⟩ => ⟨⟨z, rfl⟩, env, _, R, w, fun ra e1 v1 H1 w1 s1 r1 => ?_⟩
  obtain ⟨x, hx, w1⟩ := r1.rs s1.rep w1
  unfold fJoin at w1
  split at w1
  · rename_i xs
    obtain ⟨p, us, rfl, s, ru⟩ := hx
    split at w1
    · rename_i ys e
      have e2 := strsD_ok ru e
      subst e2
      exact ⟨z, p, ys, rfl, rfl, .inl (.of s), w1.1, q _ e1 _ H1 w1.2 s1 ⟨rfl, fun n => by simp [isL] at n⟩⟩
    · exact w1.elim
  · exact w1.elim
theorem e_sortedS {p : Pos} (hc : X.calm = true) (hm : X.mg "sorted" = none) (ha : DE X np He a wa) (hg : Gl X "sorted" := by rfl) (he : starEach [a] X.env = (false, eval a X.env) :: starEach [] X.env := by rfl) :
    DE X np He (.Call (.Name "sorted" p) [a] [] pos) (cBi fSortS (cCons wa cNil)) := by
  refine e_bi cr_sortedS ?_ hm PyProof.Rows.boot_sorted (a_cons ha a_nil he) hg (he := he)
  intro H ds vs k Q r h q
  obtain ⟨xs, e0, g⟩ := onL_of h
  subst e0
  obtain ⟨v, rfl, rv⟩ := r.one
  obtain ⟨p, us, rfl, s, ru⟩ := rv
  split at g
  · rename_i zs e
    have e2 := strsD_ok ru e
    subst e2
    refine ⟨p, zs, rfl, .of s, g.1, fun ys p3 h1 h2 n3 => q (.lst (ys.map D.str)) _ _ (g.2 ys h1 h2) (.new n3) ⟨p3, ys.map V.str, rfl, upd_same, ?_⟩ (fun _ b e => by cases e; exact n3)⟩
    have go : ∀ (K : PySem.W.Frag) (G : Hp) (l : List Str), RpIs K G (l.map D.str) (l.map V.str) := fun K G l => by
      induction l with
      | nil => exact rfl
      | cons m r ih => exact ⟨_, _, rfl, rfl, ih⟩
    exact go _ _ _
  · exact g.elim
end
end DL

namespace DL
open PySem PySem.Spec PyProof.Rows L2
/-! ### texts, sign by sign -/
section
variable {X : Cx} {np : Nat} {He : Hp} {a b tg : Expr} {wa wb : W} {pos : Pos}
end
end DL

namespace DL
open PySem PySem.Spec PyProof.Rows L2
/-! ### max of a list of ints with a default -/
section
variable {X : Cx} {np : Nat} {He : Hp} {a b : Expr} {wa wb : W} {pos : Pos}
/-! ### written tuples and tables of texts -/
def StrsV : List Value → List Str → Prop
  | [], [] => True
  | .str x _ :: r, y :: s => x = y ∧ StrsV r s
  | _, _ => False
theorem StrsV.vals : ∀ {vs : List Value} {ys : List Str}, StrsV vs ys → Vals (ys.map V.str) vs
  | [], [], _ => .nil
  | .str x t :: r, y :: s, h => .cons ⟨t, by rw [h.1]⟩ (StrsV.vals h.2)
  | [], _ :: _, h => h.elim
  | .str _ _ :: _, [], h => h.elim
structure TupT (K : PySem.W.Frag) (t : Addr) (ys : List Str) : Prop where
  ex : ∃ (o : Obj) (its : Array Value) (n : Nat), K.lookup t = some o ∧ o.cls = .type "tuple" ∧ o.dict = none ∧ o.data = .seq its n ∧ its.size ≤ sizeLine ∧ StrsV its.toList ys
theorem rpIs_strs {K : PySem.W.Frag} {H : Hp} : ∀ ys : List Str, RpIs K H (ys.map D.str) (ys.map V.str)
  | [] => by simp only [List.map_nil, RpIs]
  | y :: r => by
    simp only [List.map_cons, RpIs]
    exact ⟨_, _, rfl, rfl, rpIs_strs r⟩
theorem TupT.rp {K : PySem.W.Frag} {t : Addr} {ys : List Str} (T : TupT K t ys) (H : Hp) : RpV K H (.tpd (ys.map D.str)) (.ref t) := by
  obtain ⟨o, its, n, h1, h2, h2', h3, h4, h5⟩ := T.ex
  show RpI _ _ _ _
  simp only [RpI]
  exact ⟨t, _, rfl, .inr ⟨o, its, n, h1, h2, h2', h3, h4, h5.vals⟩, rpIs_strs ys⟩
structure GlbT (K : PySem.W.Frag) (mg : Str → Option Value) (x : Str) (ys : List Str) : Prop where
  ex : ∃ t, mg x = some (.ref t) ∧ TupT K t ys
abbrev Tbl := List (Str × List Str)
def AllT (K : PySem.W.Frag) (a : Addr) : Tbl → Prop
  | [] => True
  | p :: r => (∃ t, PySem.W.nsIn K a p.1 = some (some (.ref t)) ∧ TupT K t p.2) ∧ AllT K a r
theorem AllT.at {K : PySem.W.Frag} {a : Addr} : ∀ {T : Tbl}, AllT K a T → ∀ {z : Str} {ys : List Str}, (z, ys) ∈ T → ∃ t, PySem.W.nsIn K a z = some (some (.ref t)) ∧ TupT K t ys
  | [], _, _, _, h => by cases h
  | p :: r, ⟨h1, h2⟩, z, ys, h => by
    rcases List.mem_cons.mp h with e | h
    · rw [← e] at h1; exact h1
    · exact AllT.at h2 h
structure DctT (w : World) (K : PySem.W.Frag) (mg : Str → Option Value) (x : Str) (T : Tbl) : Prop where
  ex : ∃ a es n, mg x = some (.ref a) ∧ K.lookup a = some ⟨.type "dict", none, .dict es n, #[]⟩ ∧ PySem.W.KeysLit w.params es.toList ∧ AllT K a T
theorem TupT.mk' {K : PySem.W.Frag} {t : Addr} {ys : List Str} {o : Obj} {its : Array Value} {n : Nat} (h1 : K.lookup t = some o) (h2 : o.cls = .type "tuple") (h2' : o.dict = none) (h3 : o.data = .seq its n) (h4 : its.size ≤ sizeLine) (h5 : StrsV its.toList ys) : TupT K t ys := ⟨⟨o, its, n, h1, h2, h2', h3, h4, h5⟩⟩
theorem GlbT.mk' {K : PySem.W.Frag} {mg : Str → Option Value} {x : Str} {ys : List Str} {t : Addr} (h1 : mg x = some (.ref t)) (h2 : TupT K t ys) : GlbT K mg x ys := ⟨⟨t, h1, h2⟩⟩
theorem AllT.cons' {K : PySem.W.Frag} {a t : Addr} {z : Str} {ys : List Str} {r : Tbl} (h1 : PySem.W.nsIn K a z = some (some (.ref t))) (h2 : TupT K t ys) (h3 : AllT K a r) : AllT K a ((z, ys) :: r) := ⟨⟨t, h1, h2⟩, h3⟩
theorem DctT.mk' {w : World} {K : PySem.W.Frag} {mg : Str → Option Value} {x : Str} {T : Tbl} {a : Addr} {es : Array DictEntry} {n : Nat} (h1 : mg x = some (.ref a)) (h2 : K.lookup a = some ⟨.type "dict", none, .dict es n, #[]⟩) (h3 : PySem.W.KeysLit w.params es.toList) (h4 : AllT K a T) : DctT w K mg x T := ⟨⟨a, es, n, h1, h2, h3, h4⟩⟩
/-- d[x] of a written table -/
def cItm (T : Tbl) (wb : W) : W := fun env Q => wb env fun rb e1 => rs e1 rb fun d => match d with
  | .str z => ∃ ys, (z, ys) ∈ T ∧ Q (.val (.tpd (ys.map D.str))) e1
  | _ => False
theorem e_itm {x : Str} {p : Pos} {T : Tbl} (G : DctT X.w X.K X.mg x T) (hb : DE X np He b wb) (hg : Gl X x := by rfl) (hd : (x == ("__debug__" : Str)) = false := by decide) (hs : PlainIx b := by exact fun _ _ => rfl) : DE X np He (.Subscript (.Name x p) b pos) (cItm T wb) := by
  obtain ⟨a, es, n, hm, hl, hk, hT⟩ := G.ex
  refine PE.weak (pe_ix ix_kdict (pe_glob (v := .ref a) hg hm rfl hd) hb hs) fun σ H Q ⟨env, Q0, R, w, q⟩ => ?_
  refine ⟨env, _, R, w, fun rb e1 v1 H1 w1 s1 r1 => ?_⟩
  obtain ⟨d, hdv, w1⟩ := r1.rs s1.rep w1
  cases d <;> first | exact False.elim w1 | skip
  rename_i z
  obtain ⟨ys, hz, w1⟩ := w1
  obtain ⟨t, h1, h2⟩ := hT.at hz
  exact ⟨a, z, .ref t, rfl, hdv, ⟨es, n, _, hl, hk, h1, rfl⟩, q _ e1 _ H1 w1 s1 ⟨h2.rp H1, fun n => by simp [isL] at n⟩⟩
end
end DL

namespace DL
open PySem PySem.Spec PyProof.Rows L2
/-! ### sorted(set(a list of ints)) -/
/-- the object of a new set -/
abbrev setNew (w : World) : Obj := { cls := .type "set", dict := none, data := .set #[] 0 (.fresh 0 0 (!w.params.followText "set-order")) }
section
variable {P : Program} {w : World} {A : Around} {E : Value → Shared → Prop} {s : Shared}
end
section
variable {X : Cx}
end
section
variable {X : Cx} {np : Nat} {He : Hp} {a : Expr} {wa : W} {pos pos2 : Pos}
end
end DL

namespace DL
open PySem PySem.Spec PyProof.Rows L2
/-! ### sets of texts -/
def txV : Value → Str
  | .str x _ => x
  | _ => Str.empty
def tx (p : Int × Value) : Str := txV p.2
abbrev TK (P : Program) (w : World) := PySem.strKind P w
/-- the set at c holds just the texts of M, and can be walked -/
structure TxS (P : Program) (w : World) (g : Heap) (c : Addr) (M : List Str) : Prop where
  ex : ∃ ob en pe tb, (g.get? c = some ob ∧ ob.ExactSet ∧ ob.data = .set en pe tb) ∧ (ElemsOf (TK P w) en.toList ∧ (en.toList.map tx).Nodup ∧ ∀ z, z ∈ en.toList.map tx ↔ z ∈ M) ∧
    (en.size ≤ M.length ∧ en.size < scanBound) ∧ tb.fits en.size = true ∧ Ris tb.place.toList ∧ (w.params.followText "set-order" = true ∨ tb.led = true)
section
variable {P : Program} {w : World} {A : Around} {E : Value → Shared → Prop} {s : Shared} {c : Addr} {M : List Str}
theorem TxS.stays {g g' : Heap} (T : TxS P w g c M) (k : ∀ u, g.get? c = some u → g'.get? c = some u) : TxS P w g' c M := by
  obtain ⟨ob, en, pe, tb, ⟨h1, h2⟩, r⟩ := T.ex
  exact ⟨ob, en, pe, tb, ⟨k ob h1, h2⟩, r⟩
theorem tx_el {l : List (Int × Value)} (g : ElemsOf (TK P w) l) {p : Int × Value} (hp : p ∈ l) : ∃ z t, p.2 = .str z t := by
  obtain ⟨⟨z, hz, _⟩, _⟩ := g p hp
  obtain ⟨t, e⟩ := Value.isStrOf_shape hz
  exact ⟨z, t, e⟩
theorem tx_is {l : List (Int × Value)} (g : ElemsOf (TK P w) l) {p : Int × Value} (hp : p ∈ l) (y : Str) : (TK P w).is y p.2 = true ↔ tx p = y := by
  obtain ⟨z, t, e⟩ := tx_el g hp
  unfold tx
  rw [e]
  show (Value.isStrOf y (.str z t) = true) ↔ z = y
  simp only [Value.isStrOf, beq_iff_eq, decide_eq_true_eq]
/-- the table with one text more is laid down; it may be laid anew at once -/
theorem ts_lay {gw : Bool → Sem Unit} (hgw : ∀ (b : Bool) (s1 : Shared) (Q1 : Unit → Shared → Prop), Q1 () s1 → wpAny (model P w) A (gw b) Q1 E s1) {ob : Obj} {en en1 : Array (Int × Value)} {pe : Nat} {tb tb1 : SetTable} {dm : Bool} {R : Option Bool → Shared → Prop}
    (h1 : s.heap.get? c = some ob) (h2 : ob.ExactSet) (h3 : ob.data = .set en pe tb) (el : ElemsOf (TK P w) en1.toList) (nd : (en1.toList.map tx).Nodup) (mem : ∀ z, z ∈ en1.toList.map tx ↔ z ∈ M) (sm : en1.size ≤ M.length) (sb : en1.size < scanBound)
    (ft : tb1.fits en1.size = true) (rs : Ris tb1.place.toList) (ld : w.params.followText "set-order" = true ∨ tb1.led = true) (hR : ∀ g', Heap.SameBut c s.heap g' → TxS P w g' c M → R (some true) { s with heap := g' }) :
    wpAny (model P w) A (do
        storeSet c en1 tb1
        if (!dm && tb1.tooFull) = true then do
            gw (relayAll tb1 en1 (SetTable.grown en1.size)).2.2
            storeSet c (relayAll tb1 en1 (SetTable.grown en1.size)).1 (relayAll tb1 en1 (SetTable.grown en1.size)).2.1
            pure (some true)
          else pure (some true)) R E s := by
  have st1 := store_at (es' := en1) (t' := tb1) h1 h3
  have same1 := Heap.SameBut.update s.heap c (Obj.putSet en1 tb1)
  refine wpAny_bind (wpAny_storeSet_of h1 h3 ?_ (fits_of_scanBound sb))
  split
  case isFalse => exact wpAny_pure (hR _ same1 ⟨_, en1, _, tb1, ⟨st1, h2, rfl⟩, ⟨el, nd, mem⟩, ⟨sm, sb⟩, ft, rs, ld⟩)
  case isTrue =>
    have q1 := relayAll_perm tb1 en1 (SetTable.grown en1.size)
    have q2 := relayAll_fits tb1 en1 (SetTable.grown en1.size)
    have q3 := relayAll_ris tb1 en1 (SetTable.grown en1.size)
    have q4 := relayAll_led tb1 en1 (SetTable.grown en1.size)
    revert q1 q2 q3 q4
    rcases relayAll tb1 en1 (SetTable.grown en1.size) with ⟨en2, tb2, gv⟩
    intro q1 q2 q3 q4
    have sz : en2.size = en1.size := by simpa using q1.length_eq
    have sb2 : en2.size < scanBound := sz ▸ sb
    refine wpAny_bind (hgw gv _ _ (wpAny_bind (wpAny_storeSet_of st1 rfl (wpAny_pure (hR _ (same1.trans (Heap.SameBut.update _ c _)) ?_)) (fits_of_scanBound sb2))))
    have st2 := store_at (es' := en2) (t' := tb2) st1 rfl
    have pt := q1.map tx
    exact ⟨_, en2, _, tb2, ⟨st2, h2, rfl⟩, ⟨el.perm q1, pt.nodup_iff.mpr nd, fun z => pt.mem_iff.trans (mem z)⟩, ⟨sz ▸ sm, sb2⟩, q2, q3, ld.imp (fun z => z) fun z => q4.trans z⟩
theorem ts_put {z : Str} {t : Tok} {Q : Bool → Shared → Prop} (T : TxS P w s.heap c M) (room : M.length + 1 < scanBound) (hQ : ∀ b g', Heap.SameBut c s.heap g' → TxS P w g' c (M ++ [z]) → Q b { s with heap := g' }) :
    wpAny (model P w) A (setAddHashed c (.str z t) ((TK P w).hash z)) Q E s := by
  obtain ⟨ob, en, pe, tb, ⟨h1, h2, h3⟩, ⟨el, nd, mem⟩, ⟨sm, sb⟩, ft, rs, ld⟩ := T.ex
  have kz : (TK P w).is z (.str z t) = true := strKind_is P w z t
  have scz : (Value.str z t).scannable = true := rfl
  unfold setAddHashed setAddHashedIn
  refine wpAny_holding (wpAny_bind (wpAny_setState_of h1 h3 ft ?_))
  dsimp only
  rw [byScan_of scz sb el, if_pos rfl]
  unfold setAddByScan
  refine wpAny_bind (wpAny_bind (wpAny_rule (wpAny_bind (wpAny_setScan_of kz h1 h3 ft el ?_))))
  cases fi : en.toList.findIdx? (fun p => (TK P w).is z p.2) with
  | some j =>
    obtain ⟨hj, pj, _⟩ := List.findIdx?_eq_some_iff_getElem.mp fi
    have hz : z ∈ M := (mem z).mp (List.mem_map.mpr ⟨_, List.getElem_mem hj, (tx_is el (List.getElem_mem hj) z).mp pj⟩)
    refine wpAny_pure (wpAny_pure (hQ false s.heap (.refl c s.heap) ⟨ob, en, pe, tb, ⟨h1, h2, h3⟩, ⟨el, nd, fun y => (mem y).trans ?_⟩, ⟨by rw [List.length_append]; omega, sb⟩, ft, rs, ld⟩))
    rw [List.mem_append, List.mem_singleton]
    exact ⟨.inl, fun q => q.elim (fun q => q) fun q => q ▸ hz⟩
  | none =>
    have hz : z ∉ en.toList.map tx := fun q => by
      obtain ⟨p, hp, e⟩ := List.mem_map.mp q
      have := List.findIdx?_eq_none_iff.mp fi p hp
      rw [(tx_is el hp z).mpr e] at this
      cases this
    have p1 := layNew_perm tb en ((TK P w).hash z) (.str z t)
    have p2 := layNew_fits tb en ((TK P w).hash z) (.str z t)
    have p3 := layNew_ris tb en ((TK P w).hash z) (.str z t) rs
    have p4 := layNew_led tb en ((TK P w).hash z) (.str z t)
    dsimp only
    revert p1 p2 p3 p4
    rcases layNew tb en ((TK P w).hash z) (.str z t) with ⟨en1, tb1, dm, gv⟩
    intro p1 p2 p3 p4
    dsimp only at p1 p2 p3 p4 ⊢
    rw [Array.toList_push] at p1
    have el1 : ElemsOf (TK P w) en1.toList := (el.push kz scz).perm p1
    have pt := p1.map tx
    rw [List.map_append] at pt
    have nd1 : (en1.toList.map tx).Nodup := pt.nodup_iff.mpr (List.nodup_append.mpr ⟨nd, by simp, fun a ha b hb => by
      have hb : b = z := List.mem_singleton.mp hb
      exact fun q => hz (hb ▸ q ▸ ha)⟩)
    have mem1 : ∀ y, y ∈ en1.toList.map tx ↔ y ∈ M ++ [z] := fun y => by
      rw [pt.mem_iff, List.mem_append, List.mem_append, mem y]
      rfl
    have sz : en1.size = en.size + 1 := by simpa using p1.length_eq
    have sm1 : en1.size ≤ (M ++ [z]).length := by rw [List.length_append, sz]; exact Nat.succ_le_succ sm
    have sb1 : en1.size < scanBound := by omega
    have ld1 : w.params.followText "set-order" = true ∨ tb1.led = true := ld.imp (fun q => q) fun q => p4.trans q
    have gws : ∀ (b : Bool) (s1 : Shared) (Q1 : Unit → Shared → Prop), Q1 () s1 → wpAny (model P w) A (match b with | true => rule "set.scan.the-table-gave-way" | false => pure ()) Q1 E s1 := fun b s1 Q1 q => by
      cases b
      · exact wpAny_pure q
      · exact wpAny_rule q
    refine wpAny_bind (gws _ _ _ ?_)
    split
    · refine wpAny_bind ?_
      rw [hashByValue_scannable 8 scz]
      refine wpAny_pure ?_
      cases plainKind (Value.str z t) with
      | true => exact ts_lay gws h1 h2 h3 el1 nd1 mem1 sm1 sb1 p2 p3 ld1 fun g' a b => wpAny_pure (hQ true g' a b)
      | false => exact ts_lay gws h1 h2 h3 el1 nd1 mem1 sm1 sb1 (SetTable.fits_plain_off p2) p3 ld1 fun g' a b => wpAny_pure (hQ true g' a b)
    · refine wpAny_bind (wpAny_pure ?_)
      exact ts_lay gws h1 h2 h3 el1 nd1 mem1 sm1 sb1 p2 p3 ld1 fun g' a b => wpAny_pure (hQ true g' a b)
/-- the texts of a walk go in, one after another -/
theorem ts_loop {it : Addr} {fp wr : List Addr} {G : Array GenState → Array GenState → Prop} {n : Nat} {Pv : Nat → Value → Prop} {St : Nat → Shared → Prop} {R : Result → Shared → Prop} (W : WalksS P w A.in1 it fp wr G n Pv St) (far : c ∉ fp) (zs : List Str) (hn : zs.length = n)
    (small : zs.length + 1 < scanBound) (val : ∀ i v, Pv i v → ∃ z t, zs[i]? = some z ∧ v = .str z t) : ∀ (k i : Nat) (s : Shared), i + k = n → St i s → TxS P w s.heap c (zs.take i) →
      (∀ s', Moved (c :: wr) G s s' → TxS P w s'.heap c zs → R (.ok (.ret .none)) s') → codeAny (model P w) A (.builtin "set.update.loop" ⟨[.ref c, .ref it], []⟩) R s := by
  have off : c ∉ wr := fun q => far (W.sub _ q)
  have wider : ∀ b ∈ wr, b ∈ c :: wr := fun b q => List.mem_cons_of_mem _ q
  intro k
  induction k with
  | zero =>
    intro i s hi st T hR
    have hi : i = n := hi
    subst hi
    refine codeAny_builtin F.entry_set_update_loop ?_
    rw [Around.under_plainId F.plain_set_update_loop _]
    refine wpAny_bind (W.done s _ _ st fun s1 mv => wpAny_pure (hR s1 (mv.mono wider) ?_))
    rw [List.take_of_length_le (Nat.le_of_eq hn)] at T
    exact T.stays fun u e => mv.heap c u off e
  | succ k ih =>
    intro i s hi st T hR
    refine codeAny_builtin F.entry_set_update_loop ?_
    rw [Around.under_plainId F.plain_set_update_loop _]
    refine wpAny_bind (W.item i s _ _ (by omega) st fun v s1 pv st1 mv => ?_)
    obtain ⟨z, t, hz, rfl⟩ := val i v pv
    have T1 : TxS P w s1.heap c (zs.take i) := T.stays fun u e => mv.heap c u off e
    dsimp only
    refine wpAny_bind (wpAny_holding ?_)
    unfold setAdd
    refine wpAny_holding (wpAny_bind ((TK P w).pyHash (k := z) (strKind_is P w z t) ?_))
    refine ts_put (s := { s1 with toks := s1.toks + 1 }) T1 (by rw [List.length_take]; omega) fun b g' sb T2 => ?_
    have T2 : TxS P w g' c (zs.take (i + 1)) := by
      rw [List.take_add_one, hz]
      exact T2
    have frame : ∀ b, b ≠ c → ∀ u, s1.heap.get? b = some u → g'.get? b = some u := fun b q u e => (sb.2 b q).trans e
    refine wpAny_pure ⟨plainId_quiet F.plain_set_update_loop _, ih (i + 1) _ (by omega) (W.frame _ s1 _ _ st1 (Nat.le_succ _) fun b q u e => frame b (fun y => far (y ▸ q)) u e) T2 fun s2 mv2 T3 => hR s2 ?_ T3⟩
    exact Moved.trans W.gtrans ((mv.mono wider).then_heap (Nat.le_succ _) fun b u q e => frame b (fun y => q (y ▸ List.mem_cons_self)) u e) mv2
theorem ts_new {g : Heap} (h : g.get? c = some (setNew w)) : TxS P w g c [] := by
  refine ⟨_, #[], 0, _, ⟨h, ⟨rfl, rfl, rfl⟩, rfl⟩, ⟨fun p q => by simp at q, by simp, fun z => by simp⟩, ⟨Nat.le_refl _, by decide⟩, rfl, .nil, ?_⟩
  show _ ∨ (!w.params.followText "set-order") = true
  cases w.params.followText "set-order"
  · exact .inr rfl
  · exact .inl rfl
theorem strs_nth : ∀ {vs : List Value} {zs : List Str}, PyProof.Rows.StrsAre vs zs → ∀ {i : Nat} {v : Value}, vs[i]? = some v → ∃ z t, zs[i]? = some z ∧ v = .str z t
  | _, _, .nil, i, v, h => by simp at h
  | _, _, .cons z t hr, 0, v, h => by
    simp only [List.getElem?_cons_zero, Option.some.injEq] at h
    exact ⟨z, t, rfl, h.symm⟩
  | _, _, .cons z t hr, i + 1, v, h => by
    simp only [List.getElem?_cons_succ] at h ⊢
    exact strs_nth hr h
theorem strs_len : ∀ {vs : List Value} {zs : List Str}, PyProof.Rows.StrsAre vs zs → vs.length = zs.length
  | _, _, .nil => rfl
  | _, _, .cons _ _ hr => by rw [List.length_cons, List.length_cons, strs_len hr]
/-- set.__init__(c, l): the texts of the list l go into the new set -/
theorem ts_init_l {l : Addr} {items : Array Value} {zs : List Str} {R : Result → Shared → Prop} (hh : A.handled = none) (hl : s.heap.IsList l items) (hit : PyProof.Rows.StrsAre items.toList zs) (small : zs.length + 1 < scanBound) (hS : s.heap.get? c = some (setNew w)) (apart : l ≠ c)
    (h : ∀ (g' : Heap) (tk : Nat), TxS P w g' c zs → (∀ b u, b ≠ c → s.heap.get? b = some u → g'.get? b = some u) → R (.ok (.ret .none)) { s with heap := g', toks := tk }) :
    codeAny (model P w) A (.call (.builtin "set.__init__") ⟨[.ref c, .ref l], []⟩) R s := by
  have len : zs.length = items.size := by rw [← Array.length_toList, strs_len hit]
  have typ : s.TypeIs (.ref c) "set" := ⟨_, hS, rfl⟩
  have keepl := hl
  obtain ⟨⟨_, od, _, os⟩, hol, hcl, nl, hdl⟩ := hl
  dsimp only at hcl hdl
  subst hcl hdl
  have s1 := F.sub_list_set
  have s2 := F.sub_list_frozenset
  have s3 : (Value.type "list" == Value.type "dict") = false := by decide
  refine codeAny_call_builtin F.called_set.init.plain F.entry_set_init (check_set_init_1 typ ?_)
  unfold Builtin.«set.__init__» noKeywords Builtin.Frozenset.updateFrom
  generalize hPI : pyIter = PI
  wp_walk
  subst hPI
  refine wpAny_pyIter_list keepl (wpAny_bind (wpAny_runValue ?_))
  have n1 : l ≠ s.heap.objs.size := Nat.ne_of_lt (Heap.lt_size hol)
  have n2 : c ≠ s.heap.objs.size := Nat.ne_of_lt (Heap.lt_size hS)
  have hS2 := Heap.get?_push_of_some { cls := .type "list_iterator", data := .fields #[.ref l, .int 0 0] } hS
  refine ts_loop ((Walks.list (show A.in1.in1.handled = none by simp [hh]) _ l n1 items).toS) (by simp only [List.mem_cons, List.not_mem_nil, or_false, not_or]; exact ⟨n2, Ne.symm apart⟩) zs len small
    (fun i v hv => strs_nth hit (i := i) (by rw [Array.getElem?_toList]; exact hv)) items.size 0 _ (Nat.zero_add _) ?st (ts_new hS2) ?fin
  case st => exact ⟨⟨_, Heap.get?_push_size _ rfl, rfl, rfl⟩, keepl.push _⟩
  rintro ⟨g', ge', d', tk', os'⟩ mv T
  cases (show ge' = s.gens from mv.gens)
  cases (show d' = s.drawn from mv.drawn)
  cases (show os' = s.os from mv.os)
  refine wpAny_pure (wpAny_pure (h g' tk' T fun b u nb e => mv.heap b u ?_ (Heap.get?_push_of_some _ e)))
  simp only [List.mem_cons, List.not_mem_nil, or_false, not_or]
  exact ⟨nb, Nat.ne_of_lt (Heap.lt_size e)⟩
/-- the same of a tuple -/
theorem ts_init_t {l : Addr} {items : Array Value} {zs : List Str} {R : Result → Shared → Prop} (hh : A.handled = none) (hl : s.heap.IsTuple l items) (hit : PyProof.Rows.StrsAre items.toList zs) (small : zs.length + 1 < scanBound) (hS : s.heap.get? c = some (setNew w)) (apart : l ≠ c)
    (h : ∀ (g' : Heap) (tk : Nat), TxS P w g' c zs → (∀ b u, b ≠ c → s.heap.get? b = some u → g'.get? b = some u) → R (.ok (.ret .none)) { s with heap := g', toks := tk }) :
    codeAny (model P w) A (.call (.builtin "set.__init__") ⟨[.ref c, .ref l], []⟩) R s := by
  have len : zs.length = items.size := by rw [← Array.length_toList, strs_len hit]
  have typ : s.TypeIs (.ref c) "set" := ⟨_, hS, rfl⟩
  have keepl := hl
  obtain ⟨⟨_, od, _, os⟩, hol, hcl, nl, hdl⟩ := hl
  dsimp only at hcl hdl
  subst hcl hdl
  have s1 := F.sub_tuple_set
  have s2 := F.sub_tuple_frozenset
  have s3 : (Value.type "tuple" == Value.type "dict") = false := by decide
  refine codeAny_call_builtin F.called_set.init.plain F.entry_set_init (check_set_init_1 typ ?_)
  unfold Builtin.«set.__init__» noKeywords Builtin.Frozenset.updateFrom
  generalize hPI : pyIter = PI
  wp_walk
  subst hPI
  refine wpAny_pyIter_tuple keepl (wpAny_bind (wpAny_runValue ?_))
  have n1 : l ≠ s.heap.objs.size := Nat.ne_of_lt (Heap.lt_size hol)
  have n2 : c ≠ s.heap.objs.size := Nat.ne_of_lt (Heap.lt_size hS)
  have hS2 := Heap.get?_push_of_some { cls := .type "tuple_iterator", data := .fields #[.ref l, .int 0 0] } hS
  refine ts_loop ((Walks.tuple (show A.in1.in1.handled = none by simp [hh]) _ l n1 items).toS) (by simp only [List.mem_cons, List.not_mem_nil, or_false, not_or]; exact ⟨n2, Ne.symm apart⟩) zs len small
    (fun i v hv => strs_nth hit (i := i) (by rw [Array.getElem?_toList]; exact hv)) items.size 0 _ (Nat.zero_add _) ?st (ts_new hS2) ?fin
  case st => exact ⟨⟨_, Heap.get?_push_size _ rfl, rfl, rfl⟩, keepl.push _⟩
  rintro ⟨g', ge', d', tk', os'⟩ mv T
  cases (show ge' = s.gens from mv.gens)
  cases (show d' = s.drawn from mv.drawn)
  cases (show os' = s.os from mv.os)
  refine wpAny_pure (wpAny_pure (h g' tk' T fun b u nb e => mv.heap b u ?_ (Heap.get?_push_of_some _ e)))
  simp only [List.mem_cons, List.not_mem_nil, or_false, not_or]
  exact ⟨nb, Nat.ne_of_lt (Heap.lt_size e)⟩
/-- set(l), l a list or a tuple of texts -/
theorem ts_set {l : Addr} {items : Array Value} {zs : List Str} {Q : Value → Shared → Prop} (hh : A.handled = none) (hl : s.heap.IsList l items ∨ s.heap.IsTuple l items) (hit : PyProof.Rows.StrsAre items.toList zs) (small : zs.length + 1 < scanBound)
    (h : ∀ (g' : Heap) (tk : Nat), TxS P w g' s.heap.objs.size zs → (∀ b u, s.heap.get? b = some u → g'.get? b = some u) → Q (.ref s.heap.objs.size) { s with heap := g', toks := tk }) :
    wpAny (model P w) A (call (.type "set") [.ref l]) Q E s := by
  have nl : l < s.heap.objs.size := by
    rcases hl with ⟨o, ho, _⟩ | ⟨o, ho, _⟩ <;> exact Heap.lt_size ho
  obtain ⟨c0, tl, hmro⟩ := F.called_set.mro
  have f1 := F.called_set.made
  have f2 := F.called_set.sub
  have f3 := F.called_set.notType
  have f4 := F.called_set.canCreate
  have f5 := F.typeCall_set_1 (.ref l)
  refine wpAny_call (codeAny_of_tree ?_)
  refine wpAny_pure (And.intro (Code.quiet_builtin _ (by decide +kernel)) (codeAny_builtin F.entry_type_call ?_))
  rw [Around.under_plain (weight_type_call_type "set" [.ref l] []) rfl]
  repeat (any_goals (first | assumption | wp_step))
  refine codeAny_mono (code_set_led1 (E := E) (Q₁ := fun v s' => v = .ref s.heap.objs.size ∧ s' = { s with heap := s.heap.push (setNew w) }) (.ref l) ⟨rfl, rfl⟩) fun r s' hr => ?_
  rcases r with e | fl
  · exact hr
  cases fl <;> first | exact False.elim hr | skip
  obtain ⟨rfl, rfl⟩ := hr
  have g1 : (s.heap.push (setNew w)).get? s.heap.objs.size = some (setNew w) := Heap.get?_push_size _ rfl
  have g2 : Shared.TypeIs { s with heap := s.heap.push (setNew w) } (.ref s.heap.objs.size) "set" := ⟨_, g1, rfl⟩
  have g3 := F.called_set.init.lookup
  have g4 := F.called_set.init.bind (.ref s.heap.objs.size)
  repeat (any_goals (first | assumption | wp_step))
  have go : codeAny (model P w) A.in1 (.call (.builtin "set.__init__") ⟨[.ref s.heap.objs.size, .ref l], []⟩) (wants (fun v s' => v = .none ∧ ∃ g' tk, s' = { s with heap := g', toks := tk } ∧ TxS P w g' s.heap.objs.size zs ∧ ∀ b u, s.heap.get? b = some u → g'.get? b = some u) E) { s with heap := s.heap.push (setNew w) } := by
    rcases hl with hl | hl
    · exact ts_init_l (s := { s with heap := s.heap.push (setNew w) }) hh (hl.push _) hit small g1 (Nat.ne_of_lt nl) fun g' tk h1 h2 => ⟨rfl, g', tk, rfl, h1, fun b u e => h2 b u (Nat.ne_of_lt (Heap.lt_size e)) (Heap.get?_push_of_some _ e)⟩
    · exact ts_init_t (s := { s with heap := s.heap.push (setNew w) }) hh (hl.push _) hit small g1 (Nat.ne_of_lt nl) fun g' tk h1 h2 => ⟨rfl, g', tk, rfl, h1, fun b u e => h2 b u (Nat.ne_of_lt (Heap.lt_size e)) (Heap.get?_push_of_some _ e)⟩
  refine codeAny_mono go fun r s' hr => ?_
  rcases r with e | fl
  · exact hr
  cases fl <;> first | exact False.elim hr | skip
  obtain ⟨rfl, g', tk, rfl, h1, h2⟩ := hr
  repeat (any_goals (first | assumption | wp_step))
  exact h g' tk h1 h2
theorem strs_tx : ∀ (l : List Value), (∀ v ∈ l, ∃ z t, v = .str z t) → PyProof.Rows.StrsAre l (l.map txV)
  | [], _ => .nil
  | v :: l, h => by
    obtain ⟨z, t, rfl⟩ := h v (by simp)
    exact .cons z t (strs_tx l fun u hu => h u (by simp [hu]))
/-- sorted(c): its texts in order -/
theorem ts_sorted {Q : Value → Shared → Prop} (T : TxS P w s.heap c M) (hh : A.handled = none) (few : M.length < 64)
    (hQ : ∀ s' p (out : Array Value) (k : Nat) (zs : List Str), (∀ b u, s.heap.get? b = some u → s'.heap.get? b = some u) → s'.gens = s.gens → s'.os = s.os → s.heap.objs.size ≤ p → s'.heap.get? p = some (seqObj "list" out k) →
      PyProof.Rows.StrsAre out.toList zs → sortedS zs = true → zs.Nodup → (∀ z, z ∈ zs ↔ z ∈ M) → zs.length ≤ M.length → Q (.ref p) s') : wpAny (model P w) A (call (.builtin "sorted") [.ref c]) Q E s := by
  obtain ⟨ob, en, pe, tb, ⟨h1, h2, h3⟩, ⟨el, nd, mem⟩, ⟨sm, sb⟩, ft, rs, ld⟩ := T.ex
  refine Calls.call_function_entry kind_sorted plain_sorted entry_sorted (args_sorted1 _) ?_
  unfold Builtin.«sorted»
  refine wpAny_bind (m := checkCount "sorted" 1 1 _) (wpAny_pure (wpAny_bind (collect_set (A := A.in1) hh ⟨ob, h1, h2.1, h3⟩ ft sb rs ld fun s1 vs old sz ge os pm => ?_)))
  have len : vs.length = en.size := by simpa using pm.length_eq
  have v64 : vs.length < 64 := by omega
  have hS : PyProof.Rows.StrsAre vs (vs.map txV) := strs_tx vs fun v hv => by
    obtain ⟨p, hp, e⟩ := List.mem_map.mp (pm.mem_iff.mp hv)
    obtain ⟨z, t, q⟩ := tx_el el hp
    exact ⟨z, t, e ▸ q⟩
  have pt : (vs.map txV).Perm (en.toList.map tx) := by
    have q := pm.map txV
    rw [List.map_map] at q
    exact q
  refine wpAny_bind (wpAny_newList ?_ (by rw [sizeLine_eq]; omega))
  have at1 : (s1.heap.push (seqObj "list" vs.toArray 0)).get? s1.heap.objs.size = some (seqObj "list" vs.toArray 0) := Heap.get?_push_size _ rfl
  refine wpAny_bind (wpAny_holding (wpAny_call_entry slot_list_sort ⟨_, at1, rfl⟩ entry_list_sort (list_sort_treeK strKind_oneLt at1 hS.keysOf (fun v1 v2 r e => keyKind_strs (by rw [← e]; exact hS)) v64 fun st hp hs => ⟨_, rfl, ?_⟩) (args_list_sort _)))
  obtain ⟨zs, a1, a2, a3⟩ := sorted_out_str hS hp hs
  obtain ⟨k, hk⟩ := sortedHeap_at (vs := vs) (out := (arrOf st).map (·.2)) at1
  have pz := a2.trans pt
  refine wpAny_pure ⟨_, rfl, hQ _ s1.heap.objs.size _ k zs (fun b u e => ?_) ge os sz hk a1 a3 (pz.nodup_iff.mpr nd) (fun z => pz.mem_iff.trans (mem z)) (by rw [a2.length_eq, List.length_map, len]; exact sm)⟩
  have lt := Heap.lt_size (old b u e)
  show (sortedHeap (s1.heap.push (seqObj "list" vs.toArray 0)) s1.heap.objs.size vs _).get? b = some u
  rw [sortedHeap_old (Nat.ne_of_lt lt) (by rw [size_push']; exact Nat.lt_succ_of_lt lt)]
  exact Heap.get?_push_of_some _ (old b u e)
end
end DL

namespace DL
open PySem PySem.Spec PyProof.Rows L2
/-! ### sorted(set(texts)) -/
/-- a set of texts among the objects -/
def tsO (P : Program) (w : World) (c : Addr) (M : List Str) : HO := .ext fun g => TxS P w g c M
theorem TxS.obj {P : Program} {w : World} {H : Hp} {g : Heap} {c : Addr} {M : List Str} (T : TxS P w g c M) : ObjOk P w H g c (tsO P w c M) := by
  obtain ⟨ob, _, _, _, ⟨h1, _⟩, _⟩ := T.ex
  exact ⟨T, ⟨ob, h1⟩, fun _ _ t k => TxS.stays t k⟩
section
variable {X : Cx}
def rSetT (K : PySem.W.Frag) (P : Program) (w : World) : List V → Hp → VK → Prop := fun xs H Q => ∃ (l : Addr) (zs : List Str), xs = [.ref l] ∧ (SqL K H l (zs.map V.str) ∨ SqT K H l (zs.map V.str)) ∧ zs.length < 64 ∧ ∀ p : Addr, H p = none → Q (.ref p) (upd H p (tsO P w p zs))
theorem cr_setT (hc : X.calm = true) : CallR X (.type "set") (rSetT X.K X.prog X.w) := by
  intro pins s σ H xs us Q I r h
  obtain ⟨l, zs, rfl, hl, h64, q⟩ := h
  obtain rfl := Vals.ref1 r
  have : ∃ its : List Value, Vals (zs.map V.str) its ∧ (s.heap.IsList l its.toArray ∨ s.heap.IsTuple l its.toArray) := by
    rcases hl with hl | hl
    · obtain ⟨its, rv, pl, _⟩ := I.list hl
      exact ⟨its, rv, .inl pl.isList⟩
    · obtain ⟨its, rv, pt, _⟩ := I.tuple hl
      exact ⟨its, rv, .inr (by obtain ⟨o, h1, h2, n, h3⟩ := pt; exact ⟨o, h1, h2, n, h3⟩)⟩
  obtain ⟨its, rv, pl⟩ := this
  refine ts_set (I.ok.hd hc) pl (by simpa using rv.strs) (by unfold scanBound; omega) fun g' tk T old => ?_
  exact ⟨.ref _, upd H s.heap.objs.size (tsO X.prog X.w s.heap.objs.size zs), I.laid (t' := tk) (fun b u e => old b u e) (Nat.le_refl _) T.obj, rfl, q _ (I.hok.fresh (Nat.le_refl _))⟩
def rSortT (P : Program) (w : World) : List V → Hp → VK → Prop := fun xs H Q => ∃ (c : Addr) (M : List Str), xs = [.ref c] ∧ H c = some (tsO P w c M) ∧ M.length < 64 ∧
  ∀ (zs : List Str) (p : Addr), sortedS zs = true → zs.Nodup → (∀ z, z ∈ zs ↔ z ∈ M) → zs.length ≤ M.length → H p = none → Q (.ref p) (upd H p (.lst (zs.map V.str)))
theorem cr_sortT (hc : X.calm = true) : CallR X (.builtin "sorted") (rSortT X.prog X.w) := by
  intro pins s σ H xs us Q I r h
  obtain ⟨c, M, rfl, ha, h64, q⟩ := h
  obtain rfl := Vals.ref1 r
  have T : TxS X.prog X.w s.heap c M := (I.hok c _ ha).1
  refine ts_sorted T (I.ok.hd hc) h64 fun s1 p out k zs old ge os hp hg hi h1 h2 h3 h4 => ?_
  have hn : H p = none := I.hok.fresh hp
  have len : (zs.map V.str).length ≤ sizeLine := by rw [List.length_map, sizeLine_eq]; omega
  have J : Inv X pins σ (upd H p (.lst (zs.map V.str))) { s with heap := s1.heap, gens := s1.gens, drawn := s1.drawn, toks := s1.toks } :=
    I.call (ch := []) (Un.laid old hp hn) (I.hok.laid old hp ⟨len, out.toList, k, vals_of_strs hi, by simpa using hg⟩) (by rw [ge]; exact I.bare) (fun _ z => nomatch z)
  have e : s1 = { s with heap := s1.heap, gens := s1.gens, drawn := s1.drawn, toks := s1.toks } := by
    obtain ⟨g1, g2, g3, g4, g5⟩ := s1
    obtain ⟨f1, f2, f3, f4, f5⟩ := s
    cases os
    rfl
  rw [e]
  exact ⟨.ref p, _, J, rfl, q zs p h1 h2 h3 h4 hn⟩
end
section
variable {X : Cx} {np : Nat} {He : Hp} {a : Expr} {wa : W} {pos pos2 : Pos}
def fSST : FA := onS fun xs k => match strsD xs with
  | some zs => zs.length < 64 ∧ ∀ ms : List Str, sortedS ms = true → ms.Nodup → (∀ z, z ∈ ms ↔ z ∈ zs) → ms.length ≤ zs.length → k (.lst (ms.map D.str))
  | none => False
theorem rp_strs {K : PySem.W.Frag} {G : Hp} : ∀ l : List Str, RpIs K G (l.map D.str) (l.map V.str)
  | [] => rfl
  | m :: r => ⟨_, _, rfl, rfl, rp_strs r⟩
theorem cad_SST : CaD X.K (fun vs H Q => rSetT X.K X.prog X.w vs H fun v H2 => rSortT X.prog X.w [v] H2 Q) fSST := by
  intro H ds vs k Q r h q
  obtain ⟨d, xs, rfl, ed, g⟩ := onS_of h
  obtain ⟨v, rfl, rv⟩ := r.one
  obtain ⟨p, us, rfl, s, ru⟩ := rv.seq ed
  split at g
  case h_2 => exact g.elim
  rename_i zs e
  have e2 := strsD_ok ru e
  subst e2
  refine ⟨p, zs, rfl, s, g.1, fun p2 n2 => ⟨p2, zs, rfl, upd_same, g.1, fun ms p3 h1 h2 h3 h4 n3 => ?_⟩⟩
  have x1 : Ext H (upd H p2 (tsO X.prog X.w p2 zs)) := .new n2
  refine q (.lst (ms.map D.str)) _ _ (g.2 ms h1 h2 h3 h4) (fun b o e => (Ext.new n3) b o (x1 b o e)) ⟨p3, ms.map V.str, rfl, upd_same, rp_strs ms⟩ fun _ b e => ?_
  cases e
  cases hp : H p3 with
  | none => rfl
  | some o => rw [x1 _ _ hp] at n3; cases n3
theorem e_ssetT {p p2 : Pos} (hc : X.calm = true) (hm : X.mg "sorted" = none) (hm2 : X.mg "set" = none) (ha : DE X np He a wa) (hg : Gl X "sorted" := by rfl) (hg2 : Gl X "set" := by rfl) (he2 : starEach [a] X.env = (false, eval a X.env) :: starEach [] X.env := by rfl)
    (he : starEach [Expr.Call (.Name "set" p2) [a] [] pos2] X.env = (false, eval (Expr.Call (.Name "set" p2) [a] [] pos2) X.env) :: starEach [] X.env := by rfl) :
    DE X np He (.Call (.Name "sorted" p) [.Call (.Name "set" p2) [a] [] pos2] [] pos) (cBi fSST (cCons wa cNil)) :=
  PE.weak (pe_callB (cr_sortT hc) hg hm PyProof.Rows.boot_sorted (pa_cons (pe_callTy (cr_setT hc) hg2 hm2 PyProof.Rows.boot_set (a_cons ha a_nil he2) (he := he2)) pa_nil he) (he := he)) (bi_core cad_SST)
end
end DL

namespace DL
open PySem PySem.Spec PyProof.Rows L2
/-! ### enumerate of a list or a tuple -/
section
variable {X : Cx} {np : Nat} {He : Hp} {a : Expr} {wa : W} {pos : Pos}
end
end DL

namespace DL
open PySem PySem.Spec PyProof.Rows L2 PySem.Calls
/-! ### sorted of a tuple of texts -/
section
variable {P : Program} {w : World} {A : Around} {E : Value → Shared → Prop} {s : Shared}
theorem tp_extend {l d : Addr} {vs us : List Value} {n : Nat} {Q : Value → Shared → Prop} (hl : s.heap.IsTuple l vs.toArray) (hd : s.heap.get? d = some (seqObj "list" us.toArray n)) (hz : us.length + vs.length ≤ sizeLine) {r : Value}
    (h : Q r { s with heap := s.heap.update d (Obj.mapSeq (· ++ vs.toArray)) }) :
    wpAny (model P w) A (Builtin.List.listExtendWith (.ref d) (.ref l) r) (fun f s' => ∃ v, f = .done (.ret v) ∧ Q v s') E s := by
  obtain ⟨o, ho, hc, n2, hs⟩ := hl
  unfold Builtin.List.listExtendWith
  refine wpAny_bind (wpAny_typeOf (T := "tuple") ⟨o, ho, hc⟩ ?_)
  have ht : (Value.type "tuple" == Value.type "tuple") = true := by rfl
  rw [if_pos (by rw [ht]; simp)]
  refine wpAny_bind (listItems_at ho hs ?_)
  refine wpAny_bind (listItems_at hd rfl ?_)
  rw [if_neg (PyProof.Rows.extend_door (by simpa using hz))]
  refine wpAny_bind (listUpdate_at hd rfl ?_ (by simp only [List.size_toArray]; omega) (by simp only [Array.size_append, List.size_toArray]; omega))
  exact wpAny_pure ⟨_, rfl, h⟩
theorem tp_collect {l : Addr} {vs : List Value} {Q : List Value → Shared → Prop} (hl : s.heap.IsTuple l vs.toArray) (hz : vs.length ≤ sizeLine)
    (h : ∀ h', (∀ b u, s.heap.get? b = some u → h'.get? b = some u) → s.heap.objs.size ≤ h'.objs.size → Q vs { s with heap := h' }) :
    wpAny (model P w) A (collect (.ref l)) Q E s := by
  obtain ⟨o, ho, hc⟩ := id hl
  have new : (s.heap.push (seqObj "list" #[] 0)).get? s.heap.objs.size = some (seqObj "list" ([] : List Value).toArray 0) := Heap.get?_push_size _ rfl
  have hl2 : (s.heap.push (seqObj "list" #[] 0)).IsTuple l vs.toArray := ⟨o, Heap.get?_push_of_some _ ho, hc⟩
  unfold collect
  refine wpAny_bind (wpAny_runValue (codeAny_builtin entry_proto_collect' ?_))
  show wpAny _ _ (do again (.builtin "list.__iadd__" ⟨[← newList [], .ref l], []⟩)) _ _ s
  refine wpAny_bind (wpAny_newList (wpAny_pure ⟨Code.quiet_builtin _ (by decide +kernel), codeAny_builtin entry_list_iadd' ?_⟩))
  show wpAny _ _ (Builtin.List.listExtendWith (.ref s.heap.objs.size) (.ref l) (.ref s.heap.objs.size)) _ _ { s with heap := s.heap.push (seqObj "list" #[] 0) }
  refine wpAny_mono (tp_extend (Q := fun v s' => v = .ref s.heap.objs.size ∧ s' = { s with heap := (s.heap.push (seqObj "list" #[] 0)).update s.heap.objs.size (Obj.mapSeq (· ++ vs.toArray)) }) hl2 new (by simpa using hz) ⟨rfl, rfl⟩) ?_ fun _ _ e => e
  rintro f s' ⟨v, rfl, rfl, rfl⟩
  show wpAny (model P w) A (do
      let o ← load s.heap.objs.size
      match o.data with
      | .seq xs _ => pure xs.toList
      | _ => unsupported "internal:collect") Q E _
  refine wpAny_bind (wpAny_load (get?_update_seq (Heap.get?_push_size _ rfl) _) ?_)
  show wpAny _ _ (pure ((#[] : Array Value) ++ vs.toArray).toList) Q E _
  rw [show ((#[] : Array Value) ++ vs.toArray).toList = vs by simp]
  refine wpAny_pure (h _ (fun b u e => ?_) (by rw [Heap.size_update, size_push']; exact Nat.le_succ _))
  exact ((Heap.SameBut.update _ _ _).2 b (Nat.ne_of_lt (Heap.lt_size e))).trans (Heap.get?_push_of_some _ e)
theorem tp_sorted {l : Addr} {vs : List Value} {ss : List Str} {Q : Value → Shared → Prop} (hl : s.heap.IsTuple l vs.toArray) (hS : PyProof.Rows.StrsAre vs ss) (few : vs.length < 64)
    (hQ : ∀ h' p (out : Array Value) (k : Nat) (zs : List Str), (∀ b u, s.heap.get? b = some u → h'.get? b = some u) → s.heap.objs.size ≤ p → h'.get? p = some (seqObj "list" out k) →
      PyProof.Rows.StrsAre out.toList zs → zs.Perm ss → sortedS zs = true → Q (.ref p) { s with heap := h' }) : wpAny (model P w) A (call (.builtin "sorted") [.ref l]) Q E s := by
  refine Calls.call_function_entry kind_sorted plain_sorted entry_sorted (args_sorted1 _) ?_
  unfold Builtin.«sorted»
  refine wpAny_bind (m := checkCount "sorted" 1 1 _) (wpAny_pure (wpAny_bind (tp_collect hl (by rw [sizeLine_eq]; omega) fun g old sz => ?_)))
  refine wpAny_bind (wpAny_newList ?_ (by rw [sizeLine_eq]; omega))
  have at1 : (g.push (seqObj "list" vs.toArray 0)).get? g.objs.size = some (seqObj "list" vs.toArray 0) := Heap.get?_push_size _ rfl
  refine wpAny_bind (wpAny_holding (wpAny_call_entry slot_list_sort ⟨_, at1, rfl⟩ entry_list_sort (list_sort_treeK strKind_oneLt at1 hS.keysOf (fun v1 v2 r e => keyKind_strs (by rw [← e]; exact hS)) few fun st hp hs => ⟨_, rfl, ?_⟩) (args_list_sort _)))
  obtain ⟨zs, a1, a2, a3⟩ := sorted_out_str hS hp hs
  obtain ⟨k, hk⟩ := sortedHeap_at (vs := vs) (out := (arrOf st).map (·.2)) at1
  refine wpAny_pure ⟨_, rfl, hQ _ g.objs.size _ k zs (fun b u e => ?_) sz hk a1 a2 a3⟩
  have lt := Heap.lt_size (old b u e)
  show (sortedHeap (g.push (seqObj "list" vs.toArray 0)) g.objs.size vs _).get? b = some u
  rw [sortedHeap_old (Nat.ne_of_lt lt) (by rw [size_push']; exact Nat.lt_succ_of_lt lt)]
  exact Heap.get?_push_of_some _ (old b u e)
end
section
variable {X : Cx}
def rSortTp (K : PySem.W.Frag) : List V → Hp → VK → Prop := fun xs H Q => ∃ (a : Addr) (zs : List Str), xs = [.ref a] ∧ SqT K H a (zs.map V.str) ∧ zs.length < 64 ∧
  ∀ (ys : List Str) (p : Addr), ys.Perm zs → sortedS ys = true → H p = none → Q (.ref p) (upd H p (.lst (ys.map V.str)))
theorem cr_sortTp : CallR X (.builtin "sorted") (rSortTp X.K) := by
  intro pins s σ H xs us Q I r h
  obtain ⟨a, zs, rfl, ha, h64, q⟩ := h
  obtain rfl := Vals.ref1 r
  obtain ⟨its, rv, pt, _⟩ := I.tuple ha
  have len0 := rv.length
  rw [List.length_map] at len0
  refine tp_sorted (by obtain ⟨o, h1, h2, n, h3⟩ := pt; exact ⟨o, h1, h2, n, h3⟩) rv.strs (by rw [← len0]; exact h64) fun h' p out k ys old hp hg hi h1 h2 => ?_
  have hn : H p = none := I.hok.fresh hp
  have len : (ys.map V.str).length ≤ sizeLine := by rw [List.length_map, h1.length_eq, sizeLine_eq]; omega
  have J : Inv X pins σ (upd H p (.lst (ys.map V.str))) { s with heap := h' } :=
    I.laid (t' := s.toks) old hp ⟨len, out.toList, k, vals_of_strs hi, by simpa using hg⟩
  exact ⟨.ref p, _, J, rfl, q ys p h1 h2 hn⟩
end
section
variable {X : Cx} {np : Nat} {He : Hp} {a : Expr} {wa : W} {pos : Pos}
def fSortTp : FA := fun ds k => match ds with
  | [.tup xs] => (match strsD xs with
    | some zs => zs.length < 64 ∧ ∀ ys : List Str, ys.Perm zs → sortedS ys = true → k (.lst (ys.map D.str))
    | none => False)
  | _ => False
theorem e_sortTp {p : Pos} (hc : X.calm = true) (hm : X.mg "sorted" = none) (ha : DE X np He a wa) (hg : Gl X "sorted" := by rfl) (he : starEach [a] X.env = (false, eval a X.env) :: starEach [] X.env := by rfl) :
    DE X np He (.Call (.Name "sorted" p) [a] [] pos) (cBi fSortTp (cCons wa cNil)) := by
  refine e_bi cr_sortTp ?_ hm PyProof.Rows.boot_sorted (a_cons ha a_nil he) hg (he := he)
  intro H ds vs k Q r h q
  unfold fSortTp at h
  split at h
  · rename_i xs
    obtain ⟨v, rfl, rv⟩ := r.one
    split at h
    · rename_i zs e
      obtain ⟨p, us, rfl, s, ru⟩ := rv
      have e2 := strsD_ok ru e
      subst e2
      exact ⟨p, zs, rfl, .of s, h.1, fun ys p3 h1 h2 n3 => q (.lst (ys.map D.str)) _ _ (h.2 ys h1 h2) (.new n3) ⟨p3, ys.map V.str, rfl, upd_same, rp_strs ys⟩ (fun _ b e => by cases e; exact n3)⟩
    · exact h.elim
  · exact h.elim
end
end DL

namespace DL
open PySem PySem.Spec PyProof.Rows L2 PySem.Calls
/-! ### extend by a tuple -/
section
variable {X : Cx}
end
section
variable {X : Cx} {np : Nat} {He : Hp} {a : Expr} {wa : W} {pos : Pos}
/-! ### name += int -/
/-! ### a list as a test -/
end
end DL

namespace DL
open PySem PySem.Spec PyProof.Rows L2
/-! ### len(set(texts)) -/
section
variable {X : Cx}
end
section
variable {X : Cx} {np : Nat} {He : Hp} {a : Expr} {wa : W} {pos pos2 : Pos}
end
end DL

namespace DL
open PySem PySem.Spec PyProof.Rows L2
/-! ### match statements -/
abbrev Pm := D → (Option (List D) → Prop) → Prop
abbrev Pms := List D → (Option (List D) → Prop) → Prop
def pC : Pm := fun d k => k (some [d])
def isTu : D → Bool
  | .tup _ => true
  | .tpd _ => true
  | _ => false
def pV (c : D) : Pm := fun d k => match eqS d c with
  | some b => ifb (.bl b) (k (some [])) (k none)
  | none => isTu d = true ∧ SeqAt.shaped (toP d) = true ∧ k none
def psN : Pms := fun ds k => match ds with
  | [] => k (some [])
  | _ => False
def psC (p : Pm) (ps : Pms) : Pms := fun ds k => match ds with
  | d :: r => p d fun o => match o with
    | none => k none
    | some bs => ps r fun o2 => match o2 with
      | none => k none
      | some more => k (some (bs ++ more))
  | [] => False
def pS (n : Nat) (ps : Pms) : Pm := fun d k => match d with
  | .tup ds => ifb (.bl (decide (ds.length = n))) (ds.length ≤ 1000000 ∧ ps ds k) (ds.length ≤ 1000000 ∧ k none)
  | .tpd ds => ifb (.bl (decide (ds.length = n))) (ds.length ≤ 1000000 ∧ ps ds k) (ds.length ≤ 1000000 ∧ k none)
  | .str _ => k none
  | .int _ => k none
  | .bl _ => k none
  | .non => k none
  | _ => False
def PRes (K : PySem.W.Frag) (H : Hp) (nm : List Str) : Option (List D) → Option (List (Str × Value)) → Prop
  | none, none => True
  | some ds, some bs => bs.map (·.1) = nm ∧ ∃ vs, RpIs K H ds vs ∧ Vals vs (bs.map (·.2))
  | _, _ => False
structure DPt (X : Cx) (p : Pattern) (nm : List Str) (w : Pm) : Prop where
  run : ∀ (pins : List (Addr × Obj)) (s : Shared) (σ : L2.St) (H : Hp) (d : D) (v : V) (u : Value) (k : Option (List D) → Prop), Inv X pins σ H s → RpI X.K H d v → RelV v u → w d k →
    wpAny (model X.prog X.w) X.A (matchPattern p X.env u) (fun o s' => Inv X pins σ H s' ∧ ∃ o0, k o0 ∧ PRes X.K H nm o0 o) X.xe s
structure DPs (X : Cx) (ps : List Pattern) (nm : List Str) (w : Pms) : Prop where
  run : ∀ (pins : List (Addr × Obj)) (s : Shared) (σ : L2.St) (H : Hp) (ds : List D) (vs : List V) (us : List Value) (k : Option (List D) → Prop), Inv X pins σ H s → RpIs X.K H ds vs → Vals vs us → w ds k →
    wpAny (model X.prog X.w) X.A (matchEach ps X.env us) (fun o s' => Inv X pins σ H s' ∧ ∃ o0, k o0 ∧ PRes X.K H nm o0 o) X.xe s
section
variable {X : Cx} {np : Nat} {He : Hp} {pr : List Nat} {pos : Pos}
/-! cases -/
abbrev CS := D → DEnv → Kt → Prop
def putAll (np : Nat) (pr : List Nat) : List Nat → List D → DEnv → (DEnv → Prop) → Prop
  | [], [], env, k => k env
  | i :: is, d :: ds, env, k => put1 np pr i d env fun e => putAll np pr is ds e k
  | _, _, _, _ => False
def ccN : CS := fun _ env K => K.nx env
def ccG (np : Nat) (pr : List Nat) (wp : Pm) (isl : List Nat) (wg : W) (wb : WS) (wc : CS) : CS := fun d env K => wp d fun o => match o with
  | none => wc d env K
  | some bs => putAll np pr isl bs env fun e => wg e fun r e2 => rs e2 r fun b => ifb b (wb e2 K) (wc d e2 K)
structure DCs (X : Cx) (np : Nat) (He : Hp) (pr : List Nat) (cs : List MatchCase) (w : CS) : Prop where
  run : ∀ (pins : List (Addr × Obj)) (s : Shared) (σ : L2.St) (H : Hp) (T : Ends) (d : D) (v : V) (u : Value) (env : DEnv) (K0 : Kt) (first : Bool), Inv X pins σ H s → Rep X.K np He σ H env → isL d = false → RpI X.K H d v → RelV v u → w d env K0 → Goes X.K np He pr σ H env K0 T →
    wpAny (model X.prog X.w) X.A (matchCases cs X.env u first) (SP X pins T) X.xe s
end
end DL

/-! ### < of tuples and lists whose items compare up to the first difference only -/
namespace PySem.SeqAt
open AutoSeq1 (wpAny_loadPart')
open MeetsSeq MeetsSeq2 MeetsSeq3 SeqRoads2
/-- up to the first place that differs -/
def UpTo (e : Nat → Bool) (j : Nat) : Prop := ∀ m, m < j → e m = true
theorem UpTo.next {e : Nat → Bool} {j : Nat} (u : UpTo e j) (h : e j = true) : UpTo e (j + 1) := fun m hm => by
  rcases Nat.lt_succ_iff_lt_or_eq.mp hm with q | q
  · exact u m q
  · rw [q]; exact h
theorem UpTo.zero {e : Nat → Bool} : UpTo e 0 := fun m hm => absurd hm (Nat.not_lt_zero m)
structure Fst (A : Around) (s : Shared) (us ws : Array Value) (e r : Nat → Bool) : Prop where
  eq : ∀ j (p1 : j < us.size) (p2 : j < ws.size), EqAt A.in1 s us[j] ws[j] (e j)
  lt : ∀ j (p1 : j < us.size) (p2 : j < ws.size), UpTo e j → e j = false → RcLt A.in1 s us[j] ws[j] (r j)
section
variable {A : Around} {s : Shared} {p q : Addr} {us ws : Array Value} {e r : Nat → Bool}
end
end PySem.SeqAt

/-! ### data that compares up to the first difference -/
namespace PySem.SeqAt
open PySem.W PyProof.Rows
section
variable {prog : Program} {w : World} {A : Around} {E : Value → Shared → Prop} {s : Shared}
end
end PySem.SeqAt

namespace DL
open PySem PySem.Spec PyProof.Rows L2
/-! ### values, rows of values, their order -/
def Vl.d : Vl → D
  | .int n => .int n
  | .str x => .str x
def Vl.kd : Vl → D
  | .int n => .tup [.int 0, .int n]
  | .str x => .tup [.int 1, .str x]
def Vl.lt : Vl → Vl → Bool
  | .int a, .int b => decide (a < b)
  | .int _, .str _ => true
  | .str _, .int _ => false
  | .str x, .str y => decide (x.cps.toList < y.cps.toList)
theorem str_ext {a b : Str} (h : a.cps.toList = b.cps.toList) : a = b := by
  cases a; cases b
  simp only [Str.mk.injEq]
  exact Array.toList_inj.mp h
theorem Vl.tri {x y : Vl} (h : x ≠ y) : x.lt y = true ∨ y.lt x = true := by
  cases x with
  | int a =>
    cases y with
    | int b =>
      have : a ≠ b := fun e => h (by rw [e])
      simp only [Vl.lt, decide_eq_true_eq]
      omega
    | str _ => exact .inl rfl
  | str a =>
    cases y with
    | int _ => exact .inr rfl
    | str b =>
      simp only [Vl.lt, decide_eq_true_eq]
      by_cases q : a.cps.toList < b.cps.toList
      · exact .inl q
      · by_cases q2 : b.cps.toList < a.cps.toList
        · exact .inr q2
        · exact absurd (by rw [str_ext (List.le_antisymm (List.not_lt.mp q2) (List.not_lt.mp q))]) h
theorem Vl.trans {x y z : Vl} (h : x.lt y = true) (g : y.lt z = true) : x.lt z = true := by
  cases x <;> cases y <;> cases z <;> first | rfl | (simp [Vl.lt] at h; done) | (simp [Vl.lt] at g; done) | skip
  · simp only [Vl.lt, decide_eq_true_eq] at h g ⊢; omega
  · simp only [Vl.lt, decide_eq_true_eq] at h g ⊢; exact List.lt_trans h g
def keyD (l : Bool) (r : List Vl) : D := if l = true then .lst (r.map Vl.kd) else .tup (r.map Vl.kd)
def keyP (l : Bool) (r : List Vl) : PyData := if l = true then .list (r.map fun x => toP x.kd) else .tuple (r.map fun x => toP x.kd)
def Vl.ok : Vl → Bool
  | .int _ => true
  | .str x => PyData.strOk x
def okR' (r : List Vl) : Bool := r.all Vl.ok
theorem toPs_map {α : Type} (f : α → D) : ∀ xs : List α, toPs (xs.map f) = xs.map fun x => toP (f x)
  | [] => rfl
  | x :: xs => by simp only [List.map_cons, toPs, toPs_map f xs]
theorem toP_keyD (l : Bool) (r : List Vl) : toP (keyD l r) = keyP l r := by
  unfold keyD keyP
  cases l <;> simp [toP, toPs_map]
theorem lay_kd (x : Vl) (h : x.ok = true) : (toP x.kd).canLay0 = true ∧ (toP x.kd).depth = 1 := by
  cases x <;> simp [Vl.kd, toP, toPs, PyData.canLay0, PyData.canLayAll0, PyData.depth, PyData.depthAll]
  exact h
theorem lay_kds : ∀ r : List Vl, okR' r = true → PyData.canLayAll0 (r.map fun x => toP x.kd) = true ∧ PyData.depthAll (r.map fun x => toP x.kd) ≤ 1
  | [], _ => by simp [PyData.canLayAll0, PyData.depthAll]
  | x :: r, hk => by
    simp only [okR', List.all_cons, Bool.and_eq_true] at hk
    have h := lay_kds r hk.2
    have g := lay_kd x hk.1
    simp only [List.map_cons, PyData.canLayAll0, PyData.depthAll, h.1, g.1, Bool.and_self, true_and]
    omega
theorem lay_key (l : Bool) (r : List Vl) (hk : okR' r = true) : (keyP l r).canLay0 = true ∧ (keyP l r).depth ≤ 2 := by
  have h := lay_kds r hk
  unfold keyP
  cases l <;> simp only [if_true, Bool.false_eq_true, if_false, PyData.canLay0, PyData.depth, h.1, true_and] <;> omega
/-! ### the order of keys as values of a heap -/
/-- v is the key of the row -/
def KeyAt (h : Heap) (l : Bool) (v : Value) (r : List Vl) : Prop := okR' r = true ∧ ∃ as, Reads h v (keyP l r) as
section
variable {prog : Program} {w : World} {A : Around} {E : Value → Shared → Prop} {s : Shared}
end
end DL

namespace DL
open PySem PySem.Spec PyProof.Rows L2
/-! ### sorted(xs, key=an own def) -/
/-- the keys made so far -/
def KeysV (K : PySem.W.Frag) (H : Hp) (b : Bool) (kf : D → List Vl) (us : List Value) (xs : List D) : Prop := PySem.W.EachIs (fun u d => okR' (kf d) = true ∧ ∃ v, RelV v u ∧ RpV K H (keyD b (kf d)) v) us xs
theorem KeysV.ext {K : PySem.W.Frag} {H H' : Hp} {b : Bool} {kf : D → List Vl} {us : List Value} {xs : List D} (x : Ext H H') (h : KeysV K H b kf us xs) : KeysV K H' b kf us xs :=
  h.mono fun u d ⟨o, v, r, q⟩ => ⟨o, v, r, q.ext x⟩
theorem KeysV.at {X : Cx} {pins : List (Addr × Obj)} {σ : L2.St} {H : Hp} {s : Shared} {b : Bool} {kf : D → List Vl} (I : Inv X pins σ H s) : ∀ {us : List Value} {xs : List D}, KeysV X.K H b kf us xs → PySem.W.EachIs (KeyAt s.heap b) us (xs.map kf)
  | [], [], _ => .nil
  | u :: us, x :: xs, .cons ⟨o, v, r, q⟩ t => by
    obtain ⟨as, h⟩ := Dp.reads I _ v u (q.dp (by rw [toP_keyD]; exact (lay_key b _ o).1)) r
    rw [toP_keyD] at h
    exact .cons ⟨o, as, h⟩ (KeysV.at I t)
end DL

namespace DL
open PySem PySem.Spec PyProof.Rows L2
/-! ### sorted(list, key=def) -/
section
variable {X : Cx} {np : Nat} {He : Hp} {a b : Expr} {wa wb : W} {pos : Pos}
end
end DL

namespace DL
open PySem PySem.Spec PyProof.Rows L2
/-! ### tuple(list) as a known tuple -/
section
variable {X : Cx} {np : Nat} {He : Hp} {a b : Expr} {wa wb : W} {pos : Pos}
def rTupD (K : PySem.W.Frag) : List V → Hp → VK → Prop := fun xs H Q => ∃ (p : Addr) (ys : List V), xs = [.ref p] ∧ SqL K H p ys ∧ ∀ (l : Addr) (o : Obj), H l = none → o.dict = none → Q (.ref l) (upd H l (.frz o (.tup ys)))
theorem cr_tupD : CallR X (.type "tuple") (rTupD X.K) := by
  intro pins s σ H xs us Q I r h
  obtain ⟨p, ys, rfl, hq, q⟩ := h
  obtain ⟨u, rfl, rx⟩ := vals1 r
  cases rx
  obtain ⟨its, rv, pl, hz⟩ := I.list hq
  have hl := rv.length
  refine call_tuple_list pl.isList (fun h' kp => ?_) (by simp only [List.size_toArray]; omega)
  have J : Inv X pins σ H { s with heap := h' } := I.kept (t' := s.toks) kp
  have nw : H h'.objs.size = none := J.hok.fresh (Nat.le_refl _)
  have wt : IsTup (h'.push { cls := .type "tuple", data := .seq its.toArray }) h'.objs.size its.toArray := IsTup.new _ _
  have ob : (h'.push { cls := .type "tuple", data := .seq its.toArray }).get? h'.objs.size = some { cls := .type "tuple", data := .seq its.toArray } := Heap.get?_push_size _ rfl
  have J2 : Inv X pins σ (upd H h'.objs.size (.frz { cls := .type "tuple", data := .seq its.toArray } (.tup ys))) { s with heap := h'.push { cls := .type "tuple", data := .seq its.toArray } } :=
    J.laid (t' := s.toks) (fun c o e => Heap.get?_push_of_some _ e) (Nat.le_refl _) (show ObjOk X.prog X.w _ _ _ (.frz _ (.tup ys)) from ⟨ob, hz, its, rv, wt⟩)
  exact ⟨.ref h'.objs.size, _, J2, rfl, q _ _ nw rfl⟩
def fTupD : FA := on1 fun d k => match d with
  | .lst xs => k (.tpd xs)
  | .rol xs => k (.tpd xs)
  | _ => False
theorem e_tupD {p : Pos} (hm : X.mg "tuple" = none) (ha : DE X np He a wa) (hg : Gl X "tuple" := by rfl) (he : starEach [a] X.env = (false, eval a X.env) :: starEach [] X.env := by rfl) :
    DE X np He (.Call (.Name "tuple" p) [a] [] pos) (cBi fTupD (cCons wa cNil)) := by
  refine e_ty cr_tupD ?_ hm (by decide +kernel) (a_cons ha a_nil he) hg (he := he)
  intro H ds vs k Q r h q
  obtain ⟨d, rfl, h⟩ := on1_of h
  obtain ⟨v, rfl, rv⟩ := r.one
  have lst : ∀ {p : Addr} {us : List V} {xs : List D}, SqL X.K H p us → RpIs X.K H xs us → k (.tpd xs) → rTupD X.K [V.ref p] H Q := by
    intro p us xs s ru h
    refine ⟨p, us, rfl, s, fun l o nl hd => q _ _ _ h (.new nl) ?_ (fun n => by simp [isL] at n)⟩
    show RpI _ _ _ _
    simp only [RpI]
    exact ⟨l, us, rfl, .inl ⟨o, upd_same, hd⟩, RpIs.kp (Ext.new nl).kp xs us ru⟩
  cases d with
  | lst xs =>
    obtain ⟨p, us, rfl, s, ru⟩ := rv
    exact lst (.of s) ru h
  | rol xs =>
    obtain ⟨p, us, rfl, s, ru⟩ := (show ∃ a vs, v = .ref a ∧ SqR X.K H a vs ∧ RpIs X.K H xs vs by simpa only [RpV, RpI] using rv)
    exact lst s.seq ru h
  | _ => exact h.elim
/-! ### t.index(x), t a known tuple of texts -/
def fTidx : F2 := fun x y k => match x, y with
  | .tpd ds, .str z => (match strsD ds with
    | some ys => ∃ j : Nat, ys[j]? = some z ∧ (∀ m, m < j → ys[m]? ≠ some z) ∧ k (.int j)
    | none => False)
  | _, _ => False
/-- the receiver must be a known tuple before the argument is asked -/
def cOpT (f : F2) (wa wb : W) : W := fun env Q => wa env fun ra e1 => rs e1 ra fun x => ∃ cs, x = .tpd cs ∧ wb e1 fun rb e2 => rs e2 rb fun y => f (.tpd cs) y fun z => Q (.val z) e2
def tTidx (K : PySem.W.Frag) (ta tb : TE) : TE := fun σ H Q => ta σ H fun x H1 => ∃ (p : Addr) (xs : List V), x = .ref p ∧ TpK K H1 p xs ∧ tb σ H1 fun y H2 =>
  ∃ (ys : List Str) (z : Str) (j : Nat), [y] = [V.str z] ∧ SqT K H2 p (ys.map V.str) ∧ ys[j]? = some z ∧ (∀ m, m < j → ys[m]? ≠ some z) ∧ Q (.int (j : Nat)) H2
theorem pe_tidx {ta tb : TE} {apos : Pos} (ho : PE X a ta) (hb : PE X b tb) (hbase : attributeBase a "index" X.env (eval a X.env) = eval a X.env := by rfl)
    (hfew : ((backTo pos (starEach [b] X.env)).all (fun x => !x.1) && (backToKw pos (keywordEach [] X.env)).all (fun x => x.1.isSome)
      && decide ([b].length + ([] : List Keyword).length + (if ([] : List Keyword).isEmpty then 0 else 1) < 30)) = true := by rfl)
    (hline : (apos.endLine == pos.line) = true := by rfl) (hs : starEach [b] X.env = (false, eval b X.env) :: starEach [] X.env := by rfl) (hplain : (backTo pos (starEach [] X.env)).any (·.1) = false := by rfl) :
    PE X (.Call (.Attribute a "index" apos) [b] [] pos) (tTidx X.K ta tb) := by
  refine ⟨fun pins s σ H Q I h => ?_⟩
  refine wpAny_Call_method_late hbase hfew hline rfl (thn (ho.run pins s σ H _ I h) fun v s1 ⟨x, H1, I1, r1, p, xs, ex, tk, q1⟩ => ?_)
  subst ex
  cases r1
  have hob : ∃ ob, s1.heap.get? p = some ob ∧ ob.cls = .type "tuple" ∧ ob.dict = none := by
    rcases tk with ⟨o, e, hd⟩ | ⟨o, its, n, hk, hc, hd, _⟩
    · obtain ⟨e1, _, its, _, ob, e2, hc, _⟩ := I1.hok p _ e
      rw [e1] at e2; cases e2
      exact ⟨o, e1, hc, hd⟩
    · exact ⟨o, I1.kIn p o hk, hc, hd⟩
  obtain ⟨ob, e1, hc, hd⟩ := hob
  refine ⟨"tuple", "tuple.index", PySem.F.plainAttrs_tuple, PySem.F.slot_tuple_index, PySem.F.type_tuple_index, ⟨ob, e1, hc⟩, fun c ec => by cases ec; exact ⟨ob, e1, hd⟩, ?_⟩
  have hB := (pa_cons hb pa_nil hs).run pos pins s1 σ H1 (fun vs H2 => ∃ (ys : List Str) (z : Str) (j : Nat), vs = [.str z] ∧ SqT X.K H2 p (ys.map V.str) ∧ ys[j]? = some z ∧ (∀ m, m < j → ys[m]? ≠ some z) ∧ Q (.int (j : Nat)) H2) I1 q1
  rw [hs] at hB ⊢
  refine Calls.callWith_builtin (by show (false || (backTo pos (starEach [] X.env)).any (·.1)) = false; rw [hplain]; rfl) (Calls.evalArgs_plain ?_)
  exact thn hB fun us s2 ⟨vs, H2, I2, r2, ys, z, j, e, q2⟩ => mt_tup_index pins s2 σ H2 (.ref p) vs (.ref p) us Q I2 rfl r2 ⟨p, ys, z, j, rfl, e, q2⟩
theorem e_tidx {apos : Pos} (ha : DE X np He a wa) (hb : DE X np He b wb) (hbase : attributeBase a "index" X.env (eval a X.env) = eval a X.env := by rfl)
    (hfew : ((backTo pos (starEach [b] X.env)).all (fun x => !x.1) && (backToKw pos (keywordEach [] X.env)).all (fun x => x.1.isSome)
      && decide ([b].length + ([] : List Keyword).length + (if ([] : List Keyword).isEmpty then 0 else 1) < 30)) = true := by rfl)
    (hline : (apos.endLine == pos.line) = true := by rfl) (hs : starEach [b] X.env = (false, eval b X.env) :: starEach [] X.env := by rfl) (hplain : (backTo pos (starEach [] X.env)).any (·.1) = false := by rfl) :
    DE X np He (.Call (.Attribute a "index" apos) [b] [] pos) (cOpT fTidx wa wb) := by
  refine PE.weak (pe_tidx ha hb hbase hfew hline hs hplain) fun σ H Q ⟨env, Q0, R, w, q⟩ => ⟨env, _, R, w, fun ra e1 v1 H1 w1 s1 r1 => ?_⟩
  obtain ⟨x, hx, ⟨cs, ex, w1⟩⟩ := r1.rs s1.rep w1
  subst ex
  obtain ⟨p, vs, rfl, tk, rv⟩ := (show ∃ a vs, v1 = .ref a ∧ TpK X.K H1 a vs ∧ RpIs X.K H1 cs vs by simpa only [RpV, RpI] using hx)
  refine ⟨p, vs, rfl, tk, e1, _, s1.rep, w1, fun rb e2 v2 H2 w2 s2 r2 => ?_⟩
  obtain ⟨y, hy, w2⟩ := r2.rs s2.rep w2
  unfold fTidx at w2
  cases y <;> first | exact w2.elim | skip
  rename_i z
  try dsimp only at w2
  split at w2
  · rename_i ys e
    obtain ⟨j, h1, h2, h3⟩ := w2
    have e9 := strsD_ok rv e
    subst e9
    have s12 := s1.trans s2
    refine ⟨ys, z, j, by cases hy; rfl, ?_, h1, h2, q _ e2 _ H2 h3 s12 ⟨rfl, fun n => by simp [isL] at n⟩⟩
    have kp := SE.kp s1.rep s2
    rcases tk with ⟨o, tk, _⟩ | ⟨o, its, n, k1, k2, _, k3⟩
    · exact .inl (.inr ⟨o, kp _ _ tk (fun _ z => nomatch z)⟩)
    · exact .inr ⟨o, its, n, k1, k2, k3⟩
  · exact w2.elim
/-! ### < of data, in and not in of data -/
end
end DL

namespace DL
open PySem PySem.Spec PyProof.Rows L2
/-! ### new dicts with tuples as keys -/
section
variable {X : Cx}
end
section
variable {K : PySem.W.Frag}
/-- one cell, that is no value's, may change -/
theorem off_ne {H : Hp} {a p : Addr} {o : HO} (hp : H p = none ∨ ∃ kvs, H p = some (.dT kvs)) (h : H a = some o) (n : ∀ kvs, o ≠ .dT kvs) : a ≠ p := fun e => by
  subst e
  rcases hp with z | ⟨kvs, z⟩
  · rw [z] at h; cases h
  · rw [z] at h; exact n kvs (Option.some.inj h).symm
mutual
theorem RpI.off {H : Hp} {p : Addr} {x : HO} (hp : H p = none ∨ ∃ kvs, H p = some (.dT kvs)) : ∀ (d : D) (v : V), RpI K H d v → RpI K (upd H p x) d v
  | .non, v, h => h
  | .bl _, v, h => h
  | .int _, v, h => h
  | .str _, v, h => h
  | .tup ds, v, h => by
    simp only [RpI] at h ⊢
    obtain ⟨a, vs, e, s, r⟩ := h
    exact ⟨a, vs, e, by rw [upd_ne (off_ne hp s fun _ z => nomatch z)]; exact s, RpIs.off hp ds vs r⟩
  | .tpd ds, v, h => by
    simp only [RpI] at h ⊢
    obtain ⟨a, vs, e, s, r⟩ := h
    refine ⟨a, vs, e, ?_, RpIs.off hp ds vs r⟩
    rcases s with ⟨o, s, d⟩ | s
    · exact .inl ⟨o, by rw [upd_ne (off_ne hp s fun _ z => nomatch z)]; exact s, d⟩
    · exact .inr s
  | .rod ks ds, v, h => by
    simp only [RpI] at h ⊢
    obtain ⟨a, kvs, e, ⟨o, s⟩, m, r⟩ := h
    exact ⟨a, kvs, e, ⟨o, by rw [upd_ne (off_ne hp s fun _ z => nomatch z)]; exact s⟩, m, RpIs.off hp ds _ r⟩
  | .rdk ks ds, v, h => by
    simp only [RpI] at h ⊢
    obtain ⟨a, kvs, e, ⟨o, s⟩, m, r⟩ := h
    exact ⟨a, kvs, e, ⟨o, by rw [upd_ne (off_ne hp s fun _ z => nomatch z)]; exact s⟩, m, RpIs.off hp ds _ r⟩
  | .rol ds, v, h => by
    simp only [RpI] at h ⊢
    obtain ⟨a, vs, e, s, r⟩ := h
    refine ⟨a, vs, e, ?_, RpIs.off hp ds vs r⟩
    rcases s with ⟨o, s⟩ | s
    · exact .inl ⟨o, by rw [upd_ne (off_ne hp s fun _ z => nomatch z)]; exact s⟩
    · exact .inr s
  | .obj n ds, v, h => by
    simp only [RpI] at h ⊢
    obtain ⟨a, C, dx, kvs, e, c, s, m, r⟩ := h
    exact ⟨a, C, dx, kvs, e, c, by rw [upd_ne (off_ne hp s fun _ z => nomatch z)]; exact s, m, RpIs.off hp ds _ r⟩
  | .lst _, v, h => by simp only [RpI] at h
theorem RpIs.off {H : Hp} {p : Addr} {x : HO} (hp : H p = none ∨ ∃ kvs, H p = some (.dT kvs)) : ∀ (ds : List D) (vs : List V), RpIs K H ds vs → RpIs K (upd H p x) ds vs
  | [], vs, h => by simp only [RpIs] at h ⊢; exact h
  | d :: ds, vs, h => by
    simp only [RpIs] at h ⊢
    obtain ⟨v, r, e, h1, h2⟩ := h
    exact ⟨v, r, e, RpI.off hp d v h1, RpIs.off hp ds r h2⟩
end
abbrev Ent := List Vl × D
/-- rows and what stands at them, put in order of first coming -/
def putR (acc : List Ent) (r : List Vl) (y : D) : List Ent :=
  if (acc.any fun e => decide (e.1 = r)) = true then acc.map (fun e => if e.1 = r then (e.1, y) else e) else acc ++ [(r, y)]
theorem Vl.key_inj {x y : Vl} (h : x.key = y.key) : x = y := by
  cases x <;> cases y <;> simp [Vl.key] at h <;> rw [h]
theorem keys_inj : ∀ {a b : List Vl}, a.map Vl.key = b.map Vl.key → a = b
  | [], [], _ => rfl
  | [], _ :: _, h => by simp at h
  | _ :: _, [], h => by simp at h
  | x :: a, y :: b, h => by
    simp only [List.map_cons, List.cons.injEq] at h
    rw [Vl.key_inj h.1, keys_inj h.2]
def DRel (K : PySem.W.Frag) (H : Hp) (acc : List Ent) (kvs : List (List L2.Key × V)) : Prop := kvs.map (·.1) = acc.map (fun e => e.1.map Vl.key) ∧ RpIs K H (acc.map (·.2)) (kvs.map (·.2))
theorem DRel.len {H : Hp} {acc : List Ent} {kvs : List (List L2.Key × V)} (h : DRel K H acc kvs) : kvs.length = acc.length := by
  have := congrArg List.length h.1
  simpa using this
theorem DRel.any {H : Hp} {r : List Vl} : ∀ {acc : List Ent} {kvs : List (List L2.Key × V)}, DRel K H acc kvs → (kvs.any fun kv => decide (kv.1 = r.map Vl.key)) = acc.any fun e => decide (e.1 = r)
  | [], [], _ => rfl
  | [], _ :: _, h => by simp [DRel] at h
  | _ :: _, [], h => by simp [DRel] at h
  | e :: acc, kv :: kvs, h => by
    obtain ⟨h1, h2⟩ := h
    simp only [List.map_cons, List.cons.injEq, RpIs] at h1 h2
    obtain ⟨v, q, e2, _, h3⟩ := h2
    rw [List.any_cons, List.any_cons, DRel.any (r := r) ⟨h1.2, e2.2 ▸ h3⟩, h1.1]
    congr 1
    by_cases g : e.1 = r
    · rw [g]; simp
    · rw [decide_eq_false g, decide_eq_false fun z => g (keys_inj z)]
theorem DRel.repl {H : Hp} {r : List Vl} {y : D} {z : V} (hy : RpI K H y z) : ∀ {acc : List Ent} {kvs : List (List L2.Key × V)}, DRel K H acc kvs → DRel K H (acc.map fun e => if e.1 = r then (e.1, y) else e) (kvs.map fun kv => if kv.1 = r.map Vl.key then (kv.1, z) else kv)
  | [], [], h => h
  | [], _ :: _, h => by simp [DRel] at h
  | _ :: _, [], h => by simp [DRel] at h
  | e :: acc, kv :: kvs, h => by
    obtain ⟨h1, h2⟩ := h
    simp only [List.map_cons, List.cons.injEq, RpIs] at h1 h2
    obtain ⟨v, q, e2, h4, h3⟩ := h2
    obtain ⟨i1, i2⟩ := DRel.repl (r := r) hy ⟨h1.2, e2.2 ▸ h3⟩
    by_cases g : e.1 = r
    · have g' : kv.1 = r.map Vl.key := by rw [h1.1, g]
      refine ⟨?_, ?_⟩
      · rw [List.map_cons, List.map_cons, List.map_cons, List.map_cons, if_pos g, if_pos g', i1, h1.1]
      · rw [List.map_cons, List.map_cons, List.map_cons, List.map_cons, if_pos g, if_pos g']
        simp only [RpIs]
        exact ⟨z, _, rfl, hy, i2⟩
    · have g' : ¬ kv.1 = r.map Vl.key := fun q => g (keys_inj (h1.1 ▸ q))
      refine ⟨?_, ?_⟩
      · rw [List.map_cons, List.map_cons, List.map_cons, List.map_cons, if_neg g, if_neg g', i1, h1.1]
      · rw [List.map_cons, List.map_cons, List.map_cons, List.map_cons, if_neg g, if_neg g']
        simp only [RpIs]
        exact ⟨kv.2, _, rfl, e2.1 ▸ h4, i2⟩
theorem DRel.put {H : Hp} {acc : List Ent} {kvs : List (List L2.Key × V)} {r : List Vl} {y : D} {z : V} (h : DRel K H acc kvs) (hy : RpI K H y z) : DRel K H (putR acc r y) (putK kvs (r.map Vl.key) z) := by
  unfold putR putK
  rw [h.any]
  by_cases g : (acc.any fun e => decide (e.1 = r)) = true
  · rw [if_pos g, if_pos g]
    exact h.repl hy
  · rw [if_neg g, if_neg g]
    refine ⟨by rw [List.map_append, List.map_append, h.1]; rfl, ?_⟩
    rw [List.map_append, List.map_append]
    refine RpIs.append h.2 ?_
    simp only [List.map_cons, List.map_nil, RpIs]
    exact ⟨z, [], rfl, hy, rfl⟩
end
/-! ### as data -/
section
variable {np : Nat} {He : Hp}
end
section
variable {X : Cx} {np : Nat} {He : Hp} {pos : Pos}
/-! ### list(d), d a dict with tuples as keys; text.index(sign) -/
end
end DL

namespace DL
open PySem PySem.Spec PyProof.Rows L2
/-! ### walks over a dict with tuples as keys: its values, its pairs -/
section
variable {X : Cx}
variable {P : Program} {w : World} {K : PySem.W.Frag} {tg : Expr} {d : Addr} {o : Obj} {es : Array DictEntry} {ep : Nat} {kvs : List (List L2.Key × V)}
end
section
variable {X : Cx} {tg e : Expr} {td : TE} {apos cpos : Pos}
end
/-! ### as data -/
section
variable {X : Cx} {np : Nat} {He : Hp} {a tg : Expr} {wa : W} {apos cpos : Pos}
end
end DL

namespace DL
open PySem PySem.Spec PyProof.Rows L2
/-! ### list(d.values()), d.get(k, x), d[k]: d a frozen dict with tuples as keys -/
section
variable {X : Cx} {a : Expr} {td : TE} {apos cpos : Pos}
end
section
variable {X : Cx} {np : Nat} {He : Hp} {a b c : Expr} {wa wb wc : W} {apos cpos pos : Pos}
theorem imm_of {K : PySem.W.Frag} {G : Hp} {d : D} {v : V} (h : RpI K G d v) : isL d = false := by
  cases d <;> first | rfl | (simp only [RpI] at h)
end
end DL

namespace DL
open PySem PySem.Spec PyProof.Rows L2
/-! ### a fresh list, from then on only read: it may stand in lists and tuples -/
section
variable {X : Cx} {np : Nat} {He : Hp}
def tFz (t : TE) : TE := fun σ H Q => t σ H fun v H1 => ∃ a xs, v = .ref a ∧ H1 a = some (.lst xs) ∧ ∀ o, Q v (upd H1 a (.frz o (.lst xs)))
theorem pe_fz {e : Expr} {t : TE} (h : PE X e t) : PE X e (tFz t) := by
  refine ⟨fun pins s σ H Q I want => thn (h.run pins s σ H _ I want) fun u s1 ⟨v, H1, I1, r, a, xs, ev, ha, q⟩ => ?_⟩
  obtain ⟨o, J⟩ := I1.lock ha True.intro
  exact ⟨v, _, J, r, q o⟩
theorem SE.lockL {K : PySem.W.Frag} {σ : L2.St} {H H1 : Hp} {env e1 : DEnv} {a : Addr} {us : List V} (o : Obj) (R : Rep K np He σ H env) (s : SE K np He σ H env H1 e1) (fr : H a = none) (ha : H1 a = some (.lst us)) : SE K np He σ H env (upd H1 a (.frz o (.lst us))) e1 := by
  have kp : Kp H1 (upd H1 a (.frz o (.lst us))) := fun b u h n => by
    have : b ≠ a := fun z => by subst z; rw [ha] at h; exact n us (Option.some.inj h).symm
    rw [upd_ne this]; exact h
  have nla : ∀ b, LA σ e1 b → b ≠ a := fun b z e => by
    obtain ⟨vs, h⟩ := R.la (s.la.mp z)
    rw [e, fr] at h
    cases h
  refine ⟨⟨s.rep.len, fun i d e => ?_, s.rep.apart, s.rep.own, fun b n => ?_⟩, s.shape, fun b u h n => ?_, fun b n => ?_⟩
  · obtain ⟨v, ev, r⟩ := s.rep.val i d e
    refine ⟨v, ev, ?_⟩
    cases d with
    | lst zs =>
      refine r.kpl kp fun b u eb eo => ?_
      subst eb
      rw [upd_ne (nla b ⟨i, zs, e, ev⟩)]
      exact eo
    | _ => exact r.kp kp rfl
  · by_cases hb : b = a
    · subst hb; rw [upd_same] at n; cases n
    · rw [upd_ne hb] at n; exact s.rep.dom b n
  · have hb : b ≠ a := fun z => by rw [z, fr] at h; cases h
    rw [upd_ne hb]
    exact s.keep b u h n
  · by_cases hb : b = a
    · subst hb; exact fr
    · rw [upd_ne hb] at n; exact s.dom b n
def cFz (w : W) : W := fun env Q => w env fun r e => match r with
  | .val (.lst xs) => Q (.val (.rol xs)) e
  | _ => False
theorem e_fz {e : Expr} {w : W} (h : DE X np He e w) : DE X np He e (cFz w) := by
  refine PE.weak (pe_fz h) fun σ H Q ⟨env, Q0, R, w, q⟩ => ⟨env, _, R, w, fun r e1 v H1 w1 s1 r1 => ?_⟩
  cases r with
  | ref i => exact False.elim w1
  | val d =>
    cases d <;> first | exact False.elim w1 | skip
    rename_i xs
    obtain ⟨⟨a, us, rfl, ha, ru⟩, fr⟩ := r1
    refine ⟨a, us, rfl, ha, fun o => ?_⟩
    have fa := fr rfl a rfl
    have kp : Kp H1 (upd H1 a (.frz o (.lst us))) := fun b u h n => by
      have : b ≠ a := fun z => by subst z; rw [ha] at h; exact n us (Option.some.inj h).symm
      rw [upd_ne this]; exact h
    refine q _ e1 _ _ w1 (.lockL o R s1 fa ha) ⟨?_, fun n => by simp [isL] at n⟩
    show RpI _ _ _ _
    simp only [RpI]
    exact ⟨a, us, rfl, .inl ⟨o, upd_same⟩, RpIs.kp kp _ _ ru⟩
end
end DL

namespace DL
open PySem PySem.Spec PyProof.Rows L2
/-! ### defs with two parameters and one keyword-only parameter whose default is None -/
structure FnKE (P : Program) (w : World) (K : PySem.W.Frag) (mg : Str → Option Value) (base : Heap) (k : Nat) (x : Str) (ps ks : List Str) (sp : FSpec) : Prop where
  ex : ∃ f fd u, FnOk P w K mg base CX0 k f fd ps (spOf K ps.length sp) ∧ mg x = some (.ref f) ∧ PySem.W.keepIn K (.ref f) = true ∧ KBn K fd ps 2 ks (fun us ws => us ++ ws) (fun vs zs => vs ++ zs) ∧ Binds K fd ps [u] ∧ RelV V.non u
section
variable {K : PySem.W.Frag} {np : Nat} {He : Hp} {σ : L2.St} {H H1 H2 : Hp} {env e1 e2 : DEnv}
theorem RpRs.len2 : ∀ {vs : List V} {rl : List RV}, RpRs K σ H H1 e1 vs rl → vs.length = rl.length
  | [], rl, h => by rw [show rl = [] from h]; rfl
  | v :: vs, rl, h => by
    obtain ⟨r, rest, rfl, _, h2, _⟩ := h
    simp only [List.length_cons, RpRs.len2 h2]
theorem RpRs.snoc (R : Rep K np He σ H env) (s1 : SE K np He σ H env H1 e1) (s2 : SE K np He σ H1 e1 H2 e2) {v : V} {r : RV} (hr : RpR K σ H1 H2 e2 v r) : ∀ {vs : List V} {rl : List RV}, RpRs K σ H H1 e1 vs rl → RpRs K σ H H2 e2 (vs ++ [v]) (rl ++ [r])
  | [], rl, h => by
    rw [show rl = [] from h]
    exact ⟨r, [], rfl, hr.start s1, rfl, fun d _ _ j ys h => by simp at h⟩
  | u :: vs, rl, h => by
    obtain ⟨q, rest, rfl, h1, h2, tn⟩ := h
    refine ⟨q, rest ++ [r], rfl, h1.keep R s1 s2, RpRs.snoc R s1 s2 hr h2, fun d e il j ys g1 g2 => ?_⟩
    change (vs ++ [v])[j]? = some u at g2
    by_cases hj : j < rest.length
    · rw [List.getElem?_append_left hj] at g1
      rw [List.getElem?_append_left (by rw [RpRs.len2 h2]; exact hj)] at g2
      exact tn d e il j ys g1 g2
    · have ej : j = rest.length := by
        have := (List.getElem?_eq_some_iff.mp g1).1
        simp only [List.length_append, List.length_cons, List.length_nil] at this
        omega
      subst ej
      have g3 : v = u := by
        rw [← RpRs.len2 h2] at g2
        simpa using g2
      have g4 : r = .val (.lst ys) := by simpa using g1
      subst g3 g4 e
      cases d with
      | lst xs =>
        obtain ⟨a, us, rfl, hh, _⟩ := h1.1
        have := hr.2 rfl a rfl
        rw [this] at hh
        cases hh
      | _ => simp [isL] at il
end
section
variable {X : Cx} {np : Nat} {He : Hp} {a b c : Expr} {wa wb wc : W} {pos : Pos}
end
end DL

namespace DL
open PySem PySem.Spec PyProof.Rows L2
/-! ### a block within a block -/
/-! ### sorted(a list of keys) -/
def keyL (r : List Vl) : D := .rol (r.map Vl.kd)
theorem toP_keyL (r : List Vl) : toP (keyL r) = keyP true r := by
  unfold keyL keyP
  simp [toP, toPs_map]
theorem KeyAt.of {X : Cx} {pins : List (Addr × Obj)} {σ : L2.St} {H : Hp} {s : Shared} (I : Inv X pins σ H s) {u : Value} {v : V} {r : List Vl} (ok : okR' r = true) (rv : RelV v u) (h : RpI X.K H (keyL r) v) : KeyAt s.heap true u r := by
  obtain ⟨as, g⟩ := Dp.reads I _ v u ((RpV.of h).dp (by rw [toP_keyL]; exact (lay_key true _ ok).1)) rv
  rw [toP_keyL] at g
  exact ⟨ok, as, g⟩
section
variable {X : Cx} {np : Nat} {He : Hp} {a b : Expr} {wa wb : W} {pos : Pos}
/-! ### xs.count(x) of data -/
end
/-! ### range(n), n of any size -/
section
variable {X : Cx} {np : Nat} {He : Hp} {tg a : Expr} {wa : W} {pos : Pos}
end
end DL

set_option maxHeartbeats 1000000
namespace DL
open PySem PySem.Spec PyProof.Rows L2
/-! ### a dict that is built step by step, hidden until it is done -/
section
variable {K : PySem.W.Frag} {np : Nat} {He : Hp} {pr : List Nat}
/-- a cell that no immediate value rests on -/
def Soft (H : Hp) (p : Addr) : Prop := ∀ o, H p = some o → (∃ xs, o = .lst xs) ∨ (∃ kvs, o = .dT kvs) ∨ ∃ kvs, o = .dK kvs
theorem soft_ne {H : Hp} {a p : Addr} {o : HO} (hp : Soft H p) (h : H a = some o) (n1 : ∀ xs, o ≠ .lst xs) (n2 : ∀ kvs, o ≠ .dT kvs) (n3 : ∀ kvs, o ≠ .dK kvs) : a ≠ p := fun e => by
  subst e
  rcases hp o h with ⟨xs, z⟩ | ⟨kvs, z⟩ | ⟨kvs, z⟩
  · exact n1 xs z
  · exact n2 kvs z
  · exact n3 kvs z
mutual
theorem RpI.soft {H : Hp} {p : Addr} {x : HO} (hp : Soft H p) : ∀ (d : D) (v : V), RpI K H d v → RpI K (upd H p x) d v
  | .non, v, h => h
  | .bl _, v, h => h
  | .int _, v, h => h
  | .str _, v, h => h
  | .tup ds, v, h => by
    simp only [RpI] at h ⊢
    obtain ⟨a, vs, e, s, r⟩ := h
    exact ⟨a, vs, e, by rw [upd_ne (soft_ne hp s (fun _ z => nomatch z) (fun _ z => nomatch z) fun _ z => nomatch z)]; exact s, RpIs.soft hp ds vs r⟩
  | .tpd ds, v, h => by
    simp only [RpI] at h ⊢
    obtain ⟨a, vs, e, s, r⟩ := h
    refine ⟨a, vs, e, ?_, RpIs.soft hp ds vs r⟩
    rcases s with ⟨o, s, d⟩ | s
    · exact .inl ⟨o, by rw [upd_ne (soft_ne hp s (fun _ z => nomatch z) (fun _ z => nomatch z) fun _ z => nomatch z)]; exact s, d⟩
    · exact .inr s
  | .rod ks ds, v, h => by
    simp only [RpI] at h ⊢
    obtain ⟨a, kvs, e, ⟨o, s⟩, m, r⟩ := h
    exact ⟨a, kvs, e, ⟨o, by rw [upd_ne (soft_ne hp s (fun _ z => nomatch z) (fun _ z => nomatch z) fun _ z => nomatch z)]; exact s⟩, m, RpIs.soft hp ds _ r⟩
  | .rdk ks ds, v, h => by
    simp only [RpI] at h ⊢
    obtain ⟨a, kvs, e, ⟨o, s⟩, m, r⟩ := h
    exact ⟨a, kvs, e, ⟨o, by rw [upd_ne (soft_ne hp s (fun _ z => nomatch z) (fun _ z => nomatch z) fun _ z => nomatch z)]; exact s⟩, m, RpIs.soft hp ds _ r⟩
  | .rol ds, v, h => by
    simp only [RpI] at h ⊢
    obtain ⟨a, vs, e, s, r⟩ := h
    refine ⟨a, vs, e, ?_, RpIs.soft hp ds vs r⟩
    rcases s with ⟨o, s⟩ | s
    · exact .inl ⟨o, by rw [upd_ne (soft_ne hp s (fun _ z => nomatch z) (fun _ z => nomatch z) fun _ z => nomatch z)]; exact s⟩
    · exact .inr s
  | .obj n ds, v, h => by
    simp only [RpI] at h ⊢
    obtain ⟨a, C, dx, kvs, e, c, s, m, r⟩ := h
    exact ⟨a, C, dx, kvs, e, c, by rw [upd_ne (soft_ne hp s (fun _ z => nomatch z) (fun _ z => nomatch z) fun _ z => nomatch z)]; exact s, m, RpIs.soft hp ds _ r⟩
  | .lst _, v, h => by simp only [RpI] at h
theorem RpIs.soft {H : Hp} {p : Addr} {x : HO} (hp : Soft H p) : ∀ (ds : List D) (vs : List V), RpIs K H ds vs → RpIs K (upd H p x) ds vs
  | [], vs, h => by simp only [RpIs] at h ⊢; exact h
  | d :: ds, vs, h => by
    simp only [RpIs] at h ⊢
    obtain ⟨v, r, e, h1, h2⟩ := h
    exact ⟨v, r, e, RpI.soft hp d v h1, RpIs.soft hp ds r h2⟩
end
theorem RpV.soft {H : Hp} {p : Addr} {x : HO} (hp : Soft H p) {d : D} {v : V} (h : RpV K H d v) (n : isL d = true → ∀ a, v = .ref a → a ≠ p) : RpV K (upd H p x) d v := by
  cases d with
  | lst ds =>
    obtain ⟨a, us, ev, ha, ru⟩ := h
    exact ⟨a, us, ev, by rw [upd_ne (n rfl a ev)]; exact ha, RpIs.soft hp _ _ ru⟩
  | _ => exact .of (RpI.soft hp _ _ (h.imm rfl))
theorem Rep.soft {σ : L2.St} {H : Hp} {env : DEnv} {p : Addr} (R : Rep K np He σ H env) (nl : ¬ LA σ env p) (hp : Soft H p) (x : HO) : Rep K np He σ (upd H p x) env :=
  ⟨R.len, fun i d e => by
    obtain ⟨v, ev, r⟩ := R.val i d e
    refine ⟨v, ev, r.soft hp fun n a ea => ?_⟩
    cases d with
    | lst zs => exact fun z => nl ⟨i, zs, e, by rw [ev, ea, z]⟩
    | _ => simp [isL] at n, R.apart, R.own, fun b n => R.dom b (by
      by_cases hb : b = p
      · subst hb; rw [upd_same] at n; cases n
      · rwa [upd_ne hb] at n)⟩
theorem SS.soft {σ0 σ : L2.St} {H0 H : Hp} {env0 env : DEnv} {p : Addr} (S : SS K np He pr σ0 H0 env0 σ H env) (h0 : H0 p = none) (nl : ¬ LA σ env p) (hp : Soft H p) (x : HO) : SS K np He pr σ0 H0 env0 σ (upd H p x) env :=
  ⟨S.rep.soft nl hp x, fun b o h n => ⟨by
    have hb : b ≠ p := fun z => by rw [z, h0] at h; cases h
    rw [upd_ne hb]
    exact (S.keep b o h n).1, (S.keep b o h n).2⟩, S.par, fun b n => S.dom b (by
      by_cases hb : b = p
      · subst hb; rw [upd_same] at n; cases n
      · rwa [upd_ne hb] at n), S.len⟩
theorem SS.hide {σ0 σ : L2.St} {H0 H : Hp} {env0 env : DEnv} {i : Nat} {d : D} {v : V} (S : SS K np He pr σ0 H0 env0 σ H env) (e : env[i]? = some none) (s : σ[i]? = some (some v)) (r : RpV K H d v) (n : isL d = false) : SS K np He pr σ0 H0 env0 σ H (env.set i (some d)) := by
  have hi : i < env.length := (List.getElem?_eq_some_iff.mp e).1
  have ne : ∀ (j : Nat) (xs : List D), (env.set i (some d))[j]? = some (some (D.lst xs)) → env[j]? = some (some (D.lst xs)) := fun j xs h => by
    by_cases hj : i = j
    · subst hj
      rw [List.getElem?_set_self hi] at h
      have : d = .lst xs := by simpa using h
      rw [this] at n
      simp [isL] at n
    · rwa [List.getElem?_set_ne hj] at h
  have la : ∀ b, LA σ (env.set i (some d)) b → LA σ env b := fun b ⟨j, xs, h1, h2⟩ => ⟨j, xs, ne j xs h1, h2⟩
  refine ⟨⟨by rw [List.length_set]; exact S.rep.len, fun j d' e' => ?_, fun j l xs ys a h1 h2 => S.rep.apart j l xs ys a (ne _ _ h1) (ne _ _ h2), fun j xs a hj h => S.rep.own j xs a hj (ne _ _ h), S.rep.dom⟩, fun b o h m => ⟨(S.keep b o h m).1, fun z => (S.keep b o h m).2 (la b z)⟩, fun j xs hj h => ?_, S.dom, by rw [List.length_set]; exact S.len⟩
  · by_cases hj : i = j
    · subst hj
      rw [List.getElem?_set_self hi] at e'
      cases e'
      exact ⟨v, s, r⟩
    · rw [List.getElem?_set_ne hj] at e'
      exact S.rep.val j d' e'
  · obtain ⟨h1, ys, h2⟩ := S.par j xs hj h
    refine ⟨h1, ys, ?_⟩
    have hj : i ≠ j := fun z => by rw [← z, e] at h2; cases h2
    rw [List.getElem?_set_ne hj]
    exact h2
theorem SS.start {σ : L2.St} {H : Hp} {env : DEnv} {i : Nat} {p : Addr} (R : Rep K np He σ H env) (e : env[i]? = some none) (hp : H p = none) (x : HO) : SS K np He pr σ H env (σ.set i (some (.ref p))) (upd H p x) env := by
  have hi : i < env.length := (List.getElem?_eq_some_iff.mp e).1
  have his : i < σ.length := by rw [R.len]; exact hi
  have σn : ∀ (j : Nat), j ≠ i → (σ.set i (some (V.ref p)))[j]? = σ[j]? := fun j hj => List.getElem?_set_ne fun z => hj z.symm
  have ni : ∀ (j : Nat) (d : D), env[j]? = some (some d) → j ≠ i := fun j d h z => by rw [z, e] at h; cases h
  have la : ∀ b, LA (σ.set i (some (V.ref p))) env b → LA σ env b := fun b ⟨j, xs, h1, h2⟩ => ⟨j, xs, h1, by rwa [σn j (ni j _ h1)] at h2⟩
  have sp : Soft H p := fun o h => by rw [hp] at h; cases h
  refine ⟨⟨by rw [List.length_set]; exact R.len, fun j d h => ?_, fun j l xs ys a h1 h2 s1 s2 => ?_, fun j xs a hj h s1 => ?_, fun b n => R.dom b ?_⟩, fun b o h m => ⟨?_, fun z => m (la b z)⟩, fun j xs hj h => ⟨σn j (ni j _ h), xs, h⟩, fun b n => ?_, rfl⟩
  · obtain ⟨v, ev, r⟩ := R.val j d h
    refine ⟨v, by rw [σn j (ni j _ h)]; exact ev, r.soft sp fun n a ea z => ?_⟩
    cases d with
    | lst zs =>
      obtain ⟨us, q⟩ := R.la ⟨j, zs, h, by rw [ev, ea]⟩
      rw [z, hp] at q
      cases q
    | _ => simp [isL] at n
  · rw [σn j (ni j _ h1)] at s1
    rw [σn l (ni l _ h2)] at s2
    exact R.apart j l xs ys a h1 h2 s1 s2
  · rw [σn j (ni j _ h)] at s1
    exact R.own j xs a hj h s1
  · by_cases hb : b = p
    · subst hb; rw [upd_same] at n; cases n
    · rwa [upd_ne hb] at n
  · have hb : b ≠ p := fun z => by rw [z, hp] at h; cases h
    rw [upd_ne hb]; exact h
  · by_cases hb : b = p
    · subst hb; rw [upd_same] at n; cases n
    · rwa [upd_ne hb] at n
/-! ### what stands in it -/
def PVs (K : PySem.W.Frag) (N : Addr → Prop) (H : Hp) : List Ent → List (List L2.Key × V) → Prop
  | [], [] => True
  | e :: acc, kv :: kvs => (kv.1 = e.1.map Vl.key ∧ RpV K H e.2 kv.2 ∧ (isL e.2 = true → ∀ a, kv.2 = .ref a → N a)) ∧ PVs K N H acc kvs
  | _, _ => False
def SepL : List Ent → List (List L2.Key × V) → Prop
  | e :: acc, kv :: kvs => (isL e.2 = true → ∀ p ∈ acc.zip kvs, isL p.1.2 = true → p.2.2 ≠ kv.2) ∧ SepL acc kvs
  | _, _ => True
theorem PVs.any {N : Addr → Prop} {H : Hp} {r : List Vl} : ∀ {acc : List Ent} {kvs : List (List L2.Key × V)}, PVs K N H acc kvs → (kvs.any fun kv => decide (kv.1 = r.map Vl.key)) = acc.any fun e => decide (e.1 = r)
  | [], [], _ => rfl
  | [], _ :: _, h => h.elim
  | _ :: _, [], h => h.elim
  | e :: acc, kv :: kvs, ⟨⟨h1, _⟩, h2⟩ => by
    rw [List.any_cons, List.any_cons, h2.any, h1]
    congr 1
    by_cases g : e.1 = r
    · rw [g]; simp
    · rw [decide_eq_false g, decide_eq_false fun z => g (keys_inj z)]
theorem PVs.len {N : Addr → Prop} {H : Hp} : ∀ {acc : List Ent} {kvs : List (List L2.Key × V)}, PVs K N H acc kvs → kvs.length = acc.length
  | [], [], _ => rfl
  | [], _ :: _, h => h.elim
  | _ :: _, [], h => h.elim
  | e :: acc, kv :: kvs, ⟨_, h2⟩ => by rw [List.length_cons, List.length_cons, h2.len]
theorem PVs.mono {N N' : Addr → Prop} {H H' : Hp} (f : ∀ d v, RpV K H d v → (isL d = true → ∀ a, v = .ref a → N a) → RpV K H' d v ∧ (isL d = true → ∀ a, v = .ref a → N' a)) : ∀ {acc : List Ent} {kvs : List (List L2.Key × V)}, PVs K N H acc kvs → PVs K N' H' acc kvs
  | [], [], _ => trivial
  | [], _ :: _, h => h.elim
  | _ :: _, [], h => h.elim
  | e :: acc, kv :: kvs, ⟨⟨h1, h2, h3⟩, h4⟩ => ⟨⟨h1, f _ _ h2 h3⟩, h4.mono f⟩
theorem PVs.at {N : Addr → Prop} {H : Hp} {r : List Vl} {v : V} : ∀ {acc : List Ent} {kvs : List (List L2.Key × V)}, PVs K N H acc kvs → valV kvs (r.map Vl.key) = some v →
    ∃ (e : Ent) (kv : List L2.Key × V), (e, kv) ∈ acc.zip kvs ∧ e.1 = r ∧ kv.2 = v ∧ RpV K H e.2 v ∧ (isL e.2 = true → ∀ a, v = .ref a → N a)
  | [], [], _, h => by simp [valV] at h
  | [], _ :: _, h, _ => h.elim
  | _ :: _, [], h, _ => h.elim
  | e :: acc, kv :: kvs, ⟨⟨h1, h2, h3⟩, h4⟩, h => by
    by_cases g : e.1 = r
    · rw [valV_pos (by rw [h1, g])] at h
      cases h
      exact ⟨e, kv, by rw [List.zip_cons_cons]; exact List.mem_cons_self, g, rfl, h2, h3⟩
    · rw [valV_neg (fun z => g (keys_inj (h1.symm.trans z)))] at h
      obtain ⟨e', kv', m, q⟩ := h4.at h
      exact ⟨e', kv', by rw [List.zip_cons_cons]; exact List.mem_cons_of_mem _ m, q⟩
theorem PVs.snoc {N : Addr → Prop} {H : Hp} {r : List Vl} {y : D} {z : V} (hy : RpV K H y z) (hn : isL y = true → ∀ a, z = .ref a → N a) : ∀ {acc : List Ent} {kvs : List (List L2.Key × V)}, PVs K N H acc kvs → PVs K N H (acc ++ [(r, y)]) (kvs ++ [(r.map Vl.key, z)])
  | [], [], _ => ⟨⟨rfl, hy, hn⟩, trivial⟩
  | [], _ :: _, h => h.elim
  | _ :: _, [], h => h.elim
  | e :: acc, kv :: kvs, ⟨h1, h2⟩ => ⟨h1, h2.snoc hy hn⟩
theorem PVs.repl {N : Addr → Prop} {H : Hp} {r : List Vl} {y : D} {z : V} (hy : RpV K H y z) (hn : isL y = true → ∀ a, z = .ref a → N a) : ∀ {acc : List Ent} {kvs : List (List L2.Key × V)}, PVs K N H acc kvs →
    PVs K N H (acc.map fun e => if e.1 = r then (e.1, y) else e) (kvs.map fun kv => if kv.1 = r.map Vl.key then (kv.1, z) else kv)
  | [], [], _ => trivial
  | [], _ :: _, h => h.elim
  | _ :: _, [], h => h.elim
  | e :: acc, kv :: kvs, ⟨⟨h1, h2, h3⟩, h4⟩ => by
    rw [List.map_cons, List.map_cons]
    by_cases g : e.1 = r
    · rw [if_pos g, if_pos (by rw [h1, g])]
      exact ⟨⟨h1, hy, hn⟩, h4.repl hy hn⟩
    · rw [if_neg g, if_neg (fun q => g (keys_inj (h1.symm.trans q)))]
      exact ⟨⟨h1, h2, h3⟩, h4.repl hy hn⟩
theorem zip_lenU {α β : Type} : ∀ {a : List α} {b : List β} {c : List α} {d : List β}, a.length = b.length → (a ++ c).zip (b ++ d) = a.zip b ++ c.zip d
  | [], [], _, _, _ => rfl
  | _ :: _, _ :: _, _, _, h => by
    rw [List.cons_append, List.cons_append, List.zip_cons_cons, List.zip_cons_cons, List.cons_append, zip_lenU (by simpa using h)]
  | [], _ :: _, _, _, h => by simp at h
  | _ :: _, [], _, _, h => by simp at h
theorem SepL.snoc {r : List Vl} {k : List L2.Key} {y : D} {z : V} : ∀ {acc : List Ent} {kvs : List (List L2.Key × V)}, kvs.length = acc.length → SepL acc kvs → (isL y = true → ∀ p ∈ acc.zip kvs, isL p.1.2 = true → p.2.2 ≠ z) → SepL (acc ++ [(r, y)]) (kvs ++ [(k, z)])
  | [], [], _, _, _ => ⟨fun _ p hp => by simp at hp, trivial⟩
  | [], _ :: _, h, _, _ => by simp at h
  | _ :: _, [], h, _, _ => by simp at h
  | e :: acc, kv :: kvs, hl, ⟨h1, h2⟩, h => by
    have hl' : kvs.length = acc.length := by simpa using hl
    refine ⟨fun n p hp l => ?_, h2.snoc hl' fun n p hp => h n p (by rw [List.zip_cons_cons]; exact List.mem_cons_of_mem _ hp)⟩
    change p ∈ (acc ++ [(r, y)]).zip (kvs ++ [(k, z)]) at hp
    rw [zip_lenU hl'.symm] at hp
    rcases List.mem_append.mp hp with q | q
    · exact h1 n p q l
    · simp only [List.zip_cons_cons, List.zip_nil_left, List.mem_singleton] at q
      subst q
      exact fun w => h l (e, kv) (by rw [List.zip_cons_cons]; exact List.mem_cons_self) n w.symm
theorem SepL.repl {r : List Vl} {y : D} {z : V} (hy : isL y = false) : ∀ {acc : List Ent} {kvs : List (List L2.Key × V)}, (∀ p ∈ acc.zip kvs, p.2.1 = p.1.1.map Vl.key) → SepL acc kvs →
    SepL (acc.map fun e => if e.1 = r then (e.1, y) else e) (kvs.map fun kv => if kv.1 = r.map Vl.key then (kv.1, z) else kv)
  | [], [], _, _ => trivial
  | [], _ :: _, _, _ => trivial
  | _ :: _, [], _, _ => trivial
  | e :: acc, kv :: kvs, hk, ⟨h1, h2⟩ => by
    rw [List.map_cons, List.map_cons]
    have hk1 := hk (e, kv) (by rw [List.zip_cons_cons]; exact List.mem_cons_self)
    refine ⟨fun n p hp l => ?_, h2.repl hy fun p hp => hk p (by rw [List.zip_cons_cons]; exact List.mem_cons_of_mem _ hp)⟩
    by_cases g : e.1 = r
    · rw [if_pos g] at n
      rw [hy] at n; cases n
    · rw [if_neg g] at n
      rw [if_neg (fun q => g (keys_inj (hk1.symm.trans q)))]
      rw [List.zip_map] at hp
      obtain ⟨⟨e', kv'⟩, m, rfl⟩ := List.mem_map.mp hp
      have hk2 := hk (e', kv') (by rw [List.zip_cons_cons]; exact List.mem_cons_of_mem _ m)
      simp only [Prod.map] at l ⊢
      by_cases g2 : e'.1 = r
      · rw [if_pos g2, hy] at l; cases l
      · rw [if_neg g2] at l
        rw [if_neg (fun q => g2 (keys_inj (hk2.symm.trans q)))]
        exact h1 n (e', kv') m l
theorem PVs.keys {N : Addr → Prop} {H : Hp} : ∀ {acc : List Ent} {kvs : List (List L2.Key × V)}, PVs K N H acc kvs → ∀ p ∈ acc.zip kvs, p.2.1 = p.1.1.map Vl.key
  | [], [], _, p, hp => by simp at hp
  | [], _ :: _, h, _, _ => h.elim
  | _ :: _, [], h, _, _ => h.elim
  | e :: acc, kv :: kvs, ⟨⟨h1, _⟩, h4⟩, p, hp => by
    rw [List.zip_cons_cons] at hp
    rcases List.mem_cons.mp hp with rfl | hp
    · exact h1
    · exact h4.keys p hp
end
end DL

set_option maxHeartbeats 1000000
namespace DL
open PySem PySem.Spec PyProof.Rows L2
section
variable {K : PySem.W.Frag} {np : Nat} {He : Hp} {pr : List Nat}
/-- the hidden dict at p, in the slot i -/
structure Pd (K : PySem.W.Frag) (H0 : Hp) (σ : L2.St) (env : DEnv) (H : Hp) (i : Nat) (p : Addr) (acc : List Ent) : Prop where
  slot : σ[i]? = some (some (V.ref p))
  hid : env[i]? = some none
  new : H0 p = none
  nd : (acc.map (·.1)).Nodup
  at_ : ∃ kvs, H p = some (.dT kvs) ∧ PVs K (fun a => H0 a = none ∧ ¬ LA σ env a) H acc kvs ∧ SepL acc kvs
theorem Pd.nla {H0 H : Hp} {σ : L2.St} {env : DEnv} {i : Nat} {p : Addr} {acc : List Ent} (P : Pd K H0 σ env H i p acc) (R : Rep K np He σ H env) : ¬ LA σ env p := fun z => by
  obtain ⟨kvs, h, _⟩ := P.at_
  obtain ⟨us, q⟩ := R.la z
  rw [h] at q; cases q
theorem Pd.step {H0 H H' : Hp} {σ σ' : L2.St} {env env' : DEnv} {i : Nat} {p : Addr} {acc : List Ent} (P : Pd K H0 σ env H i p acc) (R : Rep K np He σ H env) (e1 : σ'[i]? = σ[i]?) (e2 : env'[i]? = env[i]?)
    (keep : ∀ b o, H b = some o → ¬ LA σ env b → H' b = some o ∧ ¬ LA σ' env' b) : Pd K H0 σ' env' H' i p acc := by
  have nl := P.nla R
  obtain ⟨kvs, h, v, s⟩ := P.at_
  refine ⟨e1.trans P.slot, e2.trans P.hid, P.new, P.nd, kvs, (keep p _ h nl).1, v.mono fun d u r n => ?_, s⟩
  have kp : Kp H H' := fun b o hb nb => (keep b o hb fun z => by
    obtain ⟨vs, e⟩ := R.la z
    rw [hb] at e
    exact nb vs (Option.some.inj e)).1
  cases d with
  | lst zs =>
    obtain ⟨a, us, ea, ha, ru⟩ := r
    obtain ⟨n1, n2⟩ := n rfl a ea
    obtain ⟨k1, k2⟩ := keep a _ ha n2
    refine ⟨⟨a, us, ea, k1, RpIs.kp kp _ _ ru⟩, fun _ b eb => ?_⟩
    have : a = b := by rw [ea] at eb; simpa using eb
    subst this
    exact ⟨n1, k2⟩
  | _ => exact ⟨r.kp kp rfl, fun z => by simp [isL] at z⟩
theorem Pd.se {H0 H H' : Hp} {σ : L2.St} {env env' : DEnv} {i : Nat} {p : Addr} {acc : List Ent} (P : Pd K H0 σ env H i p acc) (R : Rep K np He σ H env) (s : SE K np He σ H env H' env') : Pd K H0 σ env' H' i p acc :=
  P.step R rfl (by
    rcases s.shape i with h | ⟨xs, ys, h1, _⟩
    · exact h
    · rw [P.hid] at h1; cases h1) fun b o h n => ⟨s.keep b o h n, fun z => n (s.la.mp z)⟩
theorem Pd.dTs {H0 H : Hp} {σ : L2.St} {env : DEnv} {i : Nat} {p : Addr} {acc : List Ent} (P : Pd K H0 σ env H i p acc) : Soft H p := by
  obtain ⟨kvs, h, _⟩ := P.at_
  exact fun o e => by rw [h] at e; cases e; exact .inr (.inl ⟨_, rfl⟩)
/-- the value of a key is written -/
theorem Pd.put {H0 H : Hp} {σ : L2.St} {env : DEnv} {i : Nat} {p : Addr} {acc : List Ent} {kvs : List (List L2.Key × V)} (P : Pd K H0 σ env H i p acc) (h : H p = some (.dT kvs)) {r : List Vl} {y : D} {z : V} (hy : RpI K H y z) :
    Pd K H0 σ env (upd H p (.dT (putK kvs (r.map Vl.key) z))) i p (putR acc r y) := by
  have sf := P.dTs
  obtain ⟨slot, hid, new, nd, kvs', h', v, s⟩ := P
  rw [h] at h'
  have : kvs = kvs' := by simpa using h'
  subst this
  have nla : ∀ d (u : V), RpV K H d u → isL d = true → ∀ a, u = .ref a → a ≠ p := fun d u rd n a ea z => by
    cases d with
    | lst zs =>
      obtain ⟨b, us, eb, hb, _⟩ := rd
      rw [ea] at eb
      have : a = b := by simpa using eb
      rw [← this, z, h] at hb; cases hb
    | _ => simp [isL] at n
  have hyl := hy.immL
  have hyv : RpV K H y z := .of hy
  refine ⟨slot, hid, new, ?_, _, upd_same, PVs.mono (N := fun a => H0 a = none ∧ ¬ LA σ env a) (H := H) (fun d u rd n => ⟨rd.soft sf (nla d u rd), n⟩) ?_, ?_⟩
  · unfold putR
    split
    · rw [List.map_map]
      have : ((fun e : Ent => e.1) ∘ fun e : Ent => if e.1 = r then (e.1, y) else e) = fun e : Ent => e.1 := by
        funext e; simp only [Function.comp]; split <;> rfl
      rw [this]; exact nd
    · rename_i g
      rw [List.map_append, List.nodup_append]
      refine ⟨nd, by simp, fun a ha b hb e => g ?_⟩
      rw [List.map_singleton, List.mem_singleton] at hb
      obtain ⟨x, hx, rfl⟩ := List.mem_map.mp ha
      rw [List.any_eq_true]
      exact ⟨x, hx, by rw [e, hb]; simp⟩
  · unfold putR putK
    rw [v.any]
    by_cases g : (acc.any fun e => decide (e.1 = r)) = true
    · rw [if_pos g, if_pos g]
      exact v.repl hyv fun n => by rw [hyl] at n; cases n
    · rw [if_neg g, if_neg g]
      exact v.snoc hyv fun n => by rw [hyl] at n; cases n
  · unfold putR putK
    rw [v.any]
    by_cases g : (acc.any fun e => decide (e.1 = r)) = true
    · rw [if_pos g, if_pos g]
      exact s.repl hyl v.keys
    · rw [if_neg g, if_neg g]
      exact s.snoc v.len fun n => by rw [hyl] at n; cases n
end
theorem PVs.rep {K : PySem.W.Frag} {N : Addr → Prop} {H : Hp} : ∀ {acc : List Ent} {kvs : List (List L2.Key × V)}, PVs K N H acc kvs → ∀ p ∈ acc.zip kvs, RpV K H p.1.2 p.2.2
  | [], [], _, p, hp => by simp at hp
  | [], _ :: _, h, _, _ => h.elim
  | _ :: _, [], h, _, _ => h.elim
  | e :: acc, kv :: kvs, ⟨⟨_, h2, _⟩, h4⟩, p, hp => by
    rw [List.zip_cons_cons] at hp
    rcases List.mem_cons.mp hp with rfl | hp
    · exact h2
    · exact h4.rep p hp
/-- the lists that stand in it -/
def Hid (H : Hp) (p : Addr) (acc : List Ent) (b : Addr) : Prop := ∃ kvs, H p = some (.dT kvs) ∧ ∃ q ∈ acc.zip kvs, isL q.1.2 = true ∧ q.2.2 = V.ref b
/-- what a step leaves as it is -/
structure SX (pr : List Nat) (p : Addr) (σ : L2.St) (H : Hp) (env : DEnv) (acc : List Ent) (σ' : L2.St) (H' : Hp) (env' : DEnv) (acc' : List Ent) : Prop where
  kp : KpS H H'
  kl : ∀ b xs, H b = some (.lst xs) → ¬ LA σ env b → ¬ Hid H p acc b → H' b = some (.lst xs) ∧ ¬ LA σ' env' b ∧ ¬ Hid H' p acc' b
  par : ∀ (i : Nat) (xs : List D), i ∈ pr → env[i]? = some (some (D.lst xs)) → σ'[i]? = σ[i]? ∧ ∃ (ys : List D), env'[i]? = some (some (D.lst ys))
theorem SX.refl {pr : List Nat} {p : Addr} {σ : L2.St} {H : Hp} {env : DEnv} {acc : List Ent} : SX pr p σ H env acc σ H env acc := ⟨(Kp.refl H).s, fun _ _ h n m => ⟨h, n, m⟩, fun _ xs _ h => ⟨rfl, xs, h⟩⟩
theorem SX.trans {pr : List Nat} {p : Addr} {σ σ1 σ2 : L2.St} {H H1 H2 : Hp} {env e1 e2 : DEnv} {acc a1 a2 : List Ent} (a : SX pr p σ H env acc σ1 H1 e1 a1) (b : SX pr p σ1 H1 e1 a1 σ2 H2 e2 a2) : SX pr p σ H env acc σ2 H2 e2 a2 where
  kp := fun c o h n m l => b.kp c o (a.kp c o h n m l) n m l
  kl := fun c xs h n m => let ⟨h1, n1, m1⟩ := a.kl c xs h n m; b.kl c xs h1 n1 m1
  par := fun i xs hi h => by
    obtain ⟨q1, ys, q2⟩ := a.par i xs hi h
    obtain ⟨q3, zs, q4⟩ := b.par i ys hi q2
    exact ⟨q3.trans q1, zs, q4⟩
theorem SX.sub {pr pr' : List Nat} {p : Addr} {σ σ1 : L2.St} {H H1 : Hp} {env e1 : DEnv} {acc a1 : List Ent} (h : ∀ i ∈ pr, i ∈ pr') (a : SX pr' p σ H env acc σ1 H1 e1 a1) : SX pr p σ H env acc σ1 H1 e1 a1 := ⟨a.kp, a.kl, fun i xs hi => a.par i xs (h i hi)⟩
theorem SX.ss {K : PySem.W.Frag} {np : Nat} {He : Hp} {pr : List Nat} {H0 H H' : Hp} {σ σ' : L2.St} {env env' : DEnv} {i : Nat} {p : Addr} {acc : List Ent} (P : Pd K H0 σ env H i p acc) (R : Rep K np He σ H env) (s : SS K np He pr σ H env σ' H' env') : SX pr p σ H env acc σ' H' env' acc := by
  obtain ⟨kvs, hp, _⟩ := P.at_
  have hp' : H' p = some (.dT kvs) := (s.keep p _ hp (P.nla R)).1
  refine ⟨(s.kp R).s, fun b xs h n m => ⟨(s.keep b _ h n).1, (s.keep b _ h n).2, fun ⟨kvs', h', q, hq, l, e⟩ => m ⟨kvs, hp, q, ?_, l, e⟩⟩, s.par⟩
  rw [hp'] at h'
  have : kvs = kvs' := by simpa using h'
  rw [this]; exact hq
theorem SX.put {K : PySem.W.Frag} {pr : List Nat} {H0 H : Hp} {σ : L2.St} {env : DEnv} {i : Nat} {p : Addr} {acc : List Ent} {kvs : List (List L2.Key × V)} (P : Pd K H0 σ env H i p acc) (h : H p = some (.dT kvs)) {r : List Vl} {y : D} {z : V} (hy : isL y = false) :
    SX pr p σ H env acc σ (upd H p (.dT (putK kvs (r.map Vl.key) z))) env (putR acc r y) := by
  obtain ⟨kvs', h', v, s⟩ := P.at_
  rw [h] at h'
  have : kvs = kvs' := by simpa using h'
  subst this
  refine ⟨fun b o hb n1 n2 _ => ?_, fun b xs hb n m => ⟨?_, n, fun ⟨kv2, h2, q, hq, l, e⟩ => m ?_⟩, fun _ xs _ h => ⟨rfl, xs, h⟩⟩
  · have : b ≠ p := fun z => by rw [z, h] at hb; exact n2 _ (Option.some.inj hb).symm
    rw [upd_ne this]; exact hb
  · have : b ≠ p := fun z => by rw [z, h] at hb; cases hb
    rw [upd_ne this]; exact hb
  · rw [upd_same] at h2
    have e2 : putK kvs (r.map Vl.key) z = kv2 := by simpa using h2
    rw [← e2] at hq
    unfold putR putK at hq
    rw [v.any] at hq
    by_cases g : (acc.any fun e => decide (e.1 = r)) = true
    · rw [if_pos g, if_pos g, List.zip_map] at hq
      obtain ⟨⟨e0, kv0⟩, m0, rfl⟩ := List.mem_map.mp hq
      have hk := v.keys _ m0
      simp only [Prod.map] at l e
      by_cases g2 : e0.1 = r
      · rw [if_pos g2, hy] at l; cases l
      · rw [if_neg g2] at l
        rw [if_neg (fun q => g2 (keys_inj (hk.symm.trans q)))] at e
        exact ⟨kvs, h, _, m0, l, e⟩
    · rw [if_neg g, if_neg g, zip_lenU v.len.symm] at hq
      rcases List.mem_append.mp hq with m0 | m0
      · exact ⟨kvs, h, _, m0, l, e⟩
      · simp only [List.zip_cons_cons, List.zip_nil_left, List.mem_singleton] at m0
        rw [m0, hy] at l; cases l
/-! ### the rules -/
section
variable {X : Cx} {np : Nat} {He : Hp} {pr : List Nat} {pos : Pos}
end
end DL

set_option maxHeartbeats 1000000
namespace DL
open PySem PySem.Spec PyProof.Rows L2
section
variable {X : Cx} {np : Nat} {He : Hp} {pr : List Nat} {pos : Pos}
/-! ### done: all of it is only read from now on -/
def LockAll : List Addr → (Hp → Prop) → Hp → Prop
  | [], Q, H => Q H
  | a :: as, Q, H => ∃ u, H a = some u ∧ Mut (some u) ∧ ∀ o, LockAll as Q (upd H a (.frz o u))
theorem lock_inv {pins : List (Addr × Obj)} {s : Shared} {σ : L2.St} {Q : Hp → Prop} : ∀ {as : List Addr} {H : Hp}, Inv X pins σ H s → LockAll as Q H → ∃ H', Inv X pins σ H' s ∧ Q H'
  | [], H, I, q => ⟨H, I, q⟩
  | a :: as, H, I, ⟨u, ha, mu, q⟩ => by
    obtain ⟨o, J⟩ := I.lock ha mu
    exact lock_inv J (q o)
theorem ps_lock {st : Stmt} {t : TS} (h : PS X st t) : PS X st (fun D σ H => t { D with nx := fun σ' H' => ∃ as, LockAll as (fun H2 => D.nx σ' H2) H' } σ H) := by
  refine ⟨fun pins s σ H D I want => thn (h.run pins s σ H _ I want) fun f s1 q => ?_⟩
  cases f with
  | next =>
    obtain ⟨σ', H', I', as, lk⟩ := q
    obtain ⟨H2, I2, q2⟩ := lock_inv I' lk
    exact ⟨σ', H2, I2, q2⟩
  | brk => exact q
  | cont => exact q
  | ret u => exact q
end
end DL

set_option maxHeartbeats 1000000
namespace DL
open PySem PySem.Spec PyProof.Rows L2
/-! ### a dict with words or whole numbers as keys, built step by step, hidden until it is done -/
abbrev EntK := Vl × D
def lookK (ks : List Vl) (vs : List D) (k : Vl) : Option D := ((ks.zip vs).find? fun p => decide (p.1 = k)).map (·.2)
theorem key_inj {a b : Vl} (h : a.key = b.key) : a = b := by
  cases a <;> cases b <;> simp_all [Vl.key]
section
variable {K : PySem.W.Frag} {np : Nat} {He : Hp} {pr : List Nat}
theorem look_repK {G : Hp} {r : Vl} : ∀ {kvs : List (L2.Key × V)} {ks : List Vl} {vs : List D}, kvs.map (·.1) = ks.map Vl.key → RpIs K G vs (kvs.map (·.2)) →
    (∃ d v, lookK ks vs r = some d ∧ valV kvs r.key = some v ∧ RpI K G d v) ∨ (lookK ks vs r = none ∧ valV kvs r.key = none)
  | [], [], vs, _, _ => .inr ⟨rfl, rfl⟩
  | [], _ :: _, _, h, _ => by simp at h
  | _ :: _, [], _, h, _ => by simp at h
  | (k, v) :: kvs, q :: ks, [], _, h => by simp [RpIs] at h
  | (k, v) :: kvs, q :: ks, d :: vs, h1, h2 => by
    simp only [List.map_cons, List.cons.injEq, RpIs] at h1 h2
    obtain ⟨v', vr, ⟨rfl, rfl⟩, h3, h4⟩ := h2
    by_cases g : q = r
    · refine .inl ⟨d, v, ?_, ?_, h3⟩
      · unfold lookK
        rw [List.zip_cons_cons, List.find?_cons_of_pos (by simpa using g)]; rfl
      · exact valV_pos (by rw [← g]; exact h1.1)
    · have g' : ¬ k = r.key := fun z => g (key_inj (h1.1.symm.trans z))
      rw [valV_neg (p := (k, v)) g']
      have e : lookK (q :: ks) (d :: vs) r = lookK ks vs r := by
        unfold lookK
        rw [List.zip_cons_cons, List.find?_cons_of_neg (by simpa using g)]
      rw [e]
      exact look_repK h1.2 h4
/-- the hidden dict at p, in the slot i -/
structure Pk (K : PySem.W.Frag) (H0 : Hp) (σ : L2.St) (env : DEnv) (H : Hp) (i : Nat) (p : Addr) (acc : List EntK) : Prop where
  slot : σ[i]? = some (some (V.ref p))
  hid : env[i]? = some none
  new : H0 p = none
  at_ : ∃ kvs, H p = some (.dK kvs) ∧ kvs.map (·.1) = (acc.map (·.1)).map Vl.key ∧ RpIs K H (acc.map (·.2)) (kvs.map (·.2))
theorem Pk.nla {H0 H : Hp} {σ : L2.St} {env : DEnv} {i : Nat} {p : Addr} {acc : List EntK} (P : Pk K H0 σ env H i p acc) (R : Rep K np He σ H env) : ¬ LA σ env p := fun z => by
  obtain ⟨kvs, h, _⟩ := P.at_
  obtain ⟨us, q⟩ := R.la z
  rw [h] at q; cases q
theorem Pk.soft {H0 H : Hp} {σ : L2.St} {env : DEnv} {i : Nat} {p : Addr} {acc : List EntK} (P : Pk K H0 σ env H i p acc) : Soft H p := by
  obtain ⟨kvs, h, _⟩ := P.at_
  exact fun o e => by rw [h] at e; cases e; exact .inr (.inr ⟨_, rfl⟩)
theorem Pk.step {H0 H H' : Hp} {σ σ' : L2.St} {env env' : DEnv} {i : Nat} {p : Addr} {acc : List EntK} (P : Pk K H0 σ env H i p acc) (R : Rep K np He σ H env) (e1 : σ'[i]? = σ[i]?) (e2 : env'[i]? = env[i]?)
    (keep : ∀ b o, H b = some o → ¬ LA σ env b → H' b = some o) : Pk K H0 σ' env' H' i p acc := by
  have nl := P.nla R
  obtain ⟨kvs, h, m, v⟩ := P.at_
  refine ⟨e1.trans P.slot, e2.trans P.hid, P.new, kvs, keep p _ h nl, m, RpIs.kp (fun b o hb nb => keep b o hb fun z => ?_) _ _ v⟩
  obtain ⟨vs, e⟩ := R.la z
  rw [hb] at e
  exact nb vs (Option.some.inj e)
theorem Pk.se {H0 H H' : Hp} {σ : L2.St} {env env' : DEnv} {i : Nat} {p : Addr} {acc : List EntK} (P : Pk K H0 σ env H i p acc) (R : Rep K np He σ H env) (s : SE K np He σ H env H' env') : Pk K H0 σ env' H' i p acc :=
  P.step R rfl (by
    rcases s.shape i with h | ⟨xs, ys, h1, _⟩
    · exact h
    · rw [P.hid] at h1; cases h1) fun b o h n => s.keep b o h n
/-- a new key -/
theorem Pk.put {H0 H : Hp} {σ : L2.St} {env : DEnv} {i : Nat} {p : Addr} {acc : List EntK} {kvs : List (L2.Key × V)} (P : Pk K H0 σ env H i p acc) (h : H p = some (.dK kvs)) {k : Vl} {y : D} {z : V} (hy : RpI K H y z) (hn : valV kvs k.key = none) :
    Pk K H0 σ env (upd H p (.dK (putK kvs k.key z))) i p (acc ++ [(k, y)]) := by
  have sf := P.soft
  obtain ⟨slot, hid, new, kvs', h', m, v⟩ := P
  rw [h] at h'
  have : kvs = kvs' := by simpa using h'
  subst this
  have e : putK kvs k.key z = kvs ++ [(k.key, z)] := by
    unfold putK
    have : (kvs.any fun kv => decide (kv.1 = k.key)) = false := by
      unfold valV at hn
      rw [Option.map_eq_none_iff, List.find?_eq_none] at hn
      rw [List.any_eq_false]
      exact hn
    rw [this]; rfl
  refine ⟨slot, hid, new, _, upd_same, ?_, ?_⟩
  · rw [e, List.map_append, List.map_append, List.map_append, m]; rfl
  · rw [e, List.map_append, List.map_append]
    exact RpIs.soft sf _ _ (v.append (by simp only [List.map_cons, List.map_nil, RpIs]; exact ⟨z, [], rfl, hy, rfl⟩))
/-- what a step leaves as it is -/
structure StK (pr : List Nat) (p : Addr) (σ : L2.St) (H : Hp) (env : DEnv) (σ' : L2.St) (H' : Hp) (env' : DEnv) : Prop where
  keep : ∀ b o, H b = some o → b ≠ p → ¬ LA σ env b → H' b = some o ∧ ¬ LA σ' env' b
  par : ∀ (i : Nat) (xs : List D), i ∈ pr → env[i]? = some (some (D.lst xs)) → σ'[i]? = σ[i]? ∧ ∃ (ys : List D), env'[i]? = some (some (D.lst ys))
theorem StK.refl {pr : List Nat} {p : Addr} {σ : L2.St} {H : Hp} {env : DEnv} : StK pr p σ H env σ H env := ⟨fun _ _ h _ n => ⟨h, n⟩, fun _ xs _ h => ⟨rfl, xs, h⟩⟩
theorem StK.trans {pr : List Nat} {p : Addr} {σ σ1 σ2 : L2.St} {H H1 H2 : Hp} {env e1 e2 : DEnv} (a : StK pr p σ H env σ1 H1 e1) (b : StK pr p σ1 H1 e1 σ2 H2 e2) : StK pr p σ H env σ2 H2 e2 where
  keep := fun c o h n m => let ⟨h1, m1⟩ := a.keep c o h n m; b.keep c o h1 n m1
  par := fun i xs hi h => by
    obtain ⟨q1, ys, q2⟩ := a.par i xs hi h
    obtain ⟨q3, zs, q4⟩ := b.par i ys hi q2
    exact ⟨q3.trans q1, zs, q4⟩
theorem StK.sub {pr pr' : List Nat} {p : Addr} {σ σ1 : L2.St} {H H1 : Hp} {env e1 : DEnv} (h : ∀ i ∈ pr, i ∈ pr') (a : StK pr' p σ H env σ1 H1 e1) : StK pr p σ H env σ1 H1 e1 := ⟨a.keep, fun i xs hi => a.par i xs (h i hi)⟩
theorem StK.ss {pr : List Nat} {p : Addr} {H H' : Hp} {σ σ' : L2.St} {env env' : DEnv} (s : SS K np He pr σ H env σ' H' env') : StK pr p σ H env σ' H' env' := ⟨fun b o h _ n => s.keep b o h n, s.par⟩
theorem StK.upd {pr : List Nat} {p : Addr} {H : Hp} {σ : L2.St} {env : DEnv} {x : HO} : StK pr p σ H env σ (upd H p x) env := ⟨fun b o h n m => ⟨by rw [upd_ne n]; exact h, m⟩, fun _ xs _ h => ⟨rfl, xs, h⟩⟩
theorem StK.kps {p : Addr} {H H' : Hp} {σ σ' : L2.St} {env env' : DEnv} (s : StK pr p σ H env σ' H' env') (R : Rep K np He σ H env) (hp : ∃ kvs, H p = some (.dK kvs)) : KpS H H' := fun b o h n1 _ n3 => (s.keep b o h (fun z => by
  obtain ⟨kvs, hp⟩ := hp
  rw [z, hp] at h
  exact n3 kvs (Option.some.inj h).symm) fun z => by
  obtain ⟨us, q⟩ := R.la z
  rw [h] at q
  exact n1 us (Option.some.inj q)).1
structure Kb where
  nx : DEnv → List EntK → Prop
  rt : D → DEnv → Prop
  bk : DEnv → List EntK → Prop := fun _ _ => False
  ct : DEnv → List EntK → Prop := fun _ _ => False
abbrev WK := DEnv → List EntK → Kb → Prop
structure GoesK (K : PySem.W.Frag) (np : Nat) (He : Hp) (pr0 : List Nat) (σ0 : L2.St) (H0 : Hp) (env0 : DEnv) (pr : List Nat) (i : Nat) (p : Addr) (σ : L2.St) (H : Hp) (env : DEnv) (k : Kb) (D : Ends) : Prop where
  nx : ∀ env' acc' σ' H', k.nx env' acc' → SS K np He pr0 σ0 H0 env0 σ' H' env' → Pk K H0 σ' env' H' i p acc' → StK pr p σ H env σ' H' env' → D.nx σ' H'
  rt : ∀ d env' σ' H' v, k.rt d env' → SS K np He pr0 σ0 H0 env0 σ' H' env' → RpV K H' d v → (isL d = true → ∀ a, v = .ref a → He a = none) → D.rt v H'
  bk : ∀ env' acc' σ' H', k.bk env' acc' → SS K np He pr0 σ0 H0 env0 σ' H' env' → Pk K H0 σ' env' H' i p acc' → StK pr p σ H env σ' H' env' → D.bk σ' H'
  ct : ∀ env' acc' σ' H', k.ct env' acc' → SS K np He pr0 σ0 H0 env0 σ' H' env' → Pk K H0 σ' env' H' i p acc' → StK pr p σ H env σ' H' env' → D.ct σ' H'
theorem GoesK.from {pr0 : List Nat} {σ0 σ σ1 : L2.St} {H0 H H1 : Hp} {env0 env e1 : DEnv} {i : Nat} {p : Addr} {k : Kb} {D : Ends} (g : GoesK K np He pr0 σ0 H0 env0 pr i p σ H env k D) (s : StK pr p σ H env σ1 H1 e1) : GoesK K np He pr0 σ0 H0 env0 pr i p σ1 H1 e1 k D :=
  ⟨fun a b c d h S P t => g.nx a b c d h S P (s.trans t), g.rt, fun a b c d h S P t => g.bk a b c d h S P (s.trans t), fun a b c d h S P t => g.ct a b c d h S P (s.trans t)⟩
def rK (K : PySem.W.Frag) (np : Nat) (He : Hp) (pr : List Nat) (i : Nat) (wb : WK) : TS := fun D σ H => ∃ (pr0 : List Nat) (σ0 : L2.St) (H0 : Hp) (env0 env : DEnv) (acc : List EntK) (k : Kb) (p : Addr), (∀ i ∈ pr0, i ∈ pr) ∧
  SS K np He pr0 σ0 H0 env0 σ H env ∧ Pk K H0 σ env H i p acc ∧ wb env acc k ∧ GoesK K np He pr0 σ0 H0 env0 pr i p σ H env k D
end
section
variable {X : Cx} {np : Nat} {He : Hp} {pr : List Nat} {pos : Pos} {i : Nat}
abbrev DK (X : Cx) (np : Nat) (He : Hp) (pr : List Nat) (i : Nat) (s : Stmt) (w : WK) : Prop := PS X s (rK X.K np He pr i w)
abbrev DKs (X : Cx) (np : Nat) (He : Hp) (pr : List Nat) (i : Nat) (s : List Stmt) (w : WK) : Prop := PSs X s (rK X.K np He pr i w)
def kNilS : WK := fun env acc k => k.nx env acc
def kSeq (w u : WK) : WK := fun env acc k => w env acc { k with nx := fun e a => u e a k }
theorem k_nil : DKs X np He pr i [] kNilS := PSs.weak pss_nil fun D σ H ⟨pr0, σ0, H0, env0, env, acc, k, p, sub, S, P, w, g⟩ => g.nx env acc σ H w S P .refl
theorem k_cons {st : Stmt} {sts : List Stmt} {u v : WK} (h1 : DK X np He pr i st u) (h2 : DKs X np He pr i sts v) : DKs X np He pr i (st :: sts) (kSeq u v) :=
  PSs.weak (pss_cons h1 h2) fun D σ H ⟨pr0, σ0, H0, env0, env, acc, k, p, sub, S, P, w, g⟩ => ⟨pr0, σ0, H0, env0, env, acc, _, p, sub, S, P, w,
    ⟨fun e1 a1 σ1 H1 w1 S1 P1 X1 => ⟨pr0, σ0, H0, env0, e1, a1, k, p, sub, S1, P1, w1, g.from X1⟩, g.rt, g.bk, g.ct⟩⟩
theorem k_one {st : Stmt} {u : WK} (h1 : DK X np He pr i st u) : DKs X np He pr i [st] u := pss_one h1
def kIf (wc : W) (u v : WK) : WK := fun env acc k => wc env fun r e1 => rs e1 r fun d => ifb d (u e1 acc k) (v e1 acc k)
theorem k_if {c : Expr} {wc : W} {u v : WK} {a b : List Stmt} (hc : DT X np He c wc) (ha : DKs X np He pr i a u) (hb : DKs X np He pr i b v) : DK X np He pr i (.If c a b pos) (kIf wc u v) := by
  refine PS.weak (ps_if hc ha hb) fun D σ H ⟨pr0, σ0, H0, env0, env, acc, k, p, sub, S, P, w, g⟩ => ⟨env, _, S.rep, w, fun r e1 v1 H1 w1 s1 r1 => ?_⟩
  obtain ⟨d, hd, w1⟩ := r1.rs s1.rep w1
  have ss := s1.ss (pr := pr) S.rep
  have S1 := S.trans (s1.ss S.rep)
  have P1 := P.se S.rep s1
  have w1z := ifb_of w1; clear w1; rcases w1z with ⟨rfl, w1⟩ | ⟨rfl, w1⟩
  · refine ⟨true, hd, ?_⟩
    dsimp only
    rw [if_pos rfl]
    exact ⟨pr0, σ0, H0, env0, e1, acc, k, p, sub, S1, P1, w1, g.from (.ss ss)⟩
  · refine ⟨false, hd, ?_⟩
    dsimp only
    rw [if_neg Bool.false_ne_true]
    exact ⟨pr0, σ0, H0, env0, e1, acc, k, p, sub, S1, P1, w1, g.from (.ss ss)⟩
def kRet (we : W) : WK := fun env acc k => we env fun r e1 => match r with
  | .val d => k.rt d e1
  | .ref i => False
theorem k_ret {e : Expr} {we : W} (he : DE X np He e we) : DK X np He pr i (.Return (some e) pos) (kRet we) := by
  refine PS.weak (ps_ret he) fun D σ H ⟨pr0, σ0, H0, env0, env, acc, k, p, sub, S, P, w, g⟩ => ⟨env, _, S.rep, w, fun r e1 v1 H1 w1 s1 r1 => ?_⟩
  cases r with
  | val d => exact g.rt d e1 σ H1 v1 w1 (S.trans (s1.ss S.rep)) r1.1 fun n a ea => S.rep.dom a (r1.2 n a ea)
  | ref i => exact w1.elim
def setV (np : Nat) (pr : List Nat) (j : Nat) (d : D) (e : DEnv) (acc : List EntK) (k : Kb) : Prop := isL d = false ∧ stOk np pr e j d = true ∧ k.nx (e.set j (some d)) acc
/-- x = d.setdefault(k, v) if c else b -/
def kSetd (np : Nat) (pr : List Nat) (j : Nat) (wc wk wv wb : W) : WK := fun env acc k => wc env fun rc e1 => rs e1 rc fun c => ifb c
  (wk e1 fun rk e2 => rs e2 rk fun x => ∃ kk : Vl, x = kk.d ∧ wv e2 fun rv e3 => rs e3 rv fun y => isL y = false ∧ acc.length < 1000000 ∧
    setV np pr j ((lookK (acc.map (·.1)) (acc.map (·.2)) kk).getD y) e3 (match lookK (acc.map (·.1)) (acc.map (·.2)) kk with | some _ => acc | none => acc ++ [(kk, y)]) k)
  (wb e1 fun rb e2 => rs e2 rb fun y => setV np pr j y e2 acc k)
theorem setV_ok {np : Nat} {He : Hp} {pr pr0 : List Nat} {K : PySem.W.Frag} {σ σ0 : L2.St} {H0 H : Hp} {env0 e : DEnv} {i j : Nat} {p : Addr} {k : Kb} {D0 : Ends} {d : D} {v : V} {acc : List EntK} (hij : j ≠ i) (sub : ∀ i ∈ pr0, i ∈ pr)
    (S : SS K np He pr0 σ0 H0 env0 σ H e) (P : Pk K H0 σ e H i p acc) (w : setV np pr j d e acc k) (r : RpV K H d v) (g : GoesK K np He pr0 σ0 H0 env0 pr i p σ H e k D0) : D0.nx (σ.set j (some v)) H := by
  obtain ⟨nl, ok, w⟩ := w
  have s := SS.put S.rep (.refl S.rep) ok r fun n => by rw [nl] at n; cases n
  refine g.nx _ acc _ H w (S.trans (s.sub sub)) (P.step S.rep ?_ ?_ fun b o h n => (s.keep b o h n).1) (.ss s)
  · rw [List.getElem?_set_ne hij]
  · rw [List.getElem?_set_ne hij]
theorem kd_of {K : PySem.W.Frag} {H : Hp} {kk : Vl} {v : V} (h : RpV K H kk.d v) : v = kV kk.key := by
  cases kk <;> (cases h; rfl)
theorem k_setd {j : Nat} {x n : Str} {px pd apos cpos p3 : Pos} {c ke ve be : Expr} {wc wk wv wb : W} (hN : X.N.Nodup) (hc : DT X np He c wc) (hk : DE X np He ke wk) (hv : DE X np He ve wv) (hb : DE X np He be wb)
    (hj : X.N[j]? = some x := by rfl) (hi : X.N[i]? = some n := by rfl) (hij : j ≠ i := by decide) (hx : Loc X.env.scope x := by first | exact Or.inl rfl | exact Or.inr rfl)
    (hvis : Vis X.env.scope n := by first | exact Or.inl rfl | exact Or.inr (Or.inl rfl) | exact Or.inr (Or.inr rfl)) (hd : (n == ("__debug__" : Str)) = false := by decide) (hcd : (n == ("__classdict__" : Str)) = false := by decide)
    (m : M2 X (.Name n pd) "setdefault" apos ke ve cpos := by exact ⟨rfl, rfl, rfl, rfl⟩)
    (hs : swapsWith (.IfExp c (.Call (.Attribute (.Name n pd) "setdefault" apos) [ke, ve] [] cpos) be p3) (some (.Name x px)) pos.line X.env = pure false := by rfl) (hf : X.fn x = true ∨ X.env.scope.names.lookup x = some .local := by first | exact .inl rfl | exact .inr rfl | assumption) :
    DK X np He pr i (.Assign [.Name x px] (.IfExp c (.Call (.Attribute (.Name n pd) "setdefault" apos) [ke, ve] [] cpos) be p3) pos) (kSetd np pr j wc wk wv wb) := by
  refine PS.weak (ps_set hN hj hx (pe_ifExp hc (pe_dsetd (pe_var hi hvis hd hcd) hk hv m) hb) hs hf) fun D σ H ⟨pr0, σ0, H0, env0, env, acc, k, p, sub, S, P, w, g⟩ => ?_
  refine ⟨env, _, S.rep, w, fun rc e1 v1 H1 w1 s1 r1 => ?_⟩
  obtain ⟨d, hd, w1⟩ := r1.rs s1.rep w1
  have S1 := S.trans (s1.ss S.rep)
  have P1 := P.se S.rep s1
  have g1 := g.from (.ss (s1.ss (pr := pr) S.rep))
  have w1z := ifb_of w1; clear w1; rcases w1z with ⟨rfl, w1⟩ | ⟨rfl, w1⟩
  · refine ⟨true, hd, ?_⟩
    dsimp only
    rw [if_pos rfl]
    obtain ⟨kvs1, hp1, _⟩ := P1.at_
    refine ⟨_, P1.slot, p, rfl, .inl ⟨kvs1, .inl hp1⟩, e1, _, S1.rep, w1, fun rk e2 v2 H2 w2 s2 r2 => ?_⟩
    obtain ⟨y2, hy2, kk, rfl, w2⟩ := r2.rs s2.rep w2
    have S2 := S1.trans (s2.ss S1.rep)
    have P2 := P1.se S1.rep s2
    have g2 := g1.from (.ss (s2.ss (pr := pr) S1.rep))
    refine ⟨e2, _, S2.rep, w2, fun rv e3 v3 H3 w3 s3 r3 => ?_⟩
    obtain ⟨y, hy, nl, few, w3⟩ := r3.rs s3.rep w3
    have S3 := S2.trans (s3.ss S2.rep)
    have P3 := P2.se S2.rep s3
    have g3 := g2.from (.ss (s3.ss (pr := pr) S2.rep))
    obtain ⟨kvs, hp, mk, rv⟩ := P3.at_
    have hyi := hy.imm nl
    refine ⟨kvs, kk.key, hp, kd_of hy2, Nat.lt_of_lt_of_le (by have e := congrArg List.length mk; simp only [List.length_map] at e; rw [e]; exact few) (line_of (Nat.le_refl _)), fun v hv => ?_, fun hn => ?_⟩
    · rcases look_repK (r := kk) mk rv with ⟨d, v', h1, h2, h3⟩ | ⟨h1, h2⟩
      · rw [hv] at h2
        cases Option.some.inj h2
        rw [h1] at w3
        exact setV_ok hij sub S3 P3 w3 (.of h3) g3
      · rw [hv] at h2; cases h2
    · rcases look_repK (r := kk) mk rv with ⟨d, v', h1, h2, h3⟩ | ⟨h1, h2⟩
      · rw [hn] at h2; cases h2
      · rw [h1] at w3
        have sf := P3.soft
        exact setV_ok hij sub (S3.soft P3.new (P3.nla S3.rep) sf _) (P3.put hp hyi hn) w3 (.of (RpI.soft sf _ _ hyi)) (g3.from .upd)
  · refine ⟨false, hd, ?_⟩
    dsimp only
    rw [if_neg Bool.false_ne_true]
    refine ⟨e1, _, S1.rep, w1, fun rb e2 v2 H2 w2 s2 r2 => ?_⟩
    obtain ⟨y, hy, w2⟩ := r2.rs s2.rep w2
    exact setV_ok hij sub (S1.trans (s2.ss S1.rep)) (P1.se S1.rep s2) w2 hy (g1.from (.ss (s2.ss (pr := pr) S1.rep)))
/-! ### the loop -/
def goFoK (g : G) (wb : WK) (chk : List (Nat × List D)) (k : Kb) : List D → DEnv → List EntK → Prop
  | [], env, acc => chkE chk env ∧ k.nx env acc
  | x :: xs, env, acc => chkE chk env ∧ g x env fun e2 => wb e2 acc { nx := goFoK g wb chk k xs, rt := k.rt, bk := k.nx, ct := goFoK g wb chk k xs }
def kFor (pr : List Nat) (wI : WI) (g : G) (wb : WK) : WK := fun env acc k => wI env fun src e1 => (src.chk.all fun p => pr.contains p.1) = true ∧ Loop (goFoK g wb src.chk k src.xs e1 acc)
theorem k_for {tg iter : Expr} {body : List Stmt} {wI : WI} {g : G} {wb : WK} (pr' sl : List Nat) (hx : PassesOwn (model X.prog X.w) X.A X.env X.xe) (hc : X.calm = true) (hi : DI X np He tg iter wI) (hg : DG X np He pr' sl tg g) (hb : DKs X np He pr' i body wb)
    (hp : (pr.all fun i => pr'.contains i) = true := by decide) (hsl : i ∉ sl := by decide) (hs : ∀ x, foldedSetIterable iter X.env x = pure x := by intro _; rfl) : DK X np He pr i (.For tg iter body [] pos) (kFor pr' wI g wb) := by
  refine PS.weak (ps_for hx hc hi hg hb hs) fun D σ H ⟨pr0, σ0, H0, env0, env, acc, k, p, sub0, S, P, w, q⟩ => ⟨env, _, S.rep, w, fun src e1 H1 J Gd Y w1 s1 wk hck hy hgd => ?_⟩
  have sub : ∀ i ∈ pr, i ∈ pr' := fun i h => by
    have := List.all_eq_true.mp hp i h
    simpa [List.contains_eq_mem] using this
  obtain ⟨hpr, w1l⟩ := w1
  have w1 := w1l.out
  have cpr : ∀ p ∈ src.chk, p.1 ∈ pr' := fun p h => by
    have := List.all_eq_true.mp hpr p h
    simpa [List.contains_eq_mem] using this
  have P1 := P.se S.rep s1
  have S1 := S.trans (s1.ss S.rep)
  have q1 := q.from (.ss (s1.ss (pr := pr) S.rep))
  let Pv : Nat → L2.St → Hp → Prop := fun j σ2 H2 => ∃ e2 acc2, SS X.K np He pr0 σ0 H0 env0 σ2 H2 e2 ∧ Pk X.K H0 σ2 e2 H2 i p acc2 ∧ StK pr' p σ H1 e1 σ2 H2 e2 ∧ goFoK g wb src.chk k (src.xs.drop j) e2 acc2
  have cgo : ∀ {xs : List DL.D} {e2 : DEnv} {a2 : List EntK}, goFoK g wb src.chk k xs e2 a2 → chkE src.chk e2 := fun {xs e2 a2} h => by
    cases xs with
    | nil => exact h.1
    | cons x xs => exact h.1
  have gd : ∀ {σ2 : L2.St} {H2 : Hp} {e2 : DEnv}, Rep X.K np He σ2 H2 e2 → StK pr' p σ H1 e1 σ2 H2 e2 → chkE src.chk e2 → Gd H2 := fun {σ2 H2 e2} R x c => by
    have hp1 : ∃ kvs, H1 p = some (.dK kvs) := by obtain ⟨kvs, h, _⟩ := P1.at_; exact ⟨kvs, h⟩
    refine hgd H2 ⟨x.kps S1.rep hp1, fun b xs _ h1 n => (x.keep b _ h1 (fun z => ?_) n).1, fun c' hc' a ea => ?_⟩
    · obtain ⟨kvs, hp1⟩ := hp1
      rw [z, hp1] at h1; cases h1
    · obtain ⟨q1, _⟩ := x.par c'.1 c'.2 (cpr c' hc') (hck c' hc')
      obtain ⟨a', us, e3, ha, ra⟩ := R.lst (chkE_at c hc')
      rw [q1, ea] at e3
      have : a = a' := by simpa using e3
      subst this
      exact ⟨us, ha, ra⟩
  refine for_it wk Pv ⟨e1, acc, S1, P1, .refl, w1⟩ ?_ ?_ ?_
  · rintro j σ2 H2 hj ⟨e2, a2, s, P2, x2, go⟩
    exact gd s.rep x2 (cgo go)
  · rintro j x σ2 H2 H3 hj ⟨e2, a2, s, P2, x2, go⟩ y
    obtain ⟨ex, d, ed, rd⟩ := hy j H2 x H3 hj y (gd s.rep x2 (cgo go))
    have dr : src.xs.drop j = d :: src.xs.drop (j + 1) := by
      rw [← List.getElem_cons_drop hj]
      rw [List.getElem?_eq_getElem hj] at ed
      rw [Option.some.inj ed]
    rw [dr] at go
    obtain ⟨_, go⟩ := go
    have se := SE.ext s.rep ex
    have s3 := s.trans (se.ss (pr := pr0) s.rep)
    have P3 := P2.se s.rep se
    have x3 := x2.trans (.ss (se.ss s.rep))
    refine ⟨e2, d, _, s3.rep, rd, go, fun e4 σ4 w4 s4 o4 => ?_⟩
    have P4 : Pk X.K H0 σ4 e4 H3 i p a2 := P3.step s3.rep (o4 i hsl).1 (o4 i hsl).2 fun b o h n => (s4.keep b o h n).1
    have x4 := x3.trans (.ss s4)
    refine ⟨pr0, σ0, H0, env0, e4, a2, _, p, fun i h => sub i (sub0 i h), s3.trans (s4.sub fun i h => sub i (sub0 i h)), P4, w4, ?_⟩
    exact ⟨fun env' acc' σ' H' k' S5 P5 X5 => ⟨env', acc', S5, P5, x4.trans X5, k'⟩, fun d e5 σ5 H5 v w5 s5 rv fr => q.rt d e5 σ5 H5 v w5 s5 rv fr,
      fun env' acc' σ' H' k' S5 P5 X5 => q1.nx env' acc' σ' H' k' S5 P5 ((x4.trans X5).sub sub), fun env' acc' σ' H' k' S5 P5 X5 => ⟨env', acc', S5, P5, x4.trans X5, k'⟩⟩
  · rintro σ2 H2 ⟨e2, a2, s, P2, x2, go⟩
    rw [List.drop_length] at go
    exact q1.nx e2 a2 σ2 H2 go.2 s P2 (x2.sub sub)
/-- a dict that is built, then only read -/
def cPk (i : Nat) (wb : WK) : WS := fun env K => env[i]? = some none ∧ wb env [] { nx := fun e' acc => K.nx (e'.set i (some (.rdk (acc.map (·.1)) (acc.map (·.2))))), rt := K.rt }
theorem s_pk {n : Str} {p1 dp ap : Pos} {st : Stmt} {rest : List Stmt} {wb : WK} {v : WS} (i : Nat) (hN : X.N.Nodup) (h2 : DK X np He pr i st wb) (h3 : DSs X np He pr rest v) (hi : X.N[i]? = some n := by rfl) (hx : Loc X.env.scope n := by first | exact Or.inl rfl | exact Or.inr rfl)
    (hs : swapsWith (.Dict [] [] dp) (some (.Name n p1)) ap.line X.env = pure false := by rfl) (hf : X.fn n = true ∨ X.env.scope.names.lookup n = some .local := by first | exact .inl rfl | exact .inr rfl | assumption) :
    DSs X np He pr (.Assign [.Name n p1] (.Dict [] [] dp) ap :: st :: rest) (cSeq (cPk i wb) v) := by
  refine PSs.weak (pss_cons (ps_set hN hi hx pe_dnewK hs hf) (pss_cons (ps_lock h2) h3)) fun D σ H ⟨env, K0, R, ⟨e0, w⟩, g⟩ => ?_
  intro p hp
  have hil : i < σ.length := by rw [R.len]; exact (List.getElem?_eq_some_iff.mp e0).1
  refine ⟨pr, σ, H, env, env, [], _, p, fun _ h => h, SS.start R e0 hp _, ⟨List.getElem?_set_self hil, e0, hp, [], upd_same, rfl, by simp [RpIs]⟩, w, ⟨fun env' acc σ' H' k S P _ => ?_, fun d e1 σ1 H1 v1 h1 s1 r1 f1 => g.rt d e1 σ1 H1 v1 h1 s1 r1 f1, fun _ _ _ _ z => z.elim, fun _ _ _ _ z => z.elim⟩⟩
  have sf := P.soft
  have nlp := P.nla S.rep
  obtain ⟨slot, hid, new, kvs, hd, mk, rr⟩ := P
  refine ⟨[p], _, hd, True.intro, fun o => ?_⟩
  have S2 := S.soft new nlp sf (.frz o (.dK kvs))
  have rv : RpV X.K (upd H' p (.frz o (.dK kvs))) (.rdk (acc.map (·.1)) (acc.map (·.2))) (.ref p) := by
    show RpI _ _ _ _
    simp only [RpI]
    exact ⟨p, kvs, rfl, ⟨o, upd_same⟩, mk, RpIs.soft sf _ _ rr⟩
  have S3 := S2.hide hid slot rv rfl
  exact ⟨_, K0, S3.rep, k, g.from S3⟩
/-! ### reading it -/
def strsV : List Vl → Option (List Str)
  | [] => some []
  | .str x :: r => (strsV r).map (x :: ·)
  | .int _ :: _ => none
theorem strsV_key : ∀ {ks : List Vl} {zs : List Str}, strsV ks = some zs → ks.map Vl.key = zs.map Sum.inr
  | [], zs, h => by cases h; rfl
  | .int _ :: _, zs, h => by cases h
  | .str x :: r, zs, h => by
    unfold strsV at h
    obtain ⟨ws, h1, rfl⟩ := Option.map_eq_some_iff.mp h
    rw [List.map_cons, List.map_cons, strsV_key h1]; rfl
def fSDK : FA := on1 fun d k => match d with
  | .rdk ks _ => match strsV ks with
    | some zs => zs.length < 64 ∧ ∀ ms : List Str, ms.Perm zs → sortedS ms = true → k (.lst (ms.map D.str))
    | none => False
  | _ => False
theorem e_sdk {a : Expr} {wa : W} {p : Pos} (hc : X.calm = true) (hm : X.mg "sorted" = none) (ha : DE X np He a wa) (hg : Gl X "sorted" := by rfl) (he : starEach [a] X.env = (false, eval a X.env) :: starEach [] X.env := by rfl) :
    DE X np He (.Call (.Name "sorted" p) [a] [] pos) (cBi fSDK (cCons wa cNil)) := by
  refine PE.weak (pe_callB (call_sortedD hc) hg hm PyProof.Rows.boot_sorted (a_cons ha a_nil he) (he := he)) (bi_core ?_)
  intro H ds vs k Q r h q
  obtain ⟨d, rfl, g⟩ := on1_of h
  clear h
  obtain ⟨v, rfl, rv⟩ := r.one
  cases d with
  | rdk ks ys =>
    obtain ⟨b, kvs, rfl, ⟨o, s⟩, m, _⟩ := rv
    have g' : match strsV ks with
      | some zs => zs.length < 64 ∧ ∀ ms : List Str, ms.Perm zs → sortedS ms = true → k (.lst (ms.map D.str))
      | none => False := g
    cases ez : strsV ks with
    | none => rw [ez] at g'; exact g'.elim
    | some zs =>
      rw [ez] at g'
      refine ⟨b, kvs, zs, rfl, .inr ⟨o, s⟩, m.trans (strsV_key ez), g'.1, fun ms l pm so nl => q (.lst (ms.map D.str)) _ _ (g'.2 ms pm so) (.new nl) ⟨l, ms.map V.str, rfl, upd_same, rp_strs ms⟩ (fun _ a e => ?_)⟩
      cases e
      exact nl
  | _ => exact False.elim g
def cDik (wa wb : W) : W := fun env Q => wa env fun ra e1 => rs e1 ra fun x => ∃ ks vs, x = .rdk ks vs ∧ wb e1 fun rb e2 => rs e2 rb fun y => ∃ k : Vl, y = k.d ∧
  ∃ z, lookK ks vs k = some z ∧ Q (.val z) e2
theorem e_dik {a b : Expr} {wa wb : W} (hu : X.A.units + 64 < cLine) (ha : DE X np He a wa) (hb : DE X np He b wb) (hs : NoSl b := by intro _ _; rfl) : DE X np He (.Subscript a b pos) (cDik wa wb) := by
  refine PE.weak (pe_dget (by omega) ha hb hs) fun σ H Q ⟨env, Q0, R, w, q⟩ => ⟨env, _, R, w, fun ra e1 v1 H1 w1 s1 r1 => ?_⟩
  obtain ⟨x, hx, ks, vs, ex, w1⟩ := r1.rs s1.rep w1
  subst ex
  obtain ⟨d, kvs, rfl, ⟨o, hd⟩, mk, rv⟩ := (show ∃ (d : Addr) (kvs : List (L2.Key × V)), v1 = .ref d ∧ (∃ o : Obj, H1 d = some (.frz o (.dK kvs))) ∧ kvs.map (·.1) = ks.map Vl.key ∧ RpIs X.K H1 vs (kvs.map (·.2)) by simpa only [RpV, RpI] using hx)
  refine ⟨e1, _, s1.rep, w1, fun rb e2 v2 H2 w2 s2 r2 => ?_⟩
  obtain ⟨y, hy, kk, ey, z, hz, w2⟩ := r2.rs s2.rep w2
  subst ey
  have k12 := SE.kp s1.rep s2
  have hd2 := k12 d _ hd (fun _ z => nomatch z)
  have ev := kd_of hy
  subst ev
  rcases look_repK (r := kk) mk (RpIs.kp k12 _ _ rv) with ⟨f, v, h1, h2, h3⟩ | ⟨h1, h2⟩
  · rw [h1] at hz
    cases Option.some.inj hz
    exact ⟨d, v, rfl, .inl ⟨kvs, _, .inr ⟨o, hd2⟩, rfl, h2.symm⟩, q _ e2 _ H2 w2 (s1.trans s2) ⟨.of h3, fun n => by rw [imm_of h3] at n; cases n⟩⟩
  · rw [h1] at hz; cases hz
end
end DL

namespace DL
open PySem PySem.Spec PyProof.Rows L2
/-! ### x + y, lists of which some are only read -/
section
variable {X : Cx} {np : Nat} {He : Hp} {a b : Expr} {wa wb : W} {pos : Pos}
def rCatL (K : PySem.W.Frag) : R2 := fun x y H Q => ∃ (l b : Addr) (xs zs : List V), x = .ref l ∧ y = .ref b ∧ SqL K H l xs ∧ SqL K H b zs ∧ xs.length + zs.length ≤ sizeLine ∧ ∀ p, H p = none → Q (.ref p) (upd H p (.lst (xs ++ zs)))
theorem op_catL : OpR X (binaryOp .Add) (rCatL X.K) := by
  intro pins s σ H x y v u Q I rx ry h
  obtain ⟨l, b, xs, zs, rfl, rfl, hH, hB, hz, q⟩ := h
  cases rx
  cases ry
  obtain ⟨its, r, pl, z1⟩ := I.list hH
  obtain ⟨its2, r2, pl2, z2⟩ := I.list hB
  have h1 := r.length
  have h2 := r2.length
  obtain ⟨⟨c, d, t, sl⟩, n, e, hc, hd, hs⟩ := pl
  obtain ⟨⟨c2, d2, t2, sl2⟩, n2, e2, hc2, hd2, hs2⟩ := pl2
  obtain rfl : c = .type "list" := hc
  obtain rfl : c2 = .type "list" := hc2
  obtain rfl : t = .seq its.toArray n := hs
  obtain rfl : t2 = .seq its2.toArray n2 := hs2
  have go := list_addW l b its.toArray its2.toArray n n2 d d2 sl sl2 (by rw [List.size_toArray, List.size_toArray]; omega)
  refine concat_meets ⟨_, e, rfl⟩ ⟨_, e2, rfl⟩ noFill_list_add seq_list_add PySem.F.slot_list_add PySem.F.entry_list_add (PySem.F.args_list_add_2 _ _) go ⟨e, e2, ?_⟩
  have ea : its.toArray ++ its2.toArray = (its ++ its2).toArray := by simp
  rw [ea]
  exact ⟨.ref _, _, I.lnew (t' := s.toks) (r.append r2) (by rw [List.length_append]; omega), rfl, q _ I.fresh⟩
def fAddR : F2 := fun x y k => match x, y with
  | .rol xs, .lst ys => xs.length + ys.length ≤ 1000000 ∧ k (.lst (xs ++ ys))
  | .rol xs, .rol ys => xs.length + ys.length ≤ 1000000 ∧ k (.lst (xs ++ ys))
  | .lst xs, .rol ys => xs.length + ys.length ≤ 1000000 ∧ k (.lst (xs ++ ys))
  | _, _ => False
theorem opd_addR : OpD X.K (rCatL X.K) fAddR := by
  intro H x y v w k Q rx ry h q
  have fin : ∀ (ds es : List D) (p p2 : Addr) (vs us : List V), v = .ref p → w = .ref p2 → SqL X.K H p vs → SqL X.K H p2 us → RpIs X.K H ds vs → RpIs X.K H es us → ds.length + es.length ≤ 1000000 → k (.lst (ds ++ es)) → rCatL X.K v w H Q := fun ds es p p2 vs us e1 e2 h1 h2 r1 r2 hl hk =>
    ⟨p, p2, vs, us, e1, e2, h1, h2, by rw [← r1.length, ← r2.length]; exact line_of hl, fun l nl => q _ _ _ hk (.new nl) ⟨l, _, rfl, upd_same, RpIs.kp (Ext.new nl).kp _ _ (r1.append r2)⟩ fun _ c e => by cases e; exact nl⟩
  have ro : ∀ {ds : List D} {u : V}, RpV X.K H (.rol ds) u → ∃ a vs, u = .ref a ∧ SqL X.K H a vs ∧ RpIs X.K H ds vs := fun {ds u} r => by
    obtain ⟨a, vs, e, s, r⟩ := (show ∃ a vs, u = .ref a ∧ SqR X.K H a vs ∧ RpIs X.K H ds vs by simpa only [RpV, RpI] using r)
    exact ⟨a, vs, e, s.seq, r⟩
  have ls : ∀ {ds : List D} {u : V}, RpV X.K H (.lst ds) u → ∃ a vs, u = .ref a ∧ SqL X.K H a vs ∧ RpIs X.K H ds vs := fun {ds u} r => by
    obtain ⟨a, vs, e, s, r⟩ := r
    exact ⟨a, vs, e, .of s, r⟩
  unfold fAddR at h
  split at h
  · obtain ⟨p, vs, e1, s1, r1⟩ := ro rx
    obtain ⟨p2, us, e2, s2, r2⟩ := ls ry
    exact fin _ _ p p2 vs us e1 e2 s1 s2 r1 r2 h.1 h.2
  · obtain ⟨p, vs, e1, s1, r1⟩ := ro rx
    obtain ⟨p2, us, e2, s2, r2⟩ := ro ry
    exact fin _ _ p p2 vs us e1 e2 s1 s2 r1 r2 h.1 h.2
  · obtain ⟨p, vs, e1, s1, r1⟩ := ls rx
    obtain ⟨p2, us, e2, s2, r2⟩ := ro ry
    exact fin _ _ p p2 vs us e1 e2 s1 s2 r1 r2 h.1 h.2
  · exact h.elim
theorem e_addR (ha : DE X np He a wa) (hb : DE X np He b wb) : DE X np He (.BinOp a .Add b pos) (cOp fAddR wa wb) := e_op op_catL opd_addR ha hb
end
end DL

namespace DL
open PySem PySem.Spec PyProof.Rows L2
/-! ### spans, lines, tables as data -/
abbrev Sp2 := List (Int × Int)
abbrev Ln := Int × Sp2
def SpOk (c : Int) : Int → Sp2 → Prop
  | _, [] => True
  | lo, (a, b) :: r => lo ≤ a ∧ a < b ∧ b ≤ c ∧ SpOk c (b + 1) r
def LsOk (c : Int) : Int → List Ln → Prop
  | _, [] => True
  | p, (s, sp) :: r => p < s ∧ SpOk c 0 sp ∧ LsOk c s r
def TbOk (c : Int) (ls : List Ln) : Prop := (1 ≤ c ∧ c ≤ 60) ∧ ∃ sp r, ls = (0, sp) :: r ∧ SpOk c 0 sp ∧ LsOk c 0 r
def inS (p : Int) (s : Sp2) : Bool := s.any fun q => decide (q.1 ≤ p) && decide (p < q.2)

/-! ### draws -/
def sp_law_take : FSpec where
  pre := fun ds => match ds with
    | [.lst xs, .int m] => IsInts xs ∧ 0 < m
    | _ => False
  post := fun ds r ds' => match ds with
    | [.lst _, .int m] => ∃ ns v, r = .int v ∧ ds' = [.lst (List.map D.int ns), .int m] ∧ 0 ≤ v ∧ v < m
    | _ => False
/-- slots: 0 draws, 1 many -/
def w_law_take : WS :=
    (cSeq (cIte (cOp fEqS (cBi fLen (cCons (cVar 0) cNil)) (cC (.int 0)))
      (cRet 2 (cC (.int 0)))
      cNilS)
    (cRet 2 (cOp fMod (cBi fInt (cCons (cMeth 0 fPop cNil) cNil)) (cVar 1))))
theorem of_take {ds : List D} (h : sp_law_take.pre ds) : ∃ (ns : List Int) (m : Int), ds = [.lst (ns.map D.int), .int m] ∧ 0 < m := by
  unfold sp_law_take at h
  dsimp only at h
  split at h
  · obtain ⟨⟨ns, rfl⟩, h⟩ := h
    exact ⟨ns, _, rfl, h⟩
  · exact h.elim
local macro_rules | `(tactic| walk_at "Ddl") => `(tactic| ((conv => whnf); (repeat ((first | refine And.intro rfl ?_ | refine And.intro trivial ?_ | refine And.intro ⟨rfl, trivial⟩ ?_ | refine And.intro ⟨rfl, rfl, trivial⟩ ?_ | refine ifb_t ?_ | refine ifb_f ?_ | refine ifb_nr ?_ | refine ifb_er ?_ | refine And.intro (by first | decide | omega | (unfold CMul; omega) | (unfold CDiv; omega) | (unfold CPow; decide) | (exact cpow1 (by omega) (by omega)) | (exact cpow1 (by dsimp only; omega) (by dsimp only; omega)) | (simp only [rngD_len, List.length_replicate, List.length_map, List.length_append, List.length_cons, List.length_nil, List.length_set] at *; omega)) ?_); conv => whnf))))
theorem pure_law_take : ∀ ds, ds.length = 2 → sp_law_take.pre ds → w_law_take (env0 ds 0) { nx := fun e => sp_law_take.post ds .non (outs e 2), rt := fun d e => sp_law_take.post ds d (outs e 2) } := by
  intro ds _ h
  obtain ⟨ns, m, rfl, hm⟩ := of_take h
  walk_at "Ddl"
  refine ifb_dec (fun e => ?_) (fun e => ?_)
  · walk_at "Ddl"
    exact ⟨ns, 0, rfl, rfl, Int.le_refl _, hm⟩
  · have hne : ns ≠ [] := fun z => by subst z; exact e rfl
    obtain ⟨xs, x, rfl⟩ : ∃ xs x, ns = xs ++ [x] := ⟨_, _, (List.dropLast_concat_getLast hne).symm⟩
    have el : (List.map D.int (xs ++ [x])).getLast? = some (D.int x) := by simp
    have ed : (List.map D.int (xs ++ [x])).dropLast = xs.map D.int := by simp
    walk_at "Ddl"
    rw [el, ed]
    walk_at "Ddl"
    exact ⟨xs, x % m, rfl, rfl, Int.emod_nonneg _ (by omega), Int.emod_lt_of_pos _ hm⟩
def sp_law_size : FSpec where
  pre := fun ds => match ds with
    | [.lst xs, .rol ys] => IsInts xs ∧ IsInts ys
    | _ => False
  post := fun ds r ds' => match ds with
    | [_, .rol ys] => ∃ ns v, r = .int v ∧ ds' = [.lst (List.map D.int ns), .rol ys] ∧ 0 ≤ v
    | _ => False
/-- slots: 0 draws, 1 script, 2 kind, 3 number, 4 k -/
def w_law_size : WS :=
    (cSeq (cAsg 2 [0, 1] 2 (cCallN 2 sp_law_take (cCons (cVar 0) (cCons (cC (.int 8)) cNil))))
    (cSeq (cIte (cOp fLt (cVar 2) (cC (.int 5)))
      (cRet 2 (cCallN 2 sp_law_take (cCons (cVar 0) (cCons (cC (.int 12)) cNil))))
      cNilS)
    (cSeq (cIte (cOp fEqS (cVar 2) (cC (.int 5)))
      (cRet 2 (cCallN 2 sp_law_take (cCons (cVar 0) (cCons (cC (.int 100)) cNil))))
      cNilS)
    (cSeq (cIte (cOr (cOp fEqS (cVar 2) (cC (.int 6))) (cOp fEqS (cBi fLen (cCons (cVar 1) cNil)) (cC (.int 0))))
      (cSeq (cAsg 2 [0, 1] 3 (cC (.int 0)))
        (cSeq (cFor [0, 1] (iR1 (cC (.int 5))) (gN 2 [0, 1] 4)
          (cAsg 2 [0, 1] 3 (cOp fAddG (cOp fMul (cVar 3) (cC (.int 1000))) (cCallN 2 sp_law_take (cCons (cVar 0) (cCons (cC (.int 1000)) cNil))))))
        (cRet 2 (cVar 3))))
      cNilS)
    (cRet 2 (cBi fAbs (cCons (cBi fInt (cCons (cOp fIx (cVar 1) (cCallN 2 sp_law_take (cCons (cVar 0) (cCons (cBi fLen (cCons (cVar 1) cNil)) cNil)))) cNil)) cNil)))))))
theorem pure_law_size : ∀ ds, ds.length = 2 → sp_law_size.pre ds → w_law_size (env0 ds 3) { nx := fun e => sp_law_size.post ds .non (outs e 2), rt := fun d e => sp_law_size.post ds d (outs e 2) } := by
  intro ds _ h
  unfold sp_law_size at h
  dsimp only at h
  split at h
  · obtain ⟨⟨ns, rfl⟩, ms, rfl⟩ := h
    walk_at "Ddl"
    refine ⟨⟨⟨_, rfl⟩, by first | decide | omega⟩, ?_⟩; rintro _ _ ⟨ns1, v, rfl, rfl, h0, h1⟩; walk_at "Ddl"
    refine ifb_dec (fun e => ?_) (fun e => ?_)
    · walk_at "Ddl"
      refine ⟨⟨⟨_, rfl⟩, by first | decide | omega⟩, ?_⟩; rintro _ _ ⟨ns2, v2, rfl, rfl, h2, h3⟩; walk_at "Ddl"
      exact ⟨ns2, v2, rfl, rfl, h2⟩
    · walk_at "Ddl"
      refine ifb_dec (fun e2 => ?_) (fun e2 => ?_)
      · walk_at "Ddl"
        refine ⟨⟨⟨_, rfl⟩, by first | decide | omega⟩, ?_⟩; rintro _ _ ⟨ns2, v2, rfl, rfl, h2, h3⟩; walk_at "Ddl"
        exact ⟨ns2, v2, rfl, rfl, h2⟩
      · walk_at "Ddl"
        have neg : ∀ e, e = [some (D.lst (ns1.map D.int)), some (D.rol (ms.map D.int)), some (D.int v), none, none] → ms ≠ [] → (cRet 2 (cBi fAbs (cCons (cBi fInt (cCons (cOp fIx (cVar 1) (cCallN 2 sp_law_take (cCons (cVar 0) (cCons (cBi fLen (cCons (cVar 1) cNil)) cNil)))) cNil)) cNil))) e { nx := fun e => sp_law_size.post [.lst (ns.map D.int), .rol (ms.map D.int)] .non (outs e 2), rt := fun d e => sp_law_size.post [.lst (ns.map D.int), .rol (ms.map D.int)] d (outs e 2) } := by
          rintro e rfl hms
          walk_at "Ddl"
          have hp : 0 < ((List.map D.int ms).length : Int) := by
            have := List.length_pos_iff.mpr hms
            simpa using this
          refine ⟨⟨⟨_, rfl⟩, hp⟩, ?_⟩
          rintro _ _ ⟨ns2, x, rfl, rfl, hx0, hx1⟩
          walk_at "Ddl"
          have hx2 : x.toNat < ms.length := by
            have : x < (ms.length : Int) := by simpa using hx1
            omega
          have ea : atI (List.map D.int ms) x = some (D.int ms[x.toNat]) := by
            have := atI_nat (xs := List.map D.int ms) (j := x.toNat) (v := D.int ms[x.toNat]) (by simp [hx2])
            rwa [Int.toNat_of_nonneg hx0] at this
          rw [ea]
          walk_at "Ddl"
          refine ⟨ns2, _, rfl, rfl, ?_⟩
          split <;> omega
        have big : ∀ N e, e = [some (D.lst (ns1.map D.int)), some (D.rol (ms.map D.int)), some (D.int v), none, none] → (cSeq (cAsg 2 [0, 1] 3 (cC (.int 0)))
        (cSeq (cFor [0, 1] (iR1 (cC (.int 5))) (gN 2 [0, 1] 4)
          (cAsg 2 [0, 1] 3 (cOp fAddG (cOp fMul (cVar 3) (cC (.int 1000))) (cCallN 2 sp_law_take (cCons (cVar 0) (cCons (cC (.int 1000)) cNil))))))
        (cRet 2 (cVar 3)))) e { nx := N, rt := fun d e => sp_law_size.post [.lst (ns.map D.int), .rol (ms.map D.int)] d (outs e 2) } := by
          rintro N e rfl
          walk_at "Ddl"
          refine loop_rng (fun _ e => ∃ (ks : List Int) (num : Int) (o : Option D), 0 ≤ num ∧ e = [some (D.lst (ks.map D.int)), some (D.rol (ms.map D.int)), some (D.int v), some (D.int num), o]) ⟨ns1, 0, none, Int.le_refl _, rfl⟩ ?_ ?_
          · rintro j env nxt h1 h2 ⟨ks, num, o, hn, rfl⟩ hx
            walk_at "Ddl"
            refine ⟨⟨⟨_, rfl⟩, by first | decide | omega⟩, ?_⟩; rintro _ _ ⟨ks2, d, rfl, rfl, hd0, hd1⟩; walk_at "Ddl"
            exact hx _ ⟨ks2, num * 1000 + d, _, by omega, rfl⟩
          · rintro env ⟨ks, num, o, hn, rfl⟩
            walk_at "Ddl"
            exact ⟨ks, num, rfl, rfl, hn⟩
        refine ifb_dec (fun e6 => ?_) (fun e6 => ?_)
        · (conv => whnf); refine ifb_t ?_
          exact big _ _ rfl
        · walk_at "Ddl"
          refine ifb_dec (fun e7 => ?_) (fun e7 => ?_)
          · exact big _ _ rfl
          · exact neg _ rfl (fun z => by subst z; exact e7 rfl)
  · exact h.elim
theorem cut {u v : WS} {env : DEnv} {K : Kt} (J : DEnv → Prop) (h1 : ∀ nxt, (∀ e, J e → nxt e) → u env { K with nx := nxt }) (h2 : ∀ e, J e → v e K) : cSeq u v env K := h1 _ h2
def sp_law_draws : FSpec where
  pre := fun ds => match ds with
    | [.rol xs, .int m] => IsInts xs ∧ xs.length ≤ 63 ∧ 0 ≤ m ∧ m ≤ 5000
    | _ => False
  post := fun ds r ds' => ds' = ds ∧ ∃ ns : List Int, r = .lst (ns.map D.int)
/-- slots: 0 script, 1 many, 2 cells, 3 rest, 4 draws, 5 k, 6 at, 7 mixed, 8 cell -/
def w_law_draws : WS :=
    (cSeq (cAsg 2 [0, 1] 2 (cLc [8] (iE (cVar 0)) (gN 2 [] 8) tTrue (cBi fInt (cCons (cVar 8) cNil))))
    (cSeq (cIte (cOp fEqS (cBi fLen (cCons (cVar 2) cNil)) (cC (.int 0)))
      (cEx (cMeth 2 fAppend (cCons (cC (.int 0)) cNil)))
      cNilS)
    (cSeq (cAsg 2 [0, 1] 3 (cBi fList (cCons (cVar 2) cNil)))
    (cSeq (cAsg 2 [0, 1] 4 (cLst cNil))
    (cSeq (cFor [0, 1] (iR1 (cVar 1)) (gN 2 [0, 1] 5)
      (cSeq (cAsg 2 [0, 1] 6 (cOp fMod (cVar 5) (cBi fLen (cCons (cVar 2) cNil))))
        (cIte (cOp fGe (cOp fIx (cVar 2) (cVar 6)) (cOp fPow (cC (.int 10)) (cC (.int 18))))
          (cSeq (cEx (cMeth 4 fAppend (cCons (cOp fMod (cBi fInt (cCons (cOp fIx (cVar 3) (cVar 6)) cNil)) (cC (.int 1000))) cNil)))
            (cSet 3 (cOp fFdiv (cOp fIx (cVar 3) (cVar 6)) (cC (.int 1000))) (cVar 6)))
          (cSeq (cAsg 2 [0, 1] 7 (cOp fMod (cBi fInt (cCons (cOp fAddG (cOp fAddG (cOp fMul (cOp fIx (cVar 2) (cVar 6)) (cC (.int 48271))) (cOp fMul (cVar 5) (cC (.int 69621)))) (cC (.int 11))) cNil)) (cC (.int 2147483647))))
            (cEx (cMeth 4 fAppend (cCons (cOp fMod (cBi fInt (cCons (cOp fAddG (cOp fAddG (cOp fMul (cVar 7) (cVar 7)) (cOp fMul (cC (.int 3)) (cVar 7))) (cVar 5)) cNil)) (cC (.int 1000003))) cNil)))))))
    (cSeq (cEx (cMeth 4 fReverse cNil))
    (cRet 2 (cVar 4))))))))
theorem atI_lt {α : Type} {xs : List α} {j : Int} (h0 : 0 ≤ j) (h1 : j < xs.length) : ∃ (h : j.toNat < xs.length), atI xs j = some xs[j.toNat] := by
  have h : j.toNat < xs.length := by omega
  refine ⟨h, ?_⟩
  have := atI_nat (xs := xs) (j := j.toNat) (v := xs[j.toNat]) (List.getElem?_eq_getElem h)
  rwa [Int.toNat_of_nonneg h0] at this
theorem atI_map {α : Type} {f : α → D} {xs : List α} {j : Int} (h0 : 0 ≤ j) (h1 : j < xs.length) : ∃ v, v ∈ xs ∧ atI (xs.map f) j = some (f v) := by
  obtain ⟨h, e⟩ := atI_lt (xs := xs.map f) h0 (by simpa using h1)
  have h' : j.toNat < xs.length := by omega
  exact ⟨xs[j.toNat], List.getElem_mem h', by rw [e]; simp⟩
theorem ixN_lt {n : Nat} {j : Int} (h0 : 0 ≤ j) (h1 : j < n) : ixN n j = some j.toNat := by
  unfold ixN
  rw [if_pos h0, if_pos h1]
theorem pure_law_draws : ∀ ds, ds.length = 2 → sp_law_draws.pre ds → w_law_draws (env0 ds 7) { nx := fun e => sp_law_draws.post ds .non (outs e 2), rt := fun d e => sp_law_draws.post ds d (outs e 2) } := by
  intro ds _ h
  unfold sp_law_draws at h
  dsimp only at h
  split at h
  · obtain ⟨⟨ns, rfl⟩, hlen, hm0, hm1⟩ := h
    rename_i m _
    walk_at "Ddl"
    have hlen : ns.length ≤ 63 := by simpa using hlen
    refine lcGo_map (fun x => x) _ (List.map D.int ns) ?_ ?_
    · rintro x nxt acc hx hn
      obtain ⟨i, _, rfl⟩ := List.mem_map.mp hx
      walk_at "Ddl"
      exact hn
    · refine ⟨trivial, rfl, ?_⟩
      rw [List.map_id']
      dsimp only
      refine cut (fun e => ∃ cs : List Int, cs ≠ [] ∧ cs.length ≤ 63 ∧ e = [some (D.rol (ns.map D.int)), some (D.int m), some (D.lst (cs.map D.int)), none, none, none, none, none, none]) (fun nxt hn => ?_) ?_
      · walk_at "Ddl"
        refine ifb_dec (fun e => ?_) (fun e => ?_)
        · walk_at "Ddl"
          refine hn _ ⟨[0], by simp, by simp, ?_⟩
          have : ns = [] := by
            cases ns with
            | nil => rfl
            | cons a b => simp at e; omega
          subst this
          rfl
        · walk_at "Ddl"
          refine hn _ ⟨ns, fun z => ?_, hlen, rfl⟩
          subst z
          exact e rfl
      · rintro e ⟨cs, hne, hlc, rfl⟩
        have hpos := List.length_pos_iff.mpr hne
        walk_at "Ddl"
        refine loop_rng (fun j e => ∃ (rs : List Int) (dr : List Int) (o5 o6 o7 : Option D), (rs.length = cs.length ∧ (dr.length : Int) = j) ∧ e = [some (D.rol (ns.map D.int)), some (D.int m), some (D.lst (cs.map D.int)), some (D.lst (rs.map D.int)), some (D.lst (dr.map D.int)), o5, o6, o7, none]) ⟨cs, [], none, none, none, ⟨rfl, rfl⟩, rfl⟩ ?_ ?_
        · rintro j env nxt hj0 hj1 ⟨rs, dr, o5, o6, o7, ⟨hrl, hdl⟩, rfl⟩ hx
          have hpi : (0:Int) < cs.length := by omega
          have hm0 := Int.emod_nonneg j (show (cs.length : Int) ≠ 0 by omega)
          have hm1 := Int.emod_lt_of_pos j hpi
          obtain ⟨c, _, ec⟩ := atI_map (f := D.int) (xs := cs) hm0 hm1
          obtain ⟨r, _, er⟩ := atI_map (f := D.int) (xs := rs) hm0 (by omega)
          have ei : ixN (List.map D.int rs).length (j % (cs.length : Int)) = some (j % (cs.length : Int)).toNat := ixN_lt hm0 (by simp; omega)
          walk_at "Ddl"
          simp only [List.length_map]
          walk_at "Ddl"
          rw [ec]
          walk_at "Ddl"
          refine ifb_dec (fun e => ?_) (fun e => ?_)
          · walk_at "Ddl"
            rw [er]
            walk_at "Ddl"
            rw [er]
            walk_at "Ddl"
            rw [ei]
            walk_at "Ddl"
            exact hx _ ⟨rs.set (j % (cs.length : Int)).toNat (r / 1000), dr ++ [r % 1000], _, _, _, ⟨by simpa using hrl, by simp; omega⟩, by (first | rfl | (simp only [List.map_append, List.map_set, List.map_cons, List.map_nil]; done) | (simp only [List.map_append, List.map_set, List.map_cons, List.map_nil]; rfl))⟩
          · walk_at "Ddl"
            rw [ec]
            walk_at "Ddl"
            exact hx _ ⟨rs, dr ++ [_], _, _, _, ⟨hrl, by simp; omega⟩, by (first | rfl | (simp only [List.map_append, List.map_set, List.map_cons, List.map_nil]; done) | (simp only [List.map_append, List.map_set, List.map_cons, List.map_nil]; rfl))⟩
        · rintro env ⟨rs, dr, o5, o6, o7, ⟨hrl, hdl⟩, rfl⟩
          walk_at "Ddl"
          exact ⟨dr.reverse, by simp⟩
  · exact h.elim
end DL

namespace DL
open PySem PySem.Spec PyProof.Rows L2
theorem SpOk.mono {c c' : Int} (h : c ≤ c') : ∀ {lo : Int} {s : Sp2}, SpOk c lo s → SpOk c' lo s
  | _, [], _ => trivial
  | _, (a, b) :: r, ⟨h1, h2, h3, h4⟩ => ⟨h1, h2, by omega, SpOk.mono h h4⟩
theorem SpOk.snoc {c : Int} : ∀ {lo : Int} {s : Sp2} {a b : Int}, SpOk c lo (s ++ [(a, b)]) ↔ SpOk c lo s ∧ lo ≤ a ∧ (∀ q ∈ s, q.2 < a) ∧ a < b ∧ b ≤ c
  | lo, [], a, b => by simp [SpOk]
  | lo, (x, y) :: r, a, b => by
    simp only [List.cons_append, SpOk, SpOk.snoc (lo := y + 1) (s := r), List.forall_mem_cons]
    constructor
    · rintro ⟨h1, h2, h3, h4, h5, h6, h7, h8⟩
      exact ⟨⟨h1, h2, h3, h4⟩, by omega, ⟨by omega, h6⟩, h7, h8⟩
    · rintro ⟨⟨h1, h2, h3, h4⟩, h5, ⟨h6, h7⟩, h8, h9⟩
      exact ⟨h1, h2, h3, h4, by omega, h7, h8, h9⟩
theorem SpOk.le {c : Int} : ∀ {lo : Int} {s : Sp2}, SpOk c lo s → ∀ q ∈ s, lo ≤ q.1 ∧ q.1 < q.2 ∧ q.2 ≤ c
  | _, [], _, q, h => by simp at h
  | lo, (a, b) :: r, ⟨h1, h2, h3, h4⟩, q, h => by
    rcases List.mem_cons.mp h with rfl | h
    · exact ⟨h1, h2, h3⟩
    · have := SpOk.le h4 q h
      exact ⟨by omega, this.2⟩
local macro_rules | `(tactic| walk_at "Ddl") => `(tactic| ((conv => whnf); (repeat ((first | refine And.intro rfl ?_ | refine And.intro trivial ?_ | refine And.intro ⟨rfl, trivial⟩ ?_ | refine And.intro ⟨rfl, rfl, trivial⟩ ?_ | refine ifb_t ?_ | refine ifb_f ?_ | refine ifb_nr ?_ | refine ifb_er ?_ | refine And.intro (by first | decide | omega | (unfold CMul; omega) | (unfold CDiv; omega) | (unfold CPow; decide) | (exact cpow1 (by omega) (by omega)) | (exact cpow1 (by dsimp only; omega) (by dsimp only; omega)) | (simp only [rngD_len, List.length_replicate, List.length_map, List.length_append, List.length_cons, List.length_nil, List.length_set] at *; omega)) ?_); conv => whnf))))
theorem rng_mem {lo : Int} : ∀ {n : Nat} {d : D}, d ∈ rngD lo n → ∃ i, d = .int i ∧ lo ≤ i ∧ i < lo + n
  | 0, d, h => by simp [rngD] at h
  | n + 1, d, h => by
    simp only [rngD, List.mem_cons] at h
    rcases h with rfl | h
    · exact ⟨lo, rfl, Int.le_refl _, by omega⟩
    · obtain ⟨i, rfl, h1, h2⟩ := rng_mem h
      exact ⟨i, rfl, by omega, by omega⟩
theorem map_const {α β : Type} (b : β) : ∀ xs : List α, xs.map (fun _ => b) = List.replicate xs.length b
  | [] => rfl
  | x :: r => by rw [List.map_cons, map_const b r]; rfl
end DL

namespace DL
open PySem PySem.Spec PyProof.Rows L2
theorem LsOk.snoc {c : Int} : ∀ {lo : Int} {ls : List Ln} {a : Int} {s : Sp2}, LsOk c lo ls → lo < a → (∀ l ∈ ls, l.1 < a) → SpOk c 0 s → LsOk c lo (ls ++ [(a, s)])
  | lo, [], a, s, _, h1, h2, h3 => ⟨h1, h3, trivial⟩
  | lo, (x, y) :: r, a, s, ⟨g1, g2, g3⟩, h1, h2, h3 => ⟨g1, g2, LsOk.snoc g3 (h2 (x, y) (by simp)) (fun l hl => h2 l (by simp [hl])) h3⟩
theorem TbOk.snoc {c : Int} {ls : List Ln} {a : Int} {s : Sp2} (h : TbOk c ls) (h2 : ∀ l ∈ ls, l.1 < a) (h3 : SpOk c 0 s) : TbOk c (ls ++ [(a, s)]) := by
  obtain ⟨hc, sp, r, rfl, h4, h5⟩ := h
  refine ⟨hc, sp, r ++ [(a, s)], rfl, h4, LsOk.snoc h5 (h2 (0, sp) (by simp)) (fun l hl => h2 l (by simp [hl])) h3⟩
theorem TbOk.one {c : Int} {s : Sp2} (hc : 1 ≤ c ∧ c ≤ 60) (h : SpOk c 0 s) : TbOk c [(0, s)] := ⟨hc, s, [], rfl, h, trivial⟩
local macro_rules | `(tactic| walk_at "Ddl") => `(tactic| ((conv => whnf); (repeat ((first | refine And.intro rfl ?_ | refine And.intro trivial ?_ | refine And.intro ⟨rfl, trivial⟩ ?_ | refine And.intro ⟨rfl, rfl, trivial⟩ ?_ | refine ifb_t ?_ | refine ifb_f ?_ | refine ifb_nr ?_ | refine ifb_er ?_ | refine And.intro (by first | decide | omega | (unfold CMul; omega) | (unfold CDiv; omega) | (unfold CPow; decide) | (exact cpow1 (by omega) (by omega)) | (exact cpow1 (by dsimp only; omega) (by dsimp only; omega)) | (simp only [rngD_len, List.length_replicate, List.length_map, List.length_append, List.length_cons, List.length_nil, List.length_set] at *; omega)) ?_); conv => whnf))))
/-! equal data are the same -/
def fitD : Nat → D → Bool
  | _, .non => true
  | _, .bl _ => true
  | _, .int _ => true
  | _, .str _ => true
  | 0, _ => false
  | n + 1, .tup xs => decide (xs.length ≤ 900000) && (xs.all (fun d => !isL d && fitD n d))
  | n + 1, .lst xs => decide (xs.length ≤ 900000) && (xs.all (fun d => !isL d && fitD n d))
  | n + 1, .tpd xs => decide (xs.length ≤ 900000) && (xs.all (fun d => !isL d && fitD n d))
  | _ + 1, .rol _ => false
  | _ + 1, .rod _ _ => false
  | _ + 1, .obj _ _ => false
  | _ + 1, .rdk _ _ => false
theorem flatA_rep : ∀ n : Nat, flatA (List.replicate n (D.bl true)) = true
  | 0 => rfl
  | n + 1 => by rw [List.replicate_succ]; simp only [flatA, flatD, flatA_rep n]; rfl
theorem any_rep : ∀ n : Nat, ((List.replicate n (D.bl true)).any fun y => eqF y (D.bl false)) = false
  | 0 => rfl
  | n + 1 => by rw [List.replicate_succ, List.any_cons, any_rep n]; rfl
def spn_law_same : Nat → FSpec
  | 0 => ⟨fun _ => False, fun _ _ _ => False⟩
  | n + 1 => ⟨fun ds => ∃ d, ds = [d, d] ∧ fitD n d = true, fun ds r ds' => r = .bl true ∧ ds' = ds⟩
abbrev sp_law_same : FSpec := spn_law_same 8
/-- slots: 0 actual, 1 due, 2 k -/
def w_law_same (n : Nat) : WS :=
    (cSeq (cIte (cIsi2 .tuple .list (cVar 1))
      (cSeq (cIte (cOr (cOp fNeS (cIsi .tuple (cVar 0)) (cIsi .tuple (cVar 1))) (cOp fNeS (cIsi .list (cVar 0)) (cIsi .list (cVar 1))))
          (cRet 2 (cC (.bl false)))
          cNilS)
        (cSeq (cIte (cOp fNeS (cBi fLen (cCons (cVar 0) cNil)) (cBi fLen (cCons (cVar 1) cNil)))
          (cRet 2 (cC (.bl false)))
          cNilS)
        (cRet 2 (cOp (fIn true) (cC (.bl false)) (cLc [2] (iR1 (cBi fLen (cCons (cVar 1) cNil))) (gN 2 [] 2) tTrue (cCallN 2 (spn_law_same n) (cCons (cOp fIx (cVar 0) (cVar 2)) (cCons (cOp fIx (cVar 1) (cVar 2)) cNil))))))))
      cNilS)
    (cSeq (cIte (cOr (cOp fNeS (cIsi .bool (cVar 0)) (cIsi .bool (cVar 1))) (cOp fNeS (cIsi .int (cVar 0)) (cIsi .int (cVar 1))))
      (cRet 2 (cC (.bl false)))
      cNilS)
    (cSeq (cIte (cOr (cOp fNeS (cIsi .str (cVar 0)) (cIsi .str (cVar 1))) (cOp fNeS (cUn (fIsN false) (cVar 0)) (cUn (fIsN false) (cVar 1))))
      (cRet 2 (cC (.bl false)))
      cNilS)
    (cRet 2 (cOp fEqS (cVar 0) (cVar 1))))))
theorem pure_law_same : ∀ n, ∀ ds, ds.length = 2 → (spn_law_same (n + 1)).pre ds → w_law_same n (env0 ds 1) { nx := fun e => (spn_law_same (n + 1)).post ds .non (outs e 2), rt := fun d e => (spn_law_same (n + 1)).post ds d (outs e 2) } := by
  rintro n ds _ ⟨d, rfl, hf⟩
  cases d with
  | non => walk_at "Ddl"; rfl
  | bl b => walk_at "Ddl"; simp; rfl
  | int i => walk_at "Ddl"; simp; rfl
  | str x => walk_at "Ddl"; simp; rfl
  | tup xs =>
    obtain ⟨n, rfl⟩ : ∃ m, n = m + 1 := by
      cases n with
      | zero => simp [fitD] at hf
      | succ m => exact ⟨m, rfl⟩
    simp only [fitD, Bool.and_eq_true, decide_eq_true_eq, List.all_eq_true] at hf
    obtain ⟨hl, hf⟩ := hf
    walk_at "Ddl"
    refine lcGo_map (fun _ => .bl true) _ _ ?_ ?_
    · intro x nxt acc hx hn
      obtain ⟨i, rfl, h1, h2⟩ := rng_mem hx
      obtain ⟨h, ea⟩ := atI_lt (xs := xs) (j := i) h1 (by omega)
      walk_at "Ddl"
      rw [ea]
      walk_at "Ddl"
      rw [ea]
      walk_at "Ddl"
      have hd := hf _ (List.getElem_mem h)
      have hL : isL xs[i.toNat] = false := by simpa using hd.1
      refine ⟨⟨_, rfl, hd.2⟩, ?_⟩
      rintro _ _ ⟨rfl, rfl⟩
      walk_at "Ddl"
      exact hn
    · rw [map_const]
      refine ⟨trivial, ?_⟩
      walk_at "Ddl"
      refine ⟨flatA_rep _, ?_⟩
      dsimp only
      rw [any_rep]
      walk_at "Ddl"
      rfl
  | lst xs =>
    obtain ⟨n, rfl⟩ : ∃ m, n = m + 1 := by
      cases n with
      | zero => simp [fitD] at hf
      | succ m => exact ⟨m, rfl⟩
    simp only [fitD, Bool.and_eq_true, decide_eq_true_eq, List.all_eq_true] at hf
    obtain ⟨hl, hf⟩ := hf
    walk_at "Ddl"
    refine lcGo_map (fun _ => .bl true) _ _ ?_ ?_
    · intro x nxt acc hx hn
      obtain ⟨i, rfl, h1, h2⟩ := rng_mem hx
      obtain ⟨h, ea⟩ := atI_lt (xs := xs) (j := i) h1 (by omega)
      walk_at "Ddl"
      rw [ea]
      walk_at "Ddl"
      rw [ea]
      walk_at "Ddl"
      have hd := hf _ (List.getElem_mem h)
      have hL : isL xs[i.toNat] = false := by simpa using hd.1
      refine ⟨⟨_, rfl, hd.2⟩, ?_⟩
      rintro _ _ ⟨rfl, rfl⟩
      walk_at "Ddl"
      exact hn
    · rw [map_const]
      refine ⟨trivial, ?_⟩
      walk_at "Ddl"
      refine ⟨flatA_rep _, ?_⟩
      dsimp only
      rw [any_rep]
      walk_at "Ddl"
      rfl
  | tpd xs =>
    obtain ⟨n, rfl⟩ : ∃ m, n = m + 1 := by
      cases n with
      | zero => simp [fitD] at hf
      | succ m => exact ⟨m, rfl⟩
    simp only [fitD, Bool.and_eq_true, decide_eq_true_eq, List.all_eq_true] at hf
    obtain ⟨hl, hf⟩ := hf
    walk_at "Ddl"
    refine lcGo_map (fun _ => .bl true) _ _ ?_ ?_
    · intro x nxt acc hx hn
      obtain ⟨i, rfl, h1, h2⟩ := rng_mem hx
      obtain ⟨h, ea⟩ := atI_lt (xs := xs) (j := i) h1 (by omega)
      walk_at "Ddl"
      rw [ea]
      walk_at "Ddl"
      rw [ea]
      walk_at "Ddl"
      have hd := hf _ (List.getElem_mem h)
      have hL : isL xs[i.toNat] = false := by simpa using hd.1
      refine ⟨⟨_, rfl, hd.2⟩, ?_⟩
      rintro _ _ ⟨rfl, rfl⟩
      walk_at "Ddl"
      exact hn
    · rw [map_const]
      refine ⟨trivial, ?_⟩
      walk_at "Ddl"
      refine ⟨flatA_rep _, ?_⟩
      dsimp only
      rw [any_rep]
      walk_at "Ddl"
      rfl
  | rol xs => cases n <;> simp [fitD] at hf
  | rod _ _ => cases n <;> simp [fitD] at hf
  | obj _ _ => cases n <;> simp [fitD] at hf
  | rdk _ _ => cases n <;> simp [fitD] at hf
end DL

set_option maxHeartbeats 4000000
--REN _law_same=law_same4
namespace DL
open PySem PySem.Spec PyProof.Rows L2
/-! ### whether two data are the same -/
local macro_rules | `(tactic| walk_at "Ddl") => `(tactic| ((conv => whnf); (repeat ((first | refine And.intro rfl ?_ | refine And.intro trivial ?_ | refine And.intro ⟨rfl, trivial⟩ ?_ | refine And.intro ⟨rfl, rfl, trivial⟩ ?_ | refine ifb_t ?_ | refine ifb_f ?_ | refine ifb_nr ?_ | refine ifb_er ?_ | refine And.intro (by first | decide | omega | (unfold CMul; omega) | (unfold CDiv; omega) | (unfold CPow; decide) | (exact cpow1 (by omega) (by omega)) | (exact cpow1 (by dsimp only; omega) (by dsimp only; omega)) | (simp only [rngD_len, List.length_replicate, List.length_map, List.length_append, List.length_cons, List.length_nil, List.length_set] at *; omega)) ?_); conv => whnf))))
end DL

set_option maxHeartbeats 4000000
namespace DL
open PySem PySem.Spec PyProof.Rows L2
def encO : Option Int → D
  | none => .non
  | some i => .int i
theorem encO_inj : ∀ {a b : Option Int}, encO a = encO b → a = b
  | none, none, _ => rfl
  | some _, some _, h => by cases h; rfl
  | none, some _, h => by cases h
  | some _, none, h => by cases h
def sp_law_pick : FSpec where
  pre := fun ds => ∃ (ns : List Int) (s : D) (xs : List D), ds = [.lst (ns.map D.int), s] ∧ seqD s = some xs ∧ 0 < xs.length ∧ xs.length ≤ 1000000000000
  post := fun ds r ds' => ∀ l s xs, ds = [l, s] → seqD s = some xs → ∃ ns : List Int, r ∈ xs ∧ ds' = [.lst (ns.map D.int), s]
/-- slots: 0 draws, 1 row -/
def w_law_pick : WS :=
    (cRet 2 (cOp fIx (cVar 1) (cCallN 2 sp_law_take (cCons (cVar 0) (cCons (cBi fLen (cCons (cVar 1) cNil)) cNil)))))
local macro_rules | `(tactic| walk_at "Ddl") => `(tactic| ((conv => whnf); (repeat ((first | refine And.intro rfl ?_ | refine And.intro trivial ?_ | refine And.intro ⟨rfl, trivial⟩ ?_ | refine And.intro ⟨rfl, rfl, trivial⟩ ?_ | refine ifb_t ?_ | refine ifb_f ?_ | refine ifb_nr ?_ | refine ifb_er ?_ | refine And.intro (by first | decide | omega | (unfold CMul; omega) | (unfold CDiv; omega) | (unfold CPow; decide) | (exact cpow1 (by omega) (by omega)) | (exact cpow1 (by dsimp only; omega) (by dsimp only; omega)) | (simp only [rngD_len, List.length_replicate, List.length_map, List.length_append, List.length_cons, List.length_nil, List.length_set] at *; omega)) ?_); conv => whnf))))
theorem pure_law_pick : ∀ ds, ds.length = 2 → sp_law_pick.pre ds → w_law_pick (env0 ds 0) { nx := fun e => sp_law_pick.post ds .non (outs e 2), rt := fun d e => sp_law_pick.post ds d (outs e 2) } := by
  rintro ds _ ⟨ns, s, xs, rfl, hs, h0, h1⟩
  cases s with
  | lst ys =>
    cases hs
    walk_at "Ddl"
    refine ⟨⟨⟨_, rfl⟩, by omega⟩, ?_⟩
    rintro _ _ ⟨ns1, v, rfl, rfl, h2, h3⟩
    obtain ⟨h, ea⟩ := atI_lt (xs := xs) h2 h3
    walk_at "Ddl"
    rw [ea]
    walk_at "Ddl"
    intro l s xs' e e2
    simp only [List.cons.injEq, and_true] at e
    obtain ⟨_, rfl⟩ := e
    cases e2
    exact ⟨ns1, List.getElem_mem h, rfl⟩
  | tup ys =>
    cases hs
    walk_at "Ddl"
    refine ⟨⟨⟨_, rfl⟩, by omega⟩, ?_⟩
    rintro _ _ ⟨ns1, v, rfl, rfl, h2, h3⟩
    obtain ⟨h, ea⟩ := atI_lt (xs := xs) h2 h3
    walk_at "Ddl"
    rw [ea]
    walk_at "Ddl"
    intro l s xs' e e2
    simp only [List.cons.injEq, and_true] at e
    obtain ⟨_, rfl⟩ := e
    cases e2
    exact ⟨ns1, List.getElem_mem h, rfl⟩
  | tpd ys =>
    cases hs
    walk_at "Ddl"
    refine ⟨⟨⟨_, rfl⟩, by omega⟩, ?_⟩
    rintro _ _ ⟨ns1, v, rfl, rfl, h2, h3⟩
    obtain ⟨h, ea⟩ := atI_lt (xs := xs) h2 h3
    walk_at "Ddl"
    rw [ea]
    walk_at "Ddl"
    intro l s xs' e e2
    simp only [List.cons.injEq, and_true] at e
    obtain ⟨_, rfl⟩ := e
    cases e2
    exact ⟨ns1, List.getElem_mem h, rfl⟩
  | rol ys =>
    cases hs
    walk_at "Ddl"
    refine ⟨⟨⟨_, rfl⟩, by omega⟩, ?_⟩
    rintro _ _ ⟨ns1, v, rfl, rfl, h2, h3⟩
    obtain ⟨h, ea⟩ := atI_lt (xs := xs) h2 h3
    walk_at "Ddl"
    rw [ea]
    walk_at "Ddl"
    intro l s xs' e e2
    simp only [List.cons.injEq, and_true] at e
    obtain ⟨_, rfl⟩ := e
    cases e2
    exact ⟨ns1, List.getElem_mem h, rfl⟩
  | _ => cases hs
end DL

set_option maxHeartbeats 4000000
namespace DL
open PySem PySem.Spec PyProof.Rows L2
/-! ### words -/
def okC (c : Nat) : Bool := decide (97 ≤ c) && decide (c ≤ 122)
/-- a word, at most 100 signs long (the words that are drawn are) -/
def isW (z : Str) : Bool := (!(z.cps.toList.isEmpty) && z.cps.toList.all okC) && decide (z.cps.toList.length ≤ 100)
def alpha : Str := PySem.Str.ofString "abcdefghijklmnopqrstuvwxyz"
theorem alpha_list : alpha.cps.toList = (List.range 26).map (97 + ·) := by decide
theorem mem_alpha (c : Nat) : decide (c ∈ alpha.cps.toList) = okC c := by
  rw [alpha_list]
  unfold okC
  rw [Bool.eq_iff_iff]
  simp only [decide_eq_true_eq, Bool.and_eq_true, List.mem_map, List.mem_range]
  constructor
  · rintro ⟨i, h, rfl⟩
    omega
  · rintro ⟨h1, h2⟩
    exact ⟨c - 97, by omega, by omega⟩
theorem len_list (z : Str) : z.length = z.cps.toList.length := by simp [Str.length]
def sumL (ws : List Str) : Nat := (ws.map (·.length)).sum
theorem sumL_snoc (ws : List Str) (w : Str) : sumL (ws ++ [w]) = sumL ws + w.length := by simp [sumL]
theorem text_at {z : Str} {v : Int} (h0 : 0 ≤ v) (h : v < z.length) : ∃ c, L2.atI z.cps.toList v = some c ∧ c ∈ z.cps.toList := by
  obtain ⟨h1, e⟩ := atI_lt (xs := z.cps.toList) (j := v) h0 (by rw [← len_list]; exact h)
  exact ⟨_, e, List.getElem_mem h1⟩
theorem sumL_ones : ∀ cs : List Nat, sumL (cs.map fun c => (⟨#[c]⟩ : Str)) = cs.length
  | [] => rfl
  | c :: r => by
    have := sumL_ones r
    simp only [sumL, List.map_cons, List.sum_cons, List.length_cons] at this ⊢
    rw [this]
    show 1 + _ = _
    omega
theorem join_ones : ∀ cs : List Nat, (Txt.join (PySem.Str.ofString "") (cs.map fun c => (⟨#[c]⟩ : Str))).cps.toList = cs := by
  intro cs
  have e : Txt.join (PySem.Str.ofString "") (cs.map fun c => (⟨#[c]⟩ : Str)) = Str.join (PySem.Str.ofString "") (cs.map fun c => (⟨#[c]⟩ : Str)) := PySem.StrLaws.glued_eq_join _ _
  rw [e]
  have h0 : (PySem.Str.ofString "").cps.toList = [] := by decide
  induction cs with
  | nil => rfl
  | cons c r ih =>
    cases r with
    | nil => rfl
    | cons d r =>
      have := ih (PySem.StrLaws.glued_eq_join _ _)
      show ((⟨#[c]⟩ : Str) ++ PySem.Str.ofString "" ++ Str.join (PySem.Str.ofString "") ((d :: r).map fun c => (⟨#[c]⟩ : Str))).cps.toList = _
      rw [Str.cps_append, Str.cps_append, Array.toList_append, Array.toList_append, h0, this]
      rfl
theorem alpha_ok {v : Int} (h0 : 0 ≤ v) (h : v < 26) : ∃ c, L2.atI alpha.cps.toList v = some c ∧ okC c = true := by
  have hl : alpha.length = 26 := by decide
  obtain ⟨c, e, hc⟩ := text_at (z := alpha) h0 (by rw [hl]; exact h)
  refine ⟨c, e, ?_⟩
  rw [← mem_alpha c]
  exact decide_eq_true hc
theorem ifb_nq {p : Prop} {_ : Decidable p} {A B : Prop} (h : ¬ p) (hb : B) : ifb (.bl (decide p)) A B := by
  rw [decide_eq_false h]; exact ifb_f hb
theorem flatA_str : ∀ ws : List Str, flatA (ws.map D.str) = true
  | [] => rfl
  | _ :: r => flatA_str r
theorem any_str (z : Str) : ∀ ws : List Str, ((ws.map D.str).any fun y => eqF y (D.str z)) = decide (z ∈ ws)
  | [] => rfl
  | w :: r => by
    rw [List.map_cons, List.any_cons, any_str z r]
    show (w == z || decide (z ∈ r)) = _
    by_cases h : w = z
    · subst h; simp
    · rw [beq_false_of_ne h, Bool.false_or]
      have : ¬ z = w := fun q => h q.symm
      simp [this]
/-! ### the order of texts -/
def slt (a b : Str) : Prop := a.cps.toList < b.cps.toList
theorem Str.ext' {a b : Str} (h : a.cps.toList = b.cps.toList) : a = b := by
  obtain ⟨⟨x⟩⟩ := a
  obtain ⟨⟨y⟩⟩ := b
  have : x = y := h
  rw [this]
instance (a b : Str) : Decidable (slt a b) := inferInstanceAs (Decidable (a.cps.toList < b.cps.toList))
theorem slt_trans {a b c : Str} (h : slt a b) (g : slt b c) : slt a c := List.lt_trans h g
theorem slt_irr (a : Str) : ¬ slt a a := List.lt_irrefl _
theorem slt_tri {a b : Str} (h : ¬ slt a b) (g : ¬ slt b a) : a = b := Str.ext' (List.le_antisymm (List.not_lt.mp g) (List.not_lt.mp h))
theorem slt_asymm {a b : Str} (h : slt a b) : ¬ slt b a := fun g => slt_irr a (slt_trans h g)
theorem sle_trans {a b c : Str} (h : ¬ slt b a) (g : ¬ slt c b) : ¬ slt c a := fun q => by
  by_cases e : slt a b
  · exact g (slt_trans q e)
  · rw [slt_tri e h] at q; exact g q
def SC (cs : List Str) : Prop := cs.Pairwise slt
theorem SC.nd {cs : List Str} (h : SC cs) : cs.Nodup := h.imp fun {a b} q e => by subst e; exact slt_irr _ q
theorem SC.sub {cs ds : List Str} (h : SC cs) (s : ds.Sublist cs) : SC ds := List.Pairwise.sublist s h
theorem SC.uniq : ∀ {a b : List Str}, SC a → SC b → (∀ x, x ∈ a ↔ x ∈ b) → a = b
  | [], [], _, _, _ => rfl
  | [], y :: r, _, _, h => by have := (h y).mpr (by simp); simp at this
  | x :: r, [], _, _, h => by have := (h x).mp (by simp); simp at this
  | x :: r, y :: s, ha, hb, h => by
    have ha' := List.pairwise_cons.mp ha
    have hb' := List.pairwise_cons.mp hb
    have e : x = y := by
      have h1 := (h x).mp (by simp)
      have h2 := (h y).mpr (by simp)
      rcases List.mem_cons.mp h1 with e | h1
      · exact e
      rcases List.mem_cons.mp h2 with e | h2
      · exact e.symm
      exact absurd (ha'.1 _ h2) (slt_asymm (hb'.1 _ h1))
    subst e
    rw [SC.uniq ha'.2 hb'.2 fun z => ?_]
    have hz := h z
    simp only [List.mem_cons] at hz
    constructor
    · intro q
      rcases hz.mp (.inr q) with e | g
      · subst e; exact absurd (ha'.1 _ q) (slt_irr _)
      · exact g
    · intro q
      rcases hz.mpr (.inr q) with e | g
      · subst e; exact absurd (hb'.1 _ q) (slt_irr _)
      · exact g
theorem risingS_pw : ∀ {r : List Str} {p : Str}, PyProof.Rows.risingS p r = true → (p :: r).Pairwise fun a b => ¬ slt b a
  | [], p, _ => by simp
  | x :: r, p, h => by
    simp only [PyProof.Rows.risingS, Bool.and_eq_true, Bool.not_eq_true'] at h
    obtain ⟨h1, h2⟩ := h
    have ih := risingS_pw h2
    have h1 : ¬ slt x p := by rw [ltCps_eq, decide_eq_false_iff_not] at h1; exact h1
    refine List.pairwise_cons.mpr ⟨fun y hy => ?_, ih⟩
    rcases List.mem_cons.mp hy with rfl | hy
    · exact h1
    · exact sle_trans h1 ((List.pairwise_cons.mp ih).1 y hy)
theorem sortedS_pw {l : List Str} (h : sortedS l = true) : l.Pairwise fun a b => ¬ slt b a := by
  cases l with
  | nil => exact .nil
  | cons x r => exact risingS_pw h
theorem SC.of_sorted {l : List Str} (h : sortedS l = true) (n : l.Nodup) : SC l := by
  have h1 := sortedS_pw h
  have h2 := h1.and n
  exact h2.imp fun {a b} q => by
    by_cases e : slt a b
    · exact e
    · exact absurd (slt_tri e q.1) q.2
/-- the words in order, each once -/
def insS (x : Str) : List Str → List Str
  | [] => [x]
  | y :: r => if slt x y then x :: y :: r else if slt y x then y :: insS x r else y :: r
def ordS : List Str → List Str
  | [] => []
  | x :: r => insS x (ordS r)
theorem mem_insS {x z : Str} : ∀ {l : List Str}, z ∈ insS x l ↔ z = x ∨ z ∈ l
  | [] => by simp [insS]
  | y :: r => by
    unfold insS
    by_cases h : slt x y
    · rw [if_pos h]; simp
    · rw [if_neg h]
      by_cases g : slt y x
      · rw [if_pos g, List.mem_cons, mem_insS (l := r), List.mem_cons]
        constructor
        · rintro (a | a | a)
          · exact .inr (.inl a)
          · exact .inl a
          · exact .inr (.inr a)
        · rintro (a | a | a)
          · exact .inr (.inl a)
          · exact .inl a
          · exact .inr (.inr a)
      · rw [if_neg g, slt_tri h g]
        simp
theorem mem_ordS {z : Str} : ∀ {l : List Str}, z ∈ ordS l ↔ z ∈ l
  | [] => by simp [ordS]
  | x :: r => by
    show z ∈ insS x (ordS r) ↔ _
    rw [mem_insS, mem_ordS (l := r), List.mem_cons]
theorem SC.ins {x : Str} : ∀ {l : List Str}, SC l → SC (insS x l)
  | [], _ => by simp [insS, SC]
  | y :: r, h => by
    have h' := List.pairwise_cons.mp h
    unfold insS
    by_cases g : slt x y
    · rw [if_pos g]
      refine List.pairwise_cons.mpr ⟨fun z hz => ?_, h⟩
      rcases List.mem_cons.mp hz with rfl | hz
      · exact g
      · exact slt_trans g (h'.1 z hz)
    · rw [if_neg g]
      by_cases k : slt y x
      · rw [if_pos k]
        refine List.pairwise_cons.mpr ⟨fun z hz => ?_, SC.ins h'.2⟩
        rcases mem_insS.mp hz with rfl | hz
        · exact k
        · exact h'.1 z hz
      · rw [if_neg k]; exact h
theorem SC.ord : ∀ l : List Str, SC (ordS l)
  | [] => .nil
  | _ :: r => (SC.ord r).ins
theorem ordS_eq {l cs : List Str} (h : SC cs) (m : ∀ x, x ∈ l ↔ x ∈ cs) : ordS l = cs := SC.uniq (SC.ord l) h fun x => mem_ordS.trans (m x)
theorem ordS_self {cs : List Str} (h : SC cs) : ordS cs = cs := ordS_eq h fun _ => Iff.rfl
theorem insS_len {x : Str} : ∀ {l : List Str}, (insS x l).length ≤ l.length + 1
  | [] => by simp [insS]
  | y :: r => by
    unfold insS
    split
    · simp
    · split
      · have := insS_len (x := x) (l := r)
        simp only [List.length_cons]; omega
      · simp
theorem ordS_len : ∀ l : List Str, (ordS l).length ≤ l.length
  | [] => by simp [ordS]
  | x :: r => by
    have h := ordS_len r
    have g := insS_len (x := x) (l := ordS r)
    show (insS x (ordS r)).length ≤ r.length + 1
    omega
end DL

set_option maxHeartbeats 400000
namespace DL
open PySem PySem.Spec PyProof.Rows L2
/-! ### questions -/
inductive Vv where | i (n : Int) | s (w : Str)
inductive Tm where | col (x : Str) | val (v : Vv)
inductive K2 where | both | either | unless | since | sincenot | until | untilnot
inductive K4 where | once | lately | soon | hence
inductive K3 where | sum | least | most
inductive KL where | linked | way
inductive Qn where
  | fact (n : Str) (ts : List Tm)
  | two (k : K2) (p q : Qn)
  | only (cs : List Str) (p : Qn)
  | whr (t : Str) (l r : Tm) (p : Qn)
  | shift (n : Int) (p : Qn)
  | look (k : K4) (w : Option Int) (p : Qn)
  | count (new : Str) (keep : List Str) (p : Qn)
  | total (k : K3) (new col : Str) (keep : List Str) (p : Qn)
  | link (k : KL) (x y : Str) (p : Qn)
def K2.s : K2 → Str
  | .both => PySem.Str.ofString "both" | .either => PySem.Str.ofString "either" | .unless => PySem.Str.ofString "unless" | .since => PySem.Str.ofString "since"
  | .sincenot => PySem.Str.ofString "sincenot" | .until => PySem.Str.ofString "until" | .untilnot => PySem.Str.ofString "untilnot"
def K4.s : K4 → Str
  | .once => PySem.Str.ofString "once" | .lately => PySem.Str.ofString "lately" | .soon => PySem.Str.ofString "soon" | .hence => PySem.Str.ofString "henceforth"
def K3.s : K3 → Str
  | .sum => PySem.Str.ofString "sum" | .least => PySem.Str.ofString "least" | .most => PySem.Str.ofString "most"
def KL.s : KL → Str
  | .linked => PySem.Str.ofString "linked" | .way => PySem.Str.ofString "way"
def encV : Vv → D
  | .i n => .int n
  | .s w => .str w
def encTm : Tm → D
  | .col x => .tup [.str (PySem.Str.ofString "col"), .str x]
  | .val v => .tup [.str (PySem.Str.ofString "value"), encV v]
def encC (cs : List Str) : D := .tup (cs.map D.str)
def encQ : Qn → D
  | .fact n ts => .tup [.str (PySem.Str.ofString "fact"), .str n, .tup (ts.map encTm)]
  | .two k p q => .tup [.str k.s, encQ p, encQ q]
  | .only cs p => .tup [.str (PySem.Str.ofString "only"), encC cs, encQ p]
  | .whr t l r p => .tup [.str (PySem.Str.ofString "where"), .str t, encTm l, encTm r, encQ p]
  | .shift n p => .tup [.str (PySem.Str.ofString "shift"), .int n, encQ p]
  | .look k w p => .tup [.str k.s, encO w, encQ p]
  | .count new keep p => .tup [.str (PySem.Str.ofString "count"), .str new, encC keep, encQ p]
  | .total k new col keep p => .tup [.str k.s, .str new, .str col, encC keep, encQ p]
  | .link k x y p => .tup [.str k.s, .str x, .str y, encQ p]
def kd : Qn → Str
  | .fact .. => PySem.Str.ofString "fact"
  | .two k .. => k.s
  | .only .. => PySem.Str.ofString "only"
  | .whr .. => PySem.Str.ofString "where"
  | .shift .. => PySem.Str.ofString "shift"
  | .look k .. => k.s
  | .count .. => PySem.Str.ofString "count"
  | .total k .. => k.s
  | .link k .. => k.s
def ix : Qn → Nat
  | .fact .. => 0 | .two .. => 1 | .only .. => 2 | .whr .. => 3 | .shift .. => 4 | .look .. => 5 | .count .. => 6 | .total .. => 7 | .link .. => 8
def clS (z : Str) : Nat :=
  if z = PySem.Str.ofString "fact" then 0 else if z ∈ [PySem.Str.ofString "both", PySem.Str.ofString "either", PySem.Str.ofString "unless", PySem.Str.ofString "since", PySem.Str.ofString "sincenot", PySem.Str.ofString "until", PySem.Str.ofString "untilnot"] then 1
  else if z = PySem.Str.ofString "only" then 2 else if z = PySem.Str.ofString "where" then 3 else if z = PySem.Str.ofString "shift" then 4
  else if z ∈ [PySem.Str.ofString "once", PySem.Str.ofString "lately", PySem.Str.ofString "soon", PySem.Str.ofString "henceforth"] then 5
  else if z = PySem.Str.ofString "count" then 6 else if z ∈ [PySem.Str.ofString "sum", PySem.Str.ofString "least", PySem.Str.ofString "most"] then 7 else 8
theorem cl2 (k : K2) : clS k.s = 1 := by cases k <;> decide
theorem cl4 (k : K4) : clS k.s = 5 := by cases k <;> decide
theorem cl3 (k : K3) : clS k.s = 7 := by cases k <;> decide
theorem clL (k : KL) : clS k.s = 8 := by cases k <;> decide
theorem cl_kd (q : Qn) : clS (kd q) = ix q := by
  cases q with
  | two k p q => exact cl2 k
  | look k w p => exact cl4 k
  | total k => exact cl3 k
  | link k => exact clL k
  | fact => exact (by decide : clS (PySem.Str.ofString "fact") = 0)
  | only => exact (by decide : clS (PySem.Str.ofString "only") = 2)
  | whr => exact (by decide : clS (PySem.Str.ofString "where") = 3)
  | shift => exact (by decide : clS (PySem.Str.ofString "shift") = 4)
  | count => exact (by decide : clS (PySem.Str.ofString "count") = 6)
theorem K2.inj {a b : K2} (h : a.s = b.s) : a = b := by cases a <;> cases b <;> first | rfl | exact absurd h (by decide)
theorem K4.inj {a b : K4} (h : a.s = b.s) : a = b := by cases a <;> cases b <;> first | rfl | exact absurd h (by decide)
theorem K3.inj {a b : K3} (h : a.s = b.s) : a = b := by cases a <;> cases b <;> first | rfl | exact absurd h (by decide)
theorem KL.inj {a b : KL} (h : a.s = b.s) : a = b := by cases a <;> cases b <;> first | rfl | exact absurd h (by decide)
theorem encV_inj {a b : Vv} (h : encV a = encV b) : a = b := by
  cases a <;> cases b <;> simp only [encV, D.int.injEq, D.str.injEq, reduceCtorEq] at h
  · rw [h]
  · rw [h]
theorem encTm_inj {a b : Tm} (h : encTm a = encTm b) : a = b := by
  cases a <;> cases b <;> simp only [encTm, D.tup.injEq, List.cons.injEq, D.str.injEq, and_true] at h
  · rw [h.2]
  · exact absurd h.1 (by decide)
  · exact absurd h.1 (by decide)
  · rw [encV_inj h.2]
theorem mapTm_inj {a b : List Tm} (h : a.map encTm = b.map encTm) : a = b := (List.map_inj_right fun _ _ h => encTm_inj h).mp h
theorem mapS_inj {a b : List Str} (h : a.map D.str = b.map D.str) : a = b := (List.map_inj_right fun _ _ h => by simpa using h).mp h
theorem encC_inj {a b : List Str} (h : encC a = encC b) : a = b := by
  simp only [encC, D.tup.injEq] at h
  exact mapS_inj h
theorem encQ_kd (q : Qn) : ∃ r, encQ q = .tup (.str (kd q) :: r) := by cases q <;> exact ⟨_, rfl⟩
theorem encQ_ix {a b : Qn} (h : encQ a = encQ b) : ix a = ix b := by
  obtain ⟨r, e⟩ := encQ_kd a
  obtain ⟨s, f⟩ := encQ_kd b
  rw [e, f] at h
  simp only [D.tup.injEq, List.cons.injEq, D.str.injEq] at h
  rw [← cl_kd, ← cl_kd, h.1]
theorem encQ_inj : ∀ {a b : Qn}, encQ a = encQ b → a = b
  | .fact n ts, b, h => by
    have hi := encQ_ix h
    cases b <;> simp only [ix] at hi <;> first | (exact absurd hi (by decide)) | skip
    simp only [encQ, D.tup.injEq, List.cons.injEq, D.str.injEq, and_true, true_and] at h
    rw [h.1, mapTm_inj h.2]
  | .two k p q, b, h => by
    have hi := encQ_ix h
    cases b <;> simp only [ix] at hi <;> first | (exact absurd hi (by decide)) | skip
    simp only [encQ, D.tup.injEq, List.cons.injEq, D.str.injEq, and_true] at h
    rw [K2.inj h.1, encQ_inj h.2.1, encQ_inj h.2.2]
  | .only cs p, b, h => by
    have hi := encQ_ix h
    cases b <;> simp only [ix] at hi <;> first | (exact absurd hi (by decide)) | skip
    simp only [encQ, D.tup.injEq, List.cons.injEq, D.str.injEq, and_true, true_and] at h
    rw [encC_inj h.1, encQ_inj h.2]
  | .whr t l r p, b, h => by
    have hi := encQ_ix h
    cases b <;> simp only [ix] at hi <;> first | (exact absurd hi (by decide)) | skip
    simp only [encQ, D.tup.injEq, List.cons.injEq, D.str.injEq, and_true, true_and] at h
    rw [h.1, encTm_inj h.2.1, encTm_inj h.2.2.1, encQ_inj h.2.2.2]
  | .shift n p, b, h => by
    have hi := encQ_ix h
    cases b <;> simp only [ix] at hi <;> first | (exact absurd hi (by decide)) | skip
    simp only [encQ, D.tup.injEq, List.cons.injEq, D.str.injEq, D.int.injEq, and_true, true_and] at h
    rw [h.1, encQ_inj h.2]
  | .look k w p, b, h => by
    have hi := encQ_ix h
    cases b <;> simp only [ix] at hi <;> first | (exact absurd hi (by decide)) | skip
    simp only [encQ, D.tup.injEq, List.cons.injEq, D.str.injEq, and_true] at h
    rw [K4.inj h.1, encO_inj h.2.1, encQ_inj h.2.2]
  | .count n ks p, b, h => by
    have hi := encQ_ix h
    cases b <;> simp only [ix] at hi <;> first | (exact absurd hi (by decide)) | skip
    simp only [encQ, D.tup.injEq, List.cons.injEq, D.str.injEq, and_true, true_and] at h
    rw [h.1, encC_inj h.2.1, encQ_inj h.2.2]
  | .total k n c ks p, b, h => by
    have hi := encQ_ix h
    cases b <;> simp only [ix] at hi <;> first | (exact absurd hi (by decide)) | skip
    simp only [encQ, D.tup.injEq, List.cons.injEq, D.str.injEq, and_true] at h
    rw [K3.inj h.1, h.2.1, h.2.2.1, encC_inj h.2.2.2.1, encQ_inj h.2.2.2.2]
  | .link k x y p, b, h => by
    have hi := encQ_ix h
    cases b <;> simp only [ix] at hi <;> first | (exact absurd hi (by decide)) | skip
    simp only [encQ, D.tup.injEq, List.cons.injEq, D.str.injEq, and_true] at h
    rw [KL.inj h.1, h.2.1, h.2.2.1, encQ_inj h.2.2.2]
def partsQ : Qn → List Qn
  | .fact .. => []
  | .two _ p q => [p, q]
  | .only _ p => [p] | .whr _ _ _ p => [p] | .shift _ p => [p] | .look _ _ p => [p] | .count _ _ p => [p] | .total _ _ _ _ p => [p] | .link _ _ _ p => [p]
def dpQ : Qn → Nat
  | .fact .. => 1
  | .two _ p q => max (dpQ p) (dpQ q) + 1
  | .only _ p => dpQ p + 1 | .whr _ _ _ p => dpQ p + 1 | .shift _ p => dpQ p + 1 | .look _ _ p => dpQ p + 1 | .count _ _ p => dpQ p + 1 | .total _ _ _ _ p => dpQ p + 1 | .link _ _ _ p => dpQ p + 1
theorem dpQ_pos (q : Qn) : 1 ≤ dpQ q := by cases q <;> simp [dpQ]
theorem dpQ_part {q p : Qn} (h : p ∈ partsQ q) : dpQ p < dpQ q := by
  cases q <;> simp only [partsQ, List.mem_cons, List.not_mem_nil, or_false] at h <;> simp only [dpQ]
  · rcases h with rfl | rfl <;> omega
  all_goals (subst h; omega)
theorem encQ_nl (q : Qn) : isL (encQ q) = false := by cases q <;> rfl
/-! ### columns and what is valid -/
def colOf : Tm → Option Str
  | .col x => some x
  | _ => none
def folB : K2 → Bool
  | .since => true | .sincenot => true | .until => true | .untilnot => true
  | _ => false
def colsQ : Qn → List Str
  | .fact _ ts => ordS (ts.filterMap colOf)
  | .two k p q => match k with
    | .both => ordS (colsQ p ++ colsQ q)
    | .either => colsQ p
    | .unless => colsQ p
    | _ => colsQ q
  | .only cs _ => cs
  | .whr _ _ _ p => colsQ p
  | .shift _ p => colsQ p
  | .look _ _ p => colsQ p
  | .count new keep _ => ordS (new :: keep)
  | .total _ new _ keep _ => ordS (new :: keep)
  | .link _ _ _ p => colsQ p
def okV : Vv → Prop
  | .i _ => True
  | .s w => isW w = true
def okTm : Tm → Prop
  | .col x => isW x = true
  | .val v => okV v
def fitTm (cs : List Str) : Tm → Prop
  | .col x => x ∈ cs
  | .val v => okV v
def cmps : List Str := [PySem.Str.ofString "same", PySem.Str.ofString "other", PySem.Str.ofString "less"]
/-- the node itself -/
def okN : Qn → Prop
  | .fact n ts => isW n = true ∧ ts.length ≤ 8 ∧ ∀ t ∈ ts, okTm t
  | .two k p q => match k with
    | .both => True
    | .either => colsQ p = colsQ q
    | .unless => ∀ x ∈ colsQ q, x ∈ colsQ p
    | _ => ∀ x ∈ colsQ p, x ∈ colsQ q
  | .only cs p => SC cs ∧ ∀ x ∈ cs, x ∈ colsQ p
  | .whr t l r p => t ∈ cmps ∧ fitTm (colsQ p) l ∧ fitTm (colsQ p) r
  | .shift _ _ => True
  | .look _ w _ => ∀ k, w = some k → 0 ≤ k
  | .count new keep p => isW new = true ∧ new ∉ keep ∧ SC keep ∧ ∀ x ∈ keep, x ∈ colsQ p
  | .total _ new col keep p => isW new = true ∧ new ∉ keep ∧ (SC keep ∧ ∀ x ∈ keep, x ∈ colsQ p) ∧ col ∈ colsQ p
  | .link _ x y p => x ≠ y ∧ ordS [x, y] = colsQ p
def okQ : Qn → Prop
  | q@(.fact ..) => okN q ∧ (colsQ q).length ≤ 8
  | q@(.two _ p r) => (okN q ∧ (colsQ q).length ≤ 8) ∧ okQ p ∧ okQ r
  | q@(.only _ p) => (okN q ∧ (colsQ q).length ≤ 8) ∧ okQ p
  | q@(.whr _ _ _ p) => (okN q ∧ (colsQ q).length ≤ 8) ∧ okQ p
  | q@(.shift _ p) => (okN q ∧ (colsQ q).length ≤ 8) ∧ okQ p
  | q@(.look _ _ p) => (okN q ∧ (colsQ q).length ≤ 8) ∧ okQ p
  | q@(.count _ _ p) => (okN q ∧ (colsQ q).length ≤ 8) ∧ okQ p
  | q@(.total _ _ _ _ p) => (okN q ∧ (colsQ q).length ≤ 8) ∧ okQ p
  | q@(.link _ _ _ p) => (okN q ∧ (colsQ q).length ≤ 8) ∧ okQ p
/-! ### parts -/
abbrev tab_ITEMS : Tbl := [(PySem.Str.ofString "fact", [PySem.Str.ofString "word", PySem.Str.ofString "terms"]), (PySem.Str.ofString "both", [PySem.Str.ofString "question", PySem.Str.ofString "question"]), (PySem.Str.ofString "either", [PySem.Str.ofString "question", PySem.Str.ofString "question"]), (PySem.Str.ofString "unless", [PySem.Str.ofString "question", PySem.Str.ofString "question"]), (PySem.Str.ofString "only", [PySem.Str.ofString "columns", PySem.Str.ofString "question"]), (PySem.Str.ofString "where", [PySem.Str.ofString "word", PySem.Str.ofString "term", PySem.Str.ofString "term", PySem.Str.ofString "question"]), (PySem.Str.ofString "shift", [PySem.Str.ofString "integer", PySem.Str.ofString "question"]), (PySem.Str.ofString "once", [PySem.Str.ofString "within", PySem.Str.ofString "question"]), (PySem.Str.ofString "lately", [PySem.Str.ofString "within", PySem.Str.ofString "question"]), (PySem.Str.ofString "soon", [PySem.Str.ofString "within", PySem.Str.ofString "question"]), (PySem.Str.ofString "henceforth", [PySem.Str.ofString "within", PySem.Str.ofString "question"]), (PySem.Str.ofString "since", [PySem.Str.ofString "question", PySem.Str.ofString "question"]), (PySem.Str.ofString "until", [PySem.Str.ofString "question", PySem.Str.ofString "question"]), (PySem.Str.ofString "sincenot", [PySem.Str.ofString "question", PySem.Str.ofString "question"]), (PySem.Str.ofString "untilnot", [PySem.Str.ofString "question", PySem.Str.ofString "question"]), (PySem.Str.ofString "count", [PySem.Str.ofString "word", PySem.Str.ofString "columns", PySem.Str.ofString "question"]), (PySem.Str.ofString "sum", [PySem.Str.ofString "word", PySem.Str.ofString "word", PySem.Str.ofString "columns", PySem.Str.ofString "question"]), (PySem.Str.ofString "least", [PySem.Str.ofString "word", PySem.Str.ofString "word", PySem.Str.ofString "columns", PySem.Str.ofString "question"]), (PySem.Str.ofString "most", [PySem.Str.ofString "word", PySem.Str.ofString "word", PySem.Str.ofString "columns", PySem.Str.ofString "question"]), (PySem.Str.ofString "linked", [PySem.Str.ofString "word", PySem.Str.ofString "word", PySem.Str.ofString "question"]), (PySem.Str.ofString "way", [PySem.Str.ofString "word", PySem.Str.ofString "word", PySem.Str.ofString "question"])]
def formsQ : Qn → List Str
  | .fact .. => [PySem.Str.ofString "word", PySem.Str.ofString "terms"]
  | .two .. => [PySem.Str.ofString "question", PySem.Str.ofString "question"]
  | .only .. => [PySem.Str.ofString "columns", PySem.Str.ofString "question"]
  | .whr .. => [PySem.Str.ofString "word", PySem.Str.ofString "term", PySem.Str.ofString "term", PySem.Str.ofString "question"]
  | .shift .. => [PySem.Str.ofString "integer", PySem.Str.ofString "question"]
  | .look .. => [PySem.Str.ofString "within", PySem.Str.ofString "question"]
  | .count .. => [PySem.Str.ofString "word", PySem.Str.ofString "columns", PySem.Str.ofString "question"]
  | .total .. => [PySem.Str.ofString "word", PySem.Str.ofString "word", PySem.Str.ofString "columns", PySem.Str.ofString "question"]
  | .link .. => [PySem.Str.ofString "word", PySem.Str.ofString "word", PySem.Str.ofString "question"]
theorem items_of (q : Qn) : (kd q, formsQ q) ∈ tab_ITEMS := by
  cases q with
  | two k p q => cases k <;> simp only [tab_ITEMS, kd, K2.s, formsQ, List.mem_cons, true_or, or_true]
  | look k w p => cases k <;> simp only [tab_ITEMS, kd, K4.s, formsQ, List.mem_cons, true_or, or_true]
  | total k => cases k <;> simp only [tab_ITEMS, kd, K3.s, formsQ, List.mem_cons, true_or, or_true]
  | link k => cases k <;> simp only [tab_ITEMS, kd, KL.s, formsQ, List.mem_cons, true_or, or_true]
  | _ => simp only [tab_ITEMS, kd, formsQ, List.mem_cons, true_or, or_true]
def sp_parts_of : FSpec where
  pre := fun ds => ∃ q : Qn, ds = [encQ q]
  post := fun ds r ds' => ds' = ds ∧ ∀ q : Qn, ds = [encQ q] → r = .tup ((partsQ q).map encQ)
/-- slots: 0 question, 1 forms, 2 form, 3 item -/
def w_parts_of : WS :=
    (cSeq (cAsg 1 [0] 1 (cItm tab_ITEMS (cOp fIx (cVar 0) (cC (.int 0)))))
    (cRet 1 (cBi fTuple (cCons (cLc [2, 3] (iZG (cVar 1) (cSlL (cVar 0) (cC (.int 1)))) (gT 2 (gCons' (gN 1 [] 2) (gCons' (gN 1 [] 3) gNil'))) (cOp fEqS (cVar 2) (cC (.str (PySem.Str.ofString "question")))) (cVar 3)) cNil))))
theorem po_post {q : Qn} {d : D} (h : d = .tup ((partsQ q).map encQ)) : ∀ q' : Qn, [encQ q] = [encQ q'] → d = .tup ((partsQ q').map encQ) := by
  intro q' e
  simp only [List.cons.injEq, and_true] at e
  rw [h, encQ_inj e]
theorem encQ_tup (q : Qn) : ∃ r, encQ q = .tup r := by obtain ⟨r, e⟩ := encQ_kd q; exact ⟨_, e⟩
def itemsQ : Qn → List D
  | .fact n ts => [.str n, .tup (ts.map encTm)]
  | .two _ p q => [encQ p, encQ q]
  | .only cs p => [encC cs, encQ p]
  | .whr t l r p => [.str t, encTm l, encTm r, encQ p]
  | .shift n p => [.int n, encQ p]
  | .look _ w p => [encO w, encQ p]
  | .count new keep p => [.str new, encC keep, encQ p]
  | .total _ new col keep p => [.str new, .str col, encC keep, encQ p]
  | .link _ x y p => [.str x, .str y, encQ p]
theorem encQ_items (q : Qn) : encQ q = .tup (.str (kd q) :: itemsQ q) := by cases q <;> rfl
theorem encO_nl (w : Option Int) : isL (encO w) = false := by cases w <;> rfl
theorem encTm_nl (t : Tm) : isL (encTm t) = false := by cases t <;> rfl
theorem items_nl (q : Qn) : ∀ d ∈ itemsQ q, isL d = false := by
  cases q <;> simp only [itemsQ, List.mem_cons, List.not_mem_nil, or_false, forall_eq_or_imp, forall_eq] <;> (repeat' apply And.intro) <;> first | exact encQ_nl _ | exact encO_nl _ | exact encTm_nl _ | rfl
theorem cut_tail (x : D) (r : List D) : cutD (x :: r) (some 1) none = r := by
  unfold cutD HT.sIx
  simp
theorem zip_form : ∀ {fs : List Str} {is : List D} {d : D}, (∀ x ∈ is, isL x = false) → d ∈ zipD (fs.map D.str) is → ∃ f it, d = .tup [.str f, it] ∧ isL it = false
  | [], is, d, _, h => by simp [zipD] at h
  | f :: fs, [], d, _, h => by simp [zipD] at h
  | f :: fs, x :: is, d, hi, h => by
    have e : zipD ((f :: fs).map D.str) (x :: is) = .tup [.str f, x] :: zipD (fs.map D.str) is := rfl
    rw [e] at h
    rcases List.mem_cons.mp h with rfl | h
    · exact ⟨f, x, rfl, hi x (by simp)⟩
    · exact zip_form (fun y hy => hi y (by simp [hy])) h
def isQ : D → Bool
  | .tup [.str f, _] => decide (f = PySem.Str.ofString "question")
  | _ => false
def itQ : D → D
  | .tup [_, it] => it
  | d => d
theorem parts_zip (q : Qn) : ((zipD ((formsQ q).map D.str) (itemsQ q)).filter isQ).map itQ = (partsQ q).map encQ := by
  cases q <;> rfl
theorem zip_len {q : Qn} : (zipD ((formsQ q).map D.str) (itemsQ q)).length ≤ 1000000 := by
  cases q <;> (exact Nat.le_of_ble_eq_true rfl)
local macro_rules | `(tactic| walk_at "Ddlq") => `(tactic| ((conv => whnf); (repeat ((first | refine And.intro rfl ?_ | refine And.intro trivial ?_ | refine And.intro ⟨rfl, trivial⟩ ?_ | refine And.intro ⟨rfl, rfl, trivial⟩ ?_ | refine ifb_nq (by decide) ?_ | refine ifb_er ?_ | refine ifb_t ?_ | refine ifb_f ?_ | refine ifb_nr ?_ | refine ifb_er ?_ | refine And.intro (by first | decide | omega | (unfold CMul; omega) | (unfold CDiv; omega) | (unfold CPow; decide) | (exact cpow1 (by omega) (by omega)) | (exact cpow1 (by dsimp only; omega) (by dsimp only; omega)) | (simp only [rngD_len, List.length_replicate, List.length_map, List.length_append, List.length_cons, List.length_nil, List.length_set] at *; omega)) ?_); conv => whnf))))
theorem pure_parts_of : ∀ ds, ds.length = 1 → sp_parts_of.pre ds → w_parts_of (env0 ds 3) { nx := fun e => sp_parts_of.post ds .non (outs e 1), rt := fun d e => sp_parts_of.post ds d (outs e 1) } := by
  rintro ds _ ⟨q, rfl⟩
  have post := fun {d : D} h => po_post (q := q) (d := d) h
  have it := items_of q
  have nl := items_nl q
  have pz := parts_zip q
  have zl := zip_len (q := q)
  rw [encQ_items] at post ⊢
  generalize formsQ q = fs at *
  generalize itemsQ q = is at *
  have e0 : atI (D.str (kd q) :: is) 0 = some (.str (kd q)) := atI_nat (j := 0) rfl
  walk_at "Ddlq"
  rw [e0]
  walk_at "Ddlq"
  refine ⟨fs, it, ?_⟩
  walk_at "Ddlq"
  rw [cut_tail]
  refine ⟨zl, ?_⟩
  refine lcGo_filter isQ itQ _ _ ?_ ?_
  · intro d nxt acc hd hnx
    obtain ⟨f, x, rfl, hx⟩ := zip_form nl hd
    have hv : isQ (.tup [.str f, x]) = decide (f = PySem.Str.ofString "question") := rfl
    rw [hv] at hnx
    cases x with
    | lst _ => simp [isL] at hx
    | _ =>
      walk_at "Ddlq"
      refine ifb_dec (fun g => ?_) (fun g => ?_)
      · rw [decide_eq_true g, if_pos rfl] at hnx
        walk_at "Ddlq"
        exact hnx
      · rw [decide_eq_false g, if_neg (by decide), List.append_nil] at hnx
        walk_at "Ddlq"
        exact hnx
  · walk_at "Ddlq"
    rw [pz]
    exact post rfl
/-! ### the law's own parts -/
def sp_law_is_pair : FSpec where
  pre := fun ds => ∃ q : Qn, ds = [.str (kd q)]
  post := fun ds r ds' => ds' = ds ∧ ∀ q : Qn, ds = [.str (kd q)] → r = .bl (decide (ix q = 1))
theorem ip_post {q : Qn} {b : Bool} (h : b = decide (ix q = 1)) : ∀ q' : Qn, [D.str (kd q)] = [.str (kd q')] → D.bl b = .bl (decide (ix q' = 1)) := by
  intro q' e
  simp only [List.cons.injEq, and_true, D.str.injEq] at e
  rw [h, ← cl_kd, ← cl_kd, e]
def pairKs : List Str := [PySem.Str.ofString "both", PySem.Str.ofString "either", PySem.Str.ofString "unless", PySem.Str.ofString "since", PySem.Str.ofString "sincenot", PySem.Str.ofString "until", PySem.Str.ofString "untilnot"]
theorem k2_in (k : K2) : decide (k.s ∈ pairKs) = true := by cases k <;> decide
theorem k4_in (k : K4) : decide (k.s ∈ pairKs) = false := by cases k <;> decide
theorem k3_in (k : K3) : decide (k.s ∈ pairKs) = false := by cases k <;> decide
theorem kL_in (k : KL) : decide (k.s ∈ pairKs) = false := by cases k <;> decide
theorem pair_in (q : Qn) : decide (kd q ∈ pairKs) = decide (ix q = 1) := by
  cases q with
  | two k => exact k2_in k
  | look k => exact k4_in k
  | total k => exact k3_in k
  | link k => exact kL_in k
  | fact => exact (by decide : decide (PySem.Str.ofString "fact" ∈ pairKs) = false)
  | only => exact (by decide : decide (PySem.Str.ofString "only" ∈ pairKs) = false)
  | whr => exact (by decide : decide (PySem.Str.ofString "where" ∈ pairKs) = false)
  | shift => exact (by decide : decide (PySem.Str.ofString "shift" ∈ pairKs) = false)
  | count => exact (by decide : decide (PySem.Str.ofString "count" ∈ pairKs) = false)
/-- slots: 0 kind -/
def w_law_is_pair : WS :=
    (cRet 1 (cOp (fIn false) (cVar 0) (cLst (cCons (cC (.str (PySem.Str.ofString "both"))) (cCons (cC (.str (PySem.Str.ofString "either"))) (cCons (cC (.str (PySem.Str.ofString "unless"))) (cCons (cC (.str (PySem.Str.ofString "since"))) (cCons (cC (.str (PySem.Str.ofString "sincenot"))) (cCons (cC (.str (PySem.Str.ofString "until"))) (cCons (cC (.str (PySem.Str.ofString "untilnot"))) cNil))))))))))
theorem pure_law_is_pair : ∀ ds, ds.length = 1 → sp_law_is_pair.pre ds → w_law_is_pair (env0 ds 0) { nx := fun e => sp_law_is_pair.post ds .non (outs e 1), rt := fun d e => sp_law_is_pair.post ds d (outs e 1) } := by
  rintro ds _ ⟨q, rfl⟩
  have key := (any_str (kd q) pairKs).trans (pair_in q)
  walk_at "Ddlq"
  refine ip_post ?_
  exact key
theorem kd_notfact (q : Qn) (h : ix q ≠ 0) : ¬ kd q = PySem.Str.ofString "fact" := fun g => h (by rw [← cl_kd, g]; decide)
end DL

namespace DL
open PySem PySem.Spec PyProof.Rows L2
/-! ### a stop ahead of a statement -/
@[irreducible] def Stop (p : Prop) : Prop := p
theorem Stop.mk {p : Prop} (h : p) : Stop p := by unfold Stop; exact h
theorem Stop.eq (p : Prop) : Stop p = p := by unfold Stop; rfl
def cCut (w u : WS) : WS := fun env K => w env { K with nx := fun e => Stop (u e K) }
theorem cCut_eq (w u : WS) : cCut w u = cSeq w u := by
  funext env K
  unfold cCut cSeq
  simp only [Stop.eq]
theorem cutW' {u v : WS} {env : DEnv} {K : Kt} (J : DEnv → Prop) (h1 : ∀ nxt : DEnv → Prop, (∀ e, J e → nxt e) → u env { K with nx := nxt }) (h2 : ∀ e, J e → v e K) : Stop (cCut u v env K) := Stop.mk (h1 _ fun e h => Stop.mk (h2 e h))
end DL

set_option maxHeartbeats 400000
namespace DL
open PySem PySem.Spec PyProof.Rows L2
/-! ### drawn words, terms and facts -/
structure WsOk (ws : List Str) : Prop where
  pos : 0 < ws.length
  few : ws.length ≤ 40
  isw : ∀ w ∈ ws, isW w = true
  nd : ws.Nodup
structure CsOk (cs : List Str) : Prop where
  sc : SC cs
  few : cs.length ≤ 8
  isw : ∀ w ∈ cs, isW w = true
theorem CsOk.sub {cs es : List Str} (h : CsOk cs) (s : es.Sublist cs) : CsOk es := ⟨h.sc.sub s, Nat.le_trans s.length_le h.few, fun w hw => h.isw w (s.subset hw)⟩
local macro_rules | `(tactic| walk_at "Ddl") => `(tactic| ((conv => whnf); (repeat ((first | refine And.intro rfl ?_ | refine And.intro trivial ?_ | refine And.intro ⟨rfl, trivial⟩ ?_ | refine And.intro ⟨rfl, rfl, trivial⟩ ?_ | refine ifb_t ?_ | refine ifb_f ?_ | refine ifb_nr ?_ | refine ifb_er ?_ | refine And.intro (by first | decide | omega | (unfold CMul; omega) | (unfold CDiv; omega) | (unfold CPow; decide) | (exact cpow1 (by omega) (by omega)) | (exact cpow1 (by dsimp only; omega) (by dsimp only; omega)) | (simp only [rngD_len, List.length_replicate, List.length_map, List.length_append, List.length_cons, List.length_nil, List.length_set] at *; omega)) ?_); conv => whnf))))
theorem colsF {cs : List Str} (hs : SC cs) {n : Str} {ts : List Tm} (h1 : ∀ t ∈ ts, fitTm cs t) (h2 : ∀ x ∈ cs, Tm.col x ∈ ts) : colsQ (.fact n ts) = cs := by
  refine ordS_eq hs fun x => ?_
  rw [List.mem_filterMap]
  constructor
  · rintro ⟨t, ht, e⟩
    cases t with
    | col y => cases e; exact h1 _ ht
    | val v => cases e
  · intro hx
    exact ⟨_, h2 x hx, rfl⟩
theorem fit_ok {cs : List Str} (hc : CsOk cs) {t : Tm} (h : fitTm cs t) : okTm t := by
  cases t with
  | col x => exact hc.isw x h
  | val v => exact h
/-! ### more columns -/
theorem SC_perm {a b : List Str} (h : sortedS b = true) (p : b.Perm a) (n : a.Nodup) : SC b := SC.of_sorted h (p.nodup_iff.mpr n)
end DL

set_option maxHeartbeats 600000
namespace DL
open PySem PySem.Spec PyProof.Rows L2
/-! ### drawn questions -/
theorem cnt_ok {new : Str} {cs : List Str} (hc : CsOk cs) (hn : new ∈ cs) : ordS (new :: cs.filter fun x => !decide (x = new)) = cs := ordS_eq hc.sc fun x => by
  rw [List.mem_cons, List.mem_filter]
  constructor
  · rintro (rfl | h)
    · exact hn
    · exact h.1
  · intro h
    by_cases e : x = new
    · exact .inl e
    · exact .inr ⟨h, by simp [e]⟩
local macro_rules | `(tactic| walk_at "Ddlq") => `(tactic| ((conv => whnf); (repeat ((first | refine And.intro rfl ?_ | refine And.intro trivial ?_ | refine And.intro ⟨rfl, trivial⟩ ?_ | refine And.intro ⟨rfl, rfl, trivial⟩ ?_ | refine ifb_nq (by decide) ?_ | refine ifb_er ?_ | refine ifb_t ?_ | refine ifb_f ?_ | refine ifb_nr ?_ | refine ifb_er ?_ | refine And.intro (by first | decide | omega | (unfold CMul; omega) | (unfold CDiv; omega) | (unfold CPow; decide) | (exact cpow1 (by omega) (by omega)) | (exact cpow1 (by dsimp only; omega) (by dsimp only; omega)) | (simp only [rngD_len, List.length_replicate, List.length_map, List.length_append, List.length_cons, List.length_nil, List.length_set] at *; omega)) ?_); conv => whnf))))
local macro_rules | `(tactic| walk_at "Ddl") => `(tactic| ((conv => whnf); (repeat ((first | refine And.intro rfl ?_ | refine And.intro trivial ?_ | refine And.intro ⟨rfl, trivial⟩ ?_ | refine And.intro ⟨rfl, rfl, trivial⟩ ?_ | refine ifb_t ?_ | refine ifb_f ?_ | refine ifb_nr ?_ | refine ifb_er ?_ | refine And.intro (by first | decide | omega | (unfold CMul; omega) | (unfold CDiv; omega) | (unfold CPow; decide) | (exact cpow1 (by omega) (by omega)) | (exact cpow1 (by dsimp only; omega) (by dsimp only; omega)) | (simp only [rngD_len, List.length_replicate, List.length_map, List.length_append, List.length_cons, List.length_nil, List.length_set] at *; omega)) ?_); conv => whnf))))
end DL

set_option maxHeartbeats 600000
namespace DL
open PySem PySem.Spec PyProof.Rows L2
local macro_rules | `(tactic| walk_at "Ddl") => `(tactic| ((conv => whnf); (repeat ((first | refine And.intro rfl ?_ | refine And.intro trivial ?_ | refine And.intro ⟨rfl, trivial⟩ ?_ | refine And.intro ⟨rfl, rfl, trivial⟩ ?_ | refine ifb_t ?_ | refine ifb_f ?_ | refine ifb_nr ?_ | refine ifb_er ?_ | refine And.intro (by first | decide | omega | (unfold CMul; omega) | (unfold CDiv; omega) | (unfold CPow; decide) | (exact cpow1 (by omega) (by omega)) | (exact cpow1 (by dsimp only; omega) (by dsimp only; omega)) | (simp only [rngD_len, List.length_replicate, List.length_map, List.length_append, List.length_cons, List.length_nil, List.length_set] at *; omega)) ?_); conv => whnf))))
end DL

set_option maxHeartbeats 600000
namespace DL
open PySem PySem.Spec PyProof.Rows L2
local macro_rules | `(tactic| walk_at "Ddl") => `(tactic| ((conv => whnf); (repeat ((first | refine And.intro rfl ?_ | refine And.intro trivial ?_ | refine And.intro ⟨rfl, trivial⟩ ?_ | refine And.intro ⟨rfl, rfl, trivial⟩ ?_ | refine ifb_t ?_ | refine ifb_f ?_ | refine ifb_nr ?_ | refine ifb_er ?_ | refine And.intro (by first | decide | omega | (unfold CMul; omega) | (unfold CDiv; omega) | (unfold CPow; decide) | (exact cpow1 (by omega) (by omega)) | (exact cpow1 (by dsimp only; omega) (by dsimp only; omega)) | (simp only [rngD_len, List.length_replicate, List.length_map, List.length_append, List.length_cons, List.length_nil, List.length_set] at *; omega)) ?_); conv => whnf))))
theorem okQ_cols {q : Qn} (h : okQ q) : (colsQ q).length ≤ 8 := by
  cases q
  case fact => exact h.2
  all_goals exact h.1.2
end DL

set_option maxHeartbeats 400000
namespace DL
open PySem PySem.Spec PyProof.Rows L2
/-! ### texts as data -/
theorem lay_word {w : Str} (h : isW w = true) : (PyData.str w).canLay0 = true := by
  unfold isW at h
  simp only [Bool.and_eq_true, List.all_eq_true] at h
  simp only [PyData.canLay0, PyData.strOk]
  rw [← Array.all_toList, List.all_eq_true]
  intro c hc
  have := h.1.2 c hc
  unfold okC at this
  simp only [Bool.and_eq_true, decide_eq_true_eq] at this ⊢
  omega
/-! ### columns of valid questions -/
theorem len_sub {a b : List Str} (h : SC a) (s : ∀ x ∈ a, x ∈ b) : a.length ≤ b.length := List.Nodup.length_le_of_subset h.nd fun x hx => s x hx
theorem okQ_part {q p : Qn} (h : okQ q) (m : p ∈ partsQ q) : okQ p := by
  cases q <;> simp only [partsQ, List.mem_cons, List.not_mem_nil, or_false] at m
  · rcases m with rfl | rfl
    · exact h.2.1
    · exact h.2.2
  all_goals (subst m; exact h.2)
theorem colsQ_ok : ∀ (q : Qn), okQ q → SC (colsQ q) ∧ ∀ x ∈ colsQ q, isW x = true
  | .fact n ts, h => ⟨SC.ord _, fun x hx => by
      obtain ⟨t, ht, e⟩ := List.mem_filterMap.mp (mem_ordS.mp hx)
      cases t with
      | col y => cases e; exact h.1.2.2 _ ht
      | val v => cases e⟩
  | .two k p q, h => by
    obtain ⟨a1, a2⟩ := colsQ_ok p h.2.1
    obtain ⟨b1, b2⟩ := colsQ_ok q h.2.2
    cases k
    case both =>
      refine ⟨SC.ord _, fun x hx => ?_⟩
      rcases List.mem_append.mp (mem_ordS.mp hx) with g | g
      · exact a2 x g
      · exact b2 x g
    case either => exact ⟨a1, a2⟩
    case «unless» => exact ⟨a1, a2⟩
    all_goals exact ⟨b1, b2⟩
  | .only cs p, h => ⟨h.1.1.1, fun x hx => (colsQ_ok p h.2).2 x (h.1.1.2 x hx)⟩
  | .whr t l r p, h => colsQ_ok p h.2
  | .shift n p, h => colsQ_ok p h.2
  | .look k w p, h => colsQ_ok p h.2
  | .count new keep p, h => ⟨SC.ord _, fun x hx => by
      rcases List.mem_cons.mp (mem_ordS.mp hx) with rfl | g
      · exact h.1.1.1
      · exact (colsQ_ok p h.2).2 x (h.1.1.2.2.2 x g)⟩
  | .total k new col keep p, h => ⟨SC.ord _, fun x hx => by
      rcases List.mem_cons.mp (mem_ordS.mp hx) with rfl | g
      · exact h.1.1.1
      · exact (colsQ_ok p h.2).2 x (h.1.1.2.2.1.2 x g)⟩
  | .link k x y p, h => colsQ_ok p h.2
/-! ### ordered -/
def TS2 (ds : List D) (ws : List Str) : Prop := ds = [.lst (ws.map D.str)] ∨ ds = [.tup (ws.map D.str)]
theorem TS2.uniq {ds : List D} {a b : List Str} (h : TS2 ds a) (g : TS2 ds b) : a = b := by
  rcases h with rfl | rfl <;> rcases g with g | g <;> simp only [List.cons.injEq, and_true, D.lst.injEq, D.tup.injEq, reduceCtorEq] at g <;> exact mapS_inj g
local macro_rules | `(tactic| walk_at "Ddl") => `(tactic| ((conv => whnf); (repeat ((first | refine And.intro rfl ?_ | refine And.intro trivial ?_ | refine And.intro ⟨rfl, trivial⟩ ?_ | refine And.intro ⟨rfl, rfl, trivial⟩ ?_ | refine ifb_t ?_ | refine ifb_f ?_ | refine ifb_nr ?_ | refine ifb_er ?_ | refine And.intro (by first | decide | omega | (unfold CMul; omega) | (unfold CDiv; omega) | (unfold CPow; decide) | (exact cpow1 (by omega) (by omega)) | (exact cpow1 (by dsimp only; omega) (by dsimp only; omega)) | (simp only [rngD_len, List.length_replicate, List.length_map, List.length_append, List.length_cons, List.length_nil, List.length_set] at *; omega)) ?_); conv => whnf))))
/-! ### words and values -/
end DL

set_option maxHeartbeats 400000
namespace DL
open PySem PySem.Spec PyProof.Rows L2
abbrev tab_FOLLOWING : List Str := [PySem.Str.ofString "since", PySem.Str.ofString "sincenot", PySem.Str.ofString "until", PySem.Str.ofString "untilnot"]
/-! ### the columns of a node -/
def isCol : D → Bool
  | .tup [.str f, _] => decide (f = PySem.Str.ofString "col")
  | _ => false
theorem cols_zip : ∀ ts : List Tm, ((ts.map encTm).filter isCol).map itQ = (ts.filterMap colOf).map D.str
  | [] => rfl
  | .col x :: r => by
    have ih := cols_zip r
    have e : isCol (encTm (.col x)) = true := rfl
    rw [List.map_cons, List.filter_cons, e, if_pos rfl, List.map_cons, ih]
    rfl
  | .val v :: r => by
    have ih := cols_zip r
    have e : isCol (encTm (.val v)) = false := by cases v <;> rfl
    rw [List.map_cons, List.filter_cons, e, if_neg (by decide), ih]
    rfl
theorem tm_item {t : Tm} : ∃ f it, encTm t = .tup [.str f, it] ∧ isL it = false ∧ isCol (encTm t) = decide (f = PySem.Str.ofString "col") ∧ itQ (encTm t) = it := by
  cases t with
  | col x => exact ⟨_, _, rfl, rfl, rfl, rfl⟩
  | val v => cases v <;> exact ⟨_, _, rfl, rfl, rfl, rfl⟩
theorem fm_len (ts : List Tm) : (ts.filterMap colOf).length ≤ ts.length := List.length_filterMap_le _ _
local macro_rules | `(tactic| walk_at "Ddlq") => `(tactic| ((conv => whnf); (repeat ((first | refine And.intro rfl ?_ | refine And.intro trivial ?_ | refine And.intro ⟨rfl, trivial⟩ ?_ | refine And.intro ⟨rfl, rfl, trivial⟩ ?_ | refine ifb_nq (by decide) ?_ | refine ifb_er ?_ | refine ifb_t ?_ | refine ifb_f ?_ | refine ifb_nr ?_ | refine ifb_er ?_ | refine And.intro (by first | decide | omega | (unfold CMul; omega) | (unfold CDiv; omega) | (unfold CPow; decide) | (exact cpow1 (by omega) (by omega)) | (exact cpow1 (by dsimp only; omega) (by dsimp only; omega)) | (simp only [rngD_len, List.length_replicate, List.length_map, List.length_append, List.length_cons, List.length_nil, List.length_set] at *; omega)) ?_); conv => whnf))))
end DL

set_option maxHeartbeats 400000
namespace DL
open PySem PySem.Spec PyProof.Rows L2
/-! ### the law's own columns -/
local macro_rules | `(tactic| walk_at "Ddlq") => `(tactic| ((conv => whnf); (repeat ((first | refine And.intro rfl ?_ | refine And.intro trivial ?_ | refine And.intro ⟨rfl, trivial⟩ ?_ | refine And.intro ⟨rfl, rfl, trivial⟩ ?_ | refine ifb_nq (by decide) ?_ | refine ifb_er ?_ | refine ifb_t ?_ | refine ifb_f ?_ | refine ifb_nr ?_ | refine ifb_er ?_ | refine And.intro (by first | decide | omega | (unfold CMul; omega) | (unfold CDiv; omega) | (unfold CPow; decide) | (exact cpow1 (by omega) (by omega)) | (exact cpow1 (by dsimp only; omega) (by dsimp only; omega)) | (simp only [rngD_len, List.length_replicate, List.length_map, List.length_append, List.length_cons, List.length_nil, List.length_set] at *; omega)) ?_); conv => whnf))))
end DL

set_option maxHeartbeats 400000
namespace DL
open PySem PySem.Spec PyProof.Rows L2
/-! ### a node that is right -/
theorem encV_nl (v : Vv) : isL (encV v) = false := by cases v <;> rfl
local macro_rules | `(tactic| walk_at "Ddlq") => `(tactic| ((conv => whnf); (repeat ((first | refine And.intro rfl ?_ | refine And.intro trivial ?_ | refine And.intro ⟨rfl, trivial⟩ ?_ | refine And.intro ⟨rfl, rfl, trivial⟩ ?_ | refine ifb_nq (by decide) ?_ | refine ifb_er ?_ | refine ifb_t ?_ | refine ifb_f ?_ | refine ifb_nr ?_ | refine ifb_er ?_ | refine And.intro (by first | decide | omega | (unfold CMul; omega) | (unfold CDiv; omega) | (unfold CPow; decide) | (exact cpow1 (by omega) (by omega)) | (exact cpow1 (by dsimp only; omega) (by dsimp only; omega)) | (simp only [rngD_len, List.length_replicate, List.length_map, List.length_append, List.length_cons, List.length_nil, List.length_set] at *; omega)) ?_); conv => whnf))))
end DL

set_option maxHeartbeats 400000
namespace DL
open PySem PySem.Spec PyProof.Rows L2
local macro_rules | `(tactic| walk_at "Ddlq") => `(tactic| ((conv => whnf); (repeat ((first | refine And.intro rfl ?_ | refine And.intro trivial ?_ | refine And.intro ⟨rfl, trivial⟩ ?_ | refine And.intro ⟨rfl, rfl, trivial⟩ ?_ | refine ifb_nq (by decide) ?_ | refine ifb_er ?_ | refine ifb_t ?_ | refine ifb_f ?_ | refine ifb_nr ?_ | refine ifb_er ?_ | refine And.intro (by first | decide | omega | (unfold CMul; omega) | (unfold CDiv; omega) | (unfold CPow; decide) | (exact cpow1 (by omega) (by omega)) | (exact cpow1 (by dsimp only; omega) (by dsimp only; omega)) | (simp only [rngD_len, List.length_replicate, List.length_map, List.length_append, List.length_cons, List.length_nil, List.length_set] at *; omega)) ?_); conv => whnf))))
local macro_rules | `(tactic| walk_at "Ddl") => `(tactic| ((conv => whnf); (repeat ((first | refine And.intro rfl ?_ | refine And.intro trivial ?_ | refine And.intro ⟨rfl, trivial⟩ ?_ | refine And.intro ⟨rfl, rfl, trivial⟩ ?_ | refine ifb_t ?_ | refine ifb_f ?_ | refine ifb_nr ?_ | refine ifb_er ?_ | refine And.intro (by first | decide | omega | (unfold CMul; omega) | (unfold CDiv; omega) | (unfold CPow; decide) | (exact cpow1 (by omega) (by omega)) | (exact cpow1 (by dsimp only; omega) (by dsimp only; omega)) | (simp only [rngD_len, List.length_replicate, List.length_map, List.length_append, List.length_cons, List.length_nil, List.length_set] at *; omega)) ?_); conv => whnf))))
/-! ### check_node -/
/-! ### check_question -/
end DL

set_option maxHeartbeats 400000
namespace DL
open PySem PySem.Spec PyProof.Rows L2
/-! ### paths -/
def pathsQ : Qn → List Int → List (List Int)
  | .fact .., p => [p]
  | .two _ a b, p => p :: (pathsQ a (p ++ [0]) ++ pathsQ b (p ++ [1]))
  | .only _ a, p => p :: pathsQ a (p ++ [0])
  | .whr _ _ _ a, p => p :: pathsQ a (p ++ [0])
  | .shift _ a, p => p :: pathsQ a (p ++ [0])
  | .look _ _ a, p => p :: pathsQ a (p ++ [0])
  | .count _ _ a, p => p :: pathsQ a (p ++ [0])
  | .total _ _ _ _ a, p => p :: pathsQ a (p ++ [0])
  | .link _ _ _ a, p => p :: pathsQ a (p ++ [0])
def pj (p : List Int) : Nat → List Qn → List (List Int)
  | _, [] => []
  | k, a :: r => pathsQ a (p ++ [(k : Int)]) ++ pj p (k + 1) r
local macro_rules | `(tactic| walk_at "Ddl") => `(tactic| ((conv => whnf); (repeat ((first | refine And.intro rfl ?_ | refine And.intro trivial ?_ | refine And.intro ⟨rfl, trivial⟩ ?_ | refine And.intro ⟨rfl, rfl, trivial⟩ ?_ | refine ifb_t ?_ | refine ifb_f ?_ | refine ifb_nr ?_ | refine ifb_er ?_ | refine And.intro (by first | decide | omega | (unfold CMul; omega) | (unfold CDiv; omega) | (unfold CPow; decide) | (exact cpow1 (by omega) (by omega)) | (exact cpow1 (by dsimp only; omega) (by dsimp only; omega)) | (simp only [rngD_len, List.length_replicate, List.length_map, List.length_append, List.length_cons, List.length_nil, List.length_set] at *; omega)) ?_); conv => whnf))))
/-! ### the node at a path -/
end DL

set_option maxHeartbeats 600000
namespace DL
open PySem PySem.Spec PyProof.Rows L2
/-! ### one more node on top -/
theorem Stop.out {p : Prop} (h : Stop p) : p := by rwa [Stop.eq] at h
local macro_rules | `(tactic| walk_at "Ddl") => `(tactic| ((conv => whnf); (repeat ((first | refine And.intro rfl ?_ | refine And.intro trivial ?_ | refine And.intro ⟨rfl, trivial⟩ ?_ | refine And.intro ⟨rfl, rfl, trivial⟩ ?_ | refine ifb_t ?_ | refine ifb_f ?_ | refine ifb_nr ?_ | refine ifb_er ?_ | refine And.intro (by first | decide | omega | (unfold CMul; omega) | (unfold CDiv; omega) | (unfold CPow; decide) | (exact cpow1 (by omega) (by omega)) | (exact cpow1 (by dsimp only; omega) (by dsimp only; omega)) | (simp only [rngD_len, List.length_replicate, List.length_map, List.length_append, List.length_cons, List.length_nil, List.length_set] at *; omega)) ?_); conv => whnf))))
end DL

set_option maxHeartbeats 400000
namespace DL
open PySem PySem.Spec PyProof.Rows L2
/-! ### columns_of -/
local macro_rules | `(tactic| walk_at "Ddl") => `(tactic| ((conv => whnf); (repeat ((first | refine And.intro rfl ?_ | refine And.intro trivial ?_ | refine And.intro ⟨rfl, trivial⟩ ?_ | refine And.intro ⟨rfl, rfl, trivial⟩ ?_ | refine ifb_t ?_ | refine ifb_f ?_ | refine ifb_nr ?_ | refine ifb_er ?_ | refine And.intro (by first | decide | omega | (unfold CMul; omega) | (unfold CDiv; omega) | (unfold CPow; decide) | (exact cpow1 (by omega) (by omega)) | (exact cpow1 (by dsimp only; omega) (by dsimp only; omega)) | (simp only [rngD_len, List.length_replicate, List.length_map, List.length_append, List.length_cons, List.length_nil, List.length_set] at *; omega)) ?_); conv => whnf))))
/-! ### the number of nodes -/
/-! ### questions with short lists -/
/-! ### a node put in at a path -/
end DL

set_option maxHeartbeats 4000000
--REN _law_same=law_same3
namespace DL
open PySem PySem.Spec PyProof.Rows L2
local macro_rules | `(tactic| walk_at "Ddl") => `(tactic| ((conv => whnf); (repeat ((first | refine And.intro rfl ?_ | refine And.intro trivial ?_ | refine And.intro ⟨rfl, trivial⟩ ?_ | refine And.intro ⟨rfl, rfl, trivial⟩ ?_ | refine ifb_t ?_ | refine ifb_f ?_ | refine ifb_nr ?_ | refine ifb_er ?_ | refine And.intro (by first | decide | omega | (unfold CMul; omega) | (unfold CDiv; omega) | (unfold CPow; decide) | (exact cpow1 (by omega) (by omega)) | (exact cpow1 (by dsimp only; omega) (by dsimp only; omega)) | (simp only [rngD_len, List.length_replicate, List.length_map, List.length_append, List.length_cons, List.length_nil, List.length_set] at *; omega)) ?_); conv => whnf))))
/-! ### questions fit -/
end DL

set_option maxHeartbeats 1000000
namespace DL
open PySem PySem.Spec PyProof.Rows L2
/-! ### small rules of the walk -/
theorem pick_nl {d : D} {A B : Prop} (h : isL d = false) (hb : B) : pick d A B := by cases d <;> first | exact hb | (simp [isL] at h)
theorem stOk_nl {np : Nat} {pr : List Nat} {env : DEnv} {i : Nat} {d : D} (h : isL d = false) (h2 : stOk np pr env i .non = true) : stOk np pr env i d = true := by
  unfold stOk at h2 ⊢
  split at h2
  · cases h2
  · rw [h]
    exact h2
theorem ifb_pq {p : Prop} {_ : Decidable p} {A B : Prop} (h : p) (hb : A) : ifb (.bl (decide p)) A B := by
  rw [decide_eq_true h]
  exact .t hb
theorem immA_c {d : D} {ds : List D} (h : isL d = false) (h2 : immA ds = true) : immA (d :: ds) = true := by simp only [immA, h, h2]; rfl
theorem encC_nl (cs : List Str) : isL (encC cs) = false := rfl
theorem ifb_eqt {b : Bool} {A B : Prop} (h : b = true) (ha : A) : ifb (.bl b) A B := by subst h; exact .t ha
theorem ifb_eqf {b : Bool} {A B : Prop} (h : b = false) (hb : B) : ifb (.bl b) A B := by subst h; exact .f hb
/-! ### equal trees are the same, and can be compared -/
mutual
def plD : D → Bool
  | .non => true
  | .int _ => true
  | .str _ => true
  | .tup ds => plDs ds
  | _ => false
def plDs : List D → Bool
  | [] => true
  | d :: r => plD d && plDs r
end
mutual
theorem eqv_pl : ∀ (a b : D), plD a = true → plD b = true → (PyData.eqv (toP a) (toP b) = true ↔ a = b)
  | .non, b, _, hb => by cases b <;> first | (simp [plD] at hb; done) | simp [toP, PyData.eqv]
  | .int i, b, _, hb => by cases b <;> first | (simp [plD] at hb; done) | simp [toP, PyData.eqv]
  | .str x, b, _, hb => by cases b <;> first | (simp [plD] at hb; done) | simp [toP, PyData.eqv]
  | .tup xs, b, ha, hb => by
    cases b with
    | tup ys =>
      simp only [toP, PyData.eqv, D.tup.injEq]
      exact eqvs_pl xs ys (by simpa only [plD] using ha) (by simpa only [plD] using hb)
    | _ => first | (simp [plD] at hb; done) | simp [toP, PyData.eqv]
  | .bl _, _, ha, _ => by simp [plD] at ha
  | .lst _, _, ha, _ => by simp [plD] at ha
  | .rol _, _, ha, _ => by simp [plD] at ha
  | .tpd _, _, ha, _ => by simp [plD] at ha
  | .rod _ _, _, ha, _ => by simp [plD] at ha
  | .obj _ _, _, ha, _ => by simp [plD] at ha
  | .rdk _ _, _, ha, _ => by simp [plD] at ha
theorem eqvs_pl : ∀ (xs ys : List D), plDs xs = true → plDs ys = true → (PyData.eqvAll (toPs xs) (toPs ys) = true ↔ xs = ys)
  | [], [], _, _ => by simp [toPs, PyData.eqvAll]
  | [], _ :: _, _, _ => by simp [toPs, PyData.eqvAll]
  | _ :: _, [], _, _ => by simp [toPs, PyData.eqvAll]
  | x :: xs, y :: ys, ha, hb => by
    simp only [plDs, Bool.and_eq_true] at ha hb
    simp only [toPs, PyData.eqvAll, Bool.and_eq_true, List.cons.injEq]
    rw [eqv_pl x y ha.1 hb.1, eqvs_pl xs ys ha.2 hb.2]
end
theorem plDs_map {α : Type} {f : α → D} : ∀ {l : List α}, (∀ x ∈ l, plD (f x) = true) → plDs (l.map f) = true
  | [], _ => by simp [plDs]
  | a :: l, h => by
    simp only [List.map_cons, plDs, Bool.and_eq_true]
    exact ⟨h a (by simp), plDs_map fun x hx => h x (by simp [hx])⟩
theorem pl_tm (t : Tm) : plD (encTm t) = true := by
  cases t with
  | col x => simp [encTm, plD, plDs]
  | val v => cases v <;> simp [encTm, encV, plD, plDs]
theorem pl_C (cs : List Str) : plD (encC cs) = true := by
  simp only [encC, plD]
  exact plDs_map fun x _ => by simp [plD]
theorem pl_O (w : Option Int) : plD (encO w) = true := by cases w <;> simp [encO, plD]
theorem pl_Q : ∀ q : Qn, plD (encQ q) = true
  | .fact n ts => by simp only [encQ, plD, plDs, Bool.and_true, Bool.true_and]; exact plDs_map fun t _ => pl_tm t
  | .two k p q => by simp only [encQ, plD, plDs, Bool.and_true, Bool.true_and, pl_Q p, pl_Q q]
  | .only cs p => by simp only [encQ, plD, plDs, Bool.and_true, Bool.true_and, pl_C cs, pl_Q p]
  | .whr t l r p => by simp only [encQ, plD, plDs, Bool.and_true, Bool.true_and, pl_tm, pl_Q p]
  | .shift n p => by simp only [encQ, plD, plDs, Bool.and_true, Bool.true_and, pl_Q p]
  | .look k w p => by simp only [encQ, plD, plDs, Bool.and_true, Bool.true_and, pl_O, pl_Q p]
  | .count n ks p => by simp only [encQ, plD, plDs, Bool.and_true, Bool.true_and, pl_C, pl_Q p]
  | .total k n c ks p => by simp only [encQ, plD, plDs, Bool.and_true, Bool.true_and, pl_C, pl_Q p]
  | .link k x y p => by simp only [encQ, plD, plDs, Bool.and_true, Bool.true_and, pl_Q p]
theorem lay_map {α : Type} {f : α → D} : ∀ {l : List α}, (∀ x ∈ l, (toP (f x)).canLay0 = true) → PyData.canLayAll0 (toPs (l.map f)) = true
  | [], _ => by simp [toPs, PyData.canLayAll0]
  | a :: l, h => by
    simp only [List.map_cons, toPs, PyData.canLayAll0, Bool.and_eq_true]
    exact ⟨h a (by simp), lay_map fun x hx => h x (by simp [hx])⟩
theorem dep_map {α : Type} {f : α → D} {n : Nat} : ∀ {l : List α}, (∀ x ∈ l, (toP (f x)).depth ≤ n) → PyData.depthAll (toPs (l.map f)) ≤ n
  | [], _ => by simp [toPs, PyData.depthAll]
  | a :: l, h => by
    simp only [List.map_cons, toPs, PyData.depthAll]
    exact Nat.max_le.mpr ⟨h a (by simp), dep_map fun x hx => h x (by simp [hx])⟩
theorem lay_tm {t : Tm} (h : okTm t) : (toP (encTm t)).canLay0 = true ∧ (toP (encTm t)).depth ≤ 1 := by
  have hc := lay_word (w := PySem.Str.ofString "col") (by decide)
  have hv := lay_word (w := PySem.Str.ofString "value") (by decide)
  cases t with
  | col x =>
    have := lay_word h
    simp only [encTm, toP, toPs, PyData.canLay0, PyData.canLayAll0, PyData.depth, PyData.depthAll] at *
    simp [hc, this]
  | val v =>
    cases v with
    | i n => simp only [encTm, encV, toP, toPs, PyData.canLay0, PyData.canLayAll0, PyData.depth, PyData.depthAll] at *; simp [hv]
    | s w =>
      have := lay_word (show isW w = true from h)
      simp only [encTm, encV, toP, toPs, PyData.canLay0, PyData.canLayAll0, PyData.depth, PyData.depthAll] at *
      simp [hv, this]
theorem okTm_fit {cs : List Str} {t : Tm} (hc : ∀ x ∈ cs, isW x = true) (h : fitTm cs t) : okTm t := by
  cases t with
  | col x => exact hc x h
  | val v => exact h
theorem lay_CC {ws : List Str} (h : ∀ w ∈ ws, isW w = true) : (toP (encC ws)).canLay0 = true ∧ (toP (encC ws)).depth ≤ 1 := by
  simp only [encC, toP, PyData.canLay0, PyData.depth]
  refine ⟨lay_map fun x hx => ?_, ?_⟩
  · simpa only [toP] using lay_word (h x hx)
  · have := dep_map (f := D.str) (l := ws) (n := 0) fun x hx => by simp [toP, PyData.depth]
    omega
theorem w_K2 (k : K2) : isW k.s = true := by cases k <;> decide
theorem w_K4 (k : K4) : isW k.s = true := by cases k <;> decide
theorem w_K3 (k : K3) : isW k.s = true := by cases k <;> decide
theorem w_KL (k : KL) : isW k.s = true := by cases k <;> decide
theorem lay_kdq (q : Qn) : (PyData.str (kd q)).canLay0 = true := by
  refine lay_word ?_
  cases q with
  | two k => exact w_K2 k
  | look k => exact w_K4 k
  | total k => exact w_K3 k
  | link k => exact w_KL k
  | fact => exact (by decide : isW (PySem.Str.ofString "fact") = true)
  | only => exact (by decide : isW (PySem.Str.ofString "only") = true)
  | whr => exact (by decide : isW (PySem.Str.ofString "where") = true)
  | shift => exact (by decide : isW (PySem.Str.ofString "shift") = true)
  | count => exact (by decide : isW (PySem.Str.ofString "count") = true)
theorem lay_cmps {t : Str} (h : t ∈ cmps) : (PyData.str t).canLay0 = true := by
  simp only [cmps, List.mem_cons, List.not_mem_nil, or_false] at h
  rcases h with rfl | rfl | rfl <;> exact lay_word (by decide)
theorem lay_O (w : Option Int) : (toP (encO w)).canLay0 = true ∧ (toP (encO w)).depth = 0 := by cases w <;> simp [encO, toP, PyData.canLay0, PyData.depth]
theorem lay_Q : ∀ q : Qn, okQ q → (toP (encQ q)).canLay0 = true ∧ (toP (encQ q)).depth ≤ dpQ q + 2
  | .fact n ts, h => by
    have hk := lay_kdq (.fact n ts)
    have h1 := lay_word h.1.1
    have h2 := lay_map (f := encTm) (l := ts) fun t ht => (lay_tm (h.1.2.2 t ht)).1
    have h3 := dep_map (f := encTm) (l := ts) (n := 1) fun t ht => (lay_tm (h.1.2.2 t ht)).2
    simp only [kd] at hk
    simp only [encQ, toP, toPs, PyData.canLay0, PyData.canLayAll0, PyData.depth, PyData.depthAll, dpQ, Bool.and_eq_true] at *
    exact ⟨⟨hk, h1, h2, trivial⟩, by omega⟩
  | .two k p q, h => by
    have hk := lay_kdq (.two k p q)
    obtain ⟨p1, p2⟩ := lay_Q p h.2.1
    obtain ⟨q1, q2⟩ := lay_Q q h.2.2
    simp only [kd] at hk
    simp only [encQ, toP, toPs, PyData.canLay0, PyData.canLayAll0, PyData.depth, PyData.depthAll, dpQ, Bool.and_eq_true] at *
    exact ⟨⟨hk, p1, q1, trivial⟩, by omega⟩
  | .only cs p, h => by
    have hk := lay_kdq (.only cs p)
    obtain ⟨p1, p2⟩ := lay_Q p h.2
    obtain ⟨c1, c2⟩ := lay_CC (ws := cs) fun w hw => (colsQ_ok p h.2).2 w (h.1.1.2 w hw)
    simp only [kd] at hk
    simp only [encQ, toP, toPs, PyData.canLay0, PyData.canLayAll0, PyData.depth, PyData.depthAll, dpQ, Bool.and_eq_true] at *
    exact ⟨⟨hk, c1, p1, trivial⟩, by omega⟩
  | .whr t l r p, h => by
    have hk := lay_kdq (.whr t l r p)
    obtain ⟨p1, p2⟩ := lay_Q p h.2
    have ht := lay_cmps h.1.1.1
    obtain ⟨l1, l2⟩ := lay_tm (okTm_fit (colsQ_ok p h.2).2 h.1.1.2.1)
    obtain ⟨r1, r2⟩ := lay_tm (okTm_fit (colsQ_ok p h.2).2 h.1.1.2.2)
    simp only [kd] at hk
    simp only [encQ, toP, toPs, PyData.canLay0, PyData.canLayAll0, PyData.depth, PyData.depthAll, dpQ, Bool.and_eq_true] at *
    exact ⟨⟨hk, ht, l1, r1, p1, trivial⟩, by omega⟩
  | .shift n p, h => by
    have hk := lay_kdq (.shift n p)
    obtain ⟨p1, p2⟩ := lay_Q p h.2
    simp only [kd] at hk
    simp only [encQ, toP, toPs, PyData.canLay0, PyData.canLayAll0, PyData.depth, PyData.depthAll, dpQ, Bool.and_eq_true] at *
    exact ⟨⟨hk, trivial, p1, trivial⟩, by omega⟩
  | .look k w p, h => by
    have hk := lay_kdq (.look k w p)
    obtain ⟨p1, p2⟩ := lay_Q p h.2
    obtain ⟨w1, w2⟩ := lay_O w
    simp only [kd] at hk
    simp only [encQ, toP, toPs, PyData.canLay0, PyData.canLayAll0, PyData.depth, PyData.depthAll, dpQ, Bool.and_eq_true] at *
    exact ⟨⟨hk, w1, p1, trivial⟩, by omega⟩
  | .count n ks p, h => by
    have hk := lay_kdq (.count n ks p)
    obtain ⟨p1, p2⟩ := lay_Q p h.2
    have h1 := lay_word h.1.1.1
    obtain ⟨c1, c2⟩ := lay_CC (ws := ks) fun w hw => (colsQ_ok p h.2).2 w (h.1.1.2.2.2 w hw)
    simp only [kd] at hk
    simp only [encQ, toP, toPs, PyData.canLay0, PyData.canLayAll0, PyData.depth, PyData.depthAll, dpQ, Bool.and_eq_true] at *
    exact ⟨⟨hk, h1, c1, p1, trivial⟩, by omega⟩
  | .total k n c ks p, h => by
    have hk := lay_kdq (.total k n c ks p)
    obtain ⟨p1, p2⟩ := lay_Q p h.2
    have h1 := lay_word h.1.1.1
    have h2 := lay_word ((colsQ_ok p h.2).2 c h.1.1.2.2.2)
    obtain ⟨c1, c2⟩ := lay_CC (ws := ks) fun w hw => (colsQ_ok p h.2).2 w (h.1.1.2.2.1.2 w hw)
    simp only [kd] at hk
    simp only [encQ, toP, toPs, PyData.canLay0, PyData.canLayAll0, PyData.depth, PyData.depthAll, dpQ, Bool.and_eq_true] at *
    exact ⟨⟨hk, h1, h2, c1, p1, trivial⟩, by omega⟩
  | .link k x y p, h => by
    have hk := lay_kdq (.link k x y p)
    obtain ⟨p1, p2⟩ := lay_Q p h.2
    have hx : ∀ z ∈ [x, y], isW z = true := fun z hz => (colsQ_ok p h.2).2 z (by rw [← h.1.1.2]; exact mem_ordS.mpr hz)
    have h1 := lay_word (hx x (by simp))
    have h2 := lay_word (hx y (by simp))
    simp only [kd] at hk
    simp only [encQ, toP, toPs, PyData.canLay0, PyData.canLayAll0, PyData.depth, PyData.depthAll, dpQ, Bool.and_eq_true] at *
    exact ⟨⟨hk, h1, h2, p1, trivial⟩, by omega⟩
end DL

set_option maxHeartbeats 1000000
namespace DL
open PySem PySem.Spec PyProof.Rows L2
/-! ### drawn values, names, leaves, terms -/
def sp_law_values : FSpec where
  pre := fun ds => ∃ (ns : List Int) (ws : List Str), ds = [.lst (ns.map D.int), .lst (ws.map D.str)] ∧ 2 ≤ ws.length ∧ ∀ w ∈ ws, isW w = true
  post := fun ds r ds' => ∀ (l : D) (ws : List Str), ds = [l, .lst (ws.map D.str)] → ∃ (ns : List Int) (vs : List Vv), r = .lst (vs.map encV) ∧ ds' = [.lst (ns.map D.int), .lst (ws.map D.str)] ∧ vs.length = 3 ∧ ∀ v ∈ vs, okV v
/-- slots: 0 draws, 1 words, 2 low, 3 values -/
def w_law_values : WS :=
    (cSeq (cAsg 2 [0, 1] 2 (cOp fSub (cCallN 2 sp_law_take (cCons (cVar 0) (cCons (cC (.int 7)) cNil))) (cC (.int 3))))
    (cSeq (cAsg 2 [0, 1] 3 (cLst (cCons (cVar 2) (cCons (cOp fAddG (cOp fAddG (cVar 2) (cC (.int 1))) (cCallN 2 sp_law_take (cCons (cVar 0) (cCons (cC (.int 5)) cNil)))) (cCons (cOp fIx (cVar 1) (cC (.int 0))) cNil)))))
    (cSeq (cIte (cOp fEqS (cCallN 2 sp_law_take (cCons (cVar 0) (cCons (cC (.int 3)) cNil))) (cC (.int 0)))
      (cSet 3 (cOp fIx (cVar 1) (cC (.int 1))) (cC (.int 1)))
      cNilS)
    (cRet 2 (cVar 3)))))
local macro_rules | `(tactic| walk_at "Ddlx") => `(tactic| ((conv => whnf); (repeat ((first | ((with_reducible refine And.intro (stOk_nl ?_ ?_) ?_); (focus (with_reducible first | assumption | exact encQ_nl _ | exact encO_nl _ | exact encC_nl _)); (focus exact rfl)) | ((refine pick_nl ?_ ?_); (focus (with_reducible first | assumption | exact encQ_nl _ | exact encO_nl _ | exact encC_nl _))) | ((with_reducible refine And.intro ?_ ?_); (focus (with_reducible first | assumption | exact encQ_nl _ | exact encO_nl _ | exact encC_nl _))) | ((with_reducible refine And.intro (immA_c ?_ ?_) ?_); (focus (first | (with_reducible first | assumption | exact encQ_nl _ | exact encO_nl _ | exact encC_nl _) | exact rfl)); (focus ((repeat ((with_reducible refine immA_c ?_ ?_); (focus (first | (with_reducible first | assumption | exact encQ_nl _ | exact encO_nl _ | exact encC_nl _) | exact rfl)))); exact rfl))) | refine And.intro rfl ?_ | refine And.intro trivial ?_ | refine And.intro ⟨rfl, trivial⟩ ?_ | refine And.intro ⟨rfl, rfl, trivial⟩ ?_ | refine ifb_nq (by first | assumption | decide) ?_ | refine ifb_pq (by assumption) ?_ | refine ifb_er ?_ | refine ifb_t ?_ | refine ifb_f ?_ | refine ifb_nr ?_ | refine ifb_er ?_ | ((with_reducible refine And.intro (?_ : (_ : Nat) ≤ _) ?_); (focus (first | decide | omega | (unfold CMul; omega) | (unfold CDiv; omega) | (unfold CPow; decide) | (exact cpow1 (by omega) (by omega)) | (simp only [rngD_len, List.length_replicate, List.length_map, List.length_append, List.length_cons, List.length_nil, List.length_set] at *; omega)))) | ((with_reducible refine And.intro (?_ : (_ : Int) ≤ _) ?_); (focus (first | decide | omega | (unfold CMul; omega) | (unfold CDiv; omega) | (unfold CPow; decide) | (exact cpow1 (by omega) (by omega)) | (simp only [rngD_len, List.length_replicate, List.length_map, List.length_append, List.length_cons, List.length_nil, List.length_set] at *; omega)))) | ((with_reducible refine And.intro (?_ : (_ : Nat) < _) ?_); (focus (first | decide | omega | (unfold CMul; omega) | (unfold CDiv; omega) | (unfold CPow; decide) | (exact cpow1 (by omega) (by omega)) | (simp only [rngD_len, List.length_replicate, List.length_map, List.length_append, List.length_cons, List.length_nil, List.length_set] at *; omega)))) | ((with_reducible refine And.intro (?_ : (_ : Int) < _) ?_); (focus (first | decide | omega | (unfold CMul; omega) | (unfold CDiv; omega) | (unfold CPow; decide) | (exact cpow1 (by omega) (by omega)) | (simp only [rngD_len, List.length_replicate, List.length_map, List.length_append, List.length_cons, List.length_nil, List.length_set] at *; omega)))) | ((with_reducible refine And.intro (?_ : CMul _ _) ?_); (focus (first | decide | omega | (unfold CMul; omega) | (unfold CDiv; omega) | (unfold CPow; decide) | (exact cpow1 (by omega) (by omega)) | (simp only [rngD_len, List.length_replicate, List.length_map, List.length_append, List.length_cons, List.length_nil, List.length_set] at *; omega)))) | ((with_reducible refine And.intro (?_ : CDiv _ _) ?_); (focus (first | decide | omega | (unfold CMul; omega) | (unfold CDiv; omega) | (unfold CPow; decide) | (exact cpow1 (by omega) (by omega)) | (simp only [rngD_len, List.length_replicate, List.length_map, List.length_append, List.length_cons, List.length_nil, List.length_set] at *; omega)))) | ((with_reducible refine And.intro (?_ : CPow _ _) ?_); (focus (first | decide | omega | (unfold CMul; omega) | (unfold CDiv; omega) | (unfold CPow; decide) | (exact cpow1 (by omega) (by omega)) | (simp only [rngD_len, List.length_replicate, List.length_map, List.length_append, List.length_cons, List.length_nil, List.length_set] at *; omega)))) | ((with_reducible refine And.intro (?_ : (_ : Nat) = _) ?_); (focus (first | decide | omega | (unfold CMul; omega) | (unfold CDiv; omega) | (unfold CPow; decide) | (exact cpow1 (by omega) (by omega)) | (simp only [rngD_len, List.length_replicate, List.length_map, List.length_append, List.length_cons, List.length_nil, List.length_set] at *; omega))))); (conv => whnf); (try dsimp only [List.set_cons_zero, List.set_cons_succ, upA, wipeE, back, List.getElem?_cons_zero, List.getElem?_cons_succ, Option.getD_some]))); (try dsimp only [List.set_cons_zero, List.set_cons_succ, upA, wipeE, back, List.getElem?_cons_zero, List.getElem?_cons_succ, Option.getD_some])))
theorem pure_law_values : ∀ ds, ds.length = 2 → sp_law_values.pre ds → w_law_values (env0 ds 2) { nx := fun e => sp_law_values.post ds .non (outs e 2), rt := fun d e => sp_law_values.post ds d (outs e 2) } := by
  rintro ds _ ⟨ns, ws, rfl, h2, hw⟩
  obtain ⟨w0, e0, k0⟩ : ∃ w, ws[0]? = some w ∧ isW w = true := ⟨_, List.getElem?_eq_getElem (by omega), hw _ (List.getElem_mem _)⟩
  obtain ⟨w1, e1, k1⟩ : ∃ w, ws[1]? = some w ∧ isW w = true := ⟨_, List.getElem?_eq_getElem (by omega), hw _ (List.getElem_mem _)⟩
  have a0 : atI (ws.map D.str) 0 = some (.str w0) := atI_nat (j := 0) (by rw [List.getElem?_map, e0]; rfl)
  have a1 : atI (ws.map D.str) 1 = some (.str w1) := atI_nat (j := 1) (by rw [List.getElem?_map, e1]; rfl)
  have post : ∀ {ks : List Int} {r : D} (vs : List Vv), r = .lst (vs.map encV) → vs.length = 3 → (∀ v ∈ vs, okV v) → ∀ (l : D) (ws' : List Str), [D.lst (ns.map D.int), .lst (ws.map D.str)] = [l, .lst (ws'.map D.str)] → ∃ (ns : List Int) (vs : List Vv), r = .lst (vs.map encV) ∧ [D.lst (ks.map D.int), .lst (ws.map D.str)] = [.lst (ns.map D.int), .lst (ws'.map D.str)] ∧ vs.length = 3 ∧ ∀ v ∈ vs, okV v := by
    intro ks r vs h1 h3 h4 l ws' e
    simp only [List.cons.injEq, and_true, D.lst.injEq] at e
    cases mapS_inj e.2
    exact ⟨ks, vs, h1, rfl, h3, h4⟩
  walk_at "Ddlx"
  refine ⟨⟨⟨_, rfl⟩, by decide⟩, ?_⟩
  rintro _ _ ⟨n1, lo, rfl, rfl, _, _⟩
  walk_at "Ddlx"
  refine ⟨⟨⟨_, rfl⟩, by decide⟩, ?_⟩
  rintro _ _ ⟨n2, hi, rfl, rfl, _, _⟩
  walk_at "Ddlx"
  rw [a0]
  walk_at "Ddlx"
  refine ⟨⟨⟨_, rfl⟩, by decide⟩, ?_⟩
  rintro _ _ ⟨n3, k, rfl, rfl, _, _⟩
  walk_at "Ddlx"
  refine ifb_dec (fun g => ?_) (fun g => ?_)
  · walk_at "Ddlx"
    rw [a1]
    walk_at "Ddlx"
    exact post [.i (lo - 3), .s w1, .s w0] rfl rfl (by simp only [List.mem_cons, List.not_mem_nil, or_false]; rintro v (rfl | rfl | rfl) <;> first | trivial | exact k0 | exact k1)
  · walk_at "Ddlx"
    exact post [.i (lo - 3), .i (lo - 3 + 1 + hi), .s w0] rfl rfl (by simp only [List.mem_cons, List.not_mem_nil, or_false]; rintro v (rfl | rfl | rfl) <;> first | trivial | exact k0 | exact k1)
def sp_law_value : FSpec where
  pre := fun ds => ∃ (ns : List Int) (vs : List Vv), ds = [.lst (ns.map D.int), .rol (vs.map encV)] ∧ vs.length = 3
  post := fun ds r ds' => ∀ (l : D) (vs : List Vv), ds = [l, .rol (vs.map encV)] → ∃ (ns : List Int) (v : Vv), r = encV v ∧ ds' = [.lst (ns.map D.int), .rol (vs.map encV)] ∧ v ∈ vs
theorem mapV_inj {a b : List Vv} (h : a.map encV = b.map encV) : a = b := (List.map_inj_right fun _ _ h => encV_inj h).mp h
/-- slots: 0 draws, 1 values -/
def w_law_value : WS :=
    (cRet 2 (cOp fIx (cVar 1) (cOp fIx (cLst (cCons (cC (.int 0)) (cCons (cC (.int 1)) (cCons (cC (.int 0)) (cCons (cC (.int 2)) (cCons (cC (.int 1)) cNil)))))) (cCallN 2 sp_law_take (cCons (cVar 0) (cCons (cC (.int 5)) cNil))))))
theorem pure_law_value : ∀ ds, ds.length = 2 → sp_law_value.pre ds → w_law_value (env0 ds 0) { nx := fun e => sp_law_value.post ds .non (outs e 2), rt := fun d e => sp_law_value.post ds d (outs e 2) } := by
  rintro ds _ ⟨ns, vs, rfl, h3⟩
  have post : ∀ {ks : List Int} {v : Vv}, v ∈ vs → ∀ (l : D) (vs' : List Vv), [D.lst (ns.map D.int), .rol (vs.map encV)] = [l, .rol (vs'.map encV)] → ∃ (ns : List Int) (v' : Vv), encV v = encV v' ∧ [D.lst (ks.map D.int), .rol (vs.map encV)] = [.lst (ns.map D.int), .rol (vs'.map encV)] ∧ v' ∈ vs' := by
    intro ks v hv l vs' e
    simp only [List.cons.injEq, and_true, D.lst.injEq, D.rol.injEq] at e
    cases mapV_inj e.2
    exact ⟨ks, v, rfl, rfl, hv⟩
  obtain ⟨x, y, z, rfl⟩ : ∃ x y z, vs = [x, y, z] := by
    match vs, h3 with
    | [x, y, z], _ => exact ⟨x, y, z, rfl⟩
  have nx := encV_nl x
  have ny := encV_nl y
  have nz := encV_nl z
  walk_at "Ddlx"
  refine ⟨⟨⟨_, rfl⟩, by decide⟩, ?_⟩
  rintro _ _ ⟨n1, k, rfl, rfl, k0, k1⟩
  have : k = 0 ∨ k = 1 ∨ k = 2 ∨ k = 3 ∨ k = 4 := by omega
  rcases this with rfl | rfl | rfl | rfl | rfl <;>
  · walk_at "Ddlx"
    exact post (by simp)
def sp_law_name : FSpec where
  pre := fun ds => ∃ (ns : List Int) (ws : List Str), ds = [.lst (ns.map D.int), .rol (ws.map D.str)] ∧ ws.length = 2
  post := fun ds r ds' => ∀ (l : D) (ws : List Str), ds = [l, .rol (ws.map D.str)] → ∃ (ns : List Int) (w : Str), r = .str w ∧ ds' = [.lst (ns.map D.int), .rol (ws.map D.str)] ∧ w ∈ ws
/-- slots: 0 draws, 1 names -/
def w_law_name : WS :=
    (cRet 2 (cOp fIx (cVar 1) (cOp fIx (cLst (cCons (cC (.int 0)) (cCons (cC (.int 0)) (cCons (cC (.int 1)) cNil)))) (cCallN 2 sp_law_take (cCons (cVar 0) (cCons (cC (.int 3)) cNil))))))
theorem pure_law_name : ∀ ds, ds.length = 2 → sp_law_name.pre ds → w_law_name (env0 ds 0) { nx := fun e => sp_law_name.post ds .non (outs e 2), rt := fun d e => sp_law_name.post ds d (outs e 2) } := by
  rintro ds _ ⟨ns, ws, rfl, h2⟩
  have post : ∀ {ks : List Int} {w : Str}, w ∈ ws → ∀ (l : D) (ws' : List Str), [D.lst (ns.map D.int), .rol (ws.map D.str)] = [l, .rol (ws'.map D.str)] → ∃ (ns : List Int) (w' : Str), D.str w = .str w' ∧ [D.lst (ks.map D.int), .rol (ws.map D.str)] = [.lst (ns.map D.int), .rol (ws'.map D.str)] ∧ w' ∈ ws' := by
    intro ks w hv l ws' e
    simp only [List.cons.injEq, and_true, D.lst.injEq, D.rol.injEq] at e
    cases mapS_inj e.2
    exact ⟨ks, w, rfl, rfl, hv⟩
  obtain ⟨x, y, rfl⟩ : ∃ x y, ws = [x, y] := by
    match ws, h2 with
    | [x, y], _ => exact ⟨x, y, rfl⟩
  walk_at "Ddlx"
  refine ⟨⟨⟨_, rfl⟩, by decide⟩, ?_⟩
  rintro _ _ ⟨n1, k, rfl, rfl, k0, k1⟩
  have : k = 0 ∨ k = 1 ∨ k = 2 := by omega
  rcases this with rfl | rfl | rfl <;>
  · walk_at "Ddlx"
    exact post (by simp)
def sp_law_term : FSpec where
  pre := fun ds => ∃ (ns : List Int) (cs : List Str) (vs : List Vv), ds = [.lst (ns.map D.int), encC cs, .rol (vs.map encV)] ∧ cs.length ≤ 8 ∧ (vs.length = 3 ∧ ∀ v ∈ vs, okV v)
  post := fun ds r ds' => ∀ (l : D) (cs : List Str) (vs : List Vv), ds = [l, encC cs, .rol (vs.map encV)] → ∃ (ns : List Int) (t : Tm), r = encTm t ∧ ds' = [.lst (ns.map D.int), encC cs, .rol (vs.map encV)] ∧ fitTm cs t
/-- slots: 0 draws, 1 columns, 2 values -/
def w_law_term : WS :=
    (cSeq (cIte (cAnd (cOp fGt (cBi fLen (cCons (cVar 1) cNil)) (cC (.int 0))) (cOp fEqS (cCallN 2 sp_law_take (cCons (cVar 0) (cCons (cC (.int 2)) cNil))) (cC (.int 0))))
      (cRet 3 (cTup (cCons (cC (.str (PySem.Str.ofString "col"))) (cCons (cCallN 2 sp_law_pick (cCons (cVar 0) (cCons (cVar 1) cNil))) cNil))))
      cNilS)
    (cRet 3 (cTup (cCons (cC (.str (PySem.Str.ofString "value"))) (cCons (cCallN 2 sp_law_pick (cCons (cVar 0) (cCons (cVar 2) cNil))) cNil)))))
theorem pure_law_term : ∀ ds, ds.length = 3 → sp_law_term.pre ds → w_law_term (env0 ds 0) { nx := fun e => sp_law_term.post ds .non (outs e 3), rt := fun d e => sp_law_term.post ds d (outs e 3) } := by
  rintro ds _ ⟨ns, cs, vs, rfl, h8, h3, hv⟩
  have post : ∀ {ks : List Int} {r : D} {t : Tm}, r = encTm t → fitTm cs t → ∀ (l : D) (cs' : List Str) (vs' : List Vv), [D.lst (ns.map D.int), encC cs, .rol (vs.map encV)] = [l, encC cs', .rol (vs'.map encV)] → ∃ (ns : List Int) (t' : Tm), r = encTm t' ∧ [D.lst (ks.map D.int), encC cs, .rol (vs.map encV)] = [.lst (ns.map D.int), encC cs', .rol (vs'.map encV)] ∧ fitTm cs' t' := by
    intro ks r t h1 h2 l cs' vs' e
    simp only [List.cons.injEq, and_true, D.lst.injEq, D.rol.injEq] at e
    cases encC_inj e.2.1
    cases mapV_inj e.2.2
    exact ⟨ks, t, h1, rfl, h2⟩
  have pv : ∀ (ks : List Int), sp_law_pick.pre [.lst (ks.map D.int), .rol (vs.map encV)] := fun ks => ⟨ks, _, _, rfl, rfl, by rw [List.length_map]; omega, by rw [List.length_map]; omega⟩
  have fv : ∀ {ks : List Int} {r : D} {ds' : List D}, sp_law_pick.post [.lst (ks.map D.int), .rol (vs.map encV)] r ds' → ∃ (ks2 : List Int) (v : Vv), r = encV v ∧ ds' = [.lst (ks2.map D.int), .rol (vs.map encV)] ∧ okV v := fun h => by
    obtain ⟨k2, hr, rfl⟩ := h _ _ _ rfl rfl
    obtain ⟨v, hm, rfl⟩ := List.mem_map.mp hr
    exact ⟨k2, v, rfl, rfl, hv v hm⟩
  have lst : ∀ (ks : List Int) (x : DEnv → Kt → Prop), True := fun _ _ => trivial
  walk_at "Ddlx"
  refine ifb_dec (fun g => ?_) (fun g => ?_)
  · have gl : 0 < cs.length := by
      have : (0 : Int) < ((cs.map D.str).length : Int) := g
      rw [List.length_map] at this
      omega
    walk_at "Ddlx"
    refine ⟨⟨⟨_, rfl⟩, by decide⟩, ?_⟩
    rintro _ _ ⟨n1, k, rfl, rfl, k0, k1⟩
    walk_at "Ddlx"
    refine ifb_dec (fun g2 => ?_) (fun g2 => ?_)
    · walk_at "Ddlx"
      refine ⟨⟨n1, _, _, rfl, rfl, by rw [List.length_map]; exact gl, by rw [List.length_map]; omega⟩, ?_⟩
      intro r ds' hp
      obtain ⟨n2, hr, rfl⟩ := hp _ _ _ rfl rfl
      obtain ⟨c, hc, rfl⟩ := List.mem_map.mp hr
      clear hr
      walk_at "Ddlx"
      exact post (t := .col c) rfl hc
    · walk_at "Ddlx"
      refine ⟨pv n1, ?_⟩
      intro r ds' hp
      obtain ⟨n2, v, rfl, rfl, ov⟩ := fv hp
      have nlv := encV_nl v
      walk_at "Ddlx"
      exact post (t := .val v) rfl ov
  · walk_at "Ddlx"
    refine ⟨pv ns, ?_⟩
    intro r ds' hp
    obtain ⟨n2, v, rfl, rfl, ov⟩ := fv hp
    have nlv := encV_nl v
    walk_at "Ddlx"
    exact post (t := .val v) rfl ov
end DL

set_option maxHeartbeats 1000000
namespace DL
open PySem PySem.Spec PyProof.Rows L2
/-! ### drawn facts -/
structure LfOk (ws cs : List Str) (vs : List Vv) : Prop where
  w2 : ws.length = 2
  ww : ∀ w ∈ ws, isW w = true
  c : CsOk cs
  v3 : vs.length = 3
  vv : ∀ v ∈ vs, okV v
def sp_law_leaf : FSpec where
  pre := fun ds => ∃ (ns : List Int) (ws cs : List Str) (vs : List Vv), ds = [.lst (ns.map D.int), .rol (ws.map D.str), encC cs, .rol (vs.map encV)] ∧ LfOk ws cs vs
  post := fun ds r ds' => ∀ (l : D) (ws cs : List Str) (vs : List Vv), ds = [l, .rol (ws.map D.str), encC cs, .rol (vs.map encV)] → ∃ (ns : List Int) (q : Qn), r = encQ q ∧ ds' = [.lst (ns.map D.int), .rol (ws.map D.str), encC cs, .rol (vs.map encV)] ∧ okQ q ∧ colsQ q = cs ∧ dpQ q = 1
theorem lf_post {l r : D} {ws cs : List Str} {vs : List Vv} {ks : List Int} {q : Qn} (e : r = encQ q) (h : okQ q ∧ colsQ q = cs ∧ dpQ q = 1) : ∀ (l' : D) (ws' cs' : List Str) (vs' : List Vv), [l, .rol (ws.map D.str), encC cs, .rol (vs.map encV)] = [l', .rol (ws'.map D.str), encC cs', .rol (vs'.map encV)] →
    ∃ (ns : List Int) (q : Qn), r = encQ q ∧ [D.lst (ks.map D.int), .rol (ws.map D.str), encC cs, .rol (vs.map encV)] = [.lst (ns.map D.int), .rol (ws'.map D.str), encC cs', .rol (vs'.map encV)] ∧ okQ q ∧ colsQ q = cs' ∧ dpQ q = 1 := by
  intro l' ws' cs' vs' e'
  simp only [List.cons.injEq, and_true, D.lst.injEq, D.rol.injEq] at e'
  cases mapS_inj e'.2.1
  cases encC_inj e'.2.2.1
  cases mapV_inj e'.2.2.2
  exact ⟨ks, q, e, rfl, h⟩
structure TsOk (cs : List Str) (ts : List Tm) : Prop where
  fit : ∀ t ∈ ts, fitTm cs t
  all : ∀ x ∈ cs, Tm.col x ∈ ts
  few : ts.length ≤ 8
theorem TsOk.q {cs : List Str} {ts : List Tm} {nm : Str} (hc : CsOk cs) (hn : isW nm = true) (h : TsOk cs ts) : okQ (.fact nm ts) ∧ colsQ (.fact nm ts) = cs ∧ dpQ (.fact nm ts) = 1 := by
  have hcol := colsF hc.sc h.fit h.all (n := nm)
  exact ⟨⟨⟨hn, h.few, fun t ht => fit_ok hc (h.fit t ht)⟩, by rw [hcol]; exact hc.few⟩, hcol, rfl⟩
theorem value_call {vs : List Vv} (h3 : vs.length = 3) (ks : List Int) : sp_law_value.pre [.lst (ks.map D.int), .rol (vs.map encV)] ∧ ∀ r ds', sp_law_value.post [.lst (ks.map D.int), .rol (vs.map encV)] r ds' → ∃ (n2 : List Int) (v : Vv), r = encV v ∧ ds' = [.lst (n2.map D.int), .rol (vs.map encV)] ∧ v ∈ vs :=
  ⟨⟨ks, vs, rfl, h3⟩, fun r ds' h => h _ _ rfl⟩
/-- slots: 0 draws, 1 names, 2 columns, 3 values, 4 terms, 5 x, 6 k -/
def w_law_leaf : WS :=
    (cSeq (cAsg 4 [0, 1, 2, 3] 4 (cLc [5] (iE (cVar 2)) (gN 4 [] 5) tTrue (cTup (cCons (cC (.str (PySem.Str.ofString "col"))) (cCons (cVar 5) cNil)))))
    (cSeq (cIte (cAnd (cOp fEqS (cBi fLen (cCons (cVar 4) cNil)) (cC (.int 1))) (cOp fGt (cCallN 2 sp_law_take (cCons (cVar 0) (cCons (cC (.int 3)) cNil))) (cC (.int 0))))
      (cEx (cMeth 4 fAppend (cCons (cOp fIx (cLst (cCons (cTup (cCons (cC (.str (PySem.Str.ofString "value"))) (cCons (cCallN 2 sp_law_value (cCons (cVar 0) (cCons (cVar 3) cNil))) cNil))) (cCons (cTup (cCons (cC (.str (PySem.Str.ofString "col"))) (cCons (cOp fIx (cVar 2) (cC (.int 0))) cNil))) cNil))) (cBi fInt (cCons (cOp fEqS (cCallN 2 sp_law_take (cCons (cVar 0) (cCons (cC (.int 4)) cNil))) (cC (.int 0))) cNil))) cNil)))
      cNilS)
    (cSeq (cIte (cAnd (cOp fEqS (cBi fLen (cCons (cVar 4) cNil)) (cC (.int 0))) (cOp fGt (cCallN 2 sp_law_take (cCons (cVar 0) (cCons (cC (.int 3)) cNil))) (cC (.int 0))))
      (cAsg 4 [0, 1, 2, 3] 4 (cLc [6] (iR1 (cOp fAddG (cC (.int 1)) (cCallN 2 sp_law_take (cCons (cVar 0) (cCons (cC (.int 2)) cNil))))) (gN 4 [] 6) tTrue (cTup (cCons (cC (.str (PySem.Str.ofString "value"))) (cCons (cCallN 2 sp_law_value (cCons (cVar 0) (cCons (cVar 3) cNil))) cNil)))))
      cNilS)
    (cSeq (cIte (cOp fEqS (cCallN 2 sp_law_take (cCons (cVar 0) (cCons (cC (.int 2)) cNil))) (cC (.int 0)))
      (cEx (cMeth 4 fReverse cNil))
      cNilS)
    (cRet 4 (cTup (cCons (cC (.str (PySem.Str.ofString "fact"))) (cCons (cCallN 2 sp_law_name (cCons (cVar 0) (cCons (cVar 1) cNil))) (cCons (cBi fTuple (cCons (cVar 4) cNil)) cNil)))))))))
def wc_law_leaf_3 : WS :=
    (cRet 4 (cTup (cCons (cC (.str (PySem.Str.ofString "fact"))) (cCons (cCallN 2 sp_law_name (cCons (cVar 0) (cCons (cVar 1) cNil))) (cCons (cBi fTuple (cCons (cVar 4) cNil)) cNil)))))
def wc_law_leaf_2 : WS :=
    (cCut (cIte (cOp fEqS (cCallN 2 sp_law_take (cCons (cVar 0) (cCons (cC (.int 2)) cNil))) (cC (.int 0)))
      (cEx (cMeth 4 fReverse cNil))
      cNilS) (wc_law_leaf_3))
def wc_law_leaf_1 : WS :=
    (cCut (cIte (cAnd (cOp fEqS (cBi fLen (cCons (cVar 4) cNil)) (cC (.int 0))) (cOp fGt (cCallN 2 sp_law_take (cCons (cVar 0) (cCons (cC (.int 3)) cNil))) (cC (.int 0))))
      (cAsg 4 [0, 1, 2, 3] 4 (cLc [6] (iR1 (cOp fAddG (cC (.int 1)) (cCallN 2 sp_law_take (cCons (cVar 0) (cCons (cC (.int 2)) cNil))))) (gN 4 [] 6) tTrue (cTup (cCons (cC (.str (PySem.Str.ofString "value"))) (cCons (cCallN 2 sp_law_value (cCons (cVar 0) (cCons (cVar 3) cNil))) cNil)))))
      cNilS) (wc_law_leaf_2))
def wc_law_leaf_0 : WS :=
    (cSeq (cAsg 4 [0, 1, 2, 3] 4 (cLc [5] (iE (cVar 2)) (gN 4 [] 5) tTrue (cTup (cCons (cC (.str (PySem.Str.ofString "col"))) (cCons (cVar 5) cNil)))))
    (cCut (cIte (cAnd (cOp fEqS (cBi fLen (cCons (cVar 4) cNil)) (cC (.int 1))) (cOp fGt (cCallN 2 sp_law_take (cCons (cVar 0) (cCons (cC (.int 3)) cNil))) (cC (.int 0))))
      (cEx (cMeth 4 fAppend (cCons (cOp fIx (cLst (cCons (cTup (cCons (cC (.str (PySem.Str.ofString "value"))) (cCons (cCallN 2 sp_law_value (cCons (cVar 0) (cCons (cVar 3) cNil))) cNil))) (cCons (cTup (cCons (cC (.str (PySem.Str.ofString "col"))) (cCons (cOp fIx (cVar 2) (cC (.int 0))) cNil))) cNil))) (cBi fInt (cCons (cOp fEqS (cCallN 2 sp_law_take (cCons (cVar 0) (cCons (cC (.int 4)) cNil))) (cC (.int 0))) cNil))) cNil)))
      cNilS) (wc_law_leaf_1)))
theorem wc_law_leaf_eq : w_law_leaf = wc_law_leaf_0 := by
  unfold wc_law_leaf_0 wc_law_leaf_1 wc_law_leaf_2 wc_law_leaf_3
  simp only [cCut_eq]
  rfl
abbrev kt_law_leaf (ds : List D) : Kt := { nx := fun e => sp_law_leaf.post ds .non (outs e 4), rt := fun d e => sp_law_leaf.post ds d (outs e 4) }
abbrev EL (ks : List Int) (ws cs : List Str) (vs : List Vv) (t : List (Option D)) : DEnv := some (.lst (ks.map D.int)) :: some (.rol (ws.map D.str)) :: some (encC cs) :: some (.rol (vs.map encV)) :: t
abbrev KLf (ns : List Int) (ws cs : List Str) (vs : List Vv) : Kt := kt_law_leaf [.lst (ns.map D.int), .rol (ws.map D.str), encC cs, .rol (vs.map encV)]
local macro_rules | `(tactic| walk_at "Ddlx") => `(tactic| ((conv => whnf); (repeat ((first | ((with_reducible refine And.intro (stOk_nl ?_ ?_) ?_); (focus (with_reducible first | assumption | exact encQ_nl _ | exact encO_nl _ | exact encC_nl _)); (focus exact rfl)) | ((refine pick_nl ?_ ?_); (focus (with_reducible first | assumption | exact encQ_nl _ | exact encO_nl _ | exact encC_nl _))) | ((with_reducible refine And.intro ?_ ?_); (focus (with_reducible first | assumption | exact encQ_nl _ | exact encO_nl _ | exact encC_nl _))) | ((with_reducible refine And.intro (immA_c ?_ ?_) ?_); (focus (first | (with_reducible first | assumption | exact encQ_nl _ | exact encO_nl _ | exact encC_nl _) | exact rfl)); (focus ((repeat ((with_reducible refine immA_c ?_ ?_); (focus (first | (with_reducible first | assumption | exact encQ_nl _ | exact encO_nl _ | exact encC_nl _) | exact rfl)))); exact rfl))) | refine And.intro rfl ?_ | refine And.intro trivial ?_ | refine And.intro ⟨rfl, trivial⟩ ?_ | refine And.intro ⟨rfl, rfl, trivial⟩ ?_ | refine ifb_nq (by first | assumption | decide) ?_ | refine ifb_pq (by assumption) ?_ | refine ifb_er ?_ | refine ifb_t ?_ | refine ifb_f ?_ | refine ifb_nr ?_ | refine ifb_er ?_ | ((with_reducible refine And.intro (?_ : (_ : Nat) ≤ _) ?_); (focus (first | decide | omega | (unfold CMul; omega) | (unfold CDiv; omega) | (unfold CPow; decide) | (exact cpow1 (by omega) (by omega)) | (simp only [rngD_len, List.length_replicate, List.length_map, List.length_append, List.length_cons, List.length_nil, List.length_set] at *; omega)))) | ((with_reducible refine And.intro (?_ : (_ : Int) ≤ _) ?_); (focus (first | decide | omega | (unfold CMul; omega) | (unfold CDiv; omega) | (unfold CPow; decide) | (exact cpow1 (by omega) (by omega)) | (simp only [rngD_len, List.length_replicate, List.length_map, List.length_append, List.length_cons, List.length_nil, List.length_set] at *; omega)))) | ((with_reducible refine And.intro (?_ : (_ : Nat) < _) ?_); (focus (first | decide | omega | (unfold CMul; omega) | (unfold CDiv; omega) | (unfold CPow; decide) | (exact cpow1 (by omega) (by omega)) | (simp only [rngD_len, List.length_replicate, List.length_map, List.length_append, List.length_cons, List.length_nil, List.length_set] at *; omega)))) | ((with_reducible refine And.intro (?_ : (_ : Int) < _) ?_); (focus (first | decide | omega | (unfold CMul; omega) | (unfold CDiv; omega) | (unfold CPow; decide) | (exact cpow1 (by omega) (by omega)) | (simp only [rngD_len, List.length_replicate, List.length_map, List.length_append, List.length_cons, List.length_nil, List.length_set] at *; omega)))) | ((with_reducible refine And.intro (?_ : CMul _ _) ?_); (focus (first | decide | omega | (unfold CMul; omega) | (unfold CDiv; omega) | (unfold CPow; decide) | (exact cpow1 (by omega) (by omega)) | (simp only [rngD_len, List.length_replicate, List.length_map, List.length_append, List.length_cons, List.length_nil, List.length_set] at *; omega)))) | ((with_reducible refine And.intro (?_ : CDiv _ _) ?_); (focus (first | decide | omega | (unfold CMul; omega) | (unfold CDiv; omega) | (unfold CPow; decide) | (exact cpow1 (by omega) (by omega)) | (simp only [rngD_len, List.length_replicate, List.length_map, List.length_append, List.length_cons, List.length_nil, List.length_set] at *; omega)))) | ((with_reducible refine And.intro (?_ : CPow _ _) ?_); (focus (first | decide | omega | (unfold CMul; omega) | (unfold CDiv; omega) | (unfold CPow; decide) | (exact cpow1 (by omega) (by omega)) | (simp only [rngD_len, List.length_replicate, List.length_map, List.length_append, List.length_cons, List.length_nil, List.length_set] at *; omega)))) | ((with_reducible refine And.intro (?_ : (_ : Nat) = _) ?_); (focus (first | decide | omega | (unfold CMul; omega) | (unfold CDiv; omega) | (unfold CPow; decide) | (exact cpow1 (by omega) (by omega)) | (simp only [rngD_len, List.length_replicate, List.length_map, List.length_append, List.length_cons, List.length_nil, List.length_set] at *; omega))))); (conv => whnf); (try dsimp only [List.set_cons_zero, List.set_cons_succ, upA, wipeE, back, List.getElem?_cons_zero, List.getElem?_cons_succ, Option.getD_some]))); (try dsimp only [List.set_cons_zero, List.set_cons_succ, upA, wipeE, back, List.getElem?_cons_zero, List.getElem?_cons_succ, Option.getD_some])))
section
variable {ns ks : List Int} {ws cs : List Str} {vs : List Vv} {ts : List Tm} (L : LfOk ws cs vs) (T : TsOk cs ts)
include L T
theorem leaf3 : wc_law_leaf_3 (EL ks ws cs vs [some (.lst (ts.map encTm)), none, none]) (KLf ns ws cs vs) := by
  have post := fun {l r : D} {ks : List Int} {q : Qn} e h => lf_post (l := l) (r := r) (ws := ws) (cs := cs) (vs := vs) (ks := ks) (q := q) e h
  have hw2 := L.w2
  walk_at "Ddlx"
  refine ⟨⟨ks, ws, rfl, hw2⟩, ?_⟩
  intro r ds' hp
  obtain ⟨n2, w, rfl, rfl, hm⟩ := hp _ _ rfl
  walk_at "Ddlx"
  exact post (q := .fact w ts) rfl (T.q L.c (L.ww w hm))
theorem leaf2 : wc_law_leaf_2 (EL ks ws cs vs [some (.lst (ts.map encTm)), none, none]) (KLf ns ws cs vs) := by
  walk_at "Ddlx"
  refine ⟨⟨⟨_, rfl⟩, by decide⟩, ?_⟩
  rintro _ _ ⟨n1, k, rfl, rfl, k0, k1⟩
  walk_at "Ddlx"
  refine ifb_dec (fun g => ?_) (fun g => ?_)
  · walk_at "Ddlx"
    have e : (ts.map encTm).reverse = ts.reverse.map encTm := by rw [List.map_reverse]
    rw [e]
    have T' : TsOk cs ts.reverse := ⟨fun t ht => T.fit t (List.mem_reverse.mp ht), fun x hx => List.mem_reverse.mpr (T.all x hx), by rw [List.length_reverse]; exact T.few⟩
    exact Stop.mk (leaf3 (ks := n1) (ts := ts.reverse) L T')
  · walk_at "Ddlx"
    exact Stop.mk (leaf3 (ks := n1) L T)
end
theorem leaf1 {ns ks : List Int} {ws cs : List Str} {vs : List Vv} {ts : List Tm} (L : LfOk ws cs vs) (T : TsOk cs ts) : wc_law_leaf_1 (EL ks ws cs vs [some (.lst (ts.map encTm)), none, none]) (KLf ns ws cs vs) := by
  have v3 := L.v3
  walk_at "Ddlx"
  refine ifb_dec (fun g => ?_) (fun g => ?_)
  · have hts : ts = [] := by
      have : ((ts.map encTm).length : Int) = 0 := g
      rw [List.length_map] at this
      exact List.length_eq_zero_iff.mp (by omega)
    subst hts
    have hcs : cs = [] := by
      cases cs with
      | nil => rfl
      | cons c cs => exact absurd (T.all c (by simp)) (by simp)
    subst hcs
    walk_at "Ddlx"
    refine ⟨⟨⟨_, rfl⟩, by decide⟩, ?_⟩
    rintro _ _ ⟨n1, k, rfl, rfl, k0, k1⟩
    walk_at "Ddlx"
    refine ifb_dec (fun g2 => ?_) (fun g2 => ?_)
    · walk_at "Ddlx"
      refine ⟨⟨⟨_, rfl⟩, by decide⟩, ?_⟩
      rintro _ _ ⟨n2, m, rfl, rfl, m0, m1⟩
      walk_at "Ddlx"
      refine loop_lc (fun xs acc e => ∃ (j t : Nat) (kk : List Int) (us : List Tm), ((j : Int) + t = 1 + m ∧ xs = rngD j t ∧ acc = us.map encTm ∧ us.length = j ∧ ∀ u ∈ us, fitTm [] u) ∧ e = EL kk ws [] vs [some (.lst (([] : List Tm).map encTm)), none, none]) ⟨0, (1 + m).toNat, n2, [], ⟨by omega, rfl, rfl, rfl, nofun⟩, rfl⟩ ?_ ?_
      · rintro x r acc env nxt ⟨j, t, kk, us, ⟨h1, h2, rfl, h4, h5⟩, rfl⟩ hx
        cases t with
        | zero => simp [rngD] at h2
        | succ t =>
          simp only [rngD, List.cons.injEq] at h2
          obtain ⟨rfl, rfl⟩ := h2
          walk_at "Ddlx"
          refine ⟨(value_call v3 kk).1, fun r0 ds' hp => ?_⟩
          obtain ⟨n3, v, rfl, rfl, hv⟩ := (value_call v3 kk).2 r0 ds' hp
          have nlv := encV_nl v
          walk_at "Ddlx"
          refine hx _ _ ⟨j + 1, t, n3, us ++ [.val v], ⟨by omega, rfl, by rw [List.map_append]; rfl, by rw [List.length_append, h4]; rfl, fun u hu => ?_⟩, rfl⟩
          rcases List.mem_append.mp hu with h | h
          · exact h5 u h
          · rw [List.mem_singleton.mp h]; exact L.vv v hv
      · rintro acc env ⟨j, t, kk, us, ⟨h1, h2, rfl, h4, h5⟩, rfl⟩
        walk_at "Ddlx"
        exact Stop.mk (leaf2 (ts := us) L ⟨h5, nofun, by
          cases t with
          | zero => omega
          | succ t => simp [rngD] at h2⟩)
    · walk_at "Ddlx"
      exact Stop.mk (leaf2 (ks := n1) L T)
  · walk_at "Ddlx"
    exact Stop.mk (leaf2 (ks := ks) L T)
theorem pure_law_leaf : ∀ ds, ds.length = 4 → sp_law_leaf.pre ds → w_law_leaf (env0 ds 3) { nx := fun e => sp_law_leaf.post ds .non (outs e 4), rt := fun d e => sp_law_leaf.post ds d (outs e 4) } := by
  rintro ds _ ⟨ns, ws, cs, vs, rfl, L⟩
  rw [wc_law_leaf_eq]
  have v3 := L.v3
  have few := L.c.few
  walk_at "Ddlx"
  refine lcGo_map (fun d => .tup [.str (PySem.Str.ofString "col"), d]) _ _ ?_ ?_
  · intro d nxt acc hd hnx
    obtain ⟨c, _, rfl⟩ := List.mem_map.mp hd
    walk_at "Ddlx"
    exact hnx
  have e1 : (cs.map D.str).map (fun d => D.tup [.str (PySem.Str.ofString "col"), d]) = (cs.map Tm.col).map encTm := by
    rw [List.map_map, List.map_map]; rfl
  try dsimp only
  rw [e1]
  have T0 : TsOk cs (cs.map Tm.col) := ⟨fun t ht => by obtain ⟨x, hx, rfl⟩ := List.mem_map.mp ht; exact hx, fun x hx => List.mem_map.mpr ⟨x, hx, rfl⟩, by rw [List.length_map]; exact few⟩
  walk_at "Ddlx"
  refine ifb_dec (fun g => ?_) (fun g => ?_)
  · have hl : cs.length = 1 := by
      have : (((cs.map Tm.col).map encTm).length : Int) = 1 := g
      rw [List.length_map, List.length_map] at this
      omega
    obtain ⟨c, rfl⟩ : ∃ c, cs = [c] := by
      match cs, hl with
      | [c], _ => exact ⟨c, rfl⟩
    walk_at "Ddlx"
    refine ⟨⟨⟨_, rfl⟩, by decide⟩, ?_⟩
    rintro _ _ ⟨n1, k, rfl, rfl, k0, k1⟩
    walk_at "Ddlx"
    refine ifb_dec (fun g2 => ?_) (fun g2 => ?_)
    · walk_at "Ddlx"
      refine ⟨(value_call v3 n1).1, fun r0 ds' hp => ?_⟩
      obtain ⟨n3, v, rfl, rfl, hv⟩ := (value_call v3 n1).2 r0 ds' hp
      have nlv := encV_nl v
      walk_at "Ddlx"
      refine ⟨⟨⟨_, rfl⟩, by decide⟩, ?_⟩
      rintro _ _ ⟨n4, m, rfl, rfl, m0, m1⟩
      walk_at "Ddlx"
      by_cases gm : m = 0
      · subst gm
        walk_at "Ddlx"
        exact Stop.mk (leaf1 (ks := n4) (ts := [.col c, .col c]) L ⟨by simp [fitTm], by simp, by simp⟩)
      · rw [decide_eq_false gm]
        walk_at "Ddlx"
        exact Stop.mk (leaf1 (ks := n4) (ts := [.col c, .val v]) L ⟨fun t ht => by
          simp only [List.mem_cons, List.not_mem_nil, or_false] at ht
          rcases ht with rfl | rfl
          · simp [fitTm]
          · exact L.vv v hv, by simp, by simp⟩)
    · walk_at "Ddlx"
      exact Stop.mk (leaf1 (ks := n1) L T0)
  · walk_at "Ddlx"
    exact Stop.mk (leaf1 L T0)
end DL

set_option maxHeartbeats 1000000
namespace DL
open PySem PySem.Spec PyProof.Rows L2
/-! ### the twelve rules -/
def sameK : K2 → Bool
  | .both => true | .either => true | .since => true | .until => true
  | _ => false
def shK : K2 → Bool
  | .both => true | .either => true | .unless => true
  | _ => false
def someK : K4 → Bool
  | .once => true | .soon => true
  | _ => false
def isLinked : Qn → Bool
  | .link .linked _ _ _ => true
  | _ => false
def jb : Option Int → Option Int → Option Int
  | some a, some b => some (a + b)
  | _, _ => none
instance decK2 : DecidableEq K2 := fun a b => by cases a <;> cases b <;> first | exact isTrue rfl | exact isFalse (fun h => nomatch h)
instance decK4 : DecidableEq K4 := fun a b => by cases a <;> cases b <;> first | exact isTrue rfl | exact isFalse (fun h => nomatch h)
open Classical in
noncomputable def rul : Qn → Option Qn
  | .shift n p => if n = 0 then some p else match p with
    | .shift m r => if 0 ≤ n ∨ m ≤ 0 then some (.shift (n + m) r) else none
    | _ => none
  | .look k w p => if w = some 0 then some p else match p with
    | .look k' w' r => if k = k' then some (.look k (jb w w') r) else none
    | _ => none
  | .only cs p => if cs = colsQ p then some p else match p with
    | .only _ r => some (.only cs r)
    | _ => none
  | .link .linked _ _ p => if isLinked p = true then some p else none
  | .two k p q => if sameK k = true ∧ p = q then some p else match p, q with
    | .shift a p', .shift b q' => if shK k = true ∧ a = b then some (.shift a (.two k p' q')) else none
    | .look k1 a p', .look k2 b q' => if (k = .either ∧ someK k1 = true ∨ k = .both ∧ someK k1 = false) ∧ k1 = k2 ∧ a = b then some (.look k1 a (.two k p' q')) else none
    | .two k1 p' q', .two k2 s r => if k = .either ∧ folB k1 = true ∧ k1 = k2 ∧ p' = s then some (.two k1 p' (.two .either q' r)) else none
    | _, _ => none
  | _ => none
def mp (f : Qn → Qn) : Qn → Qn
  | .fact n ts => .fact n ts
  | .two k p q => .two k (f p) (f q)
  | .only cs p => .only cs (f p)
  | .whr t l r p => .whr t l r (f p)
  | .shift n p => .shift n (f p)
  | .look k w p => .look k w (f p)
  | .count n ks p => .count n ks (f p)
  | .total k n c ks p => .total k n c ks (f p)
  | .link k x y p => .link k x y (f p)
/-! ### what is valid stays valid -/
theorem okQ_mk {q : Qn} (h1 : okN q) (h2 : (colsQ q).length ≤ 8) (h3 : ∀ p ∈ partsQ q, okQ p) : okQ q := by
  cases q <;> simp only [partsQ, List.mem_cons, List.not_mem_nil, or_false, forall_eq_or_imp, forall_eq] at h3
  case fact => exact ⟨h1, h2⟩
  case two => exact ⟨⟨h1, h2⟩, h3.1, h3.2⟩
  all_goals exact ⟨⟨h1, h2⟩, h3⟩
theorem cols_fol {k : K2} (h : folB k = true) {a b : Qn} : colsQ (.two k a b) = colsQ b := by cases k <;> first | rfl | simp [folB] at h
theorem okN_fol {k : K2} (h : folB k = true) {a b : Qn} : okN (.two k a b) ↔ ∀ x ∈ colsQ a, x ∈ colsQ b := by cases k <;> first | rfl | simp [folB] at h
/-! ### rules applied as often as they fit, from the leaves up -/
/-! ### where no rule fits any more -/
def stl : Qn → Prop
  | q@(.fact ..) => rul q = none
  | q@(.two _ a b) => rul q = none ∧ stl a ∧ stl b
  | q@(.only _ a) => rul q = none ∧ stl a
  | q@(.whr _ _ _ a) => rul q = none ∧ stl a
  | q@(.shift _ a) => rul q = none ∧ stl a
  | q@(.look _ _ a) => rul q = none ∧ stl a
  | q@(.count _ _ a) => rul q = none ∧ stl a
  | q@(.total _ _ _ _ a) => rul q = none ∧ stl a
  | q@(.link _ _ _ a) => rul q = none ∧ stl a
end DL

--REN joined_bound=joined_bound2
set_option maxHeartbeats 1000000
namespace DL
open PySem PySem.Spec PyProof.Rows L2
abbrev tab_SOME_MOMENT : List Str := [PySem.Str.ofString "once", PySem.Str.ofString "soon"]
abbrev tab_EVERY_MOMENT : List Str := [PySem.Str.ofString "lately", PySem.Str.ofString "henceforth"]
/-! ### the program's rules -/
def encR : Option Qn → D
  | none => .non
  | some q => encQ q
local macro_rules | `(tactic| walk_at "Ddlx") => `(tactic| ((conv => whnf); (repeat ((first | ((with_reducible refine And.intro (stOk_nl ?_ ?_) ?_); (focus (with_reducible first | assumption | exact encQ_nl _ | exact encO_nl _ | exact encC_nl _)); (focus exact rfl)) | ((refine pick_nl ?_ ?_); (focus (with_reducible first | assumption | exact encQ_nl _ | exact encO_nl _ | exact encC_nl _))) | ((with_reducible refine And.intro ?_ ?_); (focus (with_reducible first | assumption | exact encQ_nl _ | exact encO_nl _ | exact encC_nl _))) | ((with_reducible refine And.intro (immA_c ?_ ?_) ?_); (focus (first | (with_reducible first | assumption | exact encQ_nl _ | exact encO_nl _ | exact encC_nl _) | exact rfl)); (focus ((repeat ((with_reducible refine immA_c ?_ ?_); (focus (first | (with_reducible first | assumption | exact encQ_nl _ | exact encO_nl _ | exact encC_nl _) | exact rfl)))); exact rfl))) | refine And.intro rfl ?_ | refine And.intro trivial ?_ | refine And.intro ⟨rfl, trivial⟩ ?_ | refine And.intro ⟨rfl, rfl, trivial⟩ ?_ | refine ifb_nq (by first | assumption | decide) ?_ | refine ifb_pq (by assumption) ?_ | refine ifb_er ?_ | refine ifb_t ?_ | refine ifb_f ?_ | refine ifb_nr ?_ | refine ifb_er ?_ | ((with_reducible refine And.intro (?_ : (_ : Nat) ≤ _) ?_); (focus (first | decide | omega | (unfold CMul; omega) | (unfold CDiv; omega) | (unfold CPow; decide) | (exact cpow1 (by omega) (by omega)) | (simp only [rngD_len, List.length_replicate, List.length_map, List.length_append, List.length_cons, List.length_nil, List.length_set] at *; omega)))) | ((with_reducible refine And.intro (?_ : (_ : Int) ≤ _) ?_); (focus (first | decide | omega | (unfold CMul; omega) | (unfold CDiv; omega) | (unfold CPow; decide) | (exact cpow1 (by omega) (by omega)) | (simp only [rngD_len, List.length_replicate, List.length_map, List.length_append, List.length_cons, List.length_nil, List.length_set] at *; omega)))) | ((with_reducible refine And.intro (?_ : (_ : Nat) < _) ?_); (focus (first | decide | omega | (unfold CMul; omega) | (unfold CDiv; omega) | (unfold CPow; decide) | (exact cpow1 (by omega) (by omega)) | (simp only [rngD_len, List.length_replicate, List.length_map, List.length_append, List.length_cons, List.length_nil, List.length_set] at *; omega)))) | ((with_reducible refine And.intro (?_ : (_ : Int) < _) ?_); (focus (first | decide | omega | (unfold CMul; omega) | (unfold CDiv; omega) | (unfold CPow; decide) | (exact cpow1 (by omega) (by omega)) | (simp only [rngD_len, List.length_replicate, List.length_map, List.length_append, List.length_cons, List.length_nil, List.length_set] at *; omega)))) | ((with_reducible refine And.intro (?_ : CMul _ _) ?_); (focus (first | decide | omega | (unfold CMul; omega) | (unfold CDiv; omega) | (unfold CPow; decide) | (exact cpow1 (by omega) (by omega)) | (simp only [rngD_len, List.length_replicate, List.length_map, List.length_append, List.length_cons, List.length_nil, List.length_set] at *; omega)))) | ((with_reducible refine And.intro (?_ : CDiv _ _) ?_); (focus (first | decide | omega | (unfold CMul; omega) | (unfold CDiv; omega) | (unfold CPow; decide) | (exact cpow1 (by omega) (by omega)) | (simp only [rngD_len, List.length_replicate, List.length_map, List.length_append, List.length_cons, List.length_nil, List.length_set] at *; omega)))) | ((with_reducible refine And.intro (?_ : CPow _ _) ?_); (focus (first | decide | omega | (unfold CMul; omega) | (unfold CDiv; omega) | (unfold CPow; decide) | (exact cpow1 (by omega) (by omega)) | (simp only [rngD_len, List.length_replicate, List.length_map, List.length_append, List.length_cons, List.length_nil, List.length_set] at *; omega)))) | ((with_reducible refine And.intro (?_ : (_ : Nat) = _) ?_); (focus (first | decide | omega | (unfold CMul; omega) | (unfold CDiv; omega) | (unfold CPow; decide) | (exact cpow1 (by omega) (by omega)) | (simp only [rngD_len, List.length_replicate, List.length_map, List.length_append, List.length_cons, List.length_nil, List.length_set] at *; omega))))); (conv => whnf); (try dsimp only [List.set_cons_zero, List.set_cons_succ, upA, wipeE, back, List.getElem?_cons_zero, List.getElem?_cons_succ, Option.getD_some]))); (try dsimp only [List.set_cons_zero, List.set_cons_succ, upA, wipeE, back, List.getElem?_cons_zero, List.getElem?_cons_succ, Option.getD_some])))
local macro_rules | `(tactic| walk_at "Ddl") => `(tactic| ((conv => whnf); (repeat ((first | refine And.intro rfl ?_ | refine And.intro trivial ?_ | refine And.intro ⟨rfl, trivial⟩ ?_ | refine And.intro ⟨rfl, rfl, trivial⟩ ?_ | refine ifb_t ?_ | refine ifb_f ?_ | refine ifb_nr ?_ | refine ifb_er ?_ | refine And.intro (by first | decide | omega | (unfold CMul; omega) | (unfold CDiv; omega) | (unfold CPow; decide) | (exact cpow1 (by omega) (by omega)) | (exact cpow1 (by dsimp only; omega) (by dsimp only; omega)) | (simp only [rngD_len, List.length_replicate, List.length_map, List.length_append, List.length_cons, List.length_nil, List.length_set] at *; omega)) ?_); conv => whnf))))
/-- three items: the kind, and two more -/
def tri (p : Qn) (a b : D) : Prop := encQ p = .tup [.str (kd p), a, b] ∧ isL a = false ∧ isL b = false
theorem pS_any {p : Qn} {k : Option (List D) → Prop} (h1 : ∀ a b, tri p a b → isL a = false → isL b = false → k (some [.str (kd p), a, b])) (h2 : (∀ a b, ¬ tri p a b) → k none) : pS 3 (psC pC (psC pC (psC pC psN))) (encQ p) k := by
  cases p with
  | shift b r =>
    have := h1 (.int b) (encQ r) ⟨rfl, rfl, encQ_nl r⟩ rfl (encQ_nl r)
    walk_at "Ddlx"
    exact this
  | fact n ts =>
    have := h1 (.str n) (.tup (ts.map encTm)) ⟨rfl, rfl, rfl⟩ rfl rfl
    walk_at "Ddlx"
    exact this
  | two k p q =>
    have := h1 (encQ p) (encQ q) ⟨rfl, encQ_nl p, encQ_nl q⟩ (encQ_nl p) (encQ_nl q)
    walk_at "Ddlx"
    exact this
  | look k w q =>
    have := h1 (encO w) (encQ q) ⟨rfl, encO_nl w, encQ_nl q⟩ (encO_nl w) (encQ_nl q)
    walk_at "Ddlx"
    exact this
  | only cs q =>
    have := h1 (encC cs) (encQ q) ⟨rfl, rfl, encQ_nl q⟩ rfl (encQ_nl q)
    walk_at "Ddlx"
    exact this
  | whr t l r q =>
    have := h2 (fun a b h => by have := h.1; simp [encQ] at this)
    walk_at "Ddlx"
    exact this
  | count n ks q =>
    have := h2 (fun a b h => by have := h.1; simp [encQ] at this)
    walk_at "Ddlx"
    exact this
  | total k n c ks q =>
    have := h2 (fun a b h => by have := h.1; simp [encQ] at this)
    walk_at "Ddlx"
    exact this
  | link k x y q =>
    have := h2 (fun a b h => by have := h.1; simp [encQ] at this)
    walk_at "Ddlx"
    exact this
end DL

--REN joined_bound=joined_bound2
set_option maxHeartbeats 1000000
namespace DL
open PySem PySem.Spec PyProof.Rows L2
theorem ch_post {q : Qn} {r : D} (h : r = encR (rul q)) : ∀ q' : Qn, [encQ q] = [encQ q'] → r = encR (rul q') := by
  intro b' e
  simp only [List.cons.injEq, and_true] at e
  cases encQ_inj e
  exact h
local macro_rules | `(tactic| walk_at "Ddlx") => `(tactic| ((conv => whnf); (repeat ((first | ((with_reducible refine And.intro (stOk_nl ?_ ?_) ?_); (focus (with_reducible first | assumption | exact encQ_nl _ | exact encO_nl _ | exact encC_nl _)); (focus exact rfl)) | ((refine pick_nl ?_ ?_); (focus (with_reducible first | assumption | exact encQ_nl _ | exact encO_nl _ | exact encC_nl _))) | ((with_reducible refine And.intro ?_ ?_); (focus (with_reducible first | assumption | exact encQ_nl _ | exact encO_nl _ | exact encC_nl _))) | ((with_reducible refine And.intro (immA_c ?_ ?_) ?_); (focus (first | (with_reducible first | assumption | exact encQ_nl _ | exact encO_nl _ | exact encC_nl _) | exact rfl)); (focus ((repeat ((with_reducible refine immA_c ?_ ?_); (focus (first | (with_reducible first | assumption | exact encQ_nl _ | exact encO_nl _ | exact encC_nl _) | exact rfl)))); exact rfl))) | refine And.intro rfl ?_ | refine And.intro trivial ?_ | refine And.intro ⟨rfl, trivial⟩ ?_ | refine And.intro ⟨rfl, rfl, trivial⟩ ?_ | refine ifb_nq (by first | assumption | decide) ?_ | refine ifb_pq (by assumption) ?_ | refine ifb_er ?_ | refine ifb_t ?_ | refine ifb_f ?_ | refine ifb_nr ?_ | refine ifb_er ?_ | ((with_reducible refine And.intro (?_ : (_ : Nat) ≤ _) ?_); (focus (first | decide | omega | (unfold CMul; omega) | (unfold CDiv; omega) | (unfold CPow; decide) | (exact cpow1 (by omega) (by omega)) | (simp only [rngD_len, List.length_replicate, List.length_map, List.length_append, List.length_cons, List.length_nil, List.length_set] at *; omega)))) | ((with_reducible refine And.intro (?_ : (_ : Int) ≤ _) ?_); (focus (first | decide | omega | (unfold CMul; omega) | (unfold CDiv; omega) | (unfold CPow; decide) | (exact cpow1 (by omega) (by omega)) | (simp only [rngD_len, List.length_replicate, List.length_map, List.length_append, List.length_cons, List.length_nil, List.length_set] at *; omega)))) | ((with_reducible refine And.intro (?_ : (_ : Nat) < _) ?_); (focus (first | decide | omega | (unfold CMul; omega) | (unfold CDiv; omega) | (unfold CPow; decide) | (exact cpow1 (by omega) (by omega)) | (simp only [rngD_len, List.length_replicate, List.length_map, List.length_append, List.length_cons, List.length_nil, List.length_set] at *; omega)))) | ((with_reducible refine And.intro (?_ : (_ : Int) < _) ?_); (focus (first | decide | omega | (unfold CMul; omega) | (unfold CDiv; omega) | (unfold CPow; decide) | (exact cpow1 (by omega) (by omega)) | (simp only [rngD_len, List.length_replicate, List.length_map, List.length_append, List.length_cons, List.length_nil, List.length_set] at *; omega)))) | ((with_reducible refine And.intro (?_ : CMul _ _) ?_); (focus (first | decide | omega | (unfold CMul; omega) | (unfold CDiv; omega) | (unfold CPow; decide) | (exact cpow1 (by omega) (by omega)) | (simp only [rngD_len, List.length_replicate, List.length_map, List.length_append, List.length_cons, List.length_nil, List.length_set] at *; omega)))) | ((with_reducible refine And.intro (?_ : CDiv _ _) ?_); (focus (first | decide | omega | (unfold CMul; omega) | (unfold CDiv; omega) | (unfold CPow; decide) | (exact cpow1 (by omega) (by omega)) | (simp only [rngD_len, List.length_replicate, List.length_map, List.length_append, List.length_cons, List.length_nil, List.length_set] at *; omega)))) | ((with_reducible refine And.intro (?_ : CPow _ _) ?_); (focus (first | decide | omega | (unfold CMul; omega) | (unfold CDiv; omega) | (unfold CPow; decide) | (exact cpow1 (by omega) (by omega)) | (simp only [rngD_len, List.length_replicate, List.length_map, List.length_append, List.length_cons, List.length_nil, List.length_set] at *; omega)))) | ((with_reducible refine And.intro (?_ : (_ : Nat) = _) ?_); (focus (first | decide | omega | (unfold CMul; omega) | (unfold CDiv; omega) | (unfold CPow; decide) | (exact cpow1 (by omega) (by omega)) | (simp only [rngD_len, List.length_replicate, List.length_map, List.length_append, List.length_cons, List.length_nil, List.length_set] at *; omega))))); (conv => whnf); (try dsimp only [List.set_cons_zero, List.set_cons_succ, upA, wipeE, back, List.getElem?_cons_zero, List.getElem?_cons_succ, Option.getD_some]))); (try dsimp only [List.set_cons_zero, List.set_cons_succ, upA, wipeE, back, List.getElem?_cons_zero, List.getElem?_cons_succ, Option.getD_some])))
theorem tri_look {p : Qn} {a b : D} {k : K4} (h : tri p a b) (e : k.s = kd p) : ∃ w r, p = .look k w r ∧ a = encO w ∧ b = encQ r := by
  have hi : ix p = 5 := by rw [← cl_kd, ← e]; exact cl4 k
  cases p <;> simp only [ix] at hi <;> first | (exact absurd hi (by decide)) | skip
  rename_i k' w r
  obtain rfl := K4.inj (show k.s = k'.s from e)
  have := h.1
  simp only [encQ, kd, D.tup.injEq, List.cons.injEq, and_true, true_and] at this
  exact ⟨w, r, rfl, this.1.symm, this.2.symm⟩
end DL

set_option maxHeartbeats 1000000
namespace DL
open PySem PySem.Spec PyProof.Rows L2
noncomputable def sp_changed_with_two_parts : FSpec where
  pre := fun ds => ∃ q : Qn, ds = [encQ q] ∧ okQ q ∧ dpQ q ≤ 16 ∧ (partsQ q).length ≠ 1
  post := fun ds r ds' => ds' = ds ∧ ∀ q : Qn, ds = [encQ q] → r = encR (rul q)
theorem eqv_ne {a b : D} (ha : plD a = true) (hb : plD b = true) (h : a ≠ b) : PyData.eqv (toP a) (toP b) = false := by
  cases e : PyData.eqv (toP a) (toP b)
  · rfl
  · exact absurd ((eqv_pl a b ha hb).mp e) h
theorem eqv_rf {a b : D} (ha : plD a = true) (hb : plD b = true) (h : a = b) : PyData.eqv (toP a) (toP b) = true := (eqv_pl a b ha hb).mpr h
theorem rul_two_none (k : K2) (p q : Qn) (h1 : ¬ (sameK k = true ∧ p = q)) (h2 : ∀ a p' b q', p = .shift a p' → q = .shift b q' → shK k = true → ¬ a = b)
    (h3 : ∀ k1 a p' q', p = .look k1 a p' → q = .look k1 a q' → ¬ (k = .either ∧ someK k1 = true ∨ k = .both ∧ someK k1 = false))
    (h4 : ∀ k1 p' q' r, p = .two k1 p' q' → q = .two k1 p' r → folB k1 = true → ¬ k = .either) : rul (.two k p q) = none := by
  unfold rul
  dsimp only
  rw [if_neg h1]
  split
  · rename_i a p' b q' _
    exact if_neg fun ⟨e1, e2⟩ => h2 _ _ _ _ rfl rfl e1 e2
  · rename_i k1 a p' k2 b q' _
    refine if_neg fun ⟨e1, e2, e3⟩ => ?_
    subst e2 e3
    exact h3 _ _ _ _ rfl rfl e1
  · rename_i k1 p' q' k2 s r _
    refine if_neg fun ⟨e1, e2, e3, e4⟩ => ?_
    subst e3 e4
    exact h4 _ _ _ _ rfl rfl e2 e1
  · rfl
theorem rul_two_look {k : K2} {k1 : K4} {a : Option Int} {p q : Qn} (h1 : ¬ (sameK k = true ∧ Qn.look k1 a p = .look k1 a q)) (h2 : k = .either ∧ someK k1 = true ∨ k = .both ∧ someK k1 = false) : rul (.two k (.look k1 a p) (.look k1 a q)) = some (.look k1 a (.two k p q)) := by
  unfold rul
  dsimp only
  rw [if_neg h1, if_pos ⟨h2, rfl, rfl⟩]
theorem rul_two_fol {k1 : K2} {a p q : Qn} (h1 : ¬ Qn.two k1 a p = .two k1 a q) (h2 : folB k1 = true) : rul (.two .either (.two k1 a p) (.two k1 a q)) = some (.two k1 a (.two .either p q)) := by
  unfold rul
  dsimp only
  rw [if_neg fun h => h1 h.2, if_pos ⟨rfl, h2, rfl, rfl⟩]
local macro_rules | `(tactic| walk_at "Ddlx") => `(tactic| ((conv => whnf); (repeat ((first | ((with_reducible refine And.intro (stOk_nl ?_ ?_) ?_); (focus (with_reducible first | assumption | exact encQ_nl _ | exact encO_nl _ | exact encC_nl _)); (focus exact rfl)) | ((refine pick_nl ?_ ?_); (focus (with_reducible first | assumption | exact encQ_nl _ | exact encO_nl _ | exact encC_nl _))) | ((with_reducible refine And.intro ?_ ?_); (focus (with_reducible first | assumption | exact encQ_nl _ | exact encO_nl _ | exact encC_nl _))) | ((with_reducible refine And.intro (immA_c ?_ ?_) ?_); (focus (first | (with_reducible first | assumption | exact encQ_nl _ | exact encO_nl _ | exact encC_nl _) | exact rfl)); (focus ((repeat ((with_reducible refine immA_c ?_ ?_); (focus (first | (with_reducible first | assumption | exact encQ_nl _ | exact encO_nl _ | exact encC_nl _) | exact rfl)))); exact rfl))) | refine And.intro rfl ?_ | refine And.intro trivial ?_ | refine And.intro ⟨rfl, trivial⟩ ?_ | refine And.intro ⟨rfl, rfl, trivial⟩ ?_ | refine ifb_nq (by first | assumption | decide) ?_ | refine ifb_pq (by assumption) ?_ | refine ifb_er ?_ | refine ifb_t ?_ | refine ifb_f ?_ | refine ifb_nr ?_ | refine ifb_er ?_ | ((with_reducible refine And.intro (?_ : (_ : Nat) ≤ _) ?_); (focus (first | decide | omega | (unfold CMul; omega) | (unfold CDiv; omega) | (unfold CPow; decide) | (exact cpow1 (by omega) (by omega)) | (simp only [rngD_len, List.length_replicate, List.length_map, List.length_append, List.length_cons, List.length_nil, List.length_set] at *; omega)))) | ((with_reducible refine And.intro (?_ : (_ : Int) ≤ _) ?_); (focus (first | decide | omega | (unfold CMul; omega) | (unfold CDiv; omega) | (unfold CPow; decide) | (exact cpow1 (by omega) (by omega)) | (simp only [rngD_len, List.length_replicate, List.length_map, List.length_append, List.length_cons, List.length_nil, List.length_set] at *; omega)))) | ((with_reducible refine And.intro (?_ : (_ : Nat) < _) ?_); (focus (first | decide | omega | (unfold CMul; omega) | (unfold CDiv; omega) | (unfold CPow; decide) | (exact cpow1 (by omega) (by omega)) | (simp only [rngD_len, List.length_replicate, List.length_map, List.length_append, List.length_cons, List.length_nil, List.length_set] at *; omega)))) | ((with_reducible refine And.intro (?_ : (_ : Int) < _) ?_); (focus (first | decide | omega | (unfold CMul; omega) | (unfold CDiv; omega) | (unfold CPow; decide) | (exact cpow1 (by omega) (by omega)) | (simp only [rngD_len, List.length_replicate, List.length_map, List.length_append, List.length_cons, List.length_nil, List.length_set] at *; omega)))) | ((with_reducible refine And.intro (?_ : CMul _ _) ?_); (focus (first | decide | omega | (unfold CMul; omega) | (unfold CDiv; omega) | (unfold CPow; decide) | (exact cpow1 (by omega) (by omega)) | (simp only [rngD_len, List.length_replicate, List.length_map, List.length_append, List.length_cons, List.length_nil, List.length_set] at *; omega)))) | ((with_reducible refine And.intro (?_ : CDiv _ _) ?_); (focus (first | decide | omega | (unfold CMul; omega) | (unfold CDiv; omega) | (unfold CPow; decide) | (exact cpow1 (by omega) (by omega)) | (simp only [rngD_len, List.length_replicate, List.length_map, List.length_append, List.length_cons, List.length_nil, List.length_set] at *; omega)))) | ((with_reducible refine And.intro (?_ : CPow _ _) ?_); (focus (first | decide | omega | (unfold CMul; omega) | (unfold CDiv; omega) | (unfold CPow; decide) | (exact cpow1 (by omega) (by omega)) | (simp only [rngD_len, List.length_replicate, List.length_map, List.length_append, List.length_cons, List.length_nil, List.length_set] at *; omega)))) | ((with_reducible refine And.intro (?_ : (_ : Nat) = _) ?_); (focus (first | decide | omega | (unfold CMul; omega) | (unfold CDiv; omega) | (unfold CPow; decide) | (exact cpow1 (by omega) (by omega)) | (simp only [rngD_len, List.length_replicate, List.length_map, List.length_append, List.length_cons, List.length_nil, List.length_set] at *; omega))))); (conv => whnf); (try dsimp only [List.set_cons_zero, List.set_cons_succ, upA, wipeE, back, List.getElem?_cons_zero, List.getElem?_cons_succ, Option.getD_some]))); (try dsimp only [List.set_cons_zero, List.set_cons_succ, upA, wipeE, back, List.getElem?_cons_zero, List.getElem?_cons_succ, Option.getD_some])))
end DL

set_option maxHeartbeats 1000000
namespace DL
open PySem PySem.Spec PyProof.Rows L2
theorem look_some {p : Qn} (h : ((tab_SOME_MOMENT.map D.str).any fun y => eqF y (.str (kd p))) = true) : ∃ k w r, p = .look k w r ∧ someK k = true := by
  rw [any_str] at h
  have h := of_decide_eq_true h
  simp only [tab_SOME_MOMENT, List.mem_cons, List.not_mem_nil, or_false] at h
  have hi : ix p = 5 := by rw [← cl_kd]; rcases h with h | h <;> rw [h] <;> decide
  cases p <;> simp only [ix] at hi <;> first | (exact absurd hi (by decide)) | skip
  rename_i k w r _
  refine ⟨k, w, r, rfl, ?_⟩
  have h : k.s = _ ∨ k.s = _ := h
  cases k <;> first | rfl | (rcases h with h | h <;> exact absurd h (by decide))
theorem two_fol {p : Qn} (h : ((tab_FOLLOWING.map D.str).any fun y => eqF y (.str (kd p))) = true) : ∃ k a b, p = .two k a b ∧ folB k = true := by
  rw [any_str] at h
  have h := of_decide_eq_true h
  simp only [tab_FOLLOWING, List.mem_cons, List.not_mem_nil, or_false] at h
  have hi : ix p = 1 := by rw [← cl_kd]; rcases h with h | h | h | h <;> rw [h] <;> decide
  cases p <;> simp only [ix] at hi <;> first | (exact absurd hi (by decide)) | skip
  rename_i k w r _
  refine ⟨k, w, r, rfl, ?_⟩
  have h : k.s = _ ∨ k.s = _ ∨ k.s = _ ∨ k.s = _ := h
  cases k <;> first | rfl | (rcases h with h | h | h | h <;> exact absurd h (by decide))
theorem some_look {k : K4} {w : Option Int} {r : Qn} (h : someK k = true) : ((tab_SOME_MOMENT.map D.str).any fun y => eqF y (.str (kd (.look k w r)))) = true := by
  rw [any_str]
  show decide (k.s ∈ tab_SOME_MOMENT) = true
  cases k <;> first | (cases h; done) | decide
theorem fol_two {k : K2} {a b : Qn} (h : folB k = true) : ((tab_FOLLOWING.map D.str).any fun y => eqF y (.str (kd (.two k a b)))) = true := by
  rw [any_str]
  show decide (k.s ∈ tab_FOLLOWING) = true
  cases k <;> first | (cases h; done) | decide
theorem sh_tri {p : Qn} {a b : D} (ok : okQ p) (hd : dpQ p ≤ 40) (h : tri p a b) : SeqAt.shaped (toP (.tup [.str (kd p), a])) = true ∧ plD (.tup [.str (kd p), a]) = true := by
  obtain ⟨h1, h2⟩ := lay_Q p ok
  have h3 := pl_Q p
  rw [h.1] at h1 h2 h3
  simp only [toP, toPs, PyData.canLay0, PyData.canLayAll0, PyData.depth, PyData.depthAll, Bool.and_eq_true] at h1 h2
  simp only [plD, plDs, Bool.and_eq_true] at h3
  refine ⟨?_, by simp only [plD, plDs, h3, Bool.and_self]⟩
  unfold SeqAt.shaped
  simp only [toP, toPs, PyData.canLay0, PyData.canLayAll0, PyData.depth, PyData.depthAll, Bool.and_eq_true, decide_eq_true_eq]
  exact ⟨⟨h1.1, h1.2.1, trivial⟩, by omega⟩
theorem tri_eq {p q : Qn} {a b c d : D} {k : K4} {w : Option Int} {r : Qn} (hp : p = .look k w r) (ht : tri p a b) (hq : tri q c d) (e : D.tup [.str (kd p), a] = .tup [.str (kd q), c]) : ∃ r2, q = .look k w r2 := by
  subst hp
  simp only [D.tup.injEq, List.cons.injEq, D.str.injEq, and_true] at e
  obtain ⟨w2, r2, rfl, rfl, _⟩ := tri_look hq (show k.s = kd q from e.1)
  have h := ht.1
  simp only [encQ, D.tup.injEq, List.cons.injEq, and_true] at h
  rw [← h.2.1] at e
  obtain rfl := encO_inj e.2
  exact ⟨r2, rfl⟩
theorem tri_eq2 {p q : Qn} {a b c d : D} {k : K2} {s r : Qn} (hp : p = .two k s r) (ht : tri p a b) (hq : tri q c d) (e : D.tup [.str (kd p), a] = .tup [.str (kd q), c]) : ∃ r2, q = .two k s r2 := by
  subst hp
  simp only [D.tup.injEq, List.cons.injEq, D.str.injEq, and_true] at e
  have hi : ix q = 1 := by rw [← cl_kd, ← e.1]; exact cl2 k
  cases q <;> simp only [ix] at hi <;> first | (exact absurd hi (by decide)) | skip
  rename_i k' s' r'
  obtain rfl := K2.inj (show k.s = k'.s from e.1)
  have h := ht.1
  have h' := hq.1
  simp only [encQ, kd, D.tup.injEq, List.cons.injEq, and_true, true_and] at h h'
  have e2 : encQ s = encQ s' := by rw [h.1, h'.1]; exact e.2
  exact ⟨r', by rw [encQ_inj e2]⟩
theorem tri_two {k : K2} {p q : Qn} {a b : D} (h : tri (.two k p q) a b) : a = encQ p ∧ b = encQ q := by
  have h := h.1
  simp only [encQ, kd, D.tup.injEq, List.cons.injEq, and_true, true_and] at h
  exact ⟨h.1.symm, h.2.symm⟩
theorem tri_lk {k : K4} {w : Option Int} {q : Qn} {a b : D} (h : tri (.look k w q) a b) : a = encO w ∧ b = encQ q := by
  have h := h.1
  simp only [encQ, kd, D.tup.injEq, List.cons.injEq, and_true, true_and] at h
  exact ⟨h.1.symm, h.2.symm⟩
local macro_rules | `(tactic| walk_at "Ddlx") => `(tactic| ((conv => whnf); (repeat ((first | ((with_reducible refine And.intro (stOk_nl ?_ ?_) ?_); (focus (with_reducible first | assumption | exact encQ_nl _ | exact encO_nl _ | exact encC_nl _)); (focus exact rfl)) | ((refine pick_nl ?_ ?_); (focus (with_reducible first | assumption | exact encQ_nl _ | exact encO_nl _ | exact encC_nl _))) | ((with_reducible refine And.intro ?_ ?_); (focus (with_reducible first | assumption | exact encQ_nl _ | exact encO_nl _ | exact encC_nl _))) | ((with_reducible refine And.intro (immA_c ?_ ?_) ?_); (focus (first | (with_reducible first | assumption | exact encQ_nl _ | exact encO_nl _ | exact encC_nl _) | exact rfl)); (focus ((repeat ((with_reducible refine immA_c ?_ ?_); (focus (first | (with_reducible first | assumption | exact encQ_nl _ | exact encO_nl _ | exact encC_nl _) | exact rfl)))); exact rfl))) | refine And.intro rfl ?_ | refine And.intro trivial ?_ | refine And.intro ⟨rfl, trivial⟩ ?_ | refine And.intro ⟨rfl, rfl, trivial⟩ ?_ | refine ifb_nq (by first | assumption | decide) ?_ | refine ifb_pq (by assumption) ?_ | refine ifb_er ?_ | refine ifb_t ?_ | refine ifb_f ?_ | refine ifb_nr ?_ | refine ifb_er ?_ | ((with_reducible refine And.intro (?_ : (_ : Nat) ≤ _) ?_); (focus (first | decide | omega | (unfold CMul; omega) | (unfold CDiv; omega) | (unfold CPow; decide) | (exact cpow1 (by omega) (by omega)) | (simp only [rngD_len, List.length_replicate, List.length_map, List.length_append, List.length_cons, List.length_nil, List.length_set] at *; omega)))) | ((with_reducible refine And.intro (?_ : (_ : Int) ≤ _) ?_); (focus (first | decide | omega | (unfold CMul; omega) | (unfold CDiv; omega) | (unfold CPow; decide) | (exact cpow1 (by omega) (by omega)) | (simp only [rngD_len, List.length_replicate, List.length_map, List.length_append, List.length_cons, List.length_nil, List.length_set] at *; omega)))) | ((with_reducible refine And.intro (?_ : (_ : Nat) < _) ?_); (focus (first | decide | omega | (unfold CMul; omega) | (unfold CDiv; omega) | (unfold CPow; decide) | (exact cpow1 (by omega) (by omega)) | (simp only [rngD_len, List.length_replicate, List.length_map, List.length_append, List.length_cons, List.length_nil, List.length_set] at *; omega)))) | ((with_reducible refine And.intro (?_ : (_ : Int) < _) ?_); (focus (first | decide | omega | (unfold CMul; omega) | (unfold CDiv; omega) | (unfold CPow; decide) | (exact cpow1 (by omega) (by omega)) | (simp only [rngD_len, List.length_replicate, List.length_map, List.length_append, List.length_cons, List.length_nil, List.length_set] at *; omega)))) | ((with_reducible refine And.intro (?_ : CMul _ _) ?_); (focus (first | decide | omega | (unfold CMul; omega) | (unfold CDiv; omega) | (unfold CPow; decide) | (exact cpow1 (by omega) (by omega)) | (simp only [rngD_len, List.length_replicate, List.length_map, List.length_append, List.length_cons, List.length_nil, List.length_set] at *; omega)))) | ((with_reducible refine And.intro (?_ : CDiv _ _) ?_); (focus (first | decide | omega | (unfold CMul; omega) | (unfold CDiv; omega) | (unfold CPow; decide) | (exact cpow1 (by omega) (by omega)) | (simp only [rngD_len, List.length_replicate, List.length_map, List.length_append, List.length_cons, List.length_nil, List.length_set] at *; omega)))) | ((with_reducible refine And.intro (?_ : CPow _ _) ?_); (focus (first | decide | omega | (unfold CMul; omega) | (unfold CDiv; omega) | (unfold CPow; decide) | (exact cpow1 (by omega) (by omega)) | (simp only [rngD_len, List.length_replicate, List.length_map, List.length_append, List.length_cons, List.length_nil, List.length_set] at *; omega)))) | ((with_reducible refine And.intro (?_ : (_ : Nat) = _) ?_); (focus (first | decide | omega | (unfold CMul; omega) | (unfold CDiv; omega) | (unfold CPow; decide) | (exact cpow1 (by omega) (by omega)) | (simp only [rngD_len, List.length_replicate, List.length_map, List.length_append, List.length_cons, List.length_nil, List.length_set] at *; omega))))); (conv => whnf); (try dsimp only [List.set_cons_zero, List.set_cons_succ, upA, wipeE, back, List.getElem?_cons_zero, List.getElem?_cons_succ, Option.getD_some]))); (try dsimp only [List.set_cons_zero, List.set_cons_succ, upA, wipeE, back, List.getElem?_cons_zero, List.getElem?_cons_succ, Option.getD_some])))
end DL

set_option maxHeartbeats 2000000
namespace DL
open PySem PySem.Spec PyProof.Rows L2
@[irreducible] def cs5 : CS := (ccG 1 [0] (pS 3 (psC (pV (.str (PySem.Str.ofString "either"))) (psC (pS 3 (psC pC (psC pC (psC pC psN)))) (psC (pS 3 (psC pC (psC pC (psC pC psN)))) psN)))) [1, 2, 3, 6, 7, 8] (cAnd (cOp (fIn false) (cVar 1) (cC (.tpd (tab_FOLLOWING.map D.str)))) (cOp fEqD (cTup (cCons (cVar 1) (cCons (cVar 2) cNil))) (cTup (cCons (cVar 6) (cCons (cVar 7) cNil))))) (cRet 1 (cTup (cCons (cVar 1) (cCons (cVar 2) (cCons (cTup (cCons (cC (.str (PySem.Str.ofString "either"))) (cCons (cVar 3) (cCons (cVar 8) cNil)))) cNil)))))
      ccN)
@[irreducible] def cs4 : CS := (ccG 1 [0] (pS 3 (psC (pV (.str (PySem.Str.ofString "both"))) (psC (pS 3 (psC pC (psC pC (psC pC psN)))) (psC (pS 3 (psC pC (psC pC (psC pC psN)))) psN)))) [1, 4, 2, 6, 5, 3] (cAnd (cOp (fIn false) (cVar 1) (cC (.tpd (tab_EVERY_MOMENT.map D.str)))) (cOp fEqD (cTup (cCons (cVar 1) (cCons (cVar 4) cNil))) (cTup (cCons (cVar 6) (cCons (cVar 5) cNil))))) (cRet 1 (cTup (cCons (cVar 1) (cCons (cVar 4) (cCons (cTup (cCons (cC (.str (PySem.Str.ofString "both"))) (cCons (cVar 2) (cCons (cVar 3) cNil)))) cNil)))))
      cs5)
@[irreducible] def cs3 : CS := (ccG 1 [0] (pS 3 (psC (pV (.str (PySem.Str.ofString "either"))) (psC (pS 3 (psC pC (psC pC (psC pC psN)))) (psC (pS 3 (psC pC (psC pC (psC pC psN)))) psN)))) [1, 4, 2, 6, 5, 3] (cAnd (cOp (fIn false) (cVar 1) (cC (.tpd (tab_SOME_MOMENT.map D.str)))) (cOp fEqD (cTup (cCons (cVar 1) (cCons (cVar 4) cNil))) (cTup (cCons (cVar 6) (cCons (cVar 5) cNil))))) (cRet 1 (cTup (cCons (cVar 1) (cCons (cVar 4) (cCons (cTup (cCons (cC (.str (PySem.Str.ofString "either"))) (cCons (cVar 2) (cCons (cVar 3) cNil)))) cNil)))))
      cs4)
noncomputable abbrev KE2 (q : Qn) : Kt := { nx := fun e => sp_changed_with_two_parts.post [encQ q] .non (outs e 1), rt := fun d e => sp_changed_with_two_parts.post [encQ q] d (outs e 1) }
noncomputable abbrev KK (q : Qn) : Kt := { KE2 q with nx := fun e => cRet 1 (cC .non) e (KE2 q) }
local macro_rules | `(tactic| walk_at "Ddlx") => `(tactic| ((conv => whnf); (repeat ((first | ((with_reducible refine And.intro (stOk_nl ?_ ?_) ?_); (focus (with_reducible first | assumption | exact encQ_nl _ | exact encO_nl _ | exact encC_nl _)); (focus exact rfl)) | ((refine pick_nl ?_ ?_); (focus (with_reducible first | assumption | exact encQ_nl _ | exact encO_nl _ | exact encC_nl _))) | ((with_reducible refine And.intro ?_ ?_); (focus (with_reducible first | assumption | exact encQ_nl _ | exact encO_nl _ | exact encC_nl _))) | ((with_reducible refine And.intro (immA_c ?_ ?_) ?_); (focus (first | (with_reducible first | assumption | exact encQ_nl _ | exact encO_nl _ | exact encC_nl _) | exact rfl)); (focus ((repeat ((with_reducible refine immA_c ?_ ?_); (focus (first | (with_reducible first | assumption | exact encQ_nl _ | exact encO_nl _ | exact encC_nl _) | exact rfl)))); exact rfl))) | refine And.intro rfl ?_ | refine And.intro trivial ?_ | refine And.intro ⟨rfl, trivial⟩ ?_ | refine And.intro ⟨rfl, rfl, trivial⟩ ?_ | refine ifb_nq (by first | assumption | decide) ?_ | refine ifb_pq (by assumption) ?_ | refine ifb_er ?_ | refine ifb_t ?_ | refine ifb_f ?_ | refine ifb_nr ?_ | refine ifb_er ?_ | ((with_reducible refine And.intro (?_ : (_ : Nat) ≤ _) ?_); (focus (first | decide | omega | (unfold CMul; omega) | (unfold CDiv; omega) | (unfold CPow; decide) | (exact cpow1 (by omega) (by omega)) | (simp only [rngD_len, List.length_replicate, List.length_map, List.length_append, List.length_cons, List.length_nil, List.length_set] at *; omega)))) | ((with_reducible refine And.intro (?_ : (_ : Int) ≤ _) ?_); (focus (first | decide | omega | (unfold CMul; omega) | (unfold CDiv; omega) | (unfold CPow; decide) | (exact cpow1 (by omega) (by omega)) | (simp only [rngD_len, List.length_replicate, List.length_map, List.length_append, List.length_cons, List.length_nil, List.length_set] at *; omega)))) | ((with_reducible refine And.intro (?_ : (_ : Nat) < _) ?_); (focus (first | decide | omega | (unfold CMul; omega) | (unfold CDiv; omega) | (unfold CPow; decide) | (exact cpow1 (by omega) (by omega)) | (simp only [rngD_len, List.length_replicate, List.length_map, List.length_append, List.length_cons, List.length_nil, List.length_set] at *; omega)))) | ((with_reducible refine And.intro (?_ : (_ : Int) < _) ?_); (focus (first | decide | omega | (unfold CMul; omega) | (unfold CDiv; omega) | (unfold CPow; decide) | (exact cpow1 (by omega) (by omega)) | (simp only [rngD_len, List.length_replicate, List.length_map, List.length_append, List.length_cons, List.length_nil, List.length_set] at *; omega)))) | ((with_reducible refine And.intro (?_ : CMul _ _) ?_); (focus (first | decide | omega | (unfold CMul; omega) | (unfold CDiv; omega) | (unfold CPow; decide) | (exact cpow1 (by omega) (by omega)) | (simp only [rngD_len, List.length_replicate, List.length_map, List.length_append, List.length_cons, List.length_nil, List.length_set] at *; omega)))) | ((with_reducible refine And.intro (?_ : CDiv _ _) ?_); (focus (first | decide | omega | (unfold CMul; omega) | (unfold CDiv; omega) | (unfold CPow; decide) | (exact cpow1 (by omega) (by omega)) | (simp only [rngD_len, List.length_replicate, List.length_map, List.length_append, List.length_cons, List.length_nil, List.length_set] at *; omega)))) | ((with_reducible refine And.intro (?_ : CPow _ _) ?_); (focus (first | decide | omega | (unfold CMul; omega) | (unfold CDiv; omega) | (unfold CPow; decide) | (exact cpow1 (by omega) (by omega)) | (simp only [rngD_len, List.length_replicate, List.length_map, List.length_append, List.length_cons, List.length_nil, List.length_set] at *; omega)))) | ((with_reducible refine And.intro (?_ : (_ : Nat) = _) ?_); (focus (first | decide | omega | (unfold CMul; omega) | (unfold CDiv; omega) | (unfold CPow; decide) | (exact cpow1 (by omega) (by omega)) | (simp only [rngD_len, List.length_replicate, List.length_map, List.length_append, List.length_cons, List.length_nil, List.length_set] at *; omega))))); (conv => whnf); (try dsimp only [List.set_cons_zero, List.set_cons_succ, upA, wipeE, back, List.getElem?_cons_zero, List.getElem?_cons_succ, Option.getD_some]))); (try dsimp only [List.set_cons_zero, List.set_cons_succ, upA, wipeE, back, List.getElem?_cons_zero, List.getElem?_cons_succ, Option.getD_some])))
local macro_rules | `(tactic| walk_at "Ddl") => `(tactic| ((conv => whnf); (repeat ((first | refine And.intro rfl ?_ | refine And.intro trivial ?_ | refine And.intro ⟨rfl, trivial⟩ ?_ | refine And.intro ⟨rfl, rfl, trivial⟩ ?_ | refine ifb_t ?_ | refine ifb_f ?_ | refine ifb_nr ?_ | refine ifb_er ?_ | refine And.intro (by first | decide | omega | (unfold CMul; omega) | (unfold CDiv; omega) | (unfold CPow; decide) | (exact cpow1 (by omega) (by omega)) | (exact cpow1 (by dsimp only; omega) (by dsimp only; omega)) | (simp only [rngD_len, List.length_replicate, List.length_map, List.length_append, List.length_cons, List.length_nil, List.length_set] at *; omega)) ?_); conv => whnf))))
theorem s5 (p q : Qn) (op : okQ p) (oq : okQ q) (dp : dpQ p ≤ 40) (dq : dpQ q ≤ 40) (e : ¬ p = q)
    (h2 : ∀ a p' b q', p = .shift a p' → q = .shift b q' → shK .either = true → ¬ a = b)
    (h3 : ∀ k1 a p' q', p = .look k1 a p' → q = .look k1 a q' → ¬ (K2.either = .either ∧ someK k1 = true ∨ K2.either = .both ∧ someK k1 = false))
    (o1 o2 o3 o4 o5 o6 o7 o8 : Option D) : cs5 (encQ (.two .either p q)) [some (encQ (.two .either p q)), o1, o2, o3, o4, o5, o6, o7, o8] (KK (.two .either p q)) := by
  have post := fun {d : D} h => ch_post (q := .two .either p q) (r := d) h
  have rn := rul_two_none .either p q (fun h => e h.2)
  simp only [encQ, KK] at post ⊢
  unfold cs5
  walk_at "Ddlx"
  refine pS_any (fun a5 b5 ht5 ha5 hb5 => ?_) (fun hp5 => ?_)
  · walk_at "Ddlx"
    refine pS_any (fun c5 d5 hu5 hc5 hd5 => ?_) (fun hq5 => ?_)
    · walk_at "Ddlx"
      cases hF : ((tab_FOLLOWING.map D.str).any fun y => eqF y (.str (kd p)))
      · walk_at "Ddlx"
        refine post ?_
        rw [rn h2 h3 (fun k1 p1 q1 r1 g1 g2 g3 => ?_)]
        · rfl
        · subst g1
          rw [fol_two g3] at hF
          cases hF
      · obtain ⟨k1, s, r, hl, hk⟩ := two_fol hF
        obtain ⟨s1, l1⟩ := sh_tri op dp ht5
        obtain ⟨s2, l2⟩ := sh_tri oq dq hu5
        walk_at "Ddlx"
        by_cases e3 : D.tup [.str (kd p), a5] = .tup [.str (kd q), c5]
        · refine ifb_eqt (eqv_rf l1 l2 e3) ?_
          obtain ⟨r2, hl2⟩ := tri_eq2 hl ht5 hu5 e3
          subst hl hl2
          obtain ⟨rfl, rfl⟩ := tri_two ht5
          obtain ⟨rfl, rfl⟩ := tri_two hu5
          walk_at "Ddlx"
          refine post ?_
          rw [rul_two_fol e hk]
          simp only [encR, encQ]
          rfl
        · refine ifb_eqf (eqv_ne l1 l2 e3) ?_
          walk_at "Ddlx"
          refine post ?_
          rw [rn h2 h3 (fun k1 p1 q1 r1 g1 g2 g3 => ?_)]
          · rfl
          · subst g1 g2
            obtain ⟨rfl, rfl⟩ := tri_two ht5
            obtain ⟨rfl, rfl⟩ := tri_two hu5
            exact absurd rfl e3
    · walk_at "Ddlx"
      refine post ?_
      rw [rn h2 h3 (fun k1 p1 q1 r1 g1 g2 g3 => ?_)]
      · rfl
      · subst g2
        exact absurd ⟨rfl, encQ_nl _, encQ_nl _⟩ (hq5 (encQ p1) (encQ r1))
  · walk_at "Ddlx"
    refine post ?_
    rw [rn h2 h3 (fun k1 p1 q1 r1 g1 g2 g3 => ?_)]
    · rfl
    · subst g1
      exact absurd ⟨rfl, encQ_nl _, encQ_nl _⟩ (hp5 (encQ p1) (encQ q1))
theorem s3 (p q : Qn) (op : okQ p) (oq : okQ q) (dp : dpQ p ≤ 40) (dq : dpQ q ≤ 40) (e : ¬ p = q)
    (h2 : ∀ a p' b q', p = .shift a p' → q = .shift b q' → shK .either = true → ¬ a = b)
    (o1 o2 o3 o4 o5 o6 o7 o8 : Option D) : cs3 (encQ (.two .either p q)) [some (encQ (.two .either p q)), o1, o2, o3, o4, o5, o6, o7, o8] (KK (.two .either p q)) := by
  have post := fun {d : D} h => ch_post (q := .two .either p q) (r := d) h
  have rn := rul_two_none .either p q (fun h => e h.2)
  have S5 := s5 p q op oq dp dq e h2
  simp only [encQ, KK] at post S5 ⊢
  unfold cs3 cs4
  walk_at "Ddlx"
  refine pS_any (fun a b ht ha hb => ?_) (fun hp2 => ?_)
  · walk_at "Ddlx"
    refine pS_any (fun c d hu hc hd => ?_) (fun hq2 => ?_)
    · walk_at "Ddlx"
      cases hS : ((tab_SOME_MOMENT.map D.str).any fun y => eqF y (.str (kd p)))
      · walk_at "Ddlx"
        refine S5 (fun k1 a1 p1 q1 g1 g2 g3 => ?_) _ _ _ _ _ _ _ _
        rcases g3 with ⟨_, g3⟩ | ⟨g3, _⟩
        · subst g1
          rw [some_look g3] at hS
          cases hS
        · cases g3
      · obtain ⟨k1, w, r, hl, hk⟩ := look_some hS
        obtain ⟨s1, l1⟩ := sh_tri op dp ht
        obtain ⟨s2, l2⟩ := sh_tri oq dq hu
        walk_at "Ddlx"
        by_cases e3 : D.tup [.str (kd p), a] = .tup [.str (kd q), c]
        · refine ifb_eqt (eqv_rf l1 l2 e3) ?_
          obtain ⟨r2, hl2⟩ := tri_eq hl ht hu e3
          subst hl hl2
          obtain ⟨rfl, rfl⟩ := tri_lk ht
          obtain ⟨rfl, rfl⟩ := tri_lk hu
          walk_at "Ddlx"
          refine post ?_
          rw [rul_two_look (fun h => e h.2) (.inl ⟨rfl, hk⟩)]
          simp only [encR, encQ]
          rfl
        · refine ifb_eqf (eqv_ne l1 l2 e3) ?_
          walk_at "Ddlx"
          refine S5 (fun k1 a1 p1 q1 g1 g2 g3 => ?_) _ _ _ _ _ _ _ _
          subst g1 g2
          obtain ⟨rfl, rfl⟩ := tri_lk ht
          obtain ⟨rfl, rfl⟩ := tri_lk hu
          exact e3 rfl
    · walk_at "Ddlx"
      refine S5 (fun k1 a1 p1 q1 g1 g2 g3 => ?_) _ _ _ _ _ _ _ _
      subst g2
      exact absurd ⟨rfl, encO_nl _, encQ_nl _⟩ (hq2 (encO a1) (encQ q1))
  · walk_at "Ddlx"
    refine S5 (fun k1 a1 p1 q1 g1 g2 g3 => ?_) _ _ _ _ _ _ _ _
    subst g1
    exact absurd ⟨rfl, encO_nl _, encQ_nl _⟩ (hp2 (encO a1) (encQ p1))
/-! ### rules as often as they fit -/
end DL

set_option maxHeartbeats 1000000
namespace DL
open PySem PySem.Spec PyProof.Rows L2
/-! ### simplified questions -/
local macro_rules | `(tactic| walk_at "Ddlx") => `(tactic| ((conv => whnf); (repeat ((first | ((with_reducible refine And.intro (stOk_nl ?_ ?_) ?_); (focus (with_reducible first | assumption | exact encQ_nl _ | exact encO_nl _ | exact encC_nl _)); (focus exact rfl)) | ((refine pick_nl ?_ ?_); (focus (with_reducible first | assumption | exact encQ_nl _ | exact encO_nl _ | exact encC_nl _))) | ((with_reducible refine And.intro ?_ ?_); (focus (with_reducible first | assumption | exact encQ_nl _ | exact encO_nl _ | exact encC_nl _))) | ((with_reducible refine And.intro (immA_c ?_ ?_) ?_); (focus (first | (with_reducible first | assumption | exact encQ_nl _ | exact encO_nl _ | exact encC_nl _) | exact rfl)); (focus ((repeat ((with_reducible refine immA_c ?_ ?_); (focus (first | (with_reducible first | assumption | exact encQ_nl _ | exact encO_nl _ | exact encC_nl _) | exact rfl)))); exact rfl))) | refine And.intro rfl ?_ | refine And.intro trivial ?_ | refine And.intro ⟨rfl, trivial⟩ ?_ | refine And.intro ⟨rfl, rfl, trivial⟩ ?_ | refine ifb_nq (by first | assumption | decide) ?_ | refine ifb_pq (by assumption) ?_ | refine ifb_er ?_ | refine ifb_t ?_ | refine ifb_f ?_ | refine ifb_nr ?_ | refine ifb_er ?_ | ((with_reducible refine And.intro (?_ : (_ : Nat) ≤ _) ?_); (focus (first | decide | omega | (unfold CMul; omega) | (unfold CDiv; omega) | (unfold CPow; decide) | (exact cpow1 (by omega) (by omega)) | (simp only [rngD_len, List.length_replicate, List.length_map, List.length_append, List.length_cons, List.length_nil, List.length_set] at *; omega)))) | ((with_reducible refine And.intro (?_ : (_ : Int) ≤ _) ?_); (focus (first | decide | omega | (unfold CMul; omega) | (unfold CDiv; omega) | (unfold CPow; decide) | (exact cpow1 (by omega) (by omega)) | (simp only [rngD_len, List.length_replicate, List.length_map, List.length_append, List.length_cons, List.length_nil, List.length_set] at *; omega)))) | ((with_reducible refine And.intro (?_ : (_ : Nat) < _) ?_); (focus (first | decide | omega | (unfold CMul; omega) | (unfold CDiv; omega) | (unfold CPow; decide) | (exact cpow1 (by omega) (by omega)) | (simp only [rngD_len, List.length_replicate, List.length_map, List.length_append, List.length_cons, List.length_nil, List.length_set] at *; omega)))) | ((with_reducible refine And.intro (?_ : (_ : Int) < _) ?_); (focus (first | decide | omega | (unfold CMul; omega) | (unfold CDiv; omega) | (unfold CPow; decide) | (exact cpow1 (by omega) (by omega)) | (simp only [rngD_len, List.length_replicate, List.length_map, List.length_append, List.length_cons, List.length_nil, List.length_set] at *; omega)))) | ((with_reducible refine And.intro (?_ : CMul _ _) ?_); (focus (first | decide | omega | (unfold CMul; omega) | (unfold CDiv; omega) | (unfold CPow; decide) | (exact cpow1 (by omega) (by omega)) | (simp only [rngD_len, List.length_replicate, List.length_map, List.length_append, List.length_cons, List.length_nil, List.length_set] at *; omega)))) | ((with_reducible refine And.intro (?_ : CDiv _ _) ?_); (focus (first | decide | omega | (unfold CMul; omega) | (unfold CDiv; omega) | (unfold CPow; decide) | (exact cpow1 (by omega) (by omega)) | (simp only [rngD_len, List.length_replicate, List.length_map, List.length_append, List.length_cons, List.length_nil, List.length_set] at *; omega)))) | ((with_reducible refine And.intro (?_ : CPow _ _) ?_); (focus (first | decide | omega | (unfold CMul; omega) | (unfold CDiv; omega) | (unfold CPow; decide) | (exact cpow1 (by omega) (by omega)) | (simp only [rngD_len, List.length_replicate, List.length_map, List.length_append, List.length_cons, List.length_nil, List.length_set] at *; omega)))) | ((with_reducible refine And.intro (?_ : (_ : Nat) = _) ?_); (focus (first | decide | omega | (unfold CMul; omega) | (unfold CDiv; omega) | (unfold CPow; decide) | (exact cpow1 (by omega) (by omega)) | (simp only [rngD_len, List.length_replicate, List.length_map, List.length_append, List.length_cons, List.length_nil, List.length_set] at *; omega))))); (conv => whnf); (try dsimp only [List.set_cons_zero, List.set_cons_succ, upA, wipeE, back, List.getElem?_cons_zero, List.getElem?_cons_succ, Option.getD_some]))); (try dsimp only [List.set_cons_zero, List.set_cons_succ, upA, wipeE, back, List.getElem?_cons_zero, List.getElem?_cons_succ, Option.getD_some])))
local macro_rules | `(tactic| walk_at "Ddl") => `(tactic| ((conv => whnf); (repeat ((first | refine And.intro rfl ?_ | refine And.intro trivial ?_ | refine And.intro ⟨rfl, trivial⟩ ?_ | refine And.intro ⟨rfl, rfl, trivial⟩ ?_ | refine ifb_t ?_ | refine ifb_f ?_ | refine ifb_nr ?_ | refine ifb_er ?_ | refine And.intro (by first | decide | omega | (unfold CMul; omega) | (unfold CDiv; omega) | (unfold CPow; decide) | (exact cpow1 (by omega) (by omega)) | (exact cpow1 (by dsimp only; omega) (by dsimp only; omega)) | (simp only [rngD_len, List.length_replicate, List.length_map, List.length_append, List.length_cons, List.length_nil, List.length_set] at *; omega)) ?_); conv => whnf))))
end DL

set_option maxHeartbeats 1000000
namespace DL
open PySem PySem.Spec PyProof.Rows L2
instance decKL : DecidableEq KL := fun a b => by cases a <;> cases b <;> first | exact isTrue rfl | exact isFalse (fun h => nomatch h)
/-! ### what the rules do to questions with settled parts -/
/-- settled, and none of the kinds that rules fold -/
structure Pl (p : Qn) : Prop where
  st : stl p
  ns : ∀ n r, p ≠ .shift n r
  nl : ∀ k w r, p ≠ .look k w r
  no : ∀ cs r, p ≠ .only cs r
  nk : isLinked p = false
def nb (k : K4) (w : Option Int) (p : Qn) : Qn := if w = some 0 then p else .look k w p
end DL

set_option maxHeartbeats 1000000
namespace DL
open PySem PySem.Spec PyProof.Rows L2
/-! ### questions to which no rule can be applied, two of them together -/
def stF (nm : Str) (cs : List Str) (v : Vv) : Qn := .fact nm (cs.map Tm.col ++ [.val v])
inductive Still (nm : Str) (cs : List Str) : Qn → Prop where
  | f (v : Vv) (h : okV v) : Still nm cs (stF nm cs v)
  | w (v : Vv) (h : okV v) (z : Str) (n : Int) (hz : isW z = true) : Still nm cs (.whr (PySem.Str.ofString "other") (.val (.s z)) (.val (.i n)) (stF nm cs v))
  | s (v : Vv) (h : okV v) : Still nm cs (.two .sincenot (.fact nm []) (stF nm cs v))
  | l (v : Vv) (h : okV v) (a b : Str) (hc : cs = [a, b]) : Still nm cs (.link .way b a (stF nm cs v))
theorem stF_cols {nm : Str} {cs : List Str} {v : Vv} (hs : SC cs) : colsQ (stF nm cs v) = cs := by
  simp only [stF, colsQ]
  refine ordS_eq hs fun x => ?_
  simp only [List.mem_filterMap, List.mem_append, List.mem_map, List.mem_singleton]
  constructor
  · rintro ⟨t, ht | ht, e⟩
    · obtain ⟨y, hy, rfl⟩ := ht
      cases e
      exact hy
    · subst ht; cases e
  · intro hx
    exact ⟨_, .inl ⟨x, hx, rfl⟩, rfl⟩
theorem stF_ok {nm : Str} {cs : List Str} {v : Vv} (hn : isW nm = true) (hc : CsOk cs) (hl : cs.length ≤ 2) (hv : okV v) : okQ (stF nm cs v) := by
  refine okQ_mk ⟨hn, ?_, ?_⟩ (by rw [stF_cols hc.sc]; exact hc.few) (by simp [stF, partsQ])
  · simp only [List.length_append, List.length_map, List.length_singleton]; omega
  · intro t ht
    simp only [List.mem_append, List.mem_map, List.mem_singleton] at ht
    rcases ht with ⟨x, hx, rfl⟩ | rfl
    · exact hc.isw x hx
    · exact hv
structure StOk (cs : List Str) (p : Qn) : Prop where
  ok : okQ p
  cols : colsQ p = cs
  dp : dpQ p ≤ 2
  pl : Pl p
theorem Still.so {nm : Str} {cs : List Str} {p : Qn} (h : Still nm cs p) (hn : isW nm = true) (hc : CsOk cs) (hl : cs.length ≤ 2) : StOk cs p := by
  cases h with
  | f v hv => exact ⟨stF_ok hn hc hl hv, stF_cols hc.sc, by simp [stF, dpQ], ⟨rfl, nofun, nofun, nofun, rfl⟩⟩
  | w v hv z n hz =>
    have e := stF_cols (nm := nm) (v := v) hc.sc
    refine ⟨okQ_mk ⟨by decide, hz, trivial⟩ (by rw [show colsQ (.whr _ _ _ (stF nm cs v)) = _ from e]; exact hc.few) ?_, e, by simp [stF, dpQ], ⟨⟨rfl, rfl⟩, nofun, nofun, nofun, rfl⟩⟩
    intro p hp
    simp only [partsQ, List.mem_singleton] at hp
    subst hp
    exact stF_ok hn hc hl hv
  | s v hv =>
    have e := stF_cols (nm := nm) (v := v) hc.sc
    have e2 : colsQ (.fact nm []) = [] := rfl
    refine ⟨okQ_mk (fun x hx => by rw [e2] at hx; cases hx) (by rw [show colsQ (.two .sincenot _ (stF nm cs v)) = _ from e]; exact hc.few) ?_, e, by simp [stF, dpQ], ⟨⟨?_, rfl, rfl⟩, nofun, nofun, nofun, rfl⟩⟩
    · intro p hp
      simp only [partsQ, List.mem_cons, List.not_mem_nil, or_false] at hp
      rcases hp with rfl | rfl
      · exact okQ_mk ⟨hn, by simp, by simp⟩ (by rw [e2]; simp) (by simp [partsQ])
      · exact stF_ok hn hc hl hv
    · refine rul_two_none _ _ _ (fun h => by simp [sameK] at h) ?_ ?_ ?_ <;> intros <;> simp_all [stF]
  | l v hv a b hcs =>
    have e := stF_cols (nm := nm) (v := v) hc.sc
    have hab : ordS [b, a] = cs := by
      refine ordS_eq hc.sc fun x => ?_
      rw [hcs]
      simp only [List.mem_cons, List.not_mem_nil, or_false]
      exact Or.comm
    have hne : b ≠ a := by
      have := hc.sc.nd
      rw [hcs] at this
      simp only [List.nodup_cons, List.mem_singleton] at this
      exact fun z => this.1 z.symm
    refine ⟨okQ_mk ⟨hne, by rw [hab, e]⟩ (by rw [show colsQ (.link _ _ _ (stF nm cs v)) = _ from e]; exact hc.few) ?_, e, by simp [stF, dpQ], ⟨⟨rfl, rfl⟩, nofun, nofun, nofun, rfl⟩⟩
    intro p hp
    simp only [partsQ, List.mem_singleton] at hp
    subst hp
    exact stF_ok hn hc hl hv
theorem stF_ne {n1 n2 : Str} {c1 c2 : List Str} {v1 v2 : Vv} (h : n1 ≠ n2) : stF n1 c1 v1 ≠ stF n2 c2 v2 := fun e => by
  simp only [stF, Qn.fact.injEq] at e
  exact h e.1
theorem Still.ne {n1 n2 : Str} {c1 c2 : List Str} {p q : Qn} (hp : Still n1 c1 p) (hq : Still n2 c2 q) (h : n1 ≠ n2) : p ≠ q := by
  intro e
  cases hp <;> cases hq <;> first
    | (exact absurd e (stF_ne h))
    | (simp only [stF, reduceCtorEq] at e; done)
    | (injection e with _ _ _ e; exact absurd e (stF_ne h))
    | (injection e with _ _ e; exact absurd e (stF_ne h))
/-- no rule for two of them -/
theorem Still.two {n1 n2 : Str} {c1 c2 : List Str} {p q : Qn} (hp : Still n1 c1 p) (hq : Still n2 c2 q) (h : n1 ≠ n2) (k : K2) : rul (.two k p q) = none := by
  refine rul_two_none k p q (fun e => hp.ne hq h e.2) ?_ ?_ ?_
  · intro a p' b q' e
    cases hp <;> simp [stF] at e
  · intro k1 a p' q' e
    cases hp <;> simp [stF] at e
  · intro k1 p' q' r e1 e2 _ _
    cases hp <;> simp only [stF, reduceCtorEq, Qn.two.injEq] at e1
    cases hq <;> simp only [stF, reduceCtorEq, Qn.two.injEq] at e2
    rw [← e1.2.1] at e2
    have := e2.2.1
    simp only [Qn.fact.injEq, and_true] at this
    exact h this.symm
theorem Still.pl {nm : Str} {cs : List Str} {p : Qn} (h : Still nm cs p) : Pl p := by
  cases h with
  | f v hv => exact ⟨rfl, nofun, nofun, nofun, rfl⟩
  | w v hv z n hz => exact ⟨⟨rfl, rfl⟩, nofun, nofun, nofun, rfl⟩
  | s v hv =>
    refine ⟨⟨?_, rfl, rfl⟩, nofun, nofun, nofun, rfl⟩
    refine rul_two_none _ _ _ (fun h => by simp [sameK] at h) ?_ ?_ ?_ <;> intros <;> simp_all [stF]
  | l v hv a b hcs => exact ⟨⟨rfl, rfl⟩, nofun, nofun, nofun, rfl⟩
section
variable {n1 n2 n3 : Str} {cs : List Str} {p q r : Qn} (hp : Still n1 cs p) (hq : Still n2 cs q) (h12 : n1 ≠ n2)
include hp hq h12
end
/-! ### the law's questions -/
local macro_rules | `(tactic| walk_at "Ddlx") => `(tactic| ((conv => whnf); (repeat ((first | ((with_reducible refine And.intro (stOk_nl ?_ ?_) ?_); (focus (with_reducible first | assumption | exact encQ_nl _ | exact encO_nl _ | exact encC_nl _)); (focus exact rfl)) | ((refine pick_nl ?_ ?_); (focus (with_reducible first | assumption | exact encQ_nl _ | exact encO_nl _ | exact encC_nl _))) | ((with_reducible refine And.intro ?_ ?_); (focus (with_reducible first | assumption | exact encQ_nl _ | exact encO_nl _ | exact encC_nl _))) | ((with_reducible refine And.intro (immA_c ?_ ?_) ?_); (focus (first | (with_reducible first | assumption | exact encQ_nl _ | exact encO_nl _ | exact encC_nl _) | exact rfl)); (focus ((repeat ((with_reducible refine immA_c ?_ ?_); (focus (first | (with_reducible first | assumption | exact encQ_nl _ | exact encO_nl _ | exact encC_nl _) | exact rfl)))); exact rfl))) | refine And.intro rfl ?_ | refine And.intro trivial ?_ | refine And.intro ⟨rfl, trivial⟩ ?_ | refine And.intro ⟨rfl, rfl, trivial⟩ ?_ | refine ifb_nq (by first | assumption | decide) ?_ | refine ifb_pq (by assumption) ?_ | refine ifb_er ?_ | refine ifb_t ?_ | refine ifb_f ?_ | refine ifb_nr ?_ | refine ifb_er ?_ | ((with_reducible refine And.intro (?_ : (_ : Nat) ≤ _) ?_); (focus (first | decide | omega | (unfold CMul; omega) | (unfold CDiv; omega) | (unfold CPow; decide) | (exact cpow1 (by omega) (by omega)) | (simp only [rngD_len, List.length_replicate, List.length_map, List.length_append, List.length_cons, List.length_nil, List.length_set] at *; omega)))) | ((with_reducible refine And.intro (?_ : (_ : Int) ≤ _) ?_); (focus (first | decide | omega | (unfold CMul; omega) | (unfold CDiv; omega) | (unfold CPow; decide) | (exact cpow1 (by omega) (by omega)) | (simp only [rngD_len, List.length_replicate, List.length_map, List.length_append, List.length_cons, List.length_nil, List.length_set] at *; omega)))) | ((with_reducible refine And.intro (?_ : (_ : Nat) < _) ?_); (focus (first | decide | omega | (unfold CMul; omega) | (unfold CDiv; omega) | (unfold CPow; decide) | (exact cpow1 (by omega) (by omega)) | (simp only [rngD_len, List.length_replicate, List.length_map, List.length_append, List.length_cons, List.length_nil, List.length_set] at *; omega)))) | ((with_reducible refine And.intro (?_ : (_ : Int) < _) ?_); (focus (first | decide | omega | (unfold CMul; omega) | (unfold CDiv; omega) | (unfold CPow; decide) | (exact cpow1 (by omega) (by omega)) | (simp only [rngD_len, List.length_replicate, List.length_map, List.length_append, List.length_cons, List.length_nil, List.length_set] at *; omega)))) | ((with_reducible refine And.intro (?_ : CMul _ _) ?_); (focus (first | decide | omega | (unfold CMul; omega) | (unfold CDiv; omega) | (unfold CPow; decide) | (exact cpow1 (by omega) (by omega)) | (simp only [rngD_len, List.length_replicate, List.length_map, List.length_append, List.length_cons, List.length_nil, List.length_set] at *; omega)))) | ((with_reducible refine And.intro (?_ : CDiv _ _) ?_); (focus (first | decide | omega | (unfold CMul; omega) | (unfold CDiv; omega) | (unfold CPow; decide) | (exact cpow1 (by omega) (by omega)) | (simp only [rngD_len, List.length_replicate, List.length_map, List.length_append, List.length_cons, List.length_nil, List.length_set] at *; omega)))) | ((with_reducible refine And.intro (?_ : CPow _ _) ?_); (focus (first | decide | omega | (unfold CMul; omega) | (unfold CDiv; omega) | (unfold CPow; decide) | (exact cpow1 (by omega) (by omega)) | (simp only [rngD_len, List.length_replicate, List.length_map, List.length_append, List.length_cons, List.length_nil, List.length_set] at *; omega)))) | ((with_reducible refine And.intro (?_ : (_ : Nat) = _) ?_); (focus (first | decide | omega | (unfold CMul; omega) | (unfold CDiv; omega) | (unfold CPow; decide) | (exact cpow1 (by omega) (by omega)) | (simp only [rngD_len, List.length_replicate, List.length_map, List.length_append, List.length_cons, List.length_nil, List.length_set] at *; omega))))); (conv => whnf); (try dsimp only [List.set_cons_zero, List.set_cons_succ, upA, wipeE, back, List.getElem?_cons_zero, List.getElem?_cons_succ, Option.getD_some]))); (try dsimp only [List.set_cons_zero, List.set_cons_succ, upA, wipeE, back, List.getElem?_cons_zero, List.getElem?_cons_succ, Option.getD_some])))
local macro_rules | `(tactic| walk_at "Ddl") => `(tactic| ((conv => whnf); (repeat ((first | refine And.intro rfl ?_ | refine And.intro trivial ?_ | refine And.intro ⟨rfl, trivial⟩ ?_ | refine And.intro ⟨rfl, rfl, trivial⟩ ?_ | refine ifb_t ?_ | refine ifb_f ?_ | refine ifb_nr ?_ | refine ifb_er ?_ | refine And.intro (by first | decide | omega | (unfold CMul; omega) | (unfold CDiv; omega) | (unfold CPow; decide) | (exact cpow1 (by omega) (by omega)) | (exact cpow1 (by dsimp only; omega) (by dsimp only; omega)) | (simp only [rngD_len, List.length_replicate, List.length_map, List.length_append, List.length_cons, List.length_nil, List.length_set] at *; omega)) ?_); conv => whnf))))
end DL

set_option maxHeartbeats 1000000
namespace DL
open PySem PySem.Spec PyProof.Rows L2
/-! ### two questions: drawn, and simplified -/
theorem ok_shift {n : Int} {p : Qn} (h : okQ p) : okQ (.shift n p) := ⟨⟨trivial, (okQ_cols h : (colsQ p).length ≤ 8)⟩, h⟩
theorem ok_look {k : K4} {w : Option Int} {p : Qn} (h : okQ p) (hw : ∀ v, w = some v → 0 ≤ v) : okQ (.look k w p) := ⟨⟨hw, (okQ_cols h : (colsQ p).length ≤ 8)⟩, h⟩
theorem ok_only {cs : List Str} {p : Qn} (h : okQ p) (hs : SC cs) (hm : ∀ x ∈ cs, x ∈ colsQ p) : okQ (.only cs p) := ⟨⟨⟨hs, hm⟩, Nat.le_trans (len_sub hs hm) (okQ_cols h)⟩, h⟩
theorem ok_link {k : KL} {x y : Str} {p : Qn} (h : okQ p) (hn : x ≠ y) (he : ordS [x, y] = colsQ p) : okQ (.link k x y p) := ⟨⟨⟨hn, he⟩, (okQ_cols h : (colsQ p).length ≤ 8)⟩, h⟩
theorem ok_two {k : K2} {p q : Qn} (hp : okQ p) (hq : okQ q) (e : colsQ p = colsQ q) : okQ (.two k p q) := by
  have hl := okQ_cols hp
  have hb : (ordS (colsQ p ++ colsQ q)) = colsQ p := ordS_eq (colsQ_ok p hp).1 fun x => by rw [← e]; simp
  refine ⟨⟨?_, ?_⟩, hp, hq⟩
  · cases k <;> first | trivial | exact e | (intro x hx; rw [e]; exact hx) | (intro x hx; rw [← e]; exact hx)
  · cases k <;> simp only [colsQ] <;> first | (rw [hb]; exact hl) | exact hl | (rw [← e]; exact hl)
local macro_rules | `(tactic| walk_at "Ddlx") => `(tactic| ((conv => whnf); (repeat ((first | ((with_reducible refine And.intro (stOk_nl ?_ ?_) ?_); (focus (with_reducible first | assumption | exact encQ_nl _ | exact encO_nl _ | exact encC_nl _)); (focus exact rfl)) | ((refine pick_nl ?_ ?_); (focus (with_reducible first | assumption | exact encQ_nl _ | exact encO_nl _ | exact encC_nl _))) | ((with_reducible refine And.intro ?_ ?_); (focus (with_reducible first | assumption | exact encQ_nl _ | exact encO_nl _ | exact encC_nl _))) | ((with_reducible refine And.intro (immA_c ?_ ?_) ?_); (focus (first | (with_reducible first | assumption | exact encQ_nl _ | exact encO_nl _ | exact encC_nl _) | exact rfl)); (focus ((repeat ((with_reducible refine immA_c ?_ ?_); (focus (first | (with_reducible first | assumption | exact encQ_nl _ | exact encO_nl _ | exact encC_nl _) | exact rfl)))); exact rfl))) | refine And.intro rfl ?_ | refine And.intro trivial ?_ | refine And.intro ⟨rfl, trivial⟩ ?_ | refine And.intro ⟨rfl, rfl, trivial⟩ ?_ | refine ifb_nq (by first | assumption | decide) ?_ | refine ifb_pq (by assumption) ?_ | refine ifb_er ?_ | refine ifb_t ?_ | refine ifb_f ?_ | refine ifb_nr ?_ | refine ifb_er ?_ | ((with_reducible refine And.intro (?_ : (_ : Nat) ≤ _) ?_); (focus (first | decide | omega | (unfold CMul; omega) | (unfold CDiv; omega) | (unfold CPow; decide) | (exact cpow1 (by omega) (by omega)) | (simp only [rngD_len, List.length_replicate, List.length_map, List.length_append, List.length_cons, List.length_nil, List.length_set] at *; omega)))) | ((with_reducible refine And.intro (?_ : (_ : Int) ≤ _) ?_); (focus (first | decide | omega | (unfold CMul; omega) | (unfold CDiv; omega) | (unfold CPow; decide) | (exact cpow1 (by omega) (by omega)) | (simp only [rngD_len, List.length_replicate, List.length_map, List.length_append, List.length_cons, List.length_nil, List.length_set] at *; omega)))) | ((with_reducible refine And.intro (?_ : (_ : Nat) < _) ?_); (focus (first | decide | omega | (unfold CMul; omega) | (unfold CDiv; omega) | (unfold CPow; decide) | (exact cpow1 (by omega) (by omega)) | (simp only [rngD_len, List.length_replicate, List.length_map, List.length_append, List.length_cons, List.length_nil, List.length_set] at *; omega)))) | ((with_reducible refine And.intro (?_ : (_ : Int) < _) ?_); (focus (first | decide | omega | (unfold CMul; omega) | (unfold CDiv; omega) | (unfold CPow; decide) | (exact cpow1 (by omega) (by omega)) | (simp only [rngD_len, List.length_replicate, List.length_map, List.length_append, List.length_cons, List.length_nil, List.length_set] at *; omega)))) | ((with_reducible refine And.intro (?_ : CMul _ _) ?_); (focus (first | decide | omega | (unfold CMul; omega) | (unfold CDiv; omega) | (unfold CPow; decide) | (exact cpow1 (by omega) (by omega)) | (simp only [rngD_len, List.length_replicate, List.length_map, List.length_append, List.length_cons, List.length_nil, List.length_set] at *; omega)))) | ((with_reducible refine And.intro (?_ : CDiv _ _) ?_); (focus (first | decide | omega | (unfold CMul; omega) | (unfold CDiv; omega) | (unfold CPow; decide) | (exact cpow1 (by omega) (by omega)) | (simp only [rngD_len, List.length_replicate, List.length_map, List.length_append, List.length_cons, List.length_nil, List.length_set] at *; omega)))) | ((with_reducible refine And.intro (?_ : CPow _ _) ?_); (focus (first | decide | omega | (unfold CMul; omega) | (unfold CDiv; omega) | (unfold CPow; decide) | (exact cpow1 (by omega) (by omega)) | (simp only [rngD_len, List.length_replicate, List.length_map, List.length_append, List.length_cons, List.length_nil, List.length_set] at *; omega)))) | ((with_reducible refine And.intro (?_ : (_ : Nat) = _) ?_); (focus (first | decide | omega | (unfold CMul; omega) | (unfold CDiv; omega) | (unfold CPow; decide) | (exact cpow1 (by omega) (by omega)) | (simp only [rngD_len, List.length_replicate, List.length_map, List.length_append, List.length_cons, List.length_nil, List.length_set] at *; omega))))); (conv => whnf); (try dsimp only [List.set_cons_zero, List.set_cons_succ, upA, wipeE, back, List.getElem?_cons_zero, List.getElem?_cons_succ, Option.getD_some]))); (try dsimp only [List.set_cons_zero, List.set_cons_succ, upA, wipeE, back, List.getElem?_cons_zero, List.getElem?_cons_succ, Option.getD_some])))
section
variable {ns ms : List Int} {nm : Str} {cs : List Str} {p : Qn} {k : Int} (hnm : isW nm = true) (hcs : CsOk cs) (hl : cs.length ≤ 2) (h7 : k = 7 → cs.length = 2) (hp : Still nm cs p)
end
end DL

set_option maxHeartbeats 1000000
namespace DL
open PySem PySem.Spec PyProof.Rows L2
/-! ### drawn questions over a few columns -/
structure PlOk (pl : List Str) : Prop where
  l3 : pl.length = 3
  nd : pl.Nodup
  ww : ∀ w ∈ pl, isW w = true
theorem PlOk.ex {pl cs : List Str} (h : PlOk pl) (hc : cs.length ≤ 2) : ∃ x, x ∈ pl ∧ x ∉ cs := by
  refine Classical.byContradiction fun hn => ?_
  have hs : ∀ x ∈ pl, x ∈ cs := fun x hx => Classical.byContradiction fun hx' => hn ⟨x, hx, hx'⟩
  have := List.Nodup.length_le_of_subset h.nd fun x hx => hs x hx
  have := h.l3
  omega
abbrev Q6 (ks : List Int) (ws cs pl : List Str) (vs : List Vv) (d : Int) : List D := [.lst (ks.map D.int), .rol (ws.map D.str), encC cs, .rol (pl.map D.str), .rol (vs.map encV), .int d]
def spn_law_question : Nat → FSpec
  | 0 => ⟨fun _ => False, fun _ _ _ => False⟩
  | n + 1 => ⟨fun ds => ∃ (ks : List Int) (ws cs pl : List Str) (vs : List Vv) (d : Int), ds = Q6 ks ws cs pl vs d ∧ LfOk ws cs vs ∧ cs.length ≤ 2 ∧ PlOk pl ∧ 0 ≤ d ∧ 2 * d + 1 ≤ n + 1,
    fun ds r ds' => ∀ (l : D) (ws cs pl : List Str) (vs : List Vv) (d : Int), ds = [l, .rol (ws.map D.str), encC cs, .rol (pl.map D.str), .rol (vs.map encV), .int d] → ∃ (ks : List Int) (q : Qn), r = encQ q ∧ ds' = Q6 ks ws cs pl vs d ∧ okQ q ∧ colsQ q = cs ∧ (dpQ q : Int) ≤ 2 * d + 1⟩
abbrev sp_law_question := spn_law_question 32
def spn_law_grouped : Nat → FSpec
  | 0 => ⟨fun _ => False, fun _ _ _ => False⟩
  | n + 1 => ⟨fun ds => ∃ (ks : List Int) (ws cs pl : List Str) (vs : List Vv) (d : Int), ds = Q6 ks ws cs pl vs d ∧ LfOk ws cs vs ∧ cs.length ≤ 2 ∧ PlOk pl ∧ 1 ≤ d ∧ 2 * d ≤ n + 1,
    fun ds r ds' => ∀ (l : D) (ws cs pl : List Str) (vs : List Vv) (d : Int), ds = [l, .rol (ws.map D.str), encC cs, .rol (pl.map D.str), .rol (vs.map encV), .int d] → ∃ (ks : List Int) (q : Qn), r = encQ q ∧ ds' = Q6 ks ws cs pl vs d ∧ okQ q ∧ colsQ q = cs ∧ (dpQ q : Int) ≤ 2 * d + 1⟩
theorem q6_post {l r : D} {ws cs pl : List Str} {vs : List Vv} {d : Int} {ks : List Int} {q : Qn} (e : r = encQ q) (h : okQ q ∧ colsQ q = cs ∧ (dpQ q : Int) ≤ 2 * d + 1) : ∀ (l' : D) (ws' cs' pl' : List Str) (vs' : List Vv) (d' : Int), [l, .rol (ws.map D.str), encC cs, .rol (pl.map D.str), .rol (vs.map encV), .int d] = [l', .rol (ws'.map D.str), encC cs', .rol (pl'.map D.str), .rol (vs'.map encV), .int d'] →
    ∃ (ns : List Int) (q : Qn), r = encQ q ∧ Q6 ks ws cs pl vs d = Q6 ns ws' cs' pl' vs' d' ∧ okQ q ∧ colsQ q = cs' ∧ (dpQ q : Int) ≤ 2 * d' + 1 := by
  intro l' ws' cs' pl' vs' d' e'
  simp only [List.cons.injEq, and_true, D.lst.injEq, D.rol.injEq, D.int.injEq] at e'
  cases mapS_inj e'.2.1
  cases encC_inj e'.2.2.1
  cases mapS_inj e'.2.2.2.1
  cases mapV_inj e'.2.2.2.2.1
  obtain rfl := e'.2.2.2.2.2
  exact ⟨ks, q, e, rfl, h⟩
theorem LfOk.to {ws cs es : List Str} {vs : List Vv} (h : LfOk ws cs vs) (he : CsOk es) : LfOk ws es vs := ⟨h.w2, h.ww, he, h.v3, h.vv⟩
theorem q_call {n : Nat} {ws cs es pl : List Str} {vs : List Vv} {d : Int} (L : LfOk ws cs vs) (he : CsOk es) (hl : es.length ≤ 2) (P : PlOk pl) (d1 : 1 ≤ d) (hn : 2 * d ≤ n + 1) (ks : List Int) :
    (spn_law_question n).pre (Q6 ks ws es pl vs (d - 1)) ∧ ∀ r ds', (spn_law_question n).post (Q6 ks ws es pl vs (d - 1)) r ds' → ∃ (n2 : List Int) (q : Qn), r = encQ q ∧ ds' = Q6 n2 ws es pl vs (d - 1) ∧ okQ q ∧ colsQ q = es ∧ (dpQ q : Int) ≤ 2 * d - 1 := by
  cases n with
  | zero => omega
  | succ n => exact ⟨⟨ks, ws, es, pl, vs, d - 1, rfl, L.to he, hl, P, by omega, by omega⟩, fun r ds' h => by
      obtain ⟨n2, q, h1, h2, h3, h4, h5⟩ := h _ _ _ _ _ _ rfl
      exact ⟨n2, q, h1, h2, h3, h4, by omega⟩⟩
theorem leaf_call {ws cs : List Str} {vs : List Vv} (L : LfOk ws cs vs) (ks : List Int) : sp_law_leaf.pre [.lst (ks.map D.int), .rol (ws.map D.str), encC cs, .rol (vs.map encV)] ∧ ∀ r ds', sp_law_leaf.post [.lst (ks.map D.int), .rol (ws.map D.str), encC cs, .rol (vs.map encV)] r ds' → ∃ (n2 : List Int) (q : Qn), r = encQ q ∧ ds' = [.lst (n2.map D.int), .rol (ws.map D.str), encC cs, .rol (vs.map encV)] ∧ okQ q ∧ colsQ q = cs ∧ dpQ q = 1 :=
  ⟨⟨ks, ws, cs, vs, rfl, L⟩, fun r ds' h => h _ _ _ _ rfl⟩
theorem term_call {ws cs : List Str} {vs : List Vv} (L : LfOk ws cs vs) (ks : List Int) : sp_law_term.pre [.lst (ks.map D.int), encC cs, .rol (vs.map encV)] ∧ ∀ r ds', sp_law_term.post [.lst (ks.map D.int), encC cs, .rol (vs.map encV)] r ds' → ∃ (n2 : List Int) (t : Tm), r = encTm t ∧ ds' = [.lst (n2.map D.int), encC cs, .rol (vs.map encV)] ∧ fitTm cs t :=
  ⟨⟨ks, cs, vs, rfl, L.c.few, L.v3, L.vv⟩, fun r ds' h => h _ _ _ rfl⟩
/-! valid nodes -/
theorem ok_both {p q : Qn} {cs : List Str} (hp : okQ p) (hq : okQ q) (hc : CsOk cs) (hm : ∀ x, (x ∈ colsQ p ∨ x ∈ colsQ q) ↔ x ∈ cs) : okQ (.two .both p q) ∧ colsQ (.two .both p q) = cs := by
  have e : colsQ (.two .both p q) = cs := ordS_eq hc.sc fun x => by rw [List.mem_append]; exact hm x
  exact ⟨⟨⟨trivial, by rw [e]; exact hc.few⟩, hp, hq⟩, e⟩
theorem ok_unless {p q : Qn} (hp : okQ p) (hq : okQ q) (hm : ∀ x ∈ colsQ q, x ∈ colsQ p) : okQ (.two .unless p q) := ⟨⟨hm, (okQ_cols hp : (colsQ p).length ≤ 8)⟩, hp, hq⟩
theorem ok_fol {k : K2} {p q : Qn} (hk : folB k = true) (hp : okQ p) (hq : okQ q) (hm : ∀ x ∈ colsQ p, x ∈ colsQ q) : okQ (.two k p q) ∧ colsQ (.two k p q) = colsQ q := by
  have e := cols_fol hk (a := p) (b := q)
  exact ⟨⟨⟨(okN_fol hk).mpr hm, by rw [e]; exact okQ_cols hq⟩, hp, hq⟩, e⟩
theorem ok_whr {t : Str} {l r : Tm} {p : Qn} (hp : okQ p) (ht : t ∈ cmps) (hl : fitTm (colsQ p) l) (hr : fitTm (colsQ p) r) : okQ (.whr t l r p) := ⟨⟨⟨ht, hl, hr⟩, (okQ_cols hp : (colsQ p).length ≤ 8)⟩, hp⟩
/-- slots: 0 draws, 1 names, 2 columns, 3 pool, 4 values, 5 depth, 6 kind, 7 some, 8 rest, 9 p, 10 name, 11 test, 12 within, 13 pair, 14 x -/
def w_law_question (n : Nat) : WS :=
    (cSeq (cIte (cOp fEqS (cVar 5) (cC (.int 0)))
      (cRet 6 (cCallN 4 sp_law_leaf (cCons (cVar 0) (cCons (cVar 1) (cCons (cVar 2) (cCons (cVar 4) cNil))))))
      cNilS)
    (cSeq (cAsg 6 [0, 1, 2, 3, 4, 5] 6 (cCallN 2 sp_law_take (cCons (cVar 0) (cCons (cC (.int 12)) cNil))))
    (cSeq (cIte (cOr (cOp fEqS (cVar 6) (cC (.int 11))) (cAnd (cOp fGt (cVar 6) (cC (.int 8))) (cOp fLt (cBi fLen (cCons (cVar 2) cNil)) (cC (.int 2)))))
      (cRet 6 (cCallN 6 (spn_law_grouped n) (cCons (cVar 0) (cCons (cVar 1) (cCons (cVar 2) (cCons (cVar 3) (cCons (cVar 4) (cCons (cVar 5) cNil))))))))
      cNilS)
    (cSeq (cAsg 6 [0, 1, 2, 3, 4, 5] 7 (cBi fTuple (cCons (cLc [14] (iE (cVar 2)) (gN 6 [] 14) (cOp fGt (cCallN 2 sp_law_take (cCons (cVar 0) (cCons (cC (.int 3)) cNil))) (cC (.int 0))) (cVar 14)) cNil)))
    (cSeq (cIte (cOp fEqS (cVar 6) (cC (.int 0)))
      (cSeq (cAsg 6 [0, 1, 2, 3, 4, 5] 8 (cBi fTuple (cCons (cLc [14] (iE (cVar 2)) (gN 6 [] 14) (cOr (cOp (fIn true) (cVar 14) (cVar 7)) (cOp fEqS (cCallN 2 sp_law_take (cCons (cVar 0) (cCons (cC (.int 2)) cNil))) (cC (.int 0)))) (cVar 14)) cNil)))
        (cSeq (cAsg 6 [0, 1, 2, 3, 4, 5] 9 (cCallN 6 (spn_law_question n) (cCons (cVar 0) (cCons (cVar 1) (cCons (cVar 7) (cCons (cVar 3) (cCons (cVar 4) (cCons (cOp fSub (cVar 5) (cC (.int 1))) cNil))))))))
        (cRet 6 (cTup (cCons (cC (.str (PySem.Str.ofString "both"))) (cCons (cVar 9) (cCons (cCallN 6 (spn_law_question n) (cCons (cVar 0) (cCons (cVar 1) (cCons (cVar 8) (cCons (cVar 3) (cCons (cVar 4) (cCons (cOp fSub (cVar 5) (cC (.int 1))) cNil))))))) cNil)))))))
      cNilS)
    (cSeq (cAsg 6 [0, 1, 2, 3, 4, 5] 9 (cCallN 6 (spn_law_question n) (cCons (cVar 0) (cCons (cVar 1) (cCons (cVar 2) (cCons (cVar 3) (cCons (cVar 4) (cCons (cOp fSub (cVar 5) (cC (.int 1))) cNil))))))))
    (cSeq (cIte (cOp fEqS (cVar 6) (cC (.int 1)))
      (cRet 6 (cTup (cCons (cC (.str (PySem.Str.ofString "either"))) (cCons (cVar 9) (cCons (cCallN 6 (spn_law_question n) (cCons (cVar 0) (cCons (cVar 1) (cCons (cVar 2) (cCons (cVar 3) (cCons (cVar 4) (cCons (cOp fSub (cVar 5) (cC (.int 1))) cNil))))))) cNil)))))
      cNilS)
    (cSeq (cIte (cOp fEqS (cVar 6) (cC (.int 2)))
      (cRet 6 (cTup (cCons (cC (.str (PySem.Str.ofString "unless"))) (cCons (cVar 9) (cCons (cCallN 6 (spn_law_question n) (cCons (cVar 0) (cCons (cVar 1) (cCons (cVar 7) (cCons (cVar 3) (cCons (cVar 4) (cCons (cOp fSub (cVar 5) (cC (.int 1))) cNil))))))) cNil)))))
      cNilS)
    (cSeq (cIte (cOp fLt (cVar 6) (cC (.int 5)))
      (cSeq (cAsg 6 [0, 1, 2, 3, 4, 5] 10 (cOp fIx (cLst (cCons (cC (.str (PySem.Str.ofString "since"))) (cCons (cC (.str (PySem.Str.ofString "until"))) (cCons (cC (.str (PySem.Str.ofString "sincenot"))) (cCons (cC (.str (PySem.Str.ofString "untilnot"))) cNil))))) (cCallN 2 sp_law_take (cCons (cVar 0) (cCons (cC (.int 4)) cNil)))))
        (cRet 6 (cTup (cCons (cVar 10) (cCons (cCallN 6 (spn_law_question n) (cCons (cVar 0) (cCons (cVar 1) (cCons (cVar 7) (cCons (cVar 3) (cCons (cVar 4) (cCons (cOp fSub (cVar 5) (cC (.int 1))) cNil))))))) (cCons (cVar 9) cNil))))))
      cNilS)
    (cSeq (cIte (cOp fEqS (cVar 6) (cC (.int 5)))
      (cRet 6 (cTup (cCons (cC (.str (PySem.Str.ofString "shift"))) (cCons (cOp fSub (cCallN 2 sp_law_take (cCons (cVar 0) (cCons (cC (.int 9)) cNil))) (cC (.int 4))) (cCons (cVar 9) cNil)))))
      cNilS)
    (cSeq (cIte (cOp fEqS (cVar 6) (cC (.int 6)))
      (cSeq (cAsg 6 [0, 1, 2, 3, 4, 5] 11 (cOp fIx (cLst (cCons (cC (.str (PySem.Str.ofString "same"))) (cCons (cC (.str (PySem.Str.ofString "other"))) (cCons (cC (.str (PySem.Str.ofString "less"))) cNil)))) (cCallN 2 sp_law_take (cCons (cVar 0) (cCons (cC (.int 3)) cNil)))))
        (cRet 6 (cTup (cCons (cC (.str (PySem.Str.ofString "where"))) (cCons (cVar 11) (cCons (cCallN 3 sp_law_term (cCons (cVar 0) (cCons (cVar 2) (cCons (cVar 4) cNil)))) (cCons (cCallN 3 sp_law_term (cCons (cVar 0) (cCons (cVar 2) (cCons (cVar 4) cNil)))) (cCons (cVar 9) cNil))))))))
      cNilS)
    (cSeq (cIte (cOp fLt (cVar 6) (cC (.int 9)))
      (cSeq (cAsg 6 [0, 1, 2, 3, 4, 5] 12 (cOp fIx (cLst (cCons (cC .non) (cCons (cC (.int 0)) (cCons (cC (.int 1)) (cCons (cC (.int 2)) (cCons (cC (.int 3)) (cCons (cC (.int 5)) cNil))))))) (cCallN 2 sp_law_take (cCons (cVar 0) (cCons (cC (.int 6)) cNil)))))
        (cRet 6 (cTup (cCons (cOp fIx (cLst (cCons (cC (.str (PySem.Str.ofString "once"))) (cCons (cC (.str (PySem.Str.ofString "lately"))) (cCons (cC (.str (PySem.Str.ofString "soon"))) (cCons (cC (.str (PySem.Str.ofString "henceforth"))) cNil))))) (cCallN 2 sp_law_take (cCons (cVar 0) (cCons (cC (.int 4)) cNil)))) (cCons (cVar 12) (cCons (cVar 9) cNil))))))
      cNilS)
    (cSeq (cAsg 6 [0, 1, 2, 3, 4, 5] 13 (cOp fIx (cLst (cCons (cVar 2) (cCons (cTup (cCons (cOp fIx (cVar 2) (cC (.int 1))) (cCons (cOp fIx (cVar 2) (cC (.int 0))) cNil))) cNil))) (cCallN 2 sp_law_take (cCons (cVar 0) (cCons (cC (.int 2)) cNil)))))
    (cRet 6 (cTup (cCons (cOp fIx (cLst (cCons (cC (.str (PySem.Str.ofString "linked"))) (cCons (cC (.str (PySem.Str.ofString "way"))) cNil))) (cOp fSub (cVar 6) (cC (.int 9)))) (cCons (cOp fIx (cVar 13) (cC (.int 0))) (cCons (cOp fIx (cVar 13) (cC (.int 1))) (cCons (cVar 9) cNil)))))))))))))))))))
def wc_law_question_9 (n : Nat) : WS :=
    (cSeq (cAsg 6 [0, 1, 2, 3, 4, 5] 13 (cOp fIx (cLst (cCons (cVar 2) (cCons (cTup (cCons (cOp fIx (cVar 2) (cC (.int 1))) (cCons (cOp fIx (cVar 2) (cC (.int 0))) cNil))) cNil))) (cCallN 2 sp_law_take (cCons (cVar 0) (cCons (cC (.int 2)) cNil)))))
    (cRet 6 (cTup (cCons (cOp fIx (cLst (cCons (cC (.str (PySem.Str.ofString "linked"))) (cCons (cC (.str (PySem.Str.ofString "way"))) cNil))) (cOp fSub (cVar 6) (cC (.int 9)))) (cCons (cOp fIx (cVar 13) (cC (.int 0))) (cCons (cOp fIx (cVar 13) (cC (.int 1))) (cCons (cVar 9) cNil)))))))
def wc_law_question_8 (n : Nat) : WS :=
    (cCut (cIte (cOp fLt (cVar 6) (cC (.int 9)))
      (cSeq (cAsg 6 [0, 1, 2, 3, 4, 5] 12 (cOp fIx (cLst (cCons (cC .non) (cCons (cC (.int 0)) (cCons (cC (.int 1)) (cCons (cC (.int 2)) (cCons (cC (.int 3)) (cCons (cC (.int 5)) cNil))))))) (cCallN 2 sp_law_take (cCons (cVar 0) (cCons (cC (.int 6)) cNil)))))
        (cRet 6 (cTup (cCons (cOp fIx (cLst (cCons (cC (.str (PySem.Str.ofString "once"))) (cCons (cC (.str (PySem.Str.ofString "lately"))) (cCons (cC (.str (PySem.Str.ofString "soon"))) (cCons (cC (.str (PySem.Str.ofString "henceforth"))) cNil))))) (cCallN 2 sp_law_take (cCons (cVar 0) (cCons (cC (.int 4)) cNil)))) (cCons (cVar 12) (cCons (cVar 9) cNil))))))
      cNilS) (wc_law_question_9 n))
def wc_law_question_7 (n : Nat) : WS :=
    (cCut (cIte (cOp fEqS (cVar 6) (cC (.int 6)))
      (cSeq (cAsg 6 [0, 1, 2, 3, 4, 5] 11 (cOp fIx (cLst (cCons (cC (.str (PySem.Str.ofString "same"))) (cCons (cC (.str (PySem.Str.ofString "other"))) (cCons (cC (.str (PySem.Str.ofString "less"))) cNil)))) (cCallN 2 sp_law_take (cCons (cVar 0) (cCons (cC (.int 3)) cNil)))))
        (cRet 6 (cTup (cCons (cC (.str (PySem.Str.ofString "where"))) (cCons (cVar 11) (cCons (cCallN 3 sp_law_term (cCons (cVar 0) (cCons (cVar 2) (cCons (cVar 4) cNil)))) (cCons (cCallN 3 sp_law_term (cCons (cVar 0) (cCons (cVar 2) (cCons (cVar 4) cNil)))) (cCons (cVar 9) cNil))))))))
      cNilS) (wc_law_question_8 n))
def wc_law_question_6 (n : Nat) : WS :=
    (cCut (cIte (cOp fEqS (cVar 6) (cC (.int 5)))
      (cRet 6 (cTup (cCons (cC (.str (PySem.Str.ofString "shift"))) (cCons (cOp fSub (cCallN 2 sp_law_take (cCons (cVar 0) (cCons (cC (.int 9)) cNil))) (cC (.int 4))) (cCons (cVar 9) cNil)))))
      cNilS) (wc_law_question_7 n))
def wc_law_question_5 (n : Nat) : WS :=
    (cCut (cIte (cOp fLt (cVar 6) (cC (.int 5)))
      (cSeq (cAsg 6 [0, 1, 2, 3, 4, 5] 10 (cOp fIx (cLst (cCons (cC (.str (PySem.Str.ofString "since"))) (cCons (cC (.str (PySem.Str.ofString "until"))) (cCons (cC (.str (PySem.Str.ofString "sincenot"))) (cCons (cC (.str (PySem.Str.ofString "untilnot"))) cNil))))) (cCallN 2 sp_law_take (cCons (cVar 0) (cCons (cC (.int 4)) cNil)))))
        (cRet 6 (cTup (cCons (cVar 10) (cCons (cCallN 6 (spn_law_question n) (cCons (cVar 0) (cCons (cVar 1) (cCons (cVar 7) (cCons (cVar 3) (cCons (cVar 4) (cCons (cOp fSub (cVar 5) (cC (.int 1))) cNil))))))) (cCons (cVar 9) cNil))))))
      cNilS) (wc_law_question_6 n))
def wc_law_question_4 (n : Nat) : WS :=
    (cSeq (cIte (cOp fEqS (cVar 6) (cC (.int 1)))
      (cRet 6 (cTup (cCons (cC (.str (PySem.Str.ofString "either"))) (cCons (cVar 9) (cCons (cCallN 6 (spn_law_question n) (cCons (cVar 0) (cCons (cVar 1) (cCons (cVar 2) (cCons (cVar 3) (cCons (cVar 4) (cCons (cOp fSub (cVar 5) (cC (.int 1))) cNil))))))) cNil)))))
      cNilS)
    (cCut (cIte (cOp fEqS (cVar 6) (cC (.int 2)))
      (cRet 6 (cTup (cCons (cC (.str (PySem.Str.ofString "unless"))) (cCons (cVar 9) (cCons (cCallN 6 (spn_law_question n) (cCons (cVar 0) (cCons (cVar 1) (cCons (cVar 7) (cCons (cVar 3) (cCons (cVar 4) (cCons (cOp fSub (cVar 5) (cC (.int 1))) cNil))))))) cNil)))))
      cNilS) (wc_law_question_5 n)))
def wc_law_question_3 (n : Nat) : WS :=
    (cCut (cAsg 6 [0, 1, 2, 3, 4, 5] 9 (cCallN 6 (spn_law_question n) (cCons (cVar 0) (cCons (cVar 1) (cCons (cVar 2) (cCons (cVar 3) (cCons (cVar 4) (cCons (cOp fSub (cVar 5) (cC (.int 1))) cNil)))))))) (wc_law_question_4 n))
def wc_law_question_2 (n : Nat) : WS :=
    (cCut (cIte (cOp fEqS (cVar 6) (cC (.int 0)))
      (cSeq (cAsg 6 [0, 1, 2, 3, 4, 5] 8 (cBi fTuple (cCons (cLc [14] (iE (cVar 2)) (gN 6 [] 14) (cOr (cOp (fIn true) (cVar 14) (cVar 7)) (cOp fEqS (cCallN 2 sp_law_take (cCons (cVar 0) (cCons (cC (.int 2)) cNil))) (cC (.int 0)))) (cVar 14)) cNil)))
        (cSeq (cAsg 6 [0, 1, 2, 3, 4, 5] 9 (cCallN 6 (spn_law_question n) (cCons (cVar 0) (cCons (cVar 1) (cCons (cVar 7) (cCons (cVar 3) (cCons (cVar 4) (cCons (cOp fSub (cVar 5) (cC (.int 1))) cNil))))))))
        (cRet 6 (cTup (cCons (cC (.str (PySem.Str.ofString "both"))) (cCons (cVar 9) (cCons (cCallN 6 (spn_law_question n) (cCons (cVar 0) (cCons (cVar 1) (cCons (cVar 8) (cCons (cVar 3) (cCons (cVar 4) (cCons (cOp fSub (cVar 5) (cC (.int 1))) cNil))))))) cNil)))))))
      cNilS) (wc_law_question_3 n))
def wc_law_question_1 (n : Nat) : WS :=
    (cCut (cAsg 6 [0, 1, 2, 3, 4, 5] 7 (cBi fTuple (cCons (cLc [14] (iE (cVar 2)) (gN 6 [] 14) (cOp fGt (cCallN 2 sp_law_take (cCons (cVar 0) (cCons (cC (.int 3)) cNil))) (cC (.int 0))) (cVar 14)) cNil))) (wc_law_question_2 n))
def wc_law_question_0 (n : Nat) : WS :=
    (cSeq (cIte (cOp fEqS (cVar 5) (cC (.int 0)))
      (cRet 6 (cCallN 4 sp_law_leaf (cCons (cVar 0) (cCons (cVar 1) (cCons (cVar 2) (cCons (cVar 4) cNil))))))
      cNilS)
    (cSeq (cAsg 6 [0, 1, 2, 3, 4, 5] 6 (cCallN 2 sp_law_take (cCons (cVar 0) (cCons (cC (.int 12)) cNil))))
    (cCut (cIte (cOr (cOp fEqS (cVar 6) (cC (.int 11))) (cAnd (cOp fGt (cVar 6) (cC (.int 8))) (cOp fLt (cBi fLen (cCons (cVar 2) cNil)) (cC (.int 2)))))
      (cRet 6 (cCallN 6 (spn_law_grouped n) (cCons (cVar 0) (cCons (cVar 1) (cCons (cVar 2) (cCons (cVar 3) (cCons (cVar 4) (cCons (cVar 5) cNil))))))))
      cNilS) (wc_law_question_1 n))))
theorem wc_law_question_eq (n : Nat) : w_law_question n = wc_law_question_0 n := by
  unfold wc_law_question_0 wc_law_question_1 wc_law_question_2 wc_law_question_3 wc_law_question_4 wc_law_question_5 wc_law_question_6 wc_law_question_7 wc_law_question_8 wc_law_question_9
  simp only [cCut_eq]
  rfl
abbrev kt_law_question (n : Nat) (ds : List D) : Kt := { nx := fun e => (spn_law_question (n + 1)).post ds .non (outs e 6), rt := fun d e => (spn_law_question (n + 1)).post ds d (outs e 6) }
abbrev EQ (ks : List Int) (ws cs pl : List Str) (vs : List Vv) (d : Int) (t : List (Option D)) : DEnv := some (.lst (ks.map D.int)) :: some (.rol (ws.map D.str)) :: some (encC cs) :: some (.rol (pl.map D.str)) :: some (.rol (vs.map encV)) :: some (.int d) :: t
abbrev KQ (n : Nat) (ns : List Int) (ws cs pl : List Str) (vs : List Vv) (d : Int) : Kt := kt_law_question n (Q6 ns ws cs pl vs d)
local macro_rules | `(tactic| walk_at "Ddlx") => `(tactic| ((conv => whnf); (repeat ((first | ((with_reducible refine And.intro (stOk_nl ?_ ?_) ?_); (focus (with_reducible first | assumption | exact encQ_nl _ | exact encO_nl _ | exact encC_nl _)); (focus exact rfl)) | ((refine pick_nl ?_ ?_); (focus (with_reducible first | assumption | exact encQ_nl _ | exact encO_nl _ | exact encC_nl _))) | ((with_reducible refine And.intro ?_ ?_); (focus (with_reducible first | assumption | exact encQ_nl _ | exact encO_nl _ | exact encC_nl _))) | ((with_reducible refine And.intro (immA_c ?_ ?_) ?_); (focus (first | (with_reducible first | assumption | exact encQ_nl _ | exact encO_nl _ | exact encC_nl _) | exact rfl)); (focus ((repeat ((with_reducible refine immA_c ?_ ?_); (focus (first | (with_reducible first | assumption | exact encQ_nl _ | exact encO_nl _ | exact encC_nl _) | exact rfl)))); exact rfl))) | refine And.intro rfl ?_ | refine And.intro trivial ?_ | refine And.intro ⟨rfl, trivial⟩ ?_ | refine And.intro ⟨rfl, rfl, trivial⟩ ?_ | refine ifb_nq (by first | assumption | decide) ?_ | refine ifb_pq (by assumption) ?_ | refine ifb_er ?_ | refine ifb_t ?_ | refine ifb_f ?_ | refine ifb_nr ?_ | refine ifb_er ?_ | ((with_reducible refine And.intro (?_ : (_ : Nat) ≤ _) ?_); (focus (first | decide | omega | (unfold CMul; omega) | (unfold CDiv; omega) | (unfold CPow; decide) | (exact cpow1 (by omega) (by omega)) | (simp only [rngD_len, List.length_replicate, List.length_map, List.length_append, List.length_cons, List.length_nil, List.length_set] at *; omega)))) | ((with_reducible refine And.intro (?_ : (_ : Int) ≤ _) ?_); (focus (first | decide | omega | (unfold CMul; omega) | (unfold CDiv; omega) | (unfold CPow; decide) | (exact cpow1 (by omega) (by omega)) | (simp only [rngD_len, List.length_replicate, List.length_map, List.length_append, List.length_cons, List.length_nil, List.length_set] at *; omega)))) | ((with_reducible refine And.intro (?_ : (_ : Nat) < _) ?_); (focus (first | decide | omega | (unfold CMul; omega) | (unfold CDiv; omega) | (unfold CPow; decide) | (exact cpow1 (by omega) (by omega)) | (simp only [rngD_len, List.length_replicate, List.length_map, List.length_append, List.length_cons, List.length_nil, List.length_set] at *; omega)))) | ((with_reducible refine And.intro (?_ : (_ : Int) < _) ?_); (focus (first | decide | omega | (unfold CMul; omega) | (unfold CDiv; omega) | (unfold CPow; decide) | (exact cpow1 (by omega) (by omega)) | (simp only [rngD_len, List.length_replicate, List.length_map, List.length_append, List.length_cons, List.length_nil, List.length_set] at *; omega)))) | ((with_reducible refine And.intro (?_ : CMul _ _) ?_); (focus (first | decide | omega | (unfold CMul; omega) | (unfold CDiv; omega) | (unfold CPow; decide) | (exact cpow1 (by omega) (by omega)) | (simp only [rngD_len, List.length_replicate, List.length_map, List.length_append, List.length_cons, List.length_nil, List.length_set] at *; omega)))) | ((with_reducible refine And.intro (?_ : CDiv _ _) ?_); (focus (first | decide | omega | (unfold CMul; omega) | (unfold CDiv; omega) | (unfold CPow; decide) | (exact cpow1 (by omega) (by omega)) | (simp only [rngD_len, List.length_replicate, List.length_map, List.length_append, List.length_cons, List.length_nil, List.length_set] at *; omega)))) | ((with_reducible refine And.intro (?_ : CPow _ _) ?_); (focus (first | decide | omega | (unfold CMul; omega) | (unfold CDiv; omega) | (unfold CPow; decide) | (exact cpow1 (by omega) (by omega)) | (simp only [rngD_len, List.length_replicate, List.length_map, List.length_append, List.length_cons, List.length_nil, List.length_set] at *; omega)))) | ((with_reducible refine And.intro (?_ : (_ : Nat) = _) ?_); (focus (first | decide | omega | (unfold CMul; omega) | (unfold CDiv; omega) | (unfold CPow; decide) | (exact cpow1 (by omega) (by omega)) | (simp only [rngD_len, List.length_replicate, List.length_map, List.length_append, List.length_cons, List.length_nil, List.length_set] at *; omega))))); (conv => whnf); (try dsimp only [List.set_cons_zero, List.set_cons_succ, upA, wipeE, back, List.getElem?_cons_zero, List.getElem?_cons_succ, Option.getD_some]))); (try dsimp only [List.set_cons_zero, List.set_cons_succ, upA, wipeE, back, List.getElem?_cons_zero, List.getElem?_cons_succ, Option.getD_some])))
section
variable {n : Nat} {ns ks : List Int} {ws cs pl es : List Str} {vs : List Vv} {d k : Int} {p : Qn}
theorem q9 (L : LfOk ws cs vs) (hl : cs.length ≤ 2) (P : PlOk pl) (d1 : 1 ≤ d) (hn : 2 * d ≤ n) (hk : k = 9 ∨ k = 10) (h2 : cs.length = 2) (op : okQ p) (cp : colsQ p = cs) (dp : (dpQ p : Int) ≤ 2 * d - 1) (hes : es.Sublist cs) : wc_law_question_9 n (EQ ks ws cs pl vs d [some (.int k), some (encC es), none, some (encQ p), none, none, none, none, none]) (KQ n ns ws cs pl vs d) := by
  have post := fun {l r : D} {ks : List Int} {q : Qn} e h => q6_post (l := l) (r := r) (ws := ws) (cs := cs) (pl := pl) (vs := vs) (d := d) (ks := ks) (q := q) e h
  have nlp := encQ_nl p
  obtain ⟨a, b, rfl⟩ : ∃ a b, cs = [a, b] := by
    match cs, h2 with
    | [a, b], _ => exact ⟨a, b, rfl⟩
  have hne : a ≠ b := by
    have := L.c.sc.nd
    simp only [List.nodup_cons, List.mem_singleton] at this
    exact this.1
  have hab : ordS [a, b] = colsQ p := by rw [cp]; exact ordS_self L.c.sc
  have hba : ordS [b, a] = colsQ p := by
    rw [cp]
    exact ordS_eq L.c.sc fun x => by simp only [List.mem_cons, List.not_mem_nil, or_false]; exact Or.comm
  have fin : ∀ (kk : KL) (x y : Str), (x = a ∧ y = b) ∨ (x = b ∧ y = a) → okQ (.link kk x y p) ∧ colsQ (.link kk x y p) = [a, b] ∧ (dpQ (.link kk x y p) : Int) ≤ 2 * d + 1 := fun kk x y h => by
    refine ⟨?_, cp, by simp only [dpQ]; omega⟩
    rcases h with ⟨rfl, rfl⟩ | ⟨rfl, rfl⟩
    · exact ok_link op hne hab
    · exact ok_link op hne.symm hba
  walk_at "Ddlx"
  refine ⟨⟨⟨_, rfl⟩, by decide⟩, ?_⟩
  rintro _ _ ⟨n1, m, rfl, rfl, m0, m1⟩
  have hm : m = 0 ∨ m = 1 := by omega
  rcases hm with rfl | rfl <;> rcases hk with rfl | rfl
  · walk_at "Ddlx"
    exact post (q := .link .linked a b p) rfl (fin _ _ _ (.inl ⟨rfl, rfl⟩))
  · walk_at "Ddlx"
    exact post (q := .link .way a b p) rfl (fin _ _ _ (.inl ⟨rfl, rfl⟩))
  · walk_at "Ddlx"
    exact post (q := .link .linked b a p) rfl (fin _ _ _ (.inr ⟨rfl, rfl⟩))
  · walk_at "Ddlx"
    exact post (q := .link .way b a p) rfl (fin _ _ _ (.inr ⟨rfl, rfl⟩))
theorem q8 (L : LfOk ws cs vs) (hl : cs.length ≤ 2) (P : PlOk pl) (d1 : 1 ≤ d) (hn : 2 * d ≤ n) (hk : 7 ≤ k ∧ k ≤ 10) (h2 : 8 < k → cs.length = 2) (op : okQ p) (cp : colsQ p = cs) (dp : (dpQ p : Int) ≤ 2 * d - 1) (hes : es.Sublist cs) : wc_law_question_8 n (EQ ks ws cs pl vs d [some (.int k), some (encC es), none, some (encQ p), none, none, none, none, none]) (KQ n ns ws cs pl vs d) := by
  have post := fun {l r : D} {ks : List Int} {q : Qn} e h => q6_post (l := l) (r := r) (ws := ws) (cs := cs) (pl := pl) (vs := vs) (d := d) (ks := ks) (q := q) e h
  have nlp := encQ_nl p
  walk_at "Ddlx"
  refine ifb_dec (fun g => ?_) (fun g => ?_)
  · walk_at "Ddlx"
    refine ⟨⟨⟨_, rfl⟩, by decide⟩, ?_⟩
    rintro _ _ ⟨n1, m, rfl, rfl, m0, m1⟩
    have hw : ∃ w : Option Int, atI [D.non, .int 0, .int 1, .int 2, .int 3, .int 5] m = some (encO w) ∧ ∀ x, w = some x → 0 ≤ x := by
      have : m = 0 ∨ m = 1 ∨ m = 2 ∨ m = 3 ∨ m = 4 ∨ m = 5 := by omega
      rcases this with rfl | rfl | rfl | rfl | rfl | rfl
      · exact ⟨none, rfl, nofun⟩
      · exact ⟨some 0, rfl, fun x e => by cases e; omega⟩
      · exact ⟨some 1, rfl, fun x e => by cases e; omega⟩
      · exact ⟨some 2, rfl, fun x e => by cases e; omega⟩
      · exact ⟨some 3, rfl, fun x e => by cases e; omega⟩
      · exact ⟨some 5, rfl, fun x e => by cases e; omega⟩
    obtain ⟨w, ew, hw0⟩ := hw
    walk_at "Ddlx"
    rw [ew]
    walk_at "Ddlx"
    refine ⟨⟨⟨_, rfl⟩, by decide⟩, ?_⟩
    rintro _ _ ⟨n2, j, rfl, rfl, j0, j1⟩
    have hk2 : ∃ kk : K4, atI [D.str (PySem.Str.ofString "once"), .str (PySem.Str.ofString "lately"), .str (PySem.Str.ofString "soon"), .str (PySem.Str.ofString "henceforth")] j = some (.str kk.s) := by
      have : j = 0 ∨ j = 1 ∨ j = 2 ∨ j = 3 := by omega
      rcases this with rfl | rfl | rfl | rfl
      · exact ⟨.once, rfl⟩
      · exact ⟨.lately, rfl⟩
      · exact ⟨.soon, rfl⟩
      · exact ⟨.hence, rfl⟩
    obtain ⟨kk, ek⟩ := hk2
    walk_at "Ddlx"
    rw [ek]
    walk_at "Ddlx"
    exact post (q := .look kk w p) rfl ⟨ok_look op hw0, cp, by simp only [dpQ]; omega⟩
  · walk_at "Ddlx"
    exact Stop.mk (q9 (ks := ks) L hl P d1 hn (by omega) (h2 (by omega)) op cp dp hes)
theorem q7 (L : LfOk ws cs vs) (hl : cs.length ≤ 2) (P : PlOk pl) (d1 : 1 ≤ d) (hn : 2 * d ≤ n) (hk : 6 ≤ k ∧ k ≤ 10) (h2 : 8 < k → cs.length = 2) (op : okQ p) (cp : colsQ p = cs) (dp : (dpQ p : Int) ≤ 2 * d - 1) (hes : es.Sublist cs) : wc_law_question_7 n (EQ ks ws cs pl vs d [some (.int k), some (encC es), none, some (encQ p), none, none, none, none, none]) (KQ n ns ws cs pl vs d) := by
  have post := fun {l r : D} {ks : List Int} {q : Qn} e h => q6_post (l := l) (r := r) (ws := ws) (cs := cs) (pl := pl) (vs := vs) (d := d) (ks := ks) (q := q) e h
  have nlp := encQ_nl p
  walk_at "Ddlx"
  refine ifb_dec (fun g => ?_) (fun g => ?_)
  · walk_at "Ddlx"
    refine ⟨⟨⟨_, rfl⟩, by decide⟩, ?_⟩
    rintro _ _ ⟨n1, m, rfl, rfl, m0, m1⟩
    have ht : ∃ t : Str, t ∈ cmps ∧ atI [D.str (PySem.Str.ofString "same"), .str (PySem.Str.ofString "other"), .str (PySem.Str.ofString "less")] m = some (.str t) := by
      have : m = 0 ∨ m = 1 ∨ m = 2 := by omega
      rcases this with rfl | rfl | rfl
      · exact ⟨_, by simp [cmps], rfl⟩
      · exact ⟨_, by simp [cmps], rfl⟩
      · exact ⟨_, by simp [cmps], rfl⟩
    obtain ⟨t, ht, et⟩ := ht
    walk_at "Ddlx"
    rw [et]
    walk_at "Ddlx"
    refine ⟨(term_call L n1).1, fun r ds' hp => ?_⟩
    obtain ⟨n2, a, rfl, rfl, fa⟩ := (term_call L n1).2 r ds' hp
    have nla := encTm_nl a
    walk_at "Ddlx"
    refine ⟨(term_call L n2).1, fun r ds' hp => ?_⟩
    obtain ⟨n3, b, rfl, rfl, fb⟩ := (term_call L n2).2 r ds' hp
    have nlb := encTm_nl b
    walk_at "Ddlx"
    exact post (q := .whr t a b p) rfl ⟨ok_whr op ht (by rw [cp]; exact fa) (by rw [cp]; exact fb), cp, by simp only [dpQ]; omega⟩
  · walk_at "Ddlx"
    exact Stop.mk (q8 (ks := ks) L hl P d1 hn (by omega) h2 op cp dp hes)
theorem q6 (L : LfOk ws cs vs) (hl : cs.length ≤ 2) (P : PlOk pl) (d1 : 1 ≤ d) (hn : 2 * d ≤ n) (hk : 5 ≤ k ∧ k ≤ 10) (h2 : 8 < k → cs.length = 2) (op : okQ p) (cp : colsQ p = cs) (dp : (dpQ p : Int) ≤ 2 * d - 1) (hes : es.Sublist cs) : wc_law_question_6 n (EQ ks ws cs pl vs d [some (.int k), some (encC es), none, some (encQ p), none, none, none, none, none]) (KQ n ns ws cs pl vs d) := by
  have post := fun {l r : D} {ks : List Int} {q : Qn} e h => q6_post (l := l) (r := r) (ws := ws) (cs := cs) (pl := pl) (vs := vs) (d := d) (ks := ks) (q := q) e h
  have nlp := encQ_nl p
  walk_at "Ddlx"
  refine ifb_dec (fun g => ?_) (fun g => ?_)
  · walk_at "Ddlx"
    refine ⟨⟨⟨_, rfl⟩, by decide⟩, ?_⟩
    rintro _ _ ⟨n1, m, rfl, rfl, m0, m1⟩
    walk_at "Ddlx"
    exact post (q := .shift (m - 4) p) rfl ⟨ok_shift op, cp, by simp only [dpQ]; omega⟩
  · walk_at "Ddlx"
    exact Stop.mk (q7 (ks := ks) L hl P d1 hn (by omega) h2 op cp dp hes)
theorem q5 (L : LfOk ws cs vs) (hl : cs.length ≤ 2) (P : PlOk pl) (d1 : 1 ≤ d) (hn : 2 * d ≤ n) (hk : 3 ≤ k ∧ k ≤ 10) (h2 : 8 < k → cs.length = 2) (op : okQ p) (cp : colsQ p = cs) (dp : (dpQ p : Int) ≤ 2 * d - 1) (hes : es.Sublist cs) : wc_law_question_5 n (EQ ks ws cs pl vs d [some (.int k), some (encC es), none, some (encQ p), none, none, none, none, none]) (KQ n ns ws cs pl vs d) := by
  have post := fun {l r : D} {ks : List Int} {q : Qn} e h => q6_post (l := l) (r := r) (ws := ws) (cs := cs) (pl := pl) (vs := vs) (d := d) (ks := ks) (q := q) e h
  have nlp := encQ_nl p
  walk_at "Ddlx"
  refine ifb_dec (fun g => ?_) (fun g => ?_)
  · walk_at "Ddlx"
    refine ⟨⟨⟨_, rfl⟩, by decide⟩, ?_⟩
    rintro _ _ ⟨n1, m, rfl, rfl, m0, m1⟩
    have ht : ∃ kk : K2, folB kk = true ∧ atI [D.str (PySem.Str.ofString "since"), .str (PySem.Str.ofString "until"), .str (PySem.Str.ofString "sincenot"), .str (PySem.Str.ofString "untilnot")] m = some (.str kk.s) := by
      have : m = 0 ∨ m = 1 ∨ m = 2 ∨ m = 3 := by omega
      rcases this with rfl | rfl | rfl | rfl
      · exact ⟨.since, rfl, rfl⟩
      · exact ⟨.until, rfl, rfl⟩
      · exact ⟨.sincenot, rfl, rfl⟩
      · exact ⟨.untilnot, rfl, rfl⟩
    obtain ⟨kk, hf, et⟩ := ht
    walk_at "Ddlx"
    rw [et]
    walk_at "Ddlx"
    refine ⟨(q_call (es := es) (n := n) L (L.c.sub hes) (by have := hes.length_le; omega) P d1 (by omega) n1).1, fun r ds' hp => ?_⟩
    obtain ⟨n2, q, rfl, rfl, oq, cq, dq⟩ := (q_call (es := es) (n := n) L (L.c.sub hes) (by have := hes.length_le; omega) P d1 (by omega) n1).2 r ds' hp
    have nlq := encQ_nl q
    walk_at "Ddlx"
    obtain ⟨f1, f2⟩ := ok_fol (k := kk) hf oq op (by rw [cq, cp]; exact fun x hx => hes.subset hx)
    exact post (q := .two kk q p) rfl ⟨f1, f2.trans cp, by simp only [dpQ]; omega⟩
  · walk_at "Ddlx"
    exact Stop.mk (q6 (ks := ks) L hl P d1 hn (by omega) h2 op cp dp hes)
theorem q4 (L : LfOk ws cs vs) (hl : cs.length ≤ 2) (P : PlOk pl) (d1 : 1 ≤ d) (hn : 2 * d ≤ n) (hk : 1 ≤ k ∧ k ≤ 10) (h2 : 8 < k → cs.length = 2) (op : okQ p) (cp : colsQ p = cs) (dp : (dpQ p : Int) ≤ 2 * d - 1) (hes : es.Sublist cs) : wc_law_question_4 n (EQ ks ws cs pl vs d [some (.int k), some (encC es), none, some (encQ p), none, none, none, none, none]) (KQ n ns ws cs pl vs d) := by
  have post := fun {l r : D} {ks : List Int} {q : Qn} e h => q6_post (l := l) (r := r) (ws := ws) (cs := cs) (pl := pl) (vs := vs) (d := d) (ks := ks) (q := q) e h
  have nlp := encQ_nl p
  walk_at "Ddlx"
  refine ifb_dec (fun g => ?_) (fun g => ?_)
  · walk_at "Ddlx"
    refine ⟨(q_call (es := cs) (n := n) L L.c hl P d1 (by omega) ks).1, fun r ds' hp => ?_⟩
    obtain ⟨n2, q, rfl, rfl, oq, cq, dq⟩ := (q_call (es := cs) (n := n) L L.c hl P d1 (by omega) ks).2 r ds' hp
    have nlq := encQ_nl q
    walk_at "Ddlx"
    exact post (q := .two .either p q) rfl ⟨ok_two op oq (by rw [cp, cq]), cp, by simp only [dpQ]; omega⟩
  · walk_at "Ddlx"
    refine ifb_dec (fun g2 => ?_) (fun g2 => ?_)
    · walk_at "Ddlx"
      refine ⟨(q_call (es := es) (n := n) L (L.c.sub hes) (by have := hes.length_le; omega) P d1 (by omega) ks).1, fun r ds' hp => ?_⟩
      obtain ⟨n2, q, rfl, rfl, oq, cq, dq⟩ := (q_call (es := es) (n := n) L (L.c.sub hes) (by have := hes.length_le; omega) P d1 (by omega) ks).2 r ds' hp
      have nlq := encQ_nl q
      walk_at "Ddlx"
      exact post (q := .two .unless p q) rfl ⟨ok_unless op oq (by rw [cq, cp]; exact fun x hx => hes.subset hx), cp, by simp only [dpQ]; omega⟩
    · walk_at "Ddlx"
      exact Stop.mk (q5 (ks := ks) L hl P d1 hn (by omega) h2 op cp dp hes)
theorem q3 (L : LfOk ws cs vs) (hl : cs.length ≤ 2) (P : PlOk pl) (d1 : 1 ≤ d) (hn : 2 * d ≤ n) (hk : 1 ≤ k ∧ k ≤ 10) (h2 : 8 < k → cs.length = 2) (hes : es.Sublist cs) : wc_law_question_3 n (EQ ks ws cs pl vs d [some (.int k), some (encC es), none, none, none, none, none, none, none]) (KQ n ns ws cs pl vs d) := by
  have post := fun {l r : D} {ks : List Int} {q : Qn} e h => q6_post (l := l) (r := r) (ws := ws) (cs := cs) (pl := pl) (vs := vs) (d := d) (ks := ks) (q := q) e h
  walk_at "Ddlx"
  refine ⟨(q_call (es := cs) (n := n) L L.c hl P d1 (by omega) ks).1, fun r ds' hp => ?_⟩
  obtain ⟨n2, q, rfl, rfl, oq, cq, dq⟩ := (q_call (es := cs) (n := n) L L.c hl P d1 (by omega) ks).2 r ds' hp
  have nlq := encQ_nl q
  walk_at "Ddlx"
  exact Stop.mk (q4 (ks := n2) L hl P d1 hn hk h2 oq cq dq hes)
theorem q2 (L : LfOk ws cs vs) (hl : cs.length ≤ 2) (P : PlOk pl) (d1 : 1 ≤ d) (hn : 2 * d ≤ n) (hk : 0 ≤ k ∧ k ≤ 10) (h2 : 8 < k → cs.length = 2) (hes : es.Sublist cs) : wc_law_question_2 n (EQ ks ws cs pl vs d [some (.int k), some (encC es), none, none, none, none, none, none, none]) (KQ n ns ws cs pl vs d) := by
  have post := fun {l r : D} {ks : List Int} {q : Qn} e h => q6_post (l := l) (r := r) (ws := ws) (cs := cs) (pl := pl) (vs := vs) (d := d) (ks := ks) (q := q) e h
  walk_at "Ddlx"
  refine ifb_dec (fun g => ?_) (fun g => ?_)
  · walk_at "Ddlx"
    refine loop_lc (fun xs acc e => ∃ (kk : List Int) (u v w : List Str), (cs = u ++ v ∧ xs = v.map D.str ∧ acc = w.map D.str ∧ w.Sublist u ∧ ∀ x ∈ u, x ∉ es → x ∈ w) ∧ e = EQ kk ws cs pl vs d [some (.int k), some (encC es), none, none, none, none, none, none, none]) ⟨ks, [], cs, [], ⟨rfl, rfl, rfl, .refl _, nofun⟩, rfl⟩ ?_ ?_
    · rintro x r acc env nxt ⟨kk, u, v, w, ⟨h1, h3, rfl, h4, h5⟩, rfl⟩ hx
      cases v with
      | nil => simp at h3
      | cons c v =>
        simp only [List.map_cons, List.cons.injEq] at h3
        obtain ⟨rfl, rfl⟩ := h3
        have key := any_str c es
        have add : ∀ y ∈ u ++ [c], y ∉ es → y ∈ w ++ [c] := fun y hy hy2 => by
          rcases List.mem_append.mp hy with h | h
          · exact List.mem_append_left _ (h5 y h hy2)
          · exact List.mem_append_right _ h
        walk_at "Ddlx"
        refine ⟨flatA_str es, ?_⟩
        walk_at "Ddlx"
        rw [if_pos rfl, key]
        refine ifb_ndec (fun hm => ?_) (fun hm => ?_)
        · walk_at "Ddlx"
          exact hx _ _ ⟨kk, u ++ [c], v, w ++ [c], ⟨by rw [h1]; simp, rfl, by rw [List.map_append]; rfl, h4.append (.refl _), add⟩, rfl⟩
        · walk_at "Ddlx"
          refine ⟨⟨⟨_, rfl⟩, by decide⟩, ?_⟩
          rintro _ _ ⟨n3, z, rfl, rfl, z0, z1⟩
          walk_at "Ddlx"
          refine ifb_dec (fun gz => ?_) (fun gz => ?_)
          · walk_at "Ddlx"
            exact hx _ _ ⟨n3, u ++ [c], v, w ++ [c], ⟨by rw [h1]; simp, rfl, by rw [List.map_append]; rfl, h4.append (.refl _), add⟩, rfl⟩
          · walk_at "Ddlx"
            refine hx _ _ ⟨n3, u ++ [c], v, w, ⟨by rw [h1]; simp, rfl, rfl, h4.trans (List.sublist_append_left _ _), fun y hy hy2 => ?_⟩, rfl⟩
            rcases List.mem_append.mp hy with h | h
            · exact h5 y h hy2
            · rw [List.mem_singleton.mp h] at hy2
              exact absurd hm hy2
    · rintro acc env ⟨kk, u, v, w, ⟨h1, h3, rfl, h4, h5⟩, rfl⟩
      have hv : v = [] := by
        cases v with
        | nil => rfl
        | cons _ _ => simp at h3
      subst hv
      rw [List.append_nil] at h1
      subst h1
      walk_at "Ddlx"
      refine ⟨(q_call (es := es) (n := n) L (L.c.sub hes) (by have := hes.length_le; omega) P d1 (by omega) kk).1, fun r ds' hp => ?_⟩
      obtain ⟨n2, q, rfl, rfl, oq, cq, dq⟩ := (q_call (es := es) (n := n) L (L.c.sub hes) (by have := hes.length_le; omega) P d1 (by omega) kk).2 r ds' hp
      have nlq := encQ_nl q
      walk_at "Ddlx"
      refine ⟨(q_call (es := w) (n := n) L (L.c.sub h4) (by have := h4.length_le; omega) P d1 (by omega) n2).1, fun r ds' hp => ?_⟩
      obtain ⟨n3, q2, rfl, rfl, oq2, cq2, dq2⟩ := (q_call (es := w) (n := n) L (L.c.sub h4) (by have := h4.length_le; omega) P d1 (by omega) n2).2 r ds' hp
      have nlq2 := encQ_nl q2
      walk_at "Ddlx"
      obtain ⟨f1, f2⟩ := ok_both oq oq2 L.c (fun x => by
        rw [cq, cq2]
        constructor
        · rintro (h | h)
          · exact hes.subset h
          · exact h4.subset h
        · intro h
          by_cases hm : x ∈ es
          · exact .inl hm
          · exact .inr (h5 x h hm))
      exact post (q := .two .both q q2) rfl ⟨f1, f2, by simp only [dpQ]; omega⟩
  · walk_at "Ddlx"
    exact Stop.mk (q3 (ks := ks) L hl P d1 hn (by omega) h2 hes)
theorem q1 (L : LfOk ws cs vs) (hl : cs.length ≤ 2) (P : PlOk pl) (d1 : 1 ≤ d) (hn : 2 * d ≤ n) (hk : 0 ≤ k ∧ k ≤ 10) (h2 : 8 < k → cs.length = 2) : wc_law_question_1 n (EQ ks ws cs pl vs d [some (.int k), none, none, none, none, none, none, none, none]) (KQ n ns ws cs pl vs d) := by
  have post := fun {l r : D} {ks : List Int} {q : Qn} e h => q6_post (l := l) (r := r) (ws := ws) (cs := cs) (pl := pl) (vs := vs) (d := d) (ks := ks) (q := q) e h
  have few := L.c.few
  walk_at "Ddlx"
  refine loop_lc (fun xs acc e => ∃ (kk : List Int) (u v w : List Str), (cs = u ++ v ∧ xs = v.map D.str ∧ acc = w.map D.str ∧ w.Sublist u) ∧ e = EQ kk ws cs pl vs d [some (.int k), none, none, none, none, none, none, none, none]) ⟨ks, [], cs, [], ⟨rfl, rfl, rfl, .refl _⟩, rfl⟩ ?_ ?_
  · rintro x r acc env nxt ⟨kk, u, v, w, ⟨h1, h3, rfl, h4⟩, rfl⟩ hx
    cases v with
    | nil => simp at h3
    | cons c v =>
      simp only [List.map_cons, List.cons.injEq] at h3
      obtain ⟨rfl, rfl⟩ := h3
      walk_at "Ddlx"
      refine ⟨⟨⟨_, rfl⟩, by decide⟩, ?_⟩
      rintro _ _ ⟨n3, z, rfl, rfl, z0, z1⟩
      walk_at "Ddlx"
      refine ifb_dec (fun gz => ?_) (fun gz => ?_)
      · walk_at "Ddlx"
        exact hx _ _ ⟨n3, u ++ [c], v, w ++ [c], ⟨by rw [h1]; simp, rfl, by rw [List.map_append]; rfl, h4.append (.refl _)⟩, rfl⟩
      · walk_at "Ddlx"
        exact hx _ _ ⟨n3, u ++ [c], v, w, ⟨by rw [h1]; simp, rfl, rfl, h4.trans (List.sublist_append_left _ _)⟩, rfl⟩
  · rintro acc env ⟨kk, u, v, w, ⟨h1, h3, rfl, h4⟩, rfl⟩
    have hv : v = [] := by
      cases v with
      | nil => rfl
      | cons _ _ => simp at h3
    subst hv
    rw [List.append_nil] at h1
    subst h1
    walk_at "Ddlx"
    exact Stop.mk (q2 (ks := kk) (es := w) L hl P d1 hn hk h2 h4)
end
theorem pure_law_question : ∀ n, ∀ ds, ds.length = 6 → (spn_law_question (n + 1)).pre ds → w_law_question n (env0 ds 9) { nx := fun e => (spn_law_question (n + 1)).post ds .non (outs e 6), rt := fun d e => (spn_law_question (n + 1)).post ds d (outs e 6) } := by
  rintro n ds _ ⟨ns, ws, cs, pl, vs, d, rfl, L, hl, P, d0, hn⟩
  rw [wc_law_question_eq]
  have post := fun {l r : D} {ks : List Int} {q : Qn} e h => q6_post (l := l) (r := r) (ws := ws) (cs := cs) (pl := pl) (vs := vs) (d := d) (ks := ks) (q := q) e h
  walk_at "Ddlx"
  refine ifb_dec (fun g => ?_) (fun g => ?_)
  · subst g
    walk_at "Ddlx"
    refine ⟨(leaf_call L ns).1, fun r ds' hp => ?_⟩
    obtain ⟨n2, q, rfl, rfl, oq, cq, dq⟩ := (leaf_call L ns).2 r ds' hp
    have nlq := encQ_nl q
    walk_at "Ddlx"
    exact post (q := q) rfl ⟨oq, cq, by omega⟩
  · have d1 : 1 ≤ d := by omega
    have gcall : ∀ ks : List Int, (spn_law_grouped n).pre (Q6 ks ws cs pl vs d) ∧ ∀ r ds', (spn_law_grouped n).post (Q6 ks ws cs pl vs d) r ds' → ∃ (n2 : List Int) (q : Qn), r = encQ q ∧ ds' = Q6 n2 ws cs pl vs d ∧ okQ q ∧ colsQ q = cs ∧ (dpQ q : Int) ≤ 2 * d + 1 := fun ks => by
      cases n with
      | zero => omega
      | succ n => exact ⟨⟨ks, ws, cs, pl, vs, d, rfl, L, hl, P, d1, by omega⟩, fun r ds' h => h _ _ _ _ _ _ rfl⟩
    walk_at "Ddlx"
    refine ⟨⟨⟨_, rfl⟩, by decide⟩, ?_⟩
    rintro _ _ ⟨n1, k, rfl, rfl, k0, k1⟩
    have gr : (spn_law_grouped n).pre (Q6 n1 ws cs pl vs d) ∧ ∀ r ds', (spn_law_grouped n).post (Q6 n1 ws cs pl vs d) r ds' → ∃ (n2 : List Int) (q : Qn), r = encQ q ∧ ds' = Q6 n2 ws cs pl vs d ∧ okQ q ∧ colsQ q = cs ∧ (dpQ q : Int) ≤ 2 * d + 1 := gcall n1
    walk_at "Ddlx"
    refine ifb_dec (fun g1 => ?_) (fun g1 => ?_)
    · walk_at "Ddlx"
      refine ⟨gr.1, fun r ds' hp => ?_⟩
      obtain ⟨n2, q, rfl, rfl, oq, cq, dq⟩ := gr.2 r ds' hp
      have nlq := encQ_nl q
      walk_at "Ddlx"
      exact post (q := q) rfl ⟨oq, cq, dq⟩
    · walk_at "Ddlx"
      refine ifb_dec (fun g2 => ?_) (fun g2 => ?_)
      · walk_at "Ddlx"
        refine ifb_dec (fun g3 => ?_) (fun g3 => ?_)
        · walk_at "Ddlx"
          refine ⟨gr.1, fun r ds' hp => ?_⟩
          obtain ⟨n2, q, rfl, rfl, oq, cq, dq⟩ := gr.2 r ds' hp
          have nlq := encQ_nl q
          walk_at "Ddlx"
          exact post (q := q) rfl ⟨oq, cq, dq⟩
        · have hl2 : cs.length = 2 := by
            have : ¬ ((cs.map D.str).length : Int) < 2 := g3
            rw [List.length_map] at this
            omega
          walk_at "Ddlx"
          exact Stop.mk (q1 (ks := n1) L hl P d1 (by omega) (by omega) (fun _ => hl2))
      · walk_at "Ddlx"
        exact Stop.mk (q1 (ks := n1) L hl P d1 (by omega) (by omega) (fun h => absurd h g2))
end DL

set_option maxHeartbeats 1000000
namespace DL
open PySem PySem.Spec PyProof.Rows L2
theorem cs_sort {zs ys : List Str} (hp : ys.Perm zs) (hs : sortedS ys = true) (hn : zs.Nodup) (hl : zs.length ≤ 8) (hw : ∀ w ∈ zs, isW w = true) : CsOk ys :=
  ⟨SC_perm hs hp hn, by rw [hp.length_eq]; exact hl, fun w h => hw w (hp.mem_iff.mp h)⟩
theorem ok_both2 {p q : Qn} (hp : okQ p) (hq : okQ q) (h : (colsQ p).length + (colsQ q).length ≤ 8) : okQ (.two .both p q) :=
  ⟨⟨trivial, by
    show (ordS (colsQ p ++ colsQ q)).length ≤ 8
    have := ordS_len (colsQ p ++ colsQ q)
    rw [List.length_append] at this
    omega⟩, hp, hq⟩
theorem ok_count {new : Str} {keep cs : List Str} {p : Qn} (hp : okQ p) (hn : isW new = true) (hk : new ∉ keep) (hs : SC keep) (hm : ∀ x ∈ keep, x ∈ colsQ p) (hc : ordS (new :: keep) = cs) (hf : cs.length ≤ 8) : okQ (.count new keep p) := ⟨⟨⟨hn, hk, hs, hm⟩, by show (ordS (new :: keep)).length ≤ 8; rw [hc]; exact hf⟩, hp⟩
theorem ok_total {k : K3} {new col : Str} {keep cs : List Str} {p : Qn} (hp : okQ p) (hn : isW new = true) (hk : new ∉ keep) (hs : SC keep) (hm : ∀ x ∈ keep, x ∈ colsQ p) (hcol : col ∈ colsQ p) (hc : ordS (new :: keep) = cs) (hf : cs.length ≤ 8) : okQ (.total k new col keep p) := ⟨⟨⟨hn, hk, ⟨hs, hm⟩, hcol⟩, by show (ordS (new :: keep)).length ≤ 8; rw [hc]; exact hf⟩, hp⟩
/-- slots: 0 draws, 1 names, 2 columns, 3 pool, 4 values, 5 depth, 6 more, 7 sides, 8 new, 9 keep, 10 wide, 11 p, 12 name, 13 x, 14 side -/
def w_law_grouped (n : Nat) : WS :=
    (cSeq (cAsg 6 [0, 1, 2, 3, 4, 5] 6 (cOp fIx (cLc [13] (iE (cVar 3)) (gN 6 [] 13) (cOp (fIn true) (cVar 13) (cVar 2)) (cVar 13)) (cC (.int 0))))
    (cSeq (cIte (cAnd (cOp fEqS (cBi fLen (cCons (cVar 2) cNil)) (cC (.int 2))) (cOp fEqS (cCallN 2 sp_law_take (cCons (cVar 0) (cCons (cC (.int 2)) cNil))) (cC (.int 0))))
      (cSeq (cAsg 6 [0, 1, 2, 3, 4, 5] 7 (cLc [13] (iE (cVar 2)) (gN 6 [] 13) tTrue (cBi fTuple (cCons (cBi fSortS (cCons (cLst (cCons (cVar 13) (cCons (cVar 6) cNil))) cNil)) cNil))))
        (cSeq (cAsg 6 [0, 1, 2, 3, 4, 5] 7 (cLc [14] (iE (cVar 7)) (gN 6 [] 14) tTrue (cCallN 6 (spn_law_question n) (cCons (cVar 0) (cCons (cVar 1) (cCons (cVar 14) (cCons (cVar 3) (cCons (cVar 4) (cCons (cOp fSub (cVar 5) (cC (.int 1))) cNil)))))))))
        (cRet 6 (cTup (cCons (cC (.str (PySem.Str.ofString "only"))) (cCons (cVar 2) (cCons (cTup (cCons (cC (.str (PySem.Str.ofString "both"))) (cCons (cOp fIx (cVar 7) (cC (.int 0))) (cCons (cOp fIx (cVar 7) (cC (.int 1))) cNil)))) cNil)))))))
      cNilS)
    (cSeq (cIte (cOr (cOp fEqS (cBi fLen (cCons (cVar 2) cNil)) (cC (.int 2))) (cAnd (cOp fEqS (cBi fLen (cCons (cVar 2) cNil)) (cC (.int 1))) (cOp fEqS (cCallN 2 sp_law_take (cCons (cVar 0) (cCons (cC (.int 2)) cNil))) (cC (.int 0)))))
      (cSeq (cAsg 6 [0, 1, 2, 3, 4, 5] 8 (cCallN 2 sp_law_pick (cCons (cVar 0) (cCons (cVar 2) cNil))))
        (cSeq (cAsg 6 [0, 1, 2, 3, 4, 5] 9 (cBi fTuple (cCons (cLc [13] (iE (cVar 2)) (gN 6 [] 13) (cOp fNeS (cVar 13) (cVar 8)) (cVar 13)) cNil)))
        (cSeq (cAsg 6 [0, 1, 2, 3, 4, 5] 10 (cBi fTuple (cCons (cBi fSortTp (cCons (cOp fAddG (cVar 9) (cTup (cCons (cOp fIx (cLst (cCons (cVar 6) (cCons (cVar 8) cNil))) (cCallN 2 sp_law_take (cCons (cVar 0) (cCons (cC (.int 2)) cNil)))) cNil))) cNil)) cNil)))
        (cSeq (cAsg 6 [0, 1, 2, 3, 4, 5] 11 (cCallN 6 (spn_law_question n) (cCons (cVar 0) (cCons (cVar 1) (cCons (cVar 10) (cCons (cVar 3) (cCons (cVar 4) (cCons (cOp fSub (cVar 5) (cC (.int 1))) cNil))))))))
        (cSeq (cAsg 6 [0, 1, 2, 3, 4, 5] 12 (cOp fIx (cLst (cCons (cC (.str (PySem.Str.ofString "count"))) (cCons (cC (.str (PySem.Str.ofString "sum"))) (cCons (cC (.str (PySem.Str.ofString "least"))) (cCons (cC (.str (PySem.Str.ofString "most"))) cNil))))) (cCallN 2 sp_law_take (cCons (cVar 0) (cCons (cC (.int 4)) cNil)))))
        (cSeq (cIte (cOp fEqS (cVar 12) (cC (.str (PySem.Str.ofString "count"))))
          (cRet 6 (cTup (cCons (cVar 12) (cCons (cVar 8) (cCons (cVar 9) (cCons (cVar 11) cNil))))))
          cNilS)
        (cRet 6 (cTup (cCons (cVar 12) (cCons (cVar 8) (cCons (cCallN 2 sp_law_pick (cCons (cVar 0) (cCons (cVar 10) cNil))) (cCons (cVar 9) (cCons (cVar 11) cNil)))))))))))))
      cNilS)
    (cSeq (cAsg 6 [0, 1, 2, 3, 4, 5] 10 (cBi fTuple (cCons (cBi fSortTp (cCons (cOp fAddG (cVar 2) (cTup (cCons (cVar 6) cNil))) cNil)) cNil)))
    (cRet 6 (cTup (cCons (cC (.str (PySem.Str.ofString "only"))) (cCons (cVar 2) (cCons (cCallN 6 (spn_law_question n) (cCons (cVar 0) (cCons (cVar 1) (cCons (cVar 10) (cCons (cVar 3) (cCons (cVar 4) (cCons (cOp fSub (cVar 5) (cC (.int 1))) cNil))))))) cNil)))))))))
def wc_law_grouped_3 (n : Nat) : WS :=
    (cSeq (cAsg 6 [0, 1, 2, 3, 4, 5] 10 (cBi fTuple (cCons (cBi fSortTp (cCons (cOp fAddG (cVar 2) (cTup (cCons (cVar 6) cNil))) cNil)) cNil)))
    (cRet 6 (cTup (cCons (cC (.str (PySem.Str.ofString "only"))) (cCons (cVar 2) (cCons (cCallN 6 (spn_law_question n) (cCons (cVar 0) (cCons (cVar 1) (cCons (cVar 10) (cCons (cVar 3) (cCons (cVar 4) (cCons (cOp fSub (cVar 5) (cC (.int 1))) cNil))))))) cNil))))))
def wc_law_grouped_2 (n : Nat) : WS :=
    (cCut (cIte (cOr (cOp fEqS (cBi fLen (cCons (cVar 2) cNil)) (cC (.int 2))) (cAnd (cOp fEqS (cBi fLen (cCons (cVar 2) cNil)) (cC (.int 1))) (cOp fEqS (cCallN 2 sp_law_take (cCons (cVar 0) (cCons (cC (.int 2)) cNil))) (cC (.int 0)))))
      (cSeq (cAsg 6 [0, 1, 2, 3, 4, 5] 8 (cCallN 2 sp_law_pick (cCons (cVar 0) (cCons (cVar 2) cNil))))
        (cSeq (cAsg 6 [0, 1, 2, 3, 4, 5] 9 (cBi fTuple (cCons (cLc [13] (iE (cVar 2)) (gN 6 [] 13) (cOp fNeS (cVar 13) (cVar 8)) (cVar 13)) cNil)))
        (cSeq (cAsg 6 [0, 1, 2, 3, 4, 5] 10 (cBi fTuple (cCons (cBi fSortTp (cCons (cOp fAddG (cVar 9) (cTup (cCons (cOp fIx (cLst (cCons (cVar 6) (cCons (cVar 8) cNil))) (cCallN 2 sp_law_take (cCons (cVar 0) (cCons (cC (.int 2)) cNil)))) cNil))) cNil)) cNil)))
        (cSeq (cAsg 6 [0, 1, 2, 3, 4, 5] 11 (cCallN 6 (spn_law_question n) (cCons (cVar 0) (cCons (cVar 1) (cCons (cVar 10) (cCons (cVar 3) (cCons (cVar 4) (cCons (cOp fSub (cVar 5) (cC (.int 1))) cNil))))))))
        (cSeq (cAsg 6 [0, 1, 2, 3, 4, 5] 12 (cOp fIx (cLst (cCons (cC (.str (PySem.Str.ofString "count"))) (cCons (cC (.str (PySem.Str.ofString "sum"))) (cCons (cC (.str (PySem.Str.ofString "least"))) (cCons (cC (.str (PySem.Str.ofString "most"))) cNil))))) (cCallN 2 sp_law_take (cCons (cVar 0) (cCons (cC (.int 4)) cNil)))))
        (cSeq (cIte (cOp fEqS (cVar 12) (cC (.str (PySem.Str.ofString "count"))))
          (cRet 6 (cTup (cCons (cVar 12) (cCons (cVar 8) (cCons (cVar 9) (cCons (cVar 11) cNil))))))
          cNilS)
        (cRet 6 (cTup (cCons (cVar 12) (cCons (cVar 8) (cCons (cCallN 2 sp_law_pick (cCons (cVar 0) (cCons (cVar 10) cNil))) (cCons (cVar 9) (cCons (cVar 11) cNil)))))))))))))
      cNilS) (wc_law_grouped_3 n))
def wc_law_grouped_1 (n : Nat) : WS :=
    (cCut (cIte (cAnd (cOp fEqS (cBi fLen (cCons (cVar 2) cNil)) (cC (.int 2))) (cOp fEqS (cCallN 2 sp_law_take (cCons (cVar 0) (cCons (cC (.int 2)) cNil))) (cC (.int 0))))
      (cSeq (cAsg 6 [0, 1, 2, 3, 4, 5] 7 (cLc [13] (iE (cVar 2)) (gN 6 [] 13) tTrue (cBi fTuple (cCons (cBi fSortS (cCons (cLst (cCons (cVar 13) (cCons (cVar 6) cNil))) cNil)) cNil))))
        (cSeq (cAsg 6 [0, 1, 2, 3, 4, 5] 7 (cLc [14] (iE (cVar 7)) (gN 6 [] 14) tTrue (cCallN 6 (spn_law_question n) (cCons (cVar 0) (cCons (cVar 1) (cCons (cVar 14) (cCons (cVar 3) (cCons (cVar 4) (cCons (cOp fSub (cVar 5) (cC (.int 1))) cNil)))))))))
        (cRet 6 (cTup (cCons (cC (.str (PySem.Str.ofString "only"))) (cCons (cVar 2) (cCons (cTup (cCons (cC (.str (PySem.Str.ofString "both"))) (cCons (cOp fIx (cVar 7) (cC (.int 0))) (cCons (cOp fIx (cVar 7) (cC (.int 1))) cNil)))) cNil)))))))
      cNilS) (wc_law_grouped_2 n))
def wc_law_grouped_0 (n : Nat) : WS :=
    (cCut (cAsg 6 [0, 1, 2, 3, 4, 5] 6 (cOp fIx (cLc [13] (iE (cVar 3)) (gN 6 [] 13) (cOp (fIn true) (cVar 13) (cVar 2)) (cVar 13)) (cC (.int 0)))) (wc_law_grouped_1 n))
theorem wc_law_grouped_eq (n : Nat) : w_law_grouped n = wc_law_grouped_0 n := by
  unfold wc_law_grouped_0 wc_law_grouped_1 wc_law_grouped_2 wc_law_grouped_3
  simp only [cCut_eq]
  rfl
abbrev kt_law_grouped (n : Nat) (ds : List D) : Kt := { nx := fun e => (spn_law_grouped (n + 1)).post ds .non (outs e 6), rt := fun d e => (spn_law_grouped (n + 1)).post ds d (outs e 6) }
def bd_grouped (n : Nat) : WS :=
    (cSeq (cAsg 6 [0, 1, 2, 3, 4, 5] 8 (cCallN 2 sp_law_pick (cCons (cVar 0) (cCons (cVar 2) cNil))))
    (cSeq (cAsg 6 [0, 1, 2, 3, 4, 5] 9 (cBi fTuple (cCons (cLc [13] (iE (cVar 2)) (gN 6 [] 13) (cOp fNeS (cVar 13) (cVar 8)) (cVar 13)) cNil)))
    (cSeq (cAsg 6 [0, 1, 2, 3, 4, 5] 10 (cBi fTuple (cCons (cBi fSortTp (cCons (cOp fAddG (cVar 9) (cTup (cCons (cOp fIx (cLst (cCons (cVar 6) (cCons (cVar 8) cNil))) (cCallN 2 sp_law_take (cCons (cVar 0) (cCons (cC (.int 2)) cNil)))) cNil))) cNil)) cNil)))
    (cSeq (cAsg 6 [0, 1, 2, 3, 4, 5] 11 (cCallN 6 (spn_law_question n) (cCons (cVar 0) (cCons (cVar 1) (cCons (cVar 10) (cCons (cVar 3) (cCons (cVar 4) (cCons (cOp fSub (cVar 5) (cC (.int 1))) cNil))))))))
    (cSeq (cAsg 6 [0, 1, 2, 3, 4, 5] 12 (cOp fIx (cLst (cCons (cC (.str (PySem.Str.ofString "count"))) (cCons (cC (.str (PySem.Str.ofString "sum"))) (cCons (cC (.str (PySem.Str.ofString "least"))) (cCons (cC (.str (PySem.Str.ofString "most"))) cNil))))) (cCallN 2 sp_law_take (cCons (cVar 0) (cCons (cC (.int 4)) cNil)))))
    (cSeq (cIte (cOp fEqS (cVar 12) (cC (.str (PySem.Str.ofString "count"))))
      (cRet 6 (cTup (cCons (cVar 12) (cCons (cVar 8) (cCons (cVar 9) (cCons (cVar 11) cNil))))))
      cNilS)
    (cRet 6 (cTup (cCons (cVar 12) (cCons (cVar 8) (cCons (cCallN 2 sp_law_pick (cCons (cVar 0) (cCons (cVar 10) cNil))) (cCons (cVar 9) (cCons (cVar 11) cNil)))))))))))))
abbrev KG (n : Nat) (ns : List Int) (ws cs pl : List Str) (vs : List Vv) (d : Int) : Kt := kt_law_grouped n (Q6 ns ws cs pl vs d)
local macro_rules | `(tactic| walk_at "Ddlx") => `(tactic| ((conv => whnf); (repeat ((first | ((with_reducible refine And.intro (stOk_nl ?_ ?_) ?_); (focus (with_reducible first | assumption | exact encQ_nl _ | exact encO_nl _ | exact encC_nl _)); (focus exact rfl)) | ((refine pick_nl ?_ ?_); (focus (with_reducible first | assumption | exact encQ_nl _ | exact encO_nl _ | exact encC_nl _))) | ((with_reducible refine And.intro ?_ ?_); (focus (with_reducible first | assumption | exact encQ_nl _ | exact encO_nl _ | exact encC_nl _))) | ((with_reducible refine And.intro (immA_c ?_ ?_) ?_); (focus (first | (with_reducible first | assumption | exact encQ_nl _ | exact encO_nl _ | exact encC_nl _) | exact rfl)); (focus ((repeat ((with_reducible refine immA_c ?_ ?_); (focus (first | (with_reducible first | assumption | exact encQ_nl _ | exact encO_nl _ | exact encC_nl _) | exact rfl)))); exact rfl))) | refine And.intro rfl ?_ | refine And.intro trivial ?_ | refine And.intro ⟨rfl, trivial⟩ ?_ | refine And.intro ⟨rfl, rfl, trivial⟩ ?_ | refine ifb_nq (by first | assumption | decide) ?_ | refine ifb_pq (by assumption) ?_ | refine ifb_er ?_ | refine ifb_t ?_ | refine ifb_f ?_ | refine ifb_nr ?_ | refine ifb_er ?_ | ((with_reducible refine And.intro (?_ : (_ : Nat) ≤ _) ?_); (focus (first | decide | omega | (unfold CMul; omega) | (unfold CDiv; omega) | (unfold CPow; decide) | (exact cpow1 (by omega) (by omega)) | (simp only [rngD_len, List.length_replicate, List.length_map, List.length_append, List.length_cons, List.length_nil, List.length_set] at *; omega)))) | ((with_reducible refine And.intro (?_ : (_ : Int) ≤ _) ?_); (focus (first | decide | omega | (unfold CMul; omega) | (unfold CDiv; omega) | (unfold CPow; decide) | (exact cpow1 (by omega) (by omega)) | (simp only [rngD_len, List.length_replicate, List.length_map, List.length_append, List.length_cons, List.length_nil, List.length_set] at *; omega)))) | ((with_reducible refine And.intro (?_ : (_ : Nat) < _) ?_); (focus (first | decide | omega | (unfold CMul; omega) | (unfold CDiv; omega) | (unfold CPow; decide) | (exact cpow1 (by omega) (by omega)) | (simp only [rngD_len, List.length_replicate, List.length_map, List.length_append, List.length_cons, List.length_nil, List.length_set] at *; omega)))) | ((with_reducible refine And.intro (?_ : (_ : Int) < _) ?_); (focus (first | decide | omega | (unfold CMul; omega) | (unfold CDiv; omega) | (unfold CPow; decide) | (exact cpow1 (by omega) (by omega)) | (simp only [rngD_len, List.length_replicate, List.length_map, List.length_append, List.length_cons, List.length_nil, List.length_set] at *; omega)))) | ((with_reducible refine And.intro (?_ : CMul _ _) ?_); (focus (first | decide | omega | (unfold CMul; omega) | (unfold CDiv; omega) | (unfold CPow; decide) | (exact cpow1 (by omega) (by omega)) | (simp only [rngD_len, List.length_replicate, List.length_map, List.length_append, List.length_cons, List.length_nil, List.length_set] at *; omega)))) | ((with_reducible refine And.intro (?_ : CDiv _ _) ?_); (focus (first | decide | omega | (unfold CMul; omega) | (unfold CDiv; omega) | (unfold CPow; decide) | (exact cpow1 (by omega) (by omega)) | (simp only [rngD_len, List.length_replicate, List.length_map, List.length_append, List.length_cons, List.length_nil, List.length_set] at *; omega)))) | ((with_reducible refine And.intro (?_ : CPow _ _) ?_); (focus (first | decide | omega | (unfold CMul; omega) | (unfold CDiv; omega) | (unfold CPow; decide) | (exact cpow1 (by omega) (by omega)) | (simp only [rngD_len, List.length_replicate, List.length_map, List.length_append, List.length_cons, List.length_nil, List.length_set] at *; omega)))) | ((with_reducible refine And.intro (?_ : (_ : Nat) = _) ?_); (focus (first | decide | omega | (unfold CMul; omega) | (unfold CDiv; omega) | (unfold CPow; decide) | (exact cpow1 (by omega) (by omega)) | (simp only [rngD_len, List.length_replicate, List.length_map, List.length_append, List.length_cons, List.length_nil, List.length_set] at *; omega))))); (conv => whnf); (try dsimp only [List.set_cons_zero, List.set_cons_succ, upA, wipeE, back, List.getElem?_cons_zero, List.getElem?_cons_succ, Option.getD_some]))); (try dsimp only [List.set_cons_zero, List.set_cons_succ, upA, wipeE, back, List.getElem?_cons_zero, List.getElem?_cons_succ, Option.getD_some])))
section
variable {n : Nat} {ns ks : List Int} {ws cs pl : List Str} {vs : List Vv} {d : Int} {m : Str}
theorem g3 (L : LfOk ws cs vs) (hl : cs.length ≤ 2) (P : PlOk pl) (d1 : 1 ≤ d) (hn : 2 * d ≤ n + 1) (hm : m ∈ pl) (hmc : m ∉ cs) (h1 : cs.length ≤ 1) : wc_law_grouped_3 n (EQ ks ws cs pl vs d [some (.str m), none, none, none, none, none, none, none, none]) (KG n ns ws cs pl vs d) := by
  have post := fun {l r : D} {ks : List Int} {q : Qn} e h => q6_post (l := l) (r := r) (ws := ws) (cs := cs) (pl := pl) (vs := vs) (d := d) (ks := ks) (q := q) e h
  have ea : cs.map D.str ++ [D.str m] = (cs ++ [m]).map D.str := by rw [List.map_append]; rfl
  have hnd : (cs ++ [m]).Nodup := by
    rw [List.nodup_append]
    exact ⟨L.c.sc.nd, by simp, fun a ha b hb e => hmc (by rw [List.mem_singleton.mp hb] at e; rw [← e]; exact ha)⟩
  have hw : ∀ w ∈ cs ++ [m], isW w = true := fun w h => by
    rcases List.mem_append.mp h with h | h
    · exact L.c.isw w h
    · rw [List.mem_singleton.mp h]; exact P.ww m hm
  walk_at "Ddlx"
  rw [ea, strsD_map]
  refine ⟨by simp only [List.length_append, List.length_cons, List.length_nil]; omega, fun ys hpm hs => ?_⟩
  have cy := cs_sort hpm hs hnd (by simp only [List.length_append, List.length_cons, List.length_nil]; omega) hw
  have ly : ys.length ≤ 2 := by rw [hpm.length_eq]; simp only [List.length_append, List.length_cons, List.length_nil]; omega
  walk_at "Ddlx"
  refine ⟨(q_call (es := ys) (n := n) L cy ly P d1 (by omega) ks).1, fun r ds' hp => ?_⟩
  obtain ⟨n2, q, rfl, rfl, oq, cq, dq⟩ := (q_call (es := ys) (n := n) L cy ly P d1 (by omega) ks).2 r ds' hp
  have nlq := encQ_nl q
  walk_at "Ddlx"
  exact post (q := .only cs q) rfl ⟨ok_only oq L.c.sc fun x hx => by rw [cq]; exact hpm.mem_iff.mpr (List.mem_append_left _ hx), rfl, by simp only [dpQ]; omega⟩
theorem g2b (L : LfOk ws cs vs) (hl : cs.length ≤ 2) (P : PlOk pl) (d1 : 1 ≤ d) (hn : 2 * d ≤ n + 1) (hm : m ∈ pl) (hmc : m ∉ cs) (h0 : 0 < cs.length) (nx : DEnv → Prop) : bd_grouped n (EQ ks ws cs pl vs d [some (.str m), none, none, none, none, none, none, none, none]) { KG n ns ws cs pl vs d with nx := nx } := by
  have post := fun {l r : D} {ks : List Int} {q : Qn} e h => q6_post (l := l) (r := r) (ws := ws) (cs := cs) (pl := pl) (vs := vs) (d := d) (ks := ks) (q := q) e h
  have few := L.c.few
  walk_at "Ddlx"
  refine ⟨⟨ks, _, _, rfl, rfl, by rw [List.length_map]; exact h0, by rw [List.length_map]; omega⟩, ?_⟩
  intro r ds' hp
  obtain ⟨n1, hr, rfl⟩ := hp _ _ _ rfl rfl
  obtain ⟨new, hnew, rfl⟩ := List.mem_map.mp hr
  clear hr
  walk_at "Ddlx"
  refine lcGo_filter (fun d => match d with | .str z => !decide (z = new) | _ => false) id _ _ ?_ ?_
  · intro d nxt acc hd hnx
    obtain ⟨c, _, rfl⟩ := List.mem_map.mp hd
    walk_at "Ddlx"
    refine ifb_ndec (fun hz => ?_) (fun hz => ?_)
    · walk_at "Ddlx"
      rw [if_pos (by simp [hz])] at hnx
      exact hnx
    · walk_at "Ddlx"
      rw [if_neg (by simp [hz]), List.append_nil] at hnx
      exact hnx
  have ef : ((cs.map D.str).filter (fun d => match d with | .str z => !decide (z = new) | _ => false)).map id = (cs.filter fun x => !decide (x = new)).map D.str := by
    rw [List.map_id, List.filter_map]
    rfl
  rw [ef]
  have hsub : (cs.filter fun x => !decide (x = new)).Sublist cs := List.filter_sublist
  have hkn : new ∉ cs.filter fun x => !decide (x = new) := by simp
  have hlk : (cs.filter fun x => !decide (x = new)).length ≤ 1 := by
    have h1 : (cs.filter fun x => !decide (x = new)).length < cs.length := by
      refine Nat.lt_of_le_of_ne hsub.length_le fun e => ?_
      have := hsub.eq_of_length e
      rw [← this] at hnew
      exact hkn hnew
    omega
  have hcnt := cnt_ok L.c hnew
  generalize cs.filter (fun x => !decide (x = new)) = keep at *
  have ck := L.c.sub hsub
  walk_at "Ddlx"
  refine ⟨⟨⟨_, rfl⟩, by decide⟩, ?_⟩
  rintro _ _ ⟨n2, j, rfl, rfl, j0, j1⟩
  have hz : ∃ z : Str, atI [D.str m, .str new] j = some (.str z) ∧ z ∉ keep ∧ isW z = true := by
    have : j = 0 ∨ j = 1 := by omega
    rcases this with rfl | rfl
    · exact ⟨m, rfl, fun h => hmc (hsub.subset h), P.ww m hm⟩
    · exact ⟨new, rfl, hkn, L.c.isw new hnew⟩
  obtain ⟨z, ez, hzk, hzw⟩ := hz
  have ea : keep.map D.str ++ [D.str z] = (keep ++ [z]).map D.str := by rw [List.map_append]; rfl
  have hnd : (keep ++ [z]).Nodup := by
    rw [List.nodup_append]
    exact ⟨ck.sc.nd, by simp, fun a ha b hb e => hzk (by rw [List.mem_singleton.mp hb] at e; rw [← e]; exact ha)⟩
  have hw : ∀ w ∈ keep ++ [z], isW w = true := fun w h => by
    rcases List.mem_append.mp h with h | h
    · exact ck.isw w h
    · rw [List.mem_singleton.mp h]; exact hzw
  walk_at "Ddlx"
  rw [ez]
  walk_at "Ddlx"
  rw [ea, strsD_map]
  refine ⟨by simp only [List.length_append, List.length_cons, List.length_nil]; omega, fun ys hpm hs => ?_⟩
  have cy := cs_sort hpm hs hnd (by simp only [List.length_append, List.length_cons, List.length_nil]; omega) hw
  have ly : ys.length ≤ 2 := by rw [hpm.length_eq]; simp only [List.length_append, List.length_cons, List.length_nil]; omega
  have py : 0 < ys.length := by rw [hpm.length_eq]; simp
  have km : ∀ x ∈ keep, x ∈ ys := fun x hx => hpm.mem_iff.mpr (List.mem_append_left _ hx)
  walk_at "Ddlx"
  refine ⟨(q_call (es := ys) (n := n) L cy ly P d1 (by omega) n2).1, fun r ds' hp => ?_⟩
  obtain ⟨n3, q, rfl, rfl, oq, cq, dq⟩ := (q_call (es := ys) (n := n) L cy ly P d1 (by omega) n2).2 r ds' hp
  have nlq := encQ_nl q
  walk_at "Ddlx"
  refine ⟨⟨⟨_, rfl⟩, by decide⟩, ?_⟩
  rintro _ _ ⟨n4, t, rfl, rfl, t0, t1⟩
  have ht : t = 0 ∨ t = 1 ∨ t = 2 ∨ t = 3 := by omega
  rcases ht with rfl | rfl | rfl | rfl
  · walk_at "Ddlx"
    exact post (q := .count new keep q) rfl ⟨ok_count oq (L.c.isw new hnew) hkn ck.sc (by rw [cq]; exact km) hcnt few, hcnt, by simp only [dpQ]; omega⟩
  · walk_at "Ddlx"
    refine ⟨⟨n4, _, _, rfl, rfl, by rw [List.length_map]; exact py, by rw [List.length_map]; omega⟩, ?_⟩
    intro r ds' hp2
    obtain ⟨n5, hr, rfl⟩ := hp2 _ _ _ rfl rfl
    obtain ⟨col, hcol, rfl⟩ := List.mem_map.mp hr
    clear hr
    walk_at "Ddlx"
    exact post (q := .total .sum new col keep q) rfl ⟨ok_total oq (L.c.isw new hnew) hkn ck.sc (by rw [cq]; exact km) (by rw [cq]; exact hcol) hcnt few, hcnt, by simp only [dpQ]; omega⟩
  · walk_at "Ddlx"
    refine ⟨⟨n4, _, _, rfl, rfl, by rw [List.length_map]; exact py, by rw [List.length_map]; omega⟩, ?_⟩
    intro r ds' hp2
    obtain ⟨n5, hr, rfl⟩ := hp2 _ _ _ rfl rfl
    obtain ⟨col, hcol, rfl⟩ := List.mem_map.mp hr
    clear hr
    walk_at "Ddlx"
    exact post (q := .total .least new col keep q) rfl ⟨ok_total oq (L.c.isw new hnew) hkn ck.sc (by rw [cq]; exact km) (by rw [cq]; exact hcol) hcnt few, hcnt, by simp only [dpQ]; omega⟩
  · walk_at "Ddlx"
    refine ⟨⟨n4, _, _, rfl, rfl, by rw [List.length_map]; exact py, by rw [List.length_map]; omega⟩, ?_⟩
    intro r ds' hp2
    obtain ⟨n5, hr, rfl⟩ := hp2 _ _ _ rfl rfl
    obtain ⟨col, hcol, rfl⟩ := List.mem_map.mp hr
    clear hr
    walk_at "Ddlx"
    exact post (q := .total .most new col keep q) rfl ⟨ok_total oq (L.c.isw new hnew) hkn ck.sc (by rw [cq]; exact km) (by rw [cq]; exact hcol) hcnt few, hcnt, by simp only [dpQ]; omega⟩
theorem g2 (L : LfOk ws cs vs) (hl : cs.length ≤ 2) (P : PlOk pl) (d1 : 1 ≤ d) (hn : 2 * d ≤ n + 1) (hm : m ∈ pl) (hmc : m ∉ cs) : wc_law_grouped_2 n (EQ ks ws cs pl vs d [some (.str m), none, none, none, none, none, none, none, none]) (KG n ns ws cs pl vs d) := by
  have few := L.c.few
  have el : ((cs.map D.str).length : Int) = (cs.length : Int) := by rw [List.length_map]
  walk_at "Ddlx"
  by_cases h2 : cs.length = 2
  · refine ifb_pq (by rw [el]; omega) ?_
    (conv => whnf); refine ifb_t ?_
    exact g2b L hl P d1 hn hm hmc (by omega) _
  · refine ifb_nq (by rw [el]; omega) ?_
    walk_at "Ddlx"
    by_cases h1 : cs.length = 1
    · refine ifb_pq (by rw [el]; omega) ?_
      walk_at "Ddlx"
      refine ⟨⟨⟨_, rfl⟩, by decide⟩, ?_⟩
      rintro _ _ ⟨n1, t, rfl, rfl, t0, t1⟩
      walk_at "Ddlx"
      refine ifb_dec (fun g => ?_) (fun g => ?_)
      · exact g2b (ks := n1) L hl P d1 hn hm hmc (by omega) _
      · walk_at "Ddlx"
        exact Stop.mk (g3 (ks := n1) L hl P d1 hn hm hmc (by omega))
    · refine ifb_nq (by rw [el]; omega) ?_
      walk_at "Ddlx"
      exact Stop.mk (g3 (ks := ks) L hl P d1 hn hm hmc (by omega))
theorem g1 (L : LfOk ws cs vs) (hl : cs.length ≤ 2) (P : PlOk pl) (d1 : 1 ≤ d) (hn : 2 * d ≤ n + 1) (hm : m ∈ pl) (hmc : m ∉ cs) : wc_law_grouped_1 n (EQ ks ws cs pl vs d [some (.str m), none, none, none, none, none, none, none, none]) (KG n ns ws cs pl vs d) := by
  have post := fun {l r : D} {ks : List Int} {q : Qn} e h => q6_post (l := l) (r := r) (ws := ws) (cs := cs) (pl := pl) (vs := vs) (d := d) (ks := ks) (q := q) e h
  have few := L.c.few
  have el : ((cs.map D.str).length : Int) = (cs.length : Int) := by rw [List.length_map]
  walk_at "Ddlx"
  by_cases h2 : cs.length = 2
  · refine ifb_pq (by rw [el]; omega) ?_
    walk_at "Ddlx"
    refine ⟨⟨⟨_, rfl⟩, by decide⟩, ?_⟩
    rintro _ _ ⟨n1, t, rfl, rfl, t0, t1⟩
    walk_at "Ddlx"
    refine ifb_dec (fun g => ?_) (fun g => ?_)
    · obtain ⟨a, b, rfl⟩ : ∃ a b, cs = [a, b] := by
        match cs, h2 with
        | [a, b], _ => exact ⟨a, b, rfl⟩
      have wm := P.ww m hm
      have wa := L.c.isw a (by simp)
      have wb := L.c.isw b (by simp)
      have ma : a ≠ m := fun e => hmc (by rw [e]; simp)
      have mb : b ≠ m := fun e => hmc (by rw [e]; simp)
      have sa : strsD [D.str a, .str m] = some [a, m] := rfl
      have sb : strsD [D.str b, .str m] = some [b, m] := rfl
      walk_at "Ddlx"
      refine Loop.mk ?_
      walk_at "Ddlx"
      intro ya pa ha
      have ca := cs_sort pa ha (by simp [ma]) (by simp) (by simp only [List.mem_cons, List.not_mem_nil, or_false]; rintro w (rfl | rfl) <;> assumption)
      have la : ya.length = 2 := pa.length_eq
      walk_at "Ddlx"
      intro yb pb hb
      have cb := cs_sort pb hb (by simp [mb]) (by simp) (by simp only [List.mem_cons, List.not_mem_nil, or_false]; rintro w (rfl | rfl) <;> assumption)
      have lb : yb.length = 2 := pb.length_eq
      walk_at "Ddlx"
      refine Loop.mk ?_
      walk_at "Ddlx"
      refine ⟨(q_call (es := ya) (n := n) L ca (by omega) P d1 (by omega) n1).1, fun r ds' hp => ?_⟩
      obtain ⟨n2, q, rfl, rfl, oq, cq, dq⟩ := (q_call (es := ya) (n := n) L ca (by omega) P d1 (by omega) n1).2 r ds' hp
      have nlq := encQ_nl q
      walk_at "Ddlx"
      refine ⟨(q_call (es := yb) (n := n) L cb (by omega) P d1 (by omega) n2).1, fun r ds' hp => ?_⟩
      obtain ⟨n3, q2, rfl, rfl, oq2, cq2, dq2⟩ := (q_call (es := yb) (n := n) L cb (by omega) P d1 (by omega) n2).2 r ds' hp
      have nlq2 := encQ_nl q2
      walk_at "Ddlx"
      have okb := ok_both2 oq oq2 (by rw [cq, cq2]; omega)
      refine post (q := .only [a, b] (.two .both q q2)) rfl ⟨ok_only okb L.c.sc fun x hx => ?_, rfl, by simp only [dpQ]; omega⟩
      show x ∈ ordS (colsQ q ++ colsQ q2)
      rw [mem_ordS, cq, cq2, List.mem_append, pa.mem_iff, pb.mem_iff]
      simp only [List.mem_cons, List.not_mem_nil, or_false] at hx ⊢
      rcases hx with rfl | rfl
      · exact .inl (.inl rfl)
      · exact .inr (.inl rfl)
    · walk_at "Ddlx"
      exact Stop.mk (g2 (ks := n1) L hl P d1 hn hm hmc)
  · refine ifb_nq (by rw [el]; omega) ?_
    walk_at "Ddlx"
    exact Stop.mk (g2 (ks := ks) L hl P d1 hn hm hmc)
end
theorem pure_law_grouped : ∀ n, ∀ ds, ds.length = 6 → (spn_law_grouped (n + 1)).pre ds → w_law_grouped n (env0 ds 9) { nx := fun e => (spn_law_grouped (n + 1)).post ds .non (outs e 6), rt := fun d e => (spn_law_grouped (n + 1)).post ds d (outs e 6) } := by
  rintro n ds _ ⟨ns, ws, cs, pl, vs, d, rfl, L, hl, P, d1, hn⟩
  rw [wc_law_grouped_eq]
  have l3 := P.l3
  have few := L.c.few
  walk_at "Ddlx"
  refine lcGo_filter (fun d => match d with | .str z => !decide (z ∈ cs) | _ => false) id _ _ ?_ ?_
  · intro d nxt acc hd hnx
    obtain ⟨c, _, rfl⟩ := List.mem_map.mp hd
    have key := any_str c cs
    walk_at "Ddlx"
    refine ⟨flatA_str cs, ?_⟩
    walk_at "Ddlx"
    rw [if_pos rfl, key]
    refine ifb_ndec (fun hz => ?_) (fun hz => ?_)
    · walk_at "Ddlx"
      rw [if_pos (by simp [hz])] at hnx
      exact hnx
    · walk_at "Ddlx"
      rw [if_neg (by simp [hz]), List.append_nil] at hnx
      exact hnx
  have ef : ((pl.map D.str).filter (fun d => match d with | .str z => !decide (z ∈ cs) | _ => false)).map id = (pl.filter fun x => !decide (x ∈ cs)).map D.str := by
    rw [List.map_id, List.filter_map]
    rfl
  rw [ef]
  obtain ⟨x, hx, hxc⟩ := P.ex hl
  have hf : ∀ y ∈ pl.filter (fun x => !decide (x ∈ cs)), y ∈ pl ∧ y ∉ cs := fun y hy => by simpa using hy
  have hx2 : x ∈ pl.filter (fun x => !decide (x ∈ cs)) := by simpa using ⟨hx, hxc⟩
  generalize pl.filter (fun x => !decide (x ∈ cs)) = fl at *
  cases fl with
  | nil => cases hx2
  | cons m fl =>
    obtain ⟨hm, hmc⟩ := hf m (by simp)
    have a0 : atI ((m :: fl).map D.str) 0 = some (.str m) := atI_nat (j := 0) rfl
    walk_at "Ddlx"
    try rw [a0]
    try walk_at "Ddlx"
    exact Stop.mk (g1 (ks := ns) L hl P d1 hn hm hmc)
end DL

namespace DL
open PySem PySem.Spec PyProof.Rows L2
theorem LsOk.pw {c : Int} : ∀ {lo : Int} {ls : List Ln}, LsOk c lo ls → (∀ l ∈ ls, lo < l.1) ∧ ls.Pairwise fun a b => a.1 < b.1
  | _, [], _ => ⟨by simp, .nil⟩
  | lo, (x, y) :: r, ⟨g1, g2, g3⟩ => by
    obtain ⟨h1, h2⟩ := LsOk.pw g3
    refine ⟨fun l hl => ?_, .cons (fun l hl => h1 l hl) h2⟩
    rcases List.mem_cons.mp hl with rfl | hl
    · exact g1
    · have := h1 l hl; omega
theorem TbOk.pw {c : Int} {ls : List Ln} (h : TbOk c ls) : ls.Pairwise fun a b => a.1 < b.1 := by
  obtain ⟨hc, sp, r, rfl, h4, h5⟩ := h
  exact .cons (fun l hl => h5.pw.1 l hl) h5.pw.2
theorem LsOk.sp {c : Int} : ∀ {lo : Int} {ls : List Ln}, LsOk c lo ls → ∀ l ∈ ls, SpOk c 0 l.2
  | _, [], _, l, h => by simp at h
  | lo, (x, y) :: r, ⟨g1, g2, g3⟩, l, h => by
    rcases List.mem_cons.mp h with rfl | h
    · exact g2
    · exact LsOk.sp g3 l h
theorem TbOk.sp {c : Int} {ls : List Ln} (h : TbOk c ls) : ∀ l ∈ ls, SpOk c 0 l.2 ∧ 0 ≤ l.1 := by
  obtain ⟨hc, sp, r, rfl, h4, h5⟩ := h
  intro l hl
  rcases List.mem_cons.mp hl with rfl | hl
  · exact ⟨h4, Int.le_refl _⟩
  · exact ⟨h5.sp l hl, by have := h5.pw.1 l hl; omega⟩
theorem SpOk.len {c : Int} : ∀ {lo : Int} {s : Sp2}, 0 ≤ lo → SpOk c lo s → s = [] ∨ (s.length : Int) + lo ≤ c
  | lo, [], _, _ => .inl rfl
  | lo, (a, b) :: r, h0, ⟨h1, h2, h3, h4⟩ => .inr (by
    rcases SpOk.len (by omega) h4 with rfl | h
    · simp; omega
    · simp; omega)
/-- what holds at a moment -/
def fnd (c m : Int) : Bool → List Ln → Bool
  | f, [] => f
  | f, l :: r => fnd c m (if l.1 ≤ m then inS (m % c) l.2 else f) r
theorem fnd_none (c m : Int) : ∀ (f : Bool) (q : List Ln), (∀ l ∈ q, m < l.1) → fnd c m f q = f
  | f, [], _ => rfl
  | f, l :: r, h => by
    have h1 := h l (by simp)
    simp only [fnd]
    rw [if_neg (by omega)]
    exact fnd_none c m f r fun x hx => h x (by simp [hx])
local macro_rules | `(tactic| walk_at "Ddl") => `(tactic| ((conv => whnf); (repeat ((first | refine And.intro rfl ?_ | refine And.intro trivial ?_ | refine And.intro ⟨rfl, trivial⟩ ?_ | refine And.intro ⟨rfl, rfl, trivial⟩ ?_ | refine ifb_t ?_ | refine ifb_f ?_ | refine ifb_nr ?_ | refine ifb_er ?_ | refine And.intro (by first | decide | omega | (unfold CMul; omega) | (unfold CDiv; omega) | (unfold CPow; decide) | (exact cpow1 (by omega) (by omega)) | (exact cpow1 (by dsimp only; omega) (by dsimp only; omega)) | (simp only [rngD_len, List.length_replicate, List.length_map, List.length_append, List.length_cons, List.length_nil, List.length_set] at *; omega)) ?_); conv => whnf))))
end DL

namespace DL
/-! ### masks as naturals -/
theorem bit_hi {m c p : Nat} (h : m < 2 ^ c) (hp : c ≤ p) : m.testBit p = false := by
  refine Nat.testBit_lt_two_pow (Nat.lt_of_lt_of_le h (Nat.pow_le_pow_right (by decide) hp))
theorem lt_of_bits {m c : Nat} (h : ∀ p, c ≤ p → m.testBit p = false) : m < 2 ^ c := Nat.lt_pow_two_of_testBit m h
/-! ### phases -/
theorem ph_lt {c t : Int} (hc : 1 ≤ c) : 0 ≤ t % c ∧ t % c < c := ⟨Int.emod_nonneg _ (by omega), Int.emod_lt_of_pos _ (by omega)⟩
def mb (m : Nat) (c t : Int) : Bool := m.testBit (t % c).toNat
theorem ph_eq {c t u : Int} (hc : 1 ≤ c) (h : t % c = u % c) (hlt : t < u) : t + c ≤ u := by
  have h1 := Int.emod_add_mul_ediv t c
  have h2 := Int.emod_add_mul_ediv u c
  have h3 : c * (t / c) < c * (u / c) := by omega
  have h4 : t / c < u / c := Int.lt_of_mul_lt_mul_left h3 (by omega)
  have h5 : c * (t / c + 1) ≤ c * (u / c) := Int.mul_le_mul_of_nonneg_left (by omega) (by omega)
  rw [Int.mul_add, Int.mul_one] at h5
  omega
/-- a moment of a phase at or behind s, within a cycle -/
theorem ph_at {c : Int} (hc : 1 ≤ c) (s p : Int) (hp : 0 ≤ p ∧ p < c) : ∃ t, s ≤ t ∧ t < s + c ∧ t % c = p := by
  refine ⟨s + (p - s) % c, ?_, ?_, ?_⟩
  · have := ph_lt (c := c) (t := p - s) hc; omega
  · have := ph_lt (c := c) (t := p - s) hc; omega
  · rw [Int.add_emod_emod, show s + (p - s) = p by omega, Int.emod_eq_of_lt hp.1 hp.2]
theorem mb_per {m : Nat} {c t u : Int} (h : t % c = u % c) : mb m c t = mb m c u := by unfold mb; rw [h]
/-! ### first and last moments of a mask -/
def FirstW (m : Nat) (c s : Int) (e : Option Int) (r : Option Int) : Prop := match r with
  | none => ∀ t, s ≤ t → (∀ x, e = some x → t < x) → mb m c t = false
  | some f => s ≤ f ∧ (∀ x, e = some x → f < x) ∧ mb m c f = true ∧ ∀ t, s ≤ t → t < f → mb m c t = false
/-! ### what a stretch covers -/
def CovW (n : Nat) (c s : Int) (e : Option Int) : Prop := n < 2 ^ c.toNat ∧ ∀ p : Nat, (p : Int) < c → (n.testBit p = true ↔ ∃ t, s ≤ t ∧ (∀ x, e = some x → t < x) ∧ t % c = p)
theorem CovW.mb {n : Nat} {c s : Int} {e : Option Int} (hc : 1 ≤ c) (h : CovW n c s e) (u : Int) : mb n c u = true ↔ ∃ t, s ≤ t ∧ (∀ x, e = some x → t < x) ∧ t % c = u % c := by
  have hu := ph_lt (c := c) (t := u) hc
  have := h.2 (u % c).toNat (by omega)
  rwa [Int.toNat_of_nonneg hu.1] at this
end DL

namespace DL
/-! ### spans have one form -/
theorem inS_lo {c : Int} : ∀ {lo : Int} {s : Sp2} {p : Int}, SpOk c lo s → inS p s = true → lo ≤ p ∧ p < c
  | lo, s, p, h, hp => by
    simp only [inS, List.any_eq_true, Bool.and_eq_true, decide_eq_true_eq] at hp
    obtain ⟨q, hq, h1, h2⟩ := hp
    have := SpOk.le h q hq
    omega
theorem inS_cons (p a b : Int) (r : Sp2) : inS p ((a, b) :: r) = (decide (a ≤ p) && decide (p < b) || inS p r) := by simp [inS]
theorem sp_uniq {c : Int} : ∀ {s t : Sp2} {lo lo' : Int}, SpOk c lo s → SpOk c lo' t → (∀ p, inS p s = inS p t) → s = t
  | [], [], _, _, _, _, _ => rfl
  | [], (a, b) :: r, _, _, _, ⟨h1, h2, h3, h4⟩, e => by
    have := e a
    rw [inS_cons] at this
    have h : decide (a ≤ a) = true := by simp
    have h' : decide (a < b) = true := by simpa using h2
    simp [h, h', inS] at this
  | (a, b) :: r, [], _, _, ⟨h1, h2, h3, h4⟩, _, e => by
    have := e a
    rw [inS_cons] at this
    have h : decide (a ≤ a) = true := by simp
    have h' : decide (a < b) = true := by simpa using h2
    simp [h, h', inS] at this
  | (a, b) :: r, (a', b') :: r', lo, lo', ⟨h1, h2, h3, h4⟩, ⟨g1, g2, g3, g4⟩, e => by
    have key : ∀ p, inS p r = true → b + 1 ≤ p := fun p hp => (inS_lo h4 hp).1
    have key' : ∀ p, inS p r' = true → b' + 1 ≤ p := fun p hp => (inS_lo g4 hp).1
    have nr : ∀ p, p < b + 1 → inS p r = false := fun p hp => by
      cases h : inS p r with
      | false => rfl
      | true => have := key p h; omega
    have nr' : ∀ p, p < b' + 1 → inS p r' = false := fun p hp => by
      cases h : inS p r' with
      | false => rfl
      | true => have := key' p h; omega
    have ea : a = a' := by
      have e1 := e a
      have e2 := e a'
      rw [inS_cons, inS_cons] at e1 e2
      by_cases h : a < a'
      · rw [nr' a (by omega)] at e1
        have x1 : ¬ a' ≤ a := by omega
        have x3 : a ≤ a := by omega
        simp [x1, x3, h2] at e1
      · by_cases h' : a' < a
        · rw [nr a' (by omega)] at e2
          have x1 : ¬ a ≤ a' := by omega
          have x3 : a' ≤ a' := by omega
          simp [x1, x3, g2] at e2
        · omega
    subst ea
    have eb : b = b' := by
      have e1 := e b
      have e2 := e b'
      rw [inS_cons, inS_cons] at e1 e2
      by_cases h : b < b'
      · rw [nr b (by omega)] at e1
        have x1 : ¬ b < b := by omega
        have x3 : a ≤ b := by omega
        simp [x1, x3, h] at e1
      · by_cases h' : b' < b
        · rw [nr' b' (by omega)] at e2
          have x1 : ¬ b' < b' := by omega
          have x3 : a ≤ b' := by omega
          simp [x1, x3, h'] at e2
        · omega
    subst eb
    have : r = r' := sp_uniq h4 g4 fun p => by
      by_cases hp : p < b + 1
      · rw [nr p hp, nr' p hp]
      · have := e p
        rw [inS_cons, inS_cons] at this
        have x1 : ¬ p < b := by omega
        simpa [x1] using this
    rw [this]
/-- phases within the cycle are enough -/
theorem sp_uniq' {c : Int} {s t : Sp2} (hs : SpOk c 0 s) (ht : SpOk c 0 t) (e : ∀ p, 0 ≤ p → p < c → inS p s = inS p t) : s = t := sp_uniq hs ht fun p => by
  by_cases h : 0 ≤ p ∧ p < c
  · exact e p h.1 h.2
  · have h1 : inS p s = false := by
      cases h' : inS p s with
      | false => rfl
      | true => exact absurd (inS_lo hs h') h
    have h2 : inS p t = false := by
      cases h' : inS p t with
      | false => rfl
      | true => exact absurd (inS_lo ht h') h
    rw [h1, h2]

/-! ### the shortest table of a set -/
def Shp (c : Int) (S : Int → Bool) : Int → List Ln → Prop
  | _, [] => False
  | b, (s, sp) :: r => s = b ∧ SpOk c 0 sp ∧ match r with
    | [] => ∀ t, s ≤ t → inS (t % c) sp = S t
    | (s', _) :: _ => s + c ≤ s' ∧ (∀ t, s ≤ t → t < s' → inS (t % c) sp = S t) ∧ inS (s' % c) sp ≠ S s' ∧ Shp c S s' r
theorem Shp.one {c : Int} {S : Int → Bool} {b : Int} {sp : Sp2} (h : SpOk c 0 sp) (h2 : ∀ t, b ≤ t → inS (t % c) sp = S t) : Shp c S b [(b, sp)] := ⟨rfl, h, h2⟩
theorem Shp.two {c : Int} {S : Int → Bool} {b b' : Int} {sp sp' : Sp2} {r : List Ln} (h : SpOk c 0 sp) (h1 : b + c ≤ b') (h2 : ∀ t, b ≤ t → t < b' → inS (t % c) sp = S t) (h3 : inS (b' % c) sp ≠ S b') (h4 : Shp c S b' ((b', sp') :: r)) : Shp c S b ((b, sp) :: (b', sp') :: r) := ⟨rfl, h, h1, h2, h3, h4⟩
theorem Shp.uniq {c : Int} (hc : 1 ≤ c) {S S' : Int → Bool} : ∀ {ls ls' : List Ln} {b : Int}, Shp c S b ls → Shp c S' b ls' → (∀ t, b ≤ t → S t = S' t) → ls = ls'
  | [], _, _, h, _, _ => h.elim
  | _ :: _, [], _, _, h, _ => h.elim
  | [(s, sp)], [(s', sp')], _, ⟨rfl, h2, h3⟩, ⟨hs, g2, g3⟩, e => by
    subst hs
    have : sp = sp' := sp_uniq' h2 g2 fun p h0 h1 => by
      obtain ⟨t, k1, k2, rfl⟩ := ph_at hc s' p ⟨h0, h1⟩
      rw [h3 t k1, g3 t k1, e t k1]
    rw [this]
  | [(s, sp)], (s', sp') :: (u, up) :: r, _, ⟨rfl, h2, h3⟩, ⟨hs, g2, g3, g4, g5, g6⟩, e => by
    subst hs
    have : sp = sp' := sp_uniq' h2 g2 fun p h0 h1 => by
      obtain ⟨t, k1, k2, rfl⟩ := ph_at hc s' p ⟨h0, h1⟩
      rw [h3 t k1, g4 t k1 (by omega), e t k1]
    subst this
    exact absurd (by rw [h3 u (by omega), e u (by omega)]) g5
  | (s', sp') :: (u, up) :: r, [(s, sp)], _, ⟨rfl, g2, g3, g4, g5, g6⟩, ⟨hs, h2, h3⟩, e => by
    subst hs
    have : sp = sp' := sp_uniq' h2 g2 fun p h0 h1 => by
      obtain ⟨t, k1, k2, rfl⟩ := ph_at hc s p ⟨h0, h1⟩
      rw [h3 t k1, g4 t k1 (by omega), e t k1]
    subst this
    exact absurd (by rw [h3 u (by omega), e u (by omega)]) g5
  | (s, sp) :: (u, up) :: r, (s', sp') :: (u', up') :: r', _, ⟨rfl, h2, h3, h4, h5, h6⟩, ⟨hs, g2, g3, g4, g5, g6⟩, e => by
    subst hs
    have : sp = sp' := sp_uniq' h2 g2 fun p h0 h1 => by
      obtain ⟨t, k1, k2, rfl⟩ := ph_at hc s' p ⟨h0, h1⟩
      rw [h4 t k1 (by omega), g4 t k1 (by omega), e t k1]
    subst this
    have : u = u' := by
      by_cases h : u < u'
      · exact absurd (by rw [g4 u (by omega) h, e u (by omega)]) h5
      · by_cases h' : u' < u
        · exact absurd (by rw [h4 u' (by omega) h', e u' (by omega)]) g5
        · omega
    subst this
    rw [Shp.uniq hc h6 g6 fun t ht => e t (by omega)]
theorem Shp.congr {c : Int} {S S' : Int → Bool} : ∀ {ls : List Ln} {b : Int}, Shp c S b ls → 1 ≤ c → (∀ t, b ≤ t → S t = S' t) → Shp c S' b ls
  | [], _, h, _, _ => h.elim
  | [(s, sp)], _, ⟨rfl, h2, h3⟩, hc, e => ⟨rfl, h2, fun t ht => by rw [h3 t ht, e t ht]⟩
  | (s, sp) :: (u, up) :: r, _, ⟨rfl, h2, h3, h4, h5, h6⟩, hc, e => ⟨rfl, h2, h3, fun t ht ht2 => by rw [h4 t ht ht2, e t ht], by rw [← e u (by omega)]; exact h5, h6.congr hc fun t ht => e t (by omega)⟩
theorem Shp.ls {c : Int} (hc : 1 ≤ c) {S : Int → Bool} : ∀ {ls : List Ln} {b : Int}, Shp c S b ls → ∃ sp r, ls = (b, sp) :: r ∧ SpOk c 0 sp ∧ LsOk c b r
  | [], _, h => h.elim
  | [(s, sp)], _, ⟨rfl, h2, h3⟩ => ⟨sp, [], rfl, h2, trivial⟩
  | (s, sp) :: (u, up) :: r, _, ⟨rfl, h2, h3, h4, h5, h6⟩ => by
    obtain ⟨sp', r', e, k1, k2⟩ := Shp.ls hc h6
    simp only [List.cons.injEq, Prod.mk.injEq] at e
    obtain ⟨⟨_, rfl⟩, rfl⟩ := e
    exact ⟨sp, _, rfl, h2, (by omega), k1, k2⟩
theorem Shp.tb {c : Int} {S : Int → Bool} {ls : List Ln} (hc : 1 ≤ c ∧ c ≤ 60) (h : Shp c S 0 ls) : TbOk c ls := ⟨hc, Shp.ls hc.1 h⟩
theorem LsOk.gt {c : Int} {lo : Int} {ls : List Ln} (h : LsOk c lo ls) : ∀ l ∈ ls, lo < l.1 := h.pw.1
theorem Shp.holds {c : Int} (hc : 1 ≤ c) {S : Int → Bool} : ∀ {ls : List Ln} {b : Int} (f : Bool), Shp c S b ls → ∀ t, b ≤ t → fnd c t f ls = S t
  | [], _, _, h, _, _ => h.elim
  | [(s, sp)], _, f, ⟨rfl, h2, h3⟩, t, ht => by simp only [fnd]; rw [if_pos ht, h3 t ht]
  | (s, sp) :: (u, up) :: r, _, f, ⟨rfl, h2, h3, h4, h5, h6⟩, t, ht => by
    rw [fnd, if_pos (show (s, sp).1 ≤ t from ht)]
    by_cases h : u ≤ t
    · exact Shp.holds hc _ h6 t h
    · obtain ⟨sp', r', e, k1, k2⟩ := Shp.ls hc h6
      rw [fnd_none, h4 t ht (by omega)]
      intro l hl
      rw [e] at hl
      rcases List.mem_cons.mp hl with rfl | hl
      · show t < u; omega
      · have := k2.gt l hl; omega
/-- lines up to a moment -/
def Pre (c : Int) (S : Int → Bool) : Int → List Ln → Int → Prop
  | b, [], e => b = e
  | b, (s, sp) :: r, e => s = b ∧ SpOk c 0 sp ∧ ∃ s', s + c ≤ s' ∧ (∀ t, s ≤ t → t < s' → inS (t % c) sp = S t) ∧ inS (s' % c) sp ≠ S s' ∧ Pre c S s' r e
theorem Pre.snoc {c : Int} {S : Int → Bool} : ∀ {ls : List Ln} {b e s' : Int} {sp : Sp2}, Pre c S b ls e → SpOk c 0 sp → e + c ≤ s' → (∀ t, e ≤ t → t < s' → inS (t % c) sp = S t) → inS (s' % c) sp ≠ S s' → Pre c S b (ls ++ [(e, sp)]) s'
  | [], _, _, s', sp, rfl, h1, h2, h3, h4 => ⟨rfl, h1, s', h2, h3, h4, rfl⟩
  | (s, q) :: r, _, e, s', sp, ⟨rfl, g1, u, g2, g3, g4, g5⟩, h1, h2, h3, h4 => ⟨rfl, g1, u, g2, g3, g4, g5.snoc h1 h2 h3 h4⟩
theorem Pre.shp {c : Int} {S : Int → Bool} : ∀ {ls : List Ln} {b e : Int} {sp : Sp2}, Pre c S b ls e → SpOk c 0 sp → (∀ t, e ≤ t → inS (t % c) sp = S t) → Shp c S b (ls ++ [(e, sp)])
  | [], _, _, sp, rfl, h1, h2 => ⟨rfl, h1, h2⟩
  | [(s, q)], _, e, sp, ⟨rfl, g1, u, g2, g3, g4, g5⟩, h1, h2 => by
    have : u = e := g5
    subst this
    exact ⟨rfl, g1, g2, g3, g4, rfl, h1, h2⟩
  | (s, q) :: (x, y) :: r, _, e, sp, ⟨rfl, g1, u, g2, g3, g4, g5⟩, h1, h2 => by
    have h := Pre.shp g5 h1 h2
    have : x = u := g5.1
    subst this
    exact ⟨rfl, g1, g2, g3, g4, h⟩

/-! ### pieces -/
abbrev Pcs := List (Int × Nat)
/-- the mask that counts at a moment -/
def pcAt (t : Int) : Nat → Pcs → Nat
  | m, [] => m
  | m, (s, k) :: r => pcAt t (if s ≤ t then k else m) r
/-- stretches: start, end, mask -/
abbrev Strs := List (Int × Option Int × Nat)
def StrOk (S : Int → Bool) (c : Int) : Int → Strs → Prop
  | _, [] => False
  | b, (s, e, m) :: r => s = b ∧ m < 2 ^ c.toNat ∧ (∀ t, s ≤ t → (∀ x, e = some x → t < x) → mb m c t = S t) ∧ match r with
    | [] => e = none
    | (s', _, _) :: _ => e = some s' ∧ s < s' ∧ StrOk S c s' r

/-! ### the loop of table_of -/
structure TI (c : Int) (S : Int → Bool) (L : List Ln) (b : Int) (seen ins : Nat) (st : Int) : Prop where
  le : b ≤ st
  pre : Pre c S 0 L b
  cov : CovW seen c b (some st)
  inn : ∀ t, b ≤ t → t < st → mb ins c t = S t
  sub : ∀ p : Nat, Nat.testBit ins p = true → Nat.testBit seen p = true
theorem TI.lt {c : Int} {S : Int → Bool} {L : List Ln} {b : Int} {seen ins : Nat} {st : Int} (h : TI c S L b seen ins st) : ins < 2 ^ c.toNat := lt_of_bits fun p hp => by
  cases e : ins.testBit p with
  | false => rfl
  | true => have := h.sub p e; rw [bit_hi h.cov.1 hp] at this; cases this
theorem mb_and (a b : Nat) (c t : Int) : mb (a &&& b) c t = (mb a c t && mb b c t) := by simp [mb]
theorem mb_or (a b : Nat) (c t : Int) : mb (a ||| b) c t = (mb a c t || mb b c t) := by simp [mb]
theorem mb_xor (a b : Nat) (c t : Int) : mb (a ^^^ b) c t = (mb a c t != mb b c t) := by simp [mb]
theorem lt_or {a b n : Nat} (h1 : a < 2 ^ n) (h : b < 2 ^ n) : a ||| b < 2 ^ n := Nat.or_lt_two_pow h1 h
/-- no turn in the stretch -/
theorem TI.agree {c : Int} (hc : 1 ≤ c) {S : Int → Bool} {L : List Ln} {b : Int} {seen ins : Nat} {st : Int} (I : TI c S L b seen ins st) {e : Option Int} {m cv : Nat} (hS : ∀ t, st ≤ t → (∀ x, e = some x → t < x) → mb m c t = S t)
    (hn : ∀ t, st ≤ t → (∀ x, e = some x → t < x) → mb ((m ^^^ ins) &&& seen) c t = false) (hcv : CovW cv c st e) :
    ∀ t, b ≤ t → (∀ x, e = some x → t < x) → mb (ins ||| (m &&& cv)) c t = S t := by
  intro t ht hx
  rw [mb_or, mb_and]
  by_cases h : t < st
  · rw [I.inn t ht h]
    by_cases hv : mb cv c t = true
    · rw [hv, Bool.and_true]
      obtain ⟨u, hu1, hu2, hu3⟩ := (hcv.mb hc t).mp hv
      have := hn u hu1 hu2
      rw [mb_and, mb_xor, mb_per hu3, mb_per hu3, mb_per hu3, (I.cov.mb hc t).mpr ⟨t, ht, fun x hx => by cases hx; exact h, rfl⟩, Bool.and_true, bne_eq_false_iff_eq] at this
      rw [this, I.inn t ht h, Bool.or_self]
    · rw [Bool.not_eq_true] at hv
      rw [hv, Bool.and_false, Bool.or_false]
  · have hv : mb cv c t = true := (hcv.mb hc t).mpr ⟨t, by omega, hx, rfl⟩
    rw [hv, Bool.and_true, hS t (by omega) hx]
    cases hi : mb ins c t with
    | false => rfl
    | true =>
      have h2 := hn t (by omega) hx
      have hs : mb seen c t = true := I.sub _ hi
      rw [mb_and, mb_xor, hi, hs, hS t (by omega) hx, Bool.and_true, bne_eq_false_iff_eq] at h2
      rw [h2, Bool.or_self]
theorem TI.on {c : Int} (hc : 1 ≤ c) {S : Int → Bool} {L : List Ln} {b : Int} {seen ins : Nat} {st : Int} (I : TI c S L b seen ins st) {e : Option Int} {m cv : Nat} (hS : ∀ t, st ≤ t → (∀ x, e = some x → t < x) → mb m c t = S t)
    (hn : ∀ t, st ≤ t → (∀ x, e = some x → t < x) → mb ((m ^^^ ins) &&& seen) c t = false) (hcv : CovW cv c st e) :
    (∀ x, e = some x → st < x → TI c S L b (seen ||| cv) (ins ||| (m &&& cv)) x) ∧ (e = none → ∀ t, b ≤ t → mb (ins ||| (m &&& cv)) c t = S t) := by
  have agree := I.agree hc hS hn hcv
  refine ⟨fun x hx hlt => ⟨by have := I.le; omega, I.pre, ⟨lt_or I.cov.1 hcv.1, fun p hp => ?_⟩, fun t ht1 ht2 => agree t ht1 fun y hy => by rw [hx] at hy; cases hy; exact ht2, fun p hp => ?_⟩, fun he t ht => agree t ht fun x hx => by rw [he] at hx; cases hx⟩
  · rw [Nat.testBit_or, Bool.or_eq_true, I.cov.2 p hp, hcv.2 p hp]
    constructor
    · rintro (⟨t, h1, h2, h3⟩ | ⟨t, h1, h2, h3⟩)
      · have := h2 st rfl
        exact ⟨t, h1, fun y hy => by cases hy; omega, h3⟩
      · have := h2 x hx
        exact ⟨t, by have := I.le; omega, fun y hy => by cases hy; exact this, h3⟩
    · rintro ⟨t, h1, h2, h3⟩
      have := h2 x rfl
      by_cases h : t < st
      · exact .inl ⟨t, h1, fun y hy => by cases hy; exact h, h3⟩
      · exact .inr ⟨t, by omega, fun y hy => by rw [hx] at hy; cases hy; exact this, h3⟩
  · rw [Nat.testBit_or, Bool.or_eq_true] at hp ⊢
    rcases hp with hp | hp
    · exact .inl (I.sub p hp)
    · rw [Nat.testBit_and, Bool.and_eq_true] at hp
      exact .inr hp.2
/-- a turn -/
theorem TI.turn {c : Int} (hc : 1 ≤ c) {S : Int → Bool} {L : List Ln} {b : Int} {seen ins : Nat} {st : Int} (I : TI c S L b seen ins st) {e : Option Int} {m cv : Nat} {f : Int} {sp : Sp2} (hS : ∀ t, st ≤ t → (∀ x, e = some x → t < x) → mb m c t = S t)
    (hf : FirstW ((m ^^^ ins) &&& seen) c st e (some f)) (hcv : CovW cv c st (some f)) (hsp : SpOk c 0 sp) (hin : ∀ t, inS (t % c) sp = mb (ins ||| (m &&& cv)) c t) :
    TI c S (L ++ [(b, sp)]) f 0 0 f ∧ st ≤ f ∧ ∀ x, e = some x → f < x := by
  obtain ⟨f1, f2, f3, f4⟩ := hf
  have f3' := f3
  rw [mb_and, Bool.and_eq_true] at f3
  have hbc : b + c ≤ f := by
    obtain ⟨u, hu1, hu2, hu3⟩ := (I.cov.mb hc f).mp f3.2
    have := hu2 st rfl
    have := ph_eq hc hu3 (by omega)
    omega
  have hx : ∀ t, t < f → ∀ x, e = some x → t < x := fun t ht x hx => by have := f2 x hx; omega
  have ag := TI.agree hc I (e := some f) (m := m) (cv := cv) (fun t h1 h2 => hS t h1 (hx t (h2 f rfl))) (fun t h1 h2 => f4 t h1 (h2 f rfl)) hcv
  refine ⟨⟨Int.le_refl _, I.pre.snoc hsp hbc (fun t h1 h2 => by rw [hin, ag t h1 fun x hx => by cases hx; exact h2]) ?_, ⟨Nat.two_pow_pos _, fun p hp => ?_⟩, fun t h1 h2 => by omega, fun p hp => by simp at hp⟩, f1, f2⟩
  · rw [hin, ← hS f f1 f2, mb_or, mb_and]
    have f5 := f3.1
    rw [mb_xor] at f5
    cases hm : mb m c f with
    | false =>
      rw [hm] at f5
      have : mb ins c f = true := by simpa using f5
      rw [this]; simp
    | true =>
      rw [hm] at f5
      have h1 : mb ins c f = false := by simpa using f5
      have h2 : mb cv c f = false := by
        cases hv : mb cv c f with
        | false => rfl
        | true =>
          obtain ⟨t, ht1, ht2, ht3⟩ := (hcv.mb hc f).mp hv
          have := f4 t ht1 (ht2 f rfl)
          rw [mb_per ht3, f3'] at this
          cases this
      rw [h1, h2]; simp
  · constructor
    · intro h; simp at h
    · rintro ⟨t, h1, h2, _⟩
      have := h2 f rfl
      omega
theorem TI.start {c : Int} (hc : 1 ≤ c) (S : Int → Bool) : TI c S [] 0 0 0 0 := ⟨Int.le_refl _, rfl, ⟨Nat.two_pow_pos _, fun p hp => by
  constructor
  · intro h; simp at h
  · rintro ⟨t, h1, h2, _⟩
    have := h2 0 rfl
    omega⟩, fun t h1 h2 => by omega, fun p hp => by simp at hp⟩
theorem TI.done {c : Int} {S : Int → Bool} {L : List Ln} {b : Int} {ins : Nat} {sp : Sp2} (hp : Pre c S 0 L b) (h : ∀ t, b ≤ t → mb ins c t = S t) (hsp : SpOk c 0 sp) (hin : ∀ t, inS (t % c) sp = mb ins c t) : Shp c S 0 (L ++ [(b, sp)]) :=
  hp.shp hsp fun t ht => by rw [hin, h t ht]
end DL

namespace DL
open PySem PySem.Spec PyProof.Rows L2
local macro_rules | `(tactic| walk_at "Ddl") => `(tactic| ((conv => whnf); (repeat ((first | refine And.intro rfl ?_ | refine And.intro trivial ?_ | refine And.intro ⟨rfl, trivial⟩ ?_ | refine And.intro ⟨rfl, rfl, trivial⟩ ?_ | refine ifb_t ?_ | refine ifb_f ?_ | refine ifb_nr ?_ | refine ifb_er ?_ | refine And.intro (by first | decide | omega | (unfold CMul; omega) | (unfold CDiv; omega) | (unfold CPow; decide) | (exact cpow1 (by omega) (by omega)) | (exact cpow1 (by dsimp only; omega) (by dsimp only; omega)) | (simp only [rngD_len, List.length_replicate, List.length_map, List.length_append, List.length_cons, List.length_nil, List.length_set] at *; omega)) ?_); conv => whnf))))
end DL

namespace DL
open PySem PySem.Spec PyProof.Rows L2
/-! ### bits of ints -/
theorem cpow1 {j : Int} (h0 : 0 ≤ j) (h1 : j ≤ 1000000) : CPow 1 j := ⟨h0, h1, by decide⟩
/-! ### spans of cells -/
local macro_rules | `(tactic| walk_at "Ddl") => `(tactic| ((conv => whnf); (repeat ((first | refine And.intro rfl ?_ | refine And.intro trivial ?_ | refine And.intro ⟨rfl, trivial⟩ ?_ | refine And.intro ⟨rfl, rfl, trivial⟩ ?_ | refine ifb_t ?_ | refine ifb_f ?_ | refine ifb_nr ?_ | refine ifb_er ?_ | refine And.intro (by first | decide | omega | (unfold CMul; omega) | (unfold CDiv; omega) | (unfold CPow; decide) | (exact cpow1 (by omega) (by omega)) | (exact cpow1 (by dsimp only; omega) (by dsimp only; omega)) | (simp only [rngD_len, List.length_replicate, List.length_map, List.length_append, List.length_cons, List.length_nil, List.length_set] at *; omega)) ?_); conv => whnf))))
end DL

set_option maxHeartbeats 400000
namespace DL
open PySem PySem.Spec PyProof.Rows L2
/-! ### drawn pools of words -/
def okL (z : Str) : Bool := !(z.cps.toList.isEmpty) && z.cps.toList.all okC
theorem join_all : ∀ ws : List Str, (∀ w ∈ ws, okL w = true) → (Txt.join (PySem.Str.ofString "") ws).cps.toList.all okC = true ∧ (Txt.join (PySem.Str.ofString "") ws).length = sumL ws := by
  intro ws
  have e : Txt.join (PySem.Str.ofString "") ws = Str.join (PySem.Str.ofString "") ws := PySem.StrLaws.glued_eq_join _ _
  rw [e]
  have h0 : (PySem.Str.ofString "").cps.toList = [] := by decide
  clear e
  induction ws with
  | nil => intro _; exact ⟨rfl, rfl⟩
  | cons c r ih =>
    intro h
    have hc : c.cps.toList.all okC = true := by
      have := h c (by simp)
      unfold okL at this
      rw [Bool.and_eq_true] at this
      exact this.2
    cases r with
    | nil => exact ⟨hc, by show c.length = _; simp [sumL]⟩
    | cons d r =>
      obtain ⟨i1, i2⟩ := ih fun w hw => h w (List.mem_cons_of_mem _ hw)
      have ej : Str.join (PySem.Str.ofString "") (c :: d :: r) = c ++ PySem.Str.ofString "" ++ Str.join (PySem.Str.ofString "") (d :: r) := rfl
      rw [ej]
      rw [len_list] at i2 ⊢
      rw [Str.cps_append, Str.cps_append, Array.toList_append, Array.toList_append, h0, List.append_nil]
      refine ⟨by rw [List.all_append, hc, i1]; rfl, ?_⟩
      rw [List.length_append, i2, ← len_list]
      simp [sumL]
theorem mem_sumL {w : Str} : ∀ {ws : List Str}, w ∈ ws → w.length ≤ sumL ws
  | x :: r, h => by
    simp only [sumL, List.map_cons, List.sum_cons]
    rcases List.mem_cons.mp h with rfl | h
    · omega
    · have := mem_sumL h
      unfold sumL at this
      omega
structure PoolOk (ws : List Str) (m : Int) : Prop where
  len : (ws.length : Int) = m
  ok : ∀ w ∈ ws, okL w = true
  few : sumL ws + 3 ≤ 3 * 2 ^ ws.length
  nd : ws.Nodup
def sp_law_pool : FSpec where
  pre := fun ds => ∃ (ns : List Int) (m : Int), ds = [.lst (ns.map D.int), .int m] ∧ 0 ≤ m ∧ m ≤ 8
  post := fun ds r ds' => ∀ xs m, ds = [.lst xs, .int m] → ∃ (ns : List Int) (ws : List Str), r = .lst (ws.map D.str) ∧ ds' = [.lst (ns.map D.int), .int m] ∧ PoolOk ws m
/-- slots: 0 draws, 1 many, 2 pool, 3 k, 4 letters, 5 word, 6 j -/
def w_law_pool : WS :=
    (cSeq (cAsg 2 [0, 1] 2 (cLst cNil))
    (cSeq (cFor [0, 1] (iR1 (cVar 1)) (gN 2 [0, 1] 3)
      (cSeq (cAsg 2 [0, 1] 4 (cLc [6] (iR1 (cOp fAddG (cC (.int 1)) (cCallN 2 sp_law_take (cCons (cVar 0) (cCons (cC (.int 3)) cNil))))) (gN 2 [] 6) tTrue (cOp fIxS (cC (.str (PySem.Str.ofString "abcdefghijklmnopqrstuvwxyz"))) (cCallN 2 sp_law_take (cCons (cVar 0) (cCons (cC (.int 26)) cNil))))))
        (cSeq (cAsg 2 [0, 1] 5 (cUn (fJoin (PySem.Str.ofString "")) (cVar 4)))
        (cSeq (cIte (cOp (fIn false) (cVar 5) (cVar 2))
          (cAsg 2 [0, 1] 5 (cOp fAddS (cUn (fJoin (PySem.Str.ofString "")) (cVar 2)) (cC (.str (PySem.Str.ofString "z")))))
          cNilS)
        (cEx (cMeth 2 fAppend (cCons (cVar 5) cNil)))))))
    (cRet 2 (cVar 2))))
def w'_law_pool : WS :=
    (cSeq (cAsg 2 [0, 1] 2 (cLst cNil))
    (cSeq (cFor [0, 1] (iR1 (cVar 1)) (gN 2 [0, 1] 3)
      (cSeq (cAsg 2 [0, 1] 4 (cLc [6] (iR1 (cOp fAddG (cC (.int 1)) (cCallN 2 sp_law_take (cCons (cVar 0) (cCons (cC (.int 3)) cNil))))) (gN 2 [] 6) tTrue (cOp fIxS (cC (.str (PySem.Str.ofString "abcdefghijklmnopqrstuvwxyz"))) (cCallN 2 sp_law_take (cCons (cVar 0) (cCons (cC (.int 26)) cNil))))))
        (cCut (cAsg 2 [0, 1] 5 (cUn (fJoin (PySem.Str.ofString "")) (cVar 4)))
        (cCut (cIte (cOp (fIn false) (cVar 5) (cVar 2))
          (cAsg 2 [0, 1] 5 (cOp fAddS (cUn (fJoin (PySem.Str.ofString "")) (cVar 2)) (cC (.str (PySem.Str.ofString "z")))))
          cNilS)
        (cEx (cMeth 2 fAppend (cCons (cVar 5) cNil)))))))
    (cRet 2 (cVar 2))))
theorem w'_law_pool_eq : w_law_pool = w'_law_pool := by
  unfold w'_law_pool
  simp only [cCut_eq]
  rfl
local macro_rules | `(tactic| walk_at "Ddl") => `(tactic| ((conv => whnf); (repeat ((first | refine And.intro rfl ?_ | refine And.intro trivial ?_ | refine And.intro ⟨rfl, trivial⟩ ?_ | refine And.intro ⟨rfl, rfl, trivial⟩ ?_ | refine ifb_t ?_ | refine ifb_f ?_ | refine ifb_nr ?_ | refine ifb_er ?_ | refine And.intro (by first | decide | omega | (unfold CMul; omega) | (unfold CDiv; omega) | (unfold CPow; decide) | (exact cpow1 (by omega) (by omega)) | (exact cpow1 (by dsimp only; omega) (by dsimp only; omega)) | (simp only [rngD_len, List.length_replicate, List.length_map, List.length_append, List.length_cons, List.length_nil, List.length_set] at *; omega)) ?_); conv => whnf))))
theorem pure_law_pool : ∀ ds, ds.length = 2 → sp_law_pool.pre ds → w_law_pool (env0 ds 5) { nx := fun e => sp_law_pool.post ds .non (outs e 2), rt := fun d e => sp_law_pool.post ds d (outs e 2) } := by
  rintro ds _ ⟨ns, m, rfl, hm0, hm1⟩
  rw [w'_law_pool_eq]
  walk_at "Ddl"
  refine loop_rng (fun j e => ∃ (ks : List Int) (ws : List Str) (o3 o4 o5 : Option D), PoolOk ws j ∧ e = [some (.lst (ks.map D.int)), some (.int m), some (.lst (ws.map D.str)), o3, o4, o5, none]) ⟨ns, [], none, none, none, ⟨rfl, by simp, by simp [sumL], by simp⟩, rfl⟩ ?_ ?_
  · rintro j env nxt hj0 hj1 ⟨ks, ws, o3, o4, o5, hp, rfl⟩ hx
    walk_at "Ddl"
    refine ⟨⟨⟨_, rfl⟩, by decide⟩, ?_⟩
    rintro _ _ ⟨ks1, v1, rfl, rfl, h1, h1'⟩
    walk_at "Ddl"
    refine loop_lc (fun ys acc e => ∃ (ks : List Int) (ls : List Nat) (i : Int) (n : Nat), (ys = rngD i n ∧ acc = (ls.map fun c => (⟨#[c]⟩ : Str)).map D.str ∧ ls.length + n = (1 + v1).toNat ∧ ls.all okC = true) ∧ e = [some (.lst (ks.map D.int)), some (.int m), some (.lst (ws.map D.str)), some (.int j), o4, o5, none]) ⟨ks1, [], 0, (1 + v1).toNat, ⟨rfl, rfl, by simp, rfl⟩, rfl⟩ ?_ ?_
    · rintro x r acc env nxt2 ⟨ks, ls, i, n, ⟨h4, rfl, h6, h7⟩, rfl⟩ hx2
      cases n with
      | zero => simp [rngD] at h4
      | succ n =>
        simp only [rngD, List.cons.injEq] at h4
        obtain ⟨rfl, rfl⟩ := h4
        walk_at "Ddl"
        refine ⟨⟨⟨_, rfl⟩, by decide⟩, ?_⟩
        rintro _ _ ⟨ks2, v2, rfl, rfl, h2, h2'⟩
        obtain ⟨c, e, hc⟩ := alpha_ok h2 h2'
        walk_at "Ddl"
        rw [show L2.atI (Str.ofString "abcdefghijklmnopqrstuvwxyz").cps.toList v2 = some c from e]
        walk_at "Ddl"
        exact hx2 _ _ ⟨ks2, ls ++ [c], i + 1, n, ⟨rfl, by rw [List.map_append, List.map_append]; rfl, by simp only [List.length_append, List.length_cons, List.length_nil]; omega, by rw [List.all_append, h7]; simp [hc]⟩, rfl⟩
    rintro acc env ⟨ks5, ls, i, n, ⟨h4, rfl, h6, h7⟩, rfl⟩
    have hn0 : n = 0 := by
      cases n with
      | zero => rfl
      | succ n => simp [rngD] at h4
    subst hn0
    walk_at "Ddl"
    rw [strsD_map]
    have hz : (Str.ofString "").length = 0 := by decide
    refine ⟨by rw [hz, Nat.mul_zero]; have := sumL_ones ls; unfold sumL at this; omega, ?_⟩
    have ej := join_ones ls
    generalize Txt.join (Str.ofString "") (ls.map fun c => (⟨#[c]⟩ : Str)) = wd at *
    have hwd : okL wd = true := by
      unfold okL
      rw [ej, h7]
      cases ls with
      | nil => simp at h6; omega
      | cons _ _ => rfl
    have hwl : wd.length ≤ 3 := by rw [len_list, ej]; omega
    have hwl0 : ws.length ≤ 7 := by have := hp.len; omega
    have hpow : 3 * 2 ^ ws.length ≤ 3 * 2 ^ 7 := Nat.mul_le_mul_left 3 (Nat.pow_le_pow_right (by decide) hwl0)
    have hfew := hp.few
    walk_at "Ddl"
    refine cutW' (fun e => ∃ (w : Str), (okL w = true ∧ w.length ≤ sumL ws + 3 ∧ w ∉ ws) ∧ e = [some (.lst (ks5.map D.int)), some (.int m), some (.lst (ws.map D.str)), some (.int j), some (.lst ((ls.map fun c => (⟨#[c]⟩ : Str)).map D.str)), some (.str w), none]) (fun nx hn2 => ?_) ?_
    · walk_at "Ddl"
      refine ⟨flatA_str ws, ?_⟩
      rw [any_str]
      by_cases g : wd ∈ ws
      · rw [decide_eq_true g]
        walk_at "Ddl"
        rw [strsD_map]
        obtain ⟨j1, j2⟩ := join_all ws hp.ok
        refine ⟨by rw [hz, Nat.mul_zero]; unfold sumL at hfew; omega, ?_⟩
        have hz1 : (Str.ofString "z").length = 1 := by decide
        refine ⟨by rw [j2, hz1]; omega, ?_⟩
        walk_at "Ddl"
        refine hn2 _ ⟨Txt.join (Str.ofString "") ws ++ Str.ofString "z", ⟨?_, ?_, fun hm => ?_⟩, rfl⟩
        · unfold okL
          rw [Str.cps_append, Array.toList_append, List.all_append, j1, Bool.true_and]
          have : (Str.ofString "z").cps.toList = [122] := by decide
          rw [this]
          cases (Txt.join (Str.ofString "") ws).cps.toList <;> rfl
        · rw [len_list, Str.cps_append, Array.toList_append, List.length_append, ← len_list, ← len_list, j2, hz1]; omega
        · have := mem_sumL hm
          rw [len_list, Str.cps_append, Array.toList_append, List.length_append, ← len_list, ← len_list, j2, hz1] at this
          omega
      · rw [decide_eq_false g]
        walk_at "Ddl"
        exact hn2 _ ⟨wd, ⟨hwd, by omega, g⟩, rfl⟩
    rintro _ ⟨w, ⟨a1, a2, a3⟩, rfl⟩
    walk_at "Ddl"
    refine hx _ ⟨ks5, ws ++ [w], _, _, _, ⟨?_, fun x hx' => ?_, ?_, ?_⟩, by rw [List.map_append]; rfl⟩
    · have := hp.len
      simp only [List.length_append, List.length_cons, List.length_nil]; omega
    · rcases List.mem_append.mp hx' with q | q
      · exact hp.ok x q
      · rw [List.mem_singleton.mp q]; exact a1
    · rw [sumL_snoc, List.length_append, List.length_cons, List.length_nil, Nat.zero_add, Nat.pow_succ]
      omega
    · rw [List.nodup_append]
      refine ⟨hp.nd, by simp, fun a ha b hb => ?_⟩
      rw [List.mem_singleton.mp hb]
      exact fun q => a3 (q ▸ ha)
  · rintro env ⟨ks, ws, o3, o4, o5, hp, rfl⟩
    walk_at "Ddl"
    intro xs m' e
    simp only [List.cons.injEq, and_true, D.lst.injEq, D.int.injEq] at e
    obtain ⟨_, rfl⟩ := e
    refine ⟨ks, ws, rfl, rfl, ?_⟩
    have : (0 : Int) + (m.toNat : Int) = m := by omega
    rw [this] at hp
    exact hp
end DL

set_option maxHeartbeats 1000000
namespace DL
open PySem PySem.Spec PyProof.Rows L2
/-! ### drawn worlds -/
def sp_law_small_cycle : FSpec where
  pre := fun ds => ∃ ns : List Int, ds = [.lst (ns.map D.int)]
  post := fun ds r ds' => ∃ (ns : List Int) (c : Int), r = .int c ∧ ds' = [.lst (ns.map D.int)] ∧ 1 ≤ c ∧ c ≤ 12
/-- slots: 0 draws -/
def w_law_small_cycle : WS :=
    (cSeq (cIte (cOp fEqS (cCallN 2 sp_law_take (cCons (cVar 0) (cCons (cC (.int 9)) cNil))) (cC (.int 0)))
      (cRet 1 (cOp fAddG (cC (.int 7)) (cCallN 2 sp_law_take (cCons (cVar 0) (cCons (cC (.int 6)) cNil)))))
      cNilS)
    (cRet 1 (cOp fAddG (cC (.int 1)) (cCallN 2 sp_law_take (cCons (cVar 0) (cCons (cC (.int 6)) cNil))))))
local macro_rules | `(tactic| walk_at "Ddlx") => `(tactic| ((conv => whnf); (repeat ((first | ((with_reducible refine And.intro (stOk_nl ?_ ?_) ?_); (focus (with_reducible first | assumption | exact encQ_nl _ | exact encO_nl _ | exact encC_nl _)); (focus exact rfl)) | ((refine pick_nl ?_ ?_); (focus (with_reducible first | assumption | exact encQ_nl _ | exact encO_nl _ | exact encC_nl _))) | ((with_reducible refine And.intro ?_ ?_); (focus (with_reducible first | assumption | exact encQ_nl _ | exact encO_nl _ | exact encC_nl _))) | ((with_reducible refine And.intro (immA_c ?_ ?_) ?_); (focus (first | (with_reducible first | assumption | exact encQ_nl _ | exact encO_nl _ | exact encC_nl _) | exact rfl)); (focus ((repeat ((with_reducible refine immA_c ?_ ?_); (focus (first | (with_reducible first | assumption | exact encQ_nl _ | exact encO_nl _ | exact encC_nl _) | exact rfl)))); exact rfl))) | refine And.intro rfl ?_ | refine And.intro trivial ?_ | refine And.intro ⟨rfl, trivial⟩ ?_ | refine And.intro ⟨rfl, rfl, trivial⟩ ?_ | refine ifb_nq (by first | assumption | decide) ?_ | refine ifb_pq (by assumption) ?_ | refine ifb_er ?_ | refine ifb_t ?_ | refine ifb_f ?_ | refine ifb_nr ?_ | refine ifb_er ?_ | ((with_reducible refine And.intro (?_ : (_ : Nat) ≤ _) ?_); (focus (first | decide | omega | (unfold CMul; omega) | (unfold CDiv; omega) | (unfold CPow; decide) | (exact cpow1 (by omega) (by omega)) | (simp only [rngD_len, List.length_replicate, List.length_map, List.length_append, List.length_cons, List.length_nil, List.length_set] at *; omega)))) | ((with_reducible refine And.intro (?_ : (_ : Int) ≤ _) ?_); (focus (first | decide | omega | (unfold CMul; omega) | (unfold CDiv; omega) | (unfold CPow; decide) | (exact cpow1 (by omega) (by omega)) | (simp only [rngD_len, List.length_replicate, List.length_map, List.length_append, List.length_cons, List.length_nil, List.length_set] at *; omega)))) | ((with_reducible refine And.intro (?_ : (_ : Nat) < _) ?_); (focus (first | decide | omega | (unfold CMul; omega) | (unfold CDiv; omega) | (unfold CPow; decide) | (exact cpow1 (by omega) (by omega)) | (simp only [rngD_len, List.length_replicate, List.length_map, List.length_append, List.length_cons, List.length_nil, List.length_set] at *; omega)))) | ((with_reducible refine And.intro (?_ : (_ : Int) < _) ?_); (focus (first | decide | omega | (unfold CMul; omega) | (unfold CDiv; omega) | (unfold CPow; decide) | (exact cpow1 (by omega) (by omega)) | (simp only [rngD_len, List.length_replicate, List.length_map, List.length_append, List.length_cons, List.length_nil, List.length_set] at *; omega)))) | ((with_reducible refine And.intro (?_ : CMul _ _) ?_); (focus (first | decide | omega | (unfold CMul; omega) | (unfold CDiv; omega) | (unfold CPow; decide) | (exact cpow1 (by omega) (by omega)) | (simp only [rngD_len, List.length_replicate, List.length_map, List.length_append, List.length_cons, List.length_nil, List.length_set] at *; omega)))) | ((with_reducible refine And.intro (?_ : CDiv _ _) ?_); (focus (first | decide | omega | (unfold CMul; omega) | (unfold CDiv; omega) | (unfold CPow; decide) | (exact cpow1 (by omega) (by omega)) | (simp only [rngD_len, List.length_replicate, List.length_map, List.length_append, List.length_cons, List.length_nil, List.length_set] at *; omega)))) | ((with_reducible refine And.intro (?_ : CPow _ _) ?_); (focus (first | decide | omega | (unfold CMul; omega) | (unfold CDiv; omega) | (unfold CPow; decide) | (exact cpow1 (by omega) (by omega)) | (simp only [rngD_len, List.length_replicate, List.length_map, List.length_append, List.length_cons, List.length_nil, List.length_set] at *; omega)))) | ((with_reducible refine And.intro (?_ : (_ : Nat) = _) ?_); (focus (first | decide | omega | (unfold CMul; omega) | (unfold CDiv; omega) | (unfold CPow; decide) | (exact cpow1 (by omega) (by omega)) | (simp only [rngD_len, List.length_replicate, List.length_map, List.length_append, List.length_cons, List.length_nil, List.length_set] at *; omega))))); (conv => whnf); (try dsimp only [List.set_cons_zero, List.set_cons_succ, upA, wipeE, back, List.getElem?_cons_zero, List.getElem?_cons_succ, Option.getD_some]))); (try dsimp only [List.set_cons_zero, List.set_cons_succ, upA, wipeE, back, List.getElem?_cons_zero, List.getElem?_cons_succ, Option.getD_some])))
local macro_rules | `(tactic| walk_at "Ddlq") => `(tactic| ((conv => whnf); (repeat ((first | refine And.intro rfl ?_ | refine And.intro trivial ?_ | refine And.intro ⟨rfl, trivial⟩ ?_ | refine And.intro ⟨rfl, rfl, trivial⟩ ?_ | refine ifb_nq (by decide) ?_ | refine ifb_er ?_ | refine ifb_t ?_ | refine ifb_f ?_ | refine ifb_nr ?_ | refine ifb_er ?_ | refine And.intro (by first | decide | omega | (unfold CMul; omega) | (unfold CDiv; omega) | (unfold CPow; decide) | (exact cpow1 (by omega) (by omega)) | (exact cpow1 (by dsimp only; omega) (by dsimp only; omega)) | (simp only [rngD_len, List.length_replicate, List.length_map, List.length_append, List.length_cons, List.length_nil, List.length_set] at *; omega)) ?_); conv => whnf))))
theorem pure_law_small_cycle : ∀ ds, ds.length = 1 → sp_law_small_cycle.pre ds → w_law_small_cycle (env0 ds 0) { nx := fun e => sp_law_small_cycle.post ds .non (outs e 1), rt := fun d e => sp_law_small_cycle.post ds d (outs e 1) } := by
  rintro ds _ ⟨ns, rfl⟩
  walk_at "Ddlx"
  refine ⟨⟨⟨_, rfl⟩, by decide⟩, ?_⟩
  rintro _ _ ⟨n1, a, rfl, rfl, a0, a1⟩
  walk_at "Ddlx"
  refine ifb_dec (fun g => ?_) (fun g => ?_)
  · walk_at "Ddlx"
    refine ⟨⟨⟨_, rfl⟩, by decide⟩, ?_⟩
    rintro _ _ ⟨n2, b, rfl, rfl, b0, b1⟩
    walk_at "Ddlx"
    exact ⟨n2, _, rfl, rfl, by omega, by omega⟩
  · walk_at "Ddlx"
    refine ⟨⟨⟨_, rfl⟩, by decide⟩, ?_⟩
    rintro _ _ ⟨n2, b, rfl, rfl, b0, b1⟩
    walk_at "Ddlx"
    exact ⟨n2, _, rfl, rfl, by omega, by omega⟩
def leavesQ : Qn → List Qn
  | .fact n ts => [.fact n ts]
  | .two _ p q => leavesQ p ++ leavesQ q
  | .only _ p => leavesQ p
  | .whr _ _ _ p => leavesQ p
  | .shift _ p => leavesQ p
  | .look _ _ p => leavesQ p
  | .count _ _ p => leavesQ p
  | .total _ _ _ _ p => leavesQ p
  | .link _ _ _ p => leavesQ p
theorem pow_s (a : Nat) : 2 ^ (a + 1) = 2 * 2 ^ a := by rw [Nat.pow_succ, Nat.mul_comm]
theorem lv_one {a b : Nat} (h : a ≤ 2 ^ b) : a ≤ 2 ^ (b + 1) := by rw [pow_s]; omega
theorem leaves_few : ∀ q : Qn, (leavesQ q).length ≤ 2 ^ dpQ q
  | .fact n ts => by simp [leavesQ, dpQ]
  | .two k p q => by
    have h1 := leaves_few p
    have h2 := leaves_few q
    have m1 : 2 ^ dpQ p ≤ 2 ^ max (dpQ p) (dpQ q) := Nat.pow_le_pow_right (by decide) (Nat.le_max_left _ _)
    have m2 : 2 ^ dpQ q ≤ 2 ^ max (dpQ p) (dpQ q) := Nat.pow_le_pow_right (by decide) (Nat.le_max_right _ _)
    simp only [leavesQ, dpQ, List.length_append]
    rw [pow_s]
    omega
  | .only _ p => lv_one (leaves_few p)
  | .whr _ _ _ p => lv_one (leaves_few p)
  | .shift _ p => lv_one (leaves_few p)
  | .look _ _ p => lv_one (leaves_few p)
  | .count _ _ p => lv_one (leaves_few p)
  | .total _ _ _ _ p => lv_one (leaves_few p)
  | .link _ _ _ p => lv_one (leaves_few p)
theorem leaves_few2 {q : Qn} (h : dpQ q ≤ 12) : (leavesQ q).length ≤ 4096 := Nat.le_trans (leaves_few q) (Nat.le_trans (Nat.pow_le_pow_right (by decide) h) (by decide))
def spn_law_leaves : Nat → FSpec
  | 0 => ⟨fun _ => False, fun _ _ _ => False⟩
  | n + 1 => ⟨fun ds => ∃ q : Qn, ds = [encQ q] ∧ dpQ q ≤ n + 1 ∧ dpQ q ≤ 12, fun ds r ds' => ds' = ds ∧ ∀ q : Qn, ds = [encQ q] → r = .lst ((leavesQ q).map encQ)⟩
abbrev sp_law_leaves := spn_law_leaves 16
theorem lv_post {q : Qn} {r : D} (h : r = .lst ((leavesQ q).map encQ)) : ∀ q' : Qn, [encQ q] = [encQ q'] → r = .lst ((leavesQ q').map encQ) := by
  intro q' e
  simp only [List.cons.injEq, and_true] at e
  cases encQ_inj e
  exact h
theorem ra_pair (q : Qn) : sp_law_is_pair.pre [.str (kd q)] ∧ ∀ r ds', sp_law_is_pair.post [.str (kd q)] r ds' → ds' = [.str (kd q)] ∧ r = .bl (decide (ix q = 1)) := ⟨⟨q, rfl⟩, fun r ds' h => ⟨h.1, h.2 q rfl⟩⟩
/-- slots: 0 question -/
def w_law_leaves (n : Nat) : WS :=
    (cSeq (cIte (cOp fEqS (cOp fIx (cVar 0) (cC (.int 0))) (cC (.str (PySem.Str.ofString "fact"))))
      (cRet 1 (cLst (cCons (cVar 0) cNil)))
      cNilS)
    (cSeq (cIte (cCallN 1 sp_law_is_pair (cCons (cOp fIx (cVar 0) (cC (.int 0))) cNil))
      (cRet 1 (cOp fAddG (cCallN 1 (spn_law_leaves n) (cCons (cOp fIx (cVar 0) (cC (.int 1))) cNil)) (cCallN 1 (spn_law_leaves n) (cCons (cOp fIx (cVar 0) (cC (.int 2))) cNil))))
      cNilS)
    (cRet 1 (cCallN 1 (spn_law_leaves n) (cCons (cOp fIx (cVar 0) (cOp fSub (cBi fLen (cCons (cVar 0) cNil)) (cC (.int 1)))) cNil)))))
theorem pure_law_leaves : ∀ n, ∀ ds, ds.length = 1 → (spn_law_leaves (n + 1)).pre ds → w_law_leaves n (env0 ds 0) { nx := fun e => (spn_law_leaves (n + 1)).post ds .non (outs e 1), rt := fun d e => (spn_law_leaves (n + 1)).post ds d (outs e 1) } := by
  rintro n ds _ ⟨q, rfl, hd, h12⟩
  have post := fun {r : D} h => lv_post (q := q) (r := r) h
  have call : ∀ {p : Qn}, p ∈ partsQ q → (spn_law_leaves n).pre [encQ p] ∧ ∀ r ds', (spn_law_leaves n).post [encQ p] r ds' → ds' = [encQ p] ∧ r = .lst ((leavesQ p).map encQ) := fun {p} hp => by
    have h1 := dpQ_part hp
    have h2 := dpQ_pos p
    cases n with
    | zero => omega
    | succ n => exact ⟨⟨p, rfl, by omega, by omega⟩, fun r ds' h => ⟨h.1, h.2 p rfl⟩⟩
  have hf := kd_notfact q
  have cp := ra_pair q
  cases q with
  | fact nm ts =>
    walk_at "Ddlq"
    exact post rfl
  | two k x y =>
    obtain ⟨a1, a2⟩ := call (p := x) (by simp [partsQ])
    obtain ⟨b1, b2⟩ := call (p := y) (by simp [partsQ])
    have hx := leaves_few2 (q := x) (by have := dpQ_part (q := .two k x y) (p := x) (by simp [partsQ]); omega)
    have hy := leaves_few2 (q := y) (by have := dpQ_part (q := .two k x y) (p := y) (by simp [partsQ]); omega)
    obtain ⟨tx, ex⟩ := encQ_tup x
    obtain ⟨ty, ey⟩ := encQ_tup y
    simp only [encQ, kd, ex, ey] at post hf cp a1 a2 b1 b2 ⊢
    walk_at "Ddlq"
    try refine ifb_nq (hf (by show (_ : Nat) ≠ 0; simp [ix])) ?_
    try walk_at "Ddlq"
    try refine ⟨cp.1, ?_⟩
    intro r ds' hp
    obtain ⟨rfl, rfl⟩ := cp.2 r ds' hp
    walk_at "Ddlq"
    try refine ⟨a1, ?_⟩
    intro r ds' hp
    obtain ⟨rfl, rfl⟩ := a2 r ds' hp
    walk_at "Ddlq"
    try refine ⟨b1, ?_⟩
    intro r ds' hp
    obtain ⟨rfl, rfl⟩ := b2 r ds' hp
    have few : (List.map encQ (leavesQ x)).length + (List.map encQ (leavesQ y)).length ≤ 1000000 := by rw [List.length_map, List.length_map]; omega
    walk_at "Ddlq"
    refine post ?_
    show D.lst _ = D.lst (List.map encQ (leavesQ x ++ leavesQ y))
    rw [List.map_append]
  | only cs x =>
    obtain ⟨a1, a2⟩ := call (p := x) (by simp [partsQ])
    obtain ⟨tx, ex⟩ := encQ_tup x
    simp only [encQ, encC, kd, ex] at post hf cp a1 a2 ⊢
    walk_at "Ddlq"
    try refine ifb_nq (hf (by show (_ : Nat) ≠ 0; simp [ix])) ?_
    try walk_at "Ddlq"
    try refine ⟨cp.1, ?_⟩
    intro r ds' hp
    obtain ⟨rfl, rfl⟩ := cp.2 r ds' hp
    walk_at "Ddlq"
    try refine ⟨a1, ?_⟩
    intro r ds' hp
    obtain ⟨rfl, rfl⟩ := a2 r ds' hp
    walk_at "Ddlq"
    exact post rfl
  | whr t l r x =>
    obtain ⟨a1, a2⟩ := call (p := x) (by simp [partsQ])
    obtain ⟨tx, ex⟩ := encQ_tup x
    simp only [encQ, encC, kd, ex] at post hf cp a1 a2 ⊢
    walk_at "Ddlq"
    try refine ifb_nq (hf (by show (_ : Nat) ≠ 0; simp [ix])) ?_
    try walk_at "Ddlq"
    try refine ⟨cp.1, ?_⟩
    intro r ds' hp
    obtain ⟨rfl, rfl⟩ := cp.2 r ds' hp
    walk_at "Ddlq"
    try refine ⟨a1, ?_⟩
    intro r ds' hp
    obtain ⟨rfl, rfl⟩ := a2 r ds' hp
    walk_at "Ddlq"
    exact post rfl
  | shift z x =>
    obtain ⟨a1, a2⟩ := call (p := x) (by simp [partsQ])
    obtain ⟨tx, ex⟩ := encQ_tup x
    simp only [encQ, encC, kd, ex] at post hf cp a1 a2 ⊢
    walk_at "Ddlq"
    try refine ifb_nq (hf (by show (_ : Nat) ≠ 0; simp [ix])) ?_
    try walk_at "Ddlq"
    try refine ⟨cp.1, ?_⟩
    intro r ds' hp
    obtain ⟨rfl, rfl⟩ := cp.2 r ds' hp
    walk_at "Ddlq"
    try refine ⟨a1, ?_⟩
    intro r ds' hp
    obtain ⟨rfl, rfl⟩ := a2 r ds' hp
    walk_at "Ddlq"
    exact post rfl
  | look k w x =>
    obtain ⟨a1, a2⟩ := call (p := x) (by simp [partsQ])
    obtain ⟨tx, ex⟩ := encQ_tup x
    simp only [encQ, encC, kd, ex] at post hf cp a1 a2 ⊢
    walk_at "Ddlq"
    try refine ifb_nq (hf (by show (_ : Nat) ≠ 0; simp [ix])) ?_
    try walk_at "Ddlq"
    try refine ⟨cp.1, ?_⟩
    intro r ds' hp
    obtain ⟨rfl, rfl⟩ := cp.2 r ds' hp
    walk_at "Ddlq"
    try refine ⟨a1, ?_⟩
    intro r ds' hp
    obtain ⟨rfl, rfl⟩ := a2 r ds' hp
    walk_at "Ddlq"
    exact post rfl
  | count nw ks x =>
    obtain ⟨a1, a2⟩ := call (p := x) (by simp [partsQ])
    obtain ⟨tx, ex⟩ := encQ_tup x
    simp only [encQ, encC, kd, ex] at post hf cp a1 a2 ⊢
    walk_at "Ddlq"
    try refine ifb_nq (hf (by show (_ : Nat) ≠ 0; simp [ix])) ?_
    try walk_at "Ddlq"
    try refine ⟨cp.1, ?_⟩
    intro r ds' hp
    obtain ⟨rfl, rfl⟩ := cp.2 r ds' hp
    walk_at "Ddlq"
    try refine ⟨a1, ?_⟩
    intro r ds' hp
    obtain ⟨rfl, rfl⟩ := a2 r ds' hp
    walk_at "Ddlq"
    exact post rfl
  | total k nw cl ks x =>
    obtain ⟨a1, a2⟩ := call (p := x) (by simp [partsQ])
    obtain ⟨tx, ex⟩ := encQ_tup x
    simp only [encQ, encC, kd, ex] at post hf cp a1 a2 ⊢
    walk_at "Ddlq"
    try refine ifb_nq (hf (by show (_ : Nat) ≠ 0; simp [ix])) ?_
    try walk_at "Ddlq"
    try refine ⟨cp.1, ?_⟩
    intro r ds' hp
    obtain ⟨rfl, rfl⟩ := cp.2 r ds' hp
    walk_at "Ddlq"
    try refine ⟨a1, ?_⟩
    intro r ds' hp
    obtain ⟨rfl, rfl⟩ := a2 r ds' hp
    walk_at "Ddlq"
    exact post rfl
  | link k a b x =>
    obtain ⟨a1, a2⟩ := call (p := x) (by simp [partsQ])
    obtain ⟨tx, ex⟩ := encQ_tup x
    simp only [encQ, encC, kd, ex] at post hf cp a1 a2 ⊢
    walk_at "Ddlq"
    try refine ifb_nq (hf (by show (_ : Nat) ≠ 0; simp [ix])) ?_
    try walk_at "Ddlq"
    try refine ⟨cp.1, ?_⟩
    intro r ds' hp
    obtain ⟨rfl, rfl⟩ := cp.2 r ds' hp
    walk_at "Ddlq"
    try refine ⟨a1, ?_⟩
    intro r ds' hp
    obtain ⟨rfl, rfl⟩ := a2 r ds' hp
    walk_at "Ddlq"
    exact post rfl
structure Wd where
  c : Int
  ns : List Str
  cs : List Str
  vs : List Vv
  lv : List Qn
def encWd (w : Wd) : D := .lst [.int w.c, .rol (w.ns.map D.str), .rol (w.cs.map D.str), .rol (w.vs.map encV), .rol (w.lv.map encQ)]
structure WdOk (w : Wd) : Prop where
  c1 : 1 ≤ w.c
  c2 : w.c ≤ 12
  n2 : w.ns.length = 2
  nw : ∀ z ∈ w.ns, isW z = true
  p : PlOk w.cs
  so : SC w.cs
  v3 : w.vs.length = 3
  vv : ∀ v ∈ w.vs, okV v
theorem isW_of {z : Str} (h : okL z = true) (hl : z.length ≤ 100) : isW z = true := by
  unfold okL at h
  unfold isW
  rw [h, Bool.true_and, decide_eq_true_eq]
  have : z.length = z.cps.toList.length := by simp [PySem.Str.length]
  omega
def sp_law_world : FSpec where
  pre := fun ds => ∃ ns : List Int, ds = [.lst (ns.map D.int)]
  post := fun ds r ds' => ∃ (ns : List Int) (w : Wd), r = encWd w ∧ ds' = [.lst (ns.map D.int)] ∧ WdOk w ∧ w.lv = []
/-- slots: 0 draws, 1 cycle, 2 pool -/
def w_law_world : WS :=
    (cSeq (cAsg 1 [0] 1 (cCallN 1 sp_law_small_cycle (cCons (cVar 0) cNil)))
    (cSeq (cAsg 1 [0] 2 (cCallN 2 sp_law_pool (cCons (cVar 0) (cCons (cC (.int 5)) cNil))))
    (cRet 1 (cLst (cCons (cVar 1) (cCons (cFz (cSlH (cVar 2) (cC (.int 2)))) (cCons (cFz (cBi fSortS (cCons (cSlL (cVar 2) (cC (.int 2))) cNil))) (cCons (cFz (cCallN 2 sp_law_values (cCons (cVar 0) (cCons (cVar 2) cNil)))) (cCons (cFz (cLst cNil)) cNil)))))))))
theorem pure_law_world : ∀ ds, ds.length = 1 → sp_law_world.pre ds → w_law_world (env0 ds 2) { nx := fun e => sp_law_world.post ds .non (outs e 1), rt := fun d e => sp_law_world.post ds d (outs e 1) } := by
  rintro ds _ ⟨ns, rfl⟩
  walk_at "Ddlx"
  refine ⟨⟨_, rfl⟩, ?_⟩
  rintro _ _ ⟨n1, c, rfl, rfl, c1, c2⟩
  walk_at "Ddlx"
  refine ⟨⟨_, _, rfl, by decide, by decide⟩, ?_⟩
  intro r ds' hp
  obtain ⟨n2, ws, rfl, rfl, P⟩ := hp _ _ rfl
  have hW : ∀ z ∈ ws, isW z = true := fun z hz => isW_of (P.ok z hz) (by
    have h1 := mem_sumL hz
    have h2 := P.few
    have h3 : ws.length = 5 := by have := P.len; omega
    rw [h3] at h2
    omega)
  obtain ⟨a, b, x, y, z, rfl⟩ : ∃ a b x y z, ws = [a, b, x, y, z] := by
    have h3 : ws.length = 5 := by have := P.len; omega
    match ws, h3 with
    | [a, b, x, y, z], _ => exact ⟨a, b, x, y, z, rfl⟩
  have nd := P.nd
  have nd3 : [x, y, z].Nodup := (List.nodup_append.mp (show ([a, b] ++ [x, y, z]).Nodup from nd)).2.1
  walk_at "Ddlx"
  refine fun ms pm so => ?_
  walk_at "Ddlx"
  refine ⟨⟨n2, [a, b, x, y, z], rfl, by simp, hW⟩, ?_⟩
  intro r ds' hp
  obtain ⟨n3, vs, rfl, rfl, v3, vv⟩ := hp _ _ rfl
  walk_at "Ddlx"
  refine ⟨n3, ⟨c, [a, b], ms, vs, []⟩, rfl, rfl, ⟨c1, c2, rfl, fun q hq => hW q (List.mem_append_left [x, y, z] (show q ∈ [a, b] from hq)), ⟨?_, ?_, ?_⟩, ?_, v3, vv⟩, rfl⟩
  · rw [pm.length_eq]; rfl
  · exact pm.nodup_iff.mpr nd3
  · intro w hw
    have := pm.mem_iff.mp hw
    exact hW w (List.mem_append_right [a, b] this)
  · exact SC_perm so pm nd3
def sp_law_asked : FSpec where
  pre := fun ds => ∃ (ns : List Int) (w : Wd) (d : Int), ds = [.lst (ns.map D.int), encWd w, .int d] ∧ WdOk w ∧ w.lv.length ≤ 100000 ∧ 0 ≤ d ∧ d ≤ 3
  post := fun ds r ds' => ∀ (l : D) (w : Wd) (d : Int), ds = [l, encWd w, .int d] → ∃ (ns : List Int) (q : Qn), r = encQ q ∧ ds' = [.lst (ns.map D.int), encWd { w with lv := w.lv ++ leavesQ q }, .int d] ∧ okQ q ∧ (dpQ q : Int) ≤ 2 * d + 1 ∧ (colsQ q).length ≤ 2
theorem encWd_inj {a b : Wd} (h : encWd a = encWd b) : a = b := by
  simp only [encWd, D.lst.injEq, List.cons.injEq, D.int.injEq, D.rol.injEq, and_true] at h
  obtain ⟨h1, h2, h3, h4, h5⟩ := h
  cases a; cases b
  simp only [Wd.mk.injEq]
  exact ⟨h1, mapS_inj h2, mapS_inj h3, mapV_inj h4, (List.map_inj_right fun _ _ h => encQ_inj h).mp h5⟩
theorem as_post {l0 : D} {w : Wd} {d : Int} {ks : List Int} {r : D} {q : Qn} (e : r = encQ q) (h : okQ q ∧ (dpQ q : Int) ≤ 2 * d + 1 ∧ (colsQ q).length ≤ 2) : ∀ (l : D) (w' : Wd) (d' : Int), [l0, encWd w, .int d] = [l, encWd w', .int d'] →
    ∃ (ns : List Int) (q : Qn), r = encQ q ∧ [D.lst (ks.map D.int), encWd { w with lv := w.lv ++ leavesQ q }, .int d] = [.lst (ns.map D.int), encWd { w' with lv := w'.lv ++ leavesQ q }, .int d'] ∧ okQ q ∧ (dpQ q : Int) ≤ 2 * d' + 1 ∧ (colsQ q).length ≤ 2 := by
  intro l w' d' e'
  simp only [List.cons.injEq, and_true, D.int.injEq] at e'
  cases encWd_inj e'.2.1
  cases e'.2.2
  exact ⟨ks, q, e, rfl, h⟩
/-- slots: 0 draws, 1 world, 2 depth, 3 columns, 4 many, 5 question -/
def w_law_asked : WS :=
    (cSeq (cAsg 3 [0, 1, 2] 3 (cLst (cCons (cOp fIx (cOp fIx (cVar 1) (cC (.int 2))) (cC (.int 0))) (cCons (cOp fIx (cOp fIx (cVar 1) (cC (.int 2))) (cC (.int 1))) cNil))))
    (cSeq (cAsg 3 [0, 1, 2] 4 (cOp fIx (cLst (cCons (cC (.int 2)) (cCons (cC (.int 1)) (cCons (cC (.int 2)) (cCons (cC (.int 1)) (cCons (cC (.int 0)) (cCons (cC (.int 2)) cNil))))))) (cCallN 2 sp_law_take (cCons (cVar 0) (cCons (cC (.int 6)) cNil)))))
    (cSeq (cIte (cOp fEqS (cCallN 2 sp_law_take (cCons (cVar 0) (cCons (cC (.int 2)) cNil))) (cC (.int 0)))
      (cAsg 3 [0, 1, 2] 3 (cLst (cCons (cOp fIx (cOp fIx (cVar 1) (cC (.int 2))) (cC (.int 1))) (cCons (cOp fIx (cOp fIx (cVar 1) (cC (.int 2))) (cC (.int 2))) cNil))))
      cNilS)
    (cSeq (cAsg 3 [0, 1, 2] 5 (cCallN 6 sp_law_question (cCons (cVar 0) (cCons (cOp fIx (cVar 1) (cC (.int 1))) (cCons (cBi fTuple (cCons (cSlH (cVar 3) (cVar 4)) cNil)) (cCons (cOp fIx (cVar 1) (cC (.int 2))) (cCons (cOp fIx (cVar 1) (cC (.int 3))) (cCons (cVar 2) cNil))))))))
    (cSeq (cSet 1 (cFz (cOp fAddR (cOp fIx (cVar 1) (cC (.int 4))) (cCallN 1 sp_law_leaves (cCons (cVar 5) cNil)))) (cC (.int 4)))
    (cRet 3 (cVar 5)))))))
def wc_law_asked_2 : WS :=
    (cSeq (cSet 1 (cFz (cOp fAddR (cOp fIx (cVar 1) (cC (.int 4))) (cCallN 1 sp_law_leaves (cCons (cVar 5) cNil)))) (cC (.int 4)))
    (cRet 3 (cVar 5)))
def wc_law_asked_1 : WS :=
    (cCut (cAsg 3 [0, 1, 2] 5 (cCallN 6 sp_law_question (cCons (cVar 0) (cCons (cOp fIx (cVar 1) (cC (.int 1))) (cCons (cBi fTuple (cCons (cSlH (cVar 3) (cVar 4)) cNil)) (cCons (cOp fIx (cVar 1) (cC (.int 2))) (cCons (cOp fIx (cVar 1) (cC (.int 3))) (cCons (cVar 2) cNil)))))))) (wc_law_asked_2))
def wc_law_asked_0 : WS :=
    (cSeq (cAsg 3 [0, 1, 2] 3 (cLst (cCons (cOp fIx (cOp fIx (cVar 1) (cC (.int 2))) (cC (.int 0))) (cCons (cOp fIx (cOp fIx (cVar 1) (cC (.int 2))) (cC (.int 1))) cNil))))
    (cSeq (cAsg 3 [0, 1, 2] 4 (cOp fIx (cLst (cCons (cC (.int 2)) (cCons (cC (.int 1)) (cCons (cC (.int 2)) (cCons (cC (.int 1)) (cCons (cC (.int 0)) (cCons (cC (.int 2)) cNil))))))) (cCallN 2 sp_law_take (cCons (cVar 0) (cCons (cC (.int 6)) cNil)))))
    (cCut (cIte (cOp fEqS (cCallN 2 sp_law_take (cCons (cVar 0) (cCons (cC (.int 2)) cNil))) (cC (.int 0)))
      (cAsg 3 [0, 1, 2] 3 (cLst (cCons (cOp fIx (cOp fIx (cVar 1) (cC (.int 2))) (cC (.int 1))) (cCons (cOp fIx (cOp fIx (cVar 1) (cC (.int 2))) (cC (.int 2))) cNil))))
      cNilS) (wc_law_asked_1))))
theorem wc_law_asked_eq : w_law_asked = wc_law_asked_0 := by
  unfold wc_law_asked_0 wc_law_asked_1 wc_law_asked_2
  simp only [cCut_eq]
  rfl
abbrev kt_law_asked (ds : List D) : Kt := { nx := fun e => sp_law_asked.post ds .non (outs e 3), rt := fun d e => sp_law_asked.post ds d (outs e 3) }
section
variable {ns ks : List Int} {w : Wd} {d : Int} {u v : Str} {m : Int} {q : Qn}
theorem as2 (hl : w.lv.length ≤ 100000) (d3 : d ≤ 3) (ok : okQ q) (hc : (colsQ q).length ≤ 2) (dp : (dpQ q : Int) ≤ 2 * d + 1) :
    wc_law_asked_2 [some (.lst (ks.map D.int)), some (encWd w), some (.int d), some (.lst [.str u, .str v]), some (.int m), some (encQ q)] (kt_law_asked [.lst (ns.map D.int), encWd w, .int d]) := by
  have post := as_post (l0 := .lst (ns.map D.int)) (w := w) (d := d) (ks := ks) (r := encQ q) (q := q) rfl ⟨ok, dp, hc⟩
  have l1 : sp_law_leaves.pre [encQ q] := ⟨q, rfl, by show dpQ q ≤ 15 + 1; omega, by omega⟩
  have l2 : ∀ r ds', sp_law_leaves.post [encQ q] r ds' → ds' = [encQ q] ∧ r = .lst ((leavesQ q).map encQ) := fun r ds' h => ⟨h.1, h.2 q rfl⟩
  have l3 := leaves_few2 (q := q) (by omega)
  have few : (w.lv.map encQ).length + ((leavesQ q).map encQ).length ≤ 1000000 := by rw [List.length_map, List.length_map]; omega
  have nl := encQ_nl q
  simp only [encWd, List.map_append] at *
  walk_at "Ddlx"
  try refine ⟨l1, ?_⟩
  intro r ds' hp
  obtain ⟨rfl, rfl⟩ := l2 r ds' hp
  walk_at "Ddlx"
  intro l w' d' e
  obtain ⟨a, b, c, g, e2⟩ := post l w' d' e
  cases encQ_inj c
  refine ⟨a, q, rfl, ?_, e2⟩
  simp only [encWd, List.map_append]
  exact g
theorem as1 (O : WdOk w) (hl : w.lv.length ≤ 100000) (d0 : 0 ≤ d) (d3 : d ≤ 3) (su : SC [u, v]) (wu : isW u = true) (wv : isW v = true) (hm : m = 0 ∨ m = 1 ∨ m = 2) :
    wc_law_asked_1 [some (.lst (ks.map D.int)), some (encWd w), some (.int d), some (.lst [.str u, .str v]), some (.int m), none] (kt_law_asked [.lst (ns.map D.int), encWd w, .int d]) := by
  have nxt := fun {k2 : List Int} {m : Int} {q : Qn} a b c => as2 (ns := ns) (ks := k2) (w := w) (d := d) (u := u) (v := v) (m := m) (q := q) hl d3 a b c
  have hq : ∀ cs : List Str, cs.length ≤ 2 → SC cs → (∀ z ∈ cs, isW z = true) → sp_law_question.pre [.lst (ks.map D.int), .rol (w.ns.map D.str), .tup (cs.map D.str), .rol (w.cs.map D.str), .rol (w.vs.map encV), .int d] ∧
      ∀ r ds', sp_law_question.post [.lst (ks.map D.int), .rol (w.ns.map D.str), .tup (cs.map D.str), .rol (w.cs.map D.str), .rol (w.vs.map encV), .int d] r ds' → ∃ (k2 : List Int) (q : Qn), r = encQ q ∧ ds' = Q6 k2 w.ns cs w.cs w.vs d ∧ okQ q ∧ colsQ q = cs ∧ (dpQ q : Int) ≤ 2 * d + 1 := fun cs h2 hs hw =>
    ⟨⟨ks, w.ns, cs, w.cs, w.vs, d, rfl, ⟨O.n2, O.nw, ⟨hs, by omega, hw⟩, O.v3, O.vv⟩, h2, O.p, d0, by show 2 * d + 1 ≤ (((31 : Nat) : Int) + 1); simp; omega⟩, fun r ds' h => h _ _ _ _ _ _ rfl⟩
  have hs1 : SC [u] := su.sub (by simp)
  simp only [encWd] at *
  rcases hm with rfl | rfl | rfl
  · obtain ⟨h1, h2⟩ := hq [] (by simp) .nil (by simp)
    simp only [List.map_nil] at h1 h2
    walk_at "Ddlx"
    try refine ⟨h1, ?_⟩
    intro r ds' hp
    obtain ⟨k2, q, rfl, rfl, ok, cs, dp⟩ := h2 r ds' hp
    have nl := encQ_nl q
    walk_at "Ddlx"
    exact Stop.mk (nxt ok (by rw [cs]; decide) dp)
  · obtain ⟨h1, h2⟩ := hq [u] (by simp) hs1 (by simp [wu])
    simp only [List.map_nil, List.map_cons] at h1 h2
    walk_at "Ddlx"
    try refine ⟨h1, ?_⟩
    intro r ds' hp
    obtain ⟨k2, q, rfl, rfl, ok, cs, dp⟩ := h2 r ds' hp
    have nl := encQ_nl q
    walk_at "Ddlx"
    exact Stop.mk (nxt ok (by rw [cs]; simp) dp)
  · obtain ⟨h1, h2⟩ := hq [u, v] (by simp) su (by simp [wu, wv])
    simp only [List.map_nil, List.map_cons] at h1 h2
    walk_at "Ddlx"
    try refine ⟨h1, ?_⟩
    intro r ds' hp
    obtain ⟨k2, q, rfl, rfl, ok, cs, dp⟩ := h2 r ds' hp
    have nl := encQ_nl q
    walk_at "Ddlx"
    exact Stop.mk (nxt ok (by rw [cs]; simp) dp)
theorem pure_law_asked : ∀ ds, ds.length = 3 → sp_law_asked.pre ds → w_law_asked (env0 ds 3) { nx := fun e => sp_law_asked.post ds .non (outs e 3), rt := fun d e => sp_law_asked.post ds d (outs e 3) } := by
  rintro ds _ ⟨ns, w, d, rfl, O, hl, d0, d3⟩
  rw [wc_law_asked_eq]
  have nxt := fun {k2 : List Int} {m : Int} {u v : Str} a b c e => as1 (ns := ns) (ks := k2) (w := w) (d := d) (u := u) (v := v) (m := m) O hl d0 d3 a b c e
  obtain ⟨x, y, z, e3⟩ : ∃ x y z, w.cs = [x, y, z] := by
    match h : w.cs, O.p.l3 with
    | [x, y, z], _ => exact ⟨x, y, z, rfl⟩
  have so := O.so
  have pw := O.p.ww
  rw [e3] at so pw
  have s1 : SC [x, y] := so.sub (show [x, y].Sublist ([x, y] ++ [z]) from List.sublist_append_left _ _)
  have s2 : SC [y, z] := so.sub (List.sublist_cons_self _ _)
  have wx := pw x (by simp)
  have wy := pw y (by simp)
  have wz := pw z (by simp)
  simp only [encWd, e3, List.map_cons, List.map_nil] at nxt ⊢
  walk_at "Ddlx"
  refine ⟨⟨⟨_, rfl⟩, by decide⟩, ?_⟩
  rintro _ _ ⟨n1, k, rfl, rfl, k0, k1⟩
  have : k = 0 ∨ k = 1 ∨ k = 2 ∨ k = 3 ∨ k = 4 ∨ k = 5 := by omega
  rcases this with rfl | rfl | rfl | rfl | rfl | rfl <;>
  · walk_at "Ddlx"
    refine ⟨⟨⟨_, rfl⟩, by decide⟩, ?_⟩
    rintro _ _ ⟨n2, k, rfl, rfl, k0, k1⟩
    walk_at "Ddlx"
    refine ifb_dec (fun g => ?_) (fun g => ?_)
    · walk_at "Ddlx"
      exact Stop.mk (nxt s2 wy wz (by decide))
    · walk_at "Ddlx"
      exact Stop.mk (nxt s1 wx wy (by decide))
end
end DL

namespace DL
open PySem PySem.Spec PyProof.Rows L2
/-! ### masks -/
local macro_rules | `(tactic| walk_at "Ddl") => `(tactic| ((conv => whnf); (repeat ((first | refine And.intro rfl ?_ | refine And.intro trivial ?_ | refine And.intro ⟨rfl, trivial⟩ ?_ | refine And.intro ⟨rfl, rfl, trivial⟩ ?_ | refine ifb_t ?_ | refine ifb_f ?_ | refine ifb_nr ?_ | refine ifb_er ?_ | refine And.intro (by first | decide | omega | (unfold CMul; omega) | (unfold CDiv; omega) | (unfold CPow; decide) | (exact cpow1 (by omega) (by omega)) | (exact cpow1 (by dsimp only; omega) (by dsimp only; omega)) | (simp only [rngD_len, List.length_replicate, List.length_map, List.length_append, List.length_cons, List.length_nil, List.length_set] at *; omega)) ?_); conv => whnf))))
end DL

set_option maxHeartbeats 4000000
namespace DL
open PySem PySem.Spec PyProof.Rows L2
/-! ### pieces, stretches -/
def sts {α : Type} : List (Int × α) → List (Int × Option Int × α)
  | [] => []
  | [(s, h)] => [(s, none, h)]
  | (s, h) :: (s', h') :: r => if s < s' then (s, some s', h) :: sts ((s', h') :: r) else sts ((s', h') :: r)
inductive Held : D → Prop where
  | int (i : Int) : Held (.int i)
  | tup (t : List D) : Held (.tup t)
local macro_rules | `(tactic| walk_at "Ddl") => `(tactic| ((conv => whnf); (repeat ((first | refine And.intro rfl ?_ | refine And.intro trivial ?_ | refine And.intro ⟨rfl, trivial⟩ ?_ | refine And.intro ⟨rfl, rfl, trivial⟩ ?_ | refine ifb_t ?_ | refine ifb_f ?_ | refine ifb_nr ?_ | refine ifb_er ?_ | refine And.intro (by first | decide | omega | (unfold CMul; omega) | (unfold CDiv; omega) | (unfold CPow; decide) | (exact cpow1 (by omega) (by omega)) | (exact cpow1 (by dsimp only; omega) (by dsimp only; omega)) | (simp only [rngD_len, List.length_replicate, List.length_map, List.length_append, List.length_cons, List.length_nil, List.length_set] at *; omega)) ?_); conv => whnf))))
end DL

set_option maxHeartbeats 4000000
namespace DL
open PySem PySem.Spec PyProof.Rows L2
/-! ### the pieces of a table -/
local macro_rules | `(tactic| walk_at "Ddl") => `(tactic| ((conv => whnf); (repeat ((first | refine And.intro rfl ?_ | refine And.intro trivial ?_ | refine And.intro ⟨rfl, trivial⟩ ?_ | refine And.intro ⟨rfl, rfl, trivial⟩ ?_ | refine ifb_t ?_ | refine ifb_f ?_ | refine ifb_nr ?_ | refine ifb_er ?_ | refine And.intro (by first | decide | omega | (unfold CMul; omega) | (unfold CDiv; omega) | (unfold CPow; decide) | (exact cpow1 (by omega) (by omega)) | (exact cpow1 (by dsimp only; omega) (by dsimp only; omega)) | (simp only [rngD_len, List.length_replicate, List.length_map, List.length_append, List.length_cons, List.length_nil, List.length_set] at *; omega)) ?_); conv => whnf))))
/-! ### pieces in order -/
theorem pcAt_none {t : Int} : ∀ (m : Nat) (r : Pcs), (∀ p ∈ r, t < p.1) → pcAt t m r = m
  | m, [], _ => rfl
  | m, (s, k) :: r, h => by
    have h1 : t < s := h (s, k) (by simp)
    rw [pcAt, if_neg (by omega)]
    exact pcAt_none m r fun p hp => h p (by simp [hp])
theorem StrOk.of {c : Int} {S : Int → Bool} : ∀ (r : Pcs) (s : Int) (k m : Nat), ((s, k) :: r).Pairwise (fun a b => a.1 ≤ b.1) → (∀ p ∈ (s, k) :: r, p.2 < 2 ^ c.toNat) → (∀ t, s ≤ t → S t = mb (pcAt t m ((s, k) :: r)) c t) → StrOk S c s (sts ((s, k) :: r))
  | [], s, k, m, _, h2, h3 => ⟨rfl, h2 (s, k) (by simp), fun t ht _ => by rw [h3 t ht, pcAt, if_pos ht]; rfl, rfl⟩
  | (s', k') :: r, s, k, m, h1, h2, h3 => by
    have hss : s ≤ s' := (List.pairwise_cons.mp h1).1 (s', k') (by simp)
    have ih := StrOk.of (S := S) r s' k' k (List.pairwise_cons.mp h1).2 (fun p hp => h2 p (by simp [hp])) (fun t ht => by rw [h3 t (by omega), pcAt, if_pos (by omega)])
    simp only [sts]
    by_cases g : s < s'
    · rw [if_pos g]
      refine ⟨rfl, h2 (s, k) (by simp), fun t ht hx => ?_, ?_⟩
      · have hx := hx s' rfl
        rw [h3 t ht, pcAt, if_pos ht, pcAt_none]
        intro p hp
        rcases List.mem_cons.mp hp with rfl | hp
        · exact hx
        · have := (List.pairwise_cons.mp (List.pairwise_cons.mp h1).2).1 p hp
          exact Int.lt_of_lt_of_le hx this
      · cases hq : sts ((s', k') :: r) with
        | nil => rw [hq] at ih; exact ih.elim
        | cons y q =>
          rw [hq] at ih
          obtain ⟨u, e, w⟩ := y
          obtain ⟨rfl, i2⟩ := ih
          exact ⟨rfl, g, rfl, i2⟩
    · rw [if_neg g]
      obtain rfl : s = s' := by omega
      exact ih
def TS (c : Int) (S : Int → Bool) (L : List Ln) (b : Int) (seen ins : Nat) (q : Strs) : Prop :=
  (q = [] ∧ Pre c S 0 L b ∧ (∀ t, b ≤ t → mb ins c t = S t)) ∨ ∃ st, StrOk S c st q ∧ TI c S L b seen ins st
end DL

namespace DL
open PySem PySem.Spec PyProof.Rows L2
local macro_rules | `(tactic| walk_at "Ddl") => `(tactic| ((conv => whnf); (repeat ((first | refine And.intro rfl ?_ | refine And.intro trivial ?_ | refine And.intro ⟨rfl, trivial⟩ ?_ | refine And.intro ⟨rfl, rfl, trivial⟩ ?_ | refine ifb_t ?_ | refine ifb_f ?_ | refine ifb_nr ?_ | refine ifb_er ?_ | refine And.intro (by first | decide | omega | (unfold CMul; omega) | (unfold CDiv; omega) | (unfold CPow; decide) | (exact cpow1 (by omega) (by omega)) | (exact cpow1 (by dsimp only; omega) (by dsimp only; omega)) | (simp only [rngD_len, List.length_replicate, List.length_map, List.length_append, List.length_cons, List.length_nil, List.length_set] at *; omega)) ?_); conv => whnf))))
end DL

set_option maxHeartbeats 4000000
namespace DL
open PySem PySem.Spec PyProof.Rows L2
/-! ### the shortest table of a table -/
abbrev tS (c : Int) (ls : List Ln) : Int → Bool := fun t => fnd c t false ls
local macro_rules | `(tactic| walk_at "Ddl") => `(tactic| ((conv => whnf); (repeat ((first | refine And.intro rfl ?_ | refine And.intro trivial ?_ | refine And.intro ⟨rfl, trivial⟩ ?_ | refine And.intro ⟨rfl, rfl, trivial⟩ ?_ | refine ifb_t ?_ | refine ifb_f ?_ | refine ifb_nr ?_ | refine ifb_er ?_ | refine And.intro (by first | decide | omega | (unfold CMul; omega) | (unfold CDiv; omega) | (unfold CPow; decide) | (exact cpow1 (by omega) (by omega)) | (exact cpow1 (by dsimp only; omega) (by dsimp only; omega)) | (simp only [rngD_len, List.length_replicate, List.length_map, List.length_append, List.length_cons, List.length_nil, List.length_set] at *; omega)) ?_); conv => whnf))))
/-! ### the law's own tests -/
/-- each line but the last covers a cycle and ends where it would be wrong -/
def ShB (c : Int) : List Ln → Prop
  | [] => True
  | [_] => True
  | (s, sp) :: (u, up) :: r => s + c ≤ u ∧ inS (u % c) up ≠ inS (u % c) sp ∧ ShB c ((u, up) :: r)
def PrOk (c : Int) (ls : List Ln) (k : Nat) : Prop := (ls.getD k (0, [])).1 + c ≤ (ls.getD (k + 1) (0, [])).1 ∧ inS ((ls.getD (k + 1) (0, [])).1 % c) (ls.getD (k + 1) (0, [])).2 ≠ inS ((ls.getD (k + 1) (0, [])).1 % c) (ls.getD k (0, [])).2
theorem ShB.at {c : Int} : ∀ {ls : List Ln} {k : Nat}, ShB c ls → k + 1 < ls.length → PrOk c ls k
  | [], k, _, h => by simp at h
  | [_], k, _, h => by simp at h
  | (s, sp) :: (u, up) :: r, 0, ⟨h1, h2, _⟩, _ => ⟨h1, h2⟩
  | (s, sp) :: (u, up) :: r, k + 1, ⟨_, _, h3⟩, h => by
    have := ShB.at (k := k) h3 (by simpa using h)
    simpa [PrOk, List.getD] using this
theorem ShB.of {c : Int} : ∀ {ls : List Ln}, (∀ k, k + 1 < ls.length → PrOk c ls k) → ShB c ls
  | [], _ => trivial
  | [_], _ => trivial
  | (s, sp) :: (u, up) :: r, h => by
    have h0 := h 0 (by simp)
    refine ⟨h0.1, h0.2, ShB.of fun k hk => ?_⟩
    have := h (k + 1) (by simpa using hk)
    simpa [PrOk, List.getD] using this
/-- a table that has the form is the shortest table of its set -/
theorem ShB.shp {c : Int} (hc : 1 ≤ c) {S : Int → Bool} : ∀ {ls : List Ln} {b : Int} {sp : Sp2} {r : List Ln}, ls = (b, sp) :: r → SpOk c 0 sp → LsOk c b r → ShB c ls → (∀ t, b ≤ t → fnd c t false ls = S t) → Shp c S b ls
  | _, b, sp, [], rfl, h1, h2, h3, h4 => ⟨rfl, h1, fun t ht => by rw [← h4 t ht]; simp [fnd, ht]⟩
  | _, b, sp, (u, up) :: r, rfl, h1, ⟨g1, g2, g3⟩, ⟨k1, k2, k3⟩, h4 => by
    have at1 : ∀ t, b ≤ t → t < u → inS (t % c) sp = S t := fun t ht hu => by
      rw [← h4 t ht, fnd, if_pos (show (b, sp).1 ≤ t from ht), fnd_none]
      intro l hl
      rcases List.mem_cons.mp hl with rfl | hl
      · exact hu
      · have := g3.gt l hl; omega
    have at2 : ∀ t, u ≤ t → fnd c t false ((u, up) :: r) = S t := fun t ht => by
      rw [← h4 t (by omega), fnd, fnd, fnd, if_pos (show (u, up).1 ≤ t from ht), if_pos (show (u, up).1 ≤ t from ht)]
    refine ⟨rfl, h1, k1, at1, ?_, ShB.shp hc rfl g2 g3 k3 at2⟩
    rw [← at2 u (Int.le_refl _), fnd, if_pos (show (u, up).1 ≤ u from Int.le_refl _), fnd_none]
    · exact fun e => k2 e.symm
    · intro l hl
      exact g3.gt l hl
theorem TbOk.shp {c : Int} {ls : List Ln} (h : TbOk c ls) (h2 : ShB c ls) : Shp c (tS c ls) 0 ls := by
  obtain ⟨hc, sp, r, rfl, h3, h4⟩ := h
  exact ShB.shp hc.1 rfl h3 h4 h2 fun t _ => rfl
end DL

set_option maxHeartbeats 4000000
namespace DL
open PySem PySem.Spec PyProof.Rows L2
/-! ### the next and the last moment -/
local macro_rules | `(tactic| walk_at "Ddl") => `(tactic| ((conv => whnf); (repeat ((first | refine And.intro rfl ?_ | refine And.intro trivial ?_ | refine And.intro ⟨rfl, trivial⟩ ?_ | refine And.intro ⟨rfl, rfl, trivial⟩ ?_ | refine ifb_t ?_ | refine ifb_f ?_ | refine ifb_nr ?_ | refine ifb_er ?_ | refine And.intro (by first | decide | omega | (unfold CMul; omega) | (unfold CDiv; omega) | (unfold CPow; decide) | (exact cpow1 (by omega) (by omega)) | (exact cpow1 (by dsimp only; omega) (by dsimp only; omega)) | (simp only [rngD_len, List.length_replicate, List.length_map, List.length_append, List.length_cons, List.length_nil, List.length_set] at *; omega)) ?_); conv => whnf))))
end DL

set_option maxHeartbeats 4000000
namespace DL
open PySem PySem.Spec PyProof.Rows L2
/-! ### pieces of two tables together -/
abbrev Pps := List (Int × Nat × Nat)
/-- what met_pieces gives for sets S and T -/
structure MetOk (c : Int) (S T : Int → Bool) (ps : Pps) : Prop where
  hd : ∃ a b r, ps = (0, a, b) :: r
  pw : ps.Pairwise fun a b => a.1 ≤ b.1
  lt : ∀ p ∈ ps, p.2.1 < 2 ^ c.toNat ∧ p.2.2 < 2 ^ c.toNat
  one : ∀ t, mb (pcAt t 0 (ps.map fun p => (p.1, p.2.1))) c t = S t
  two : ∀ t, mb (pcAt t 0 (ps.map fun p => (p.1, p.2.2))) c t = T t
local macro_rules | `(tactic| walk_at "Ddl") => `(tactic| ((conv => whnf); (repeat ((first | refine And.intro rfl ?_ | refine And.intro trivial ?_ | refine And.intro ⟨rfl, trivial⟩ ?_ | refine And.intro ⟨rfl, rfl, trivial⟩ ?_ | refine ifb_t ?_ | refine ifb_f ?_ | refine ifb_nr ?_ | refine ifb_er ?_ | refine And.intro (by first | decide | omega | (unfold CMul; omega) | (unfold CDiv; omega) | (unfold CPow; decide) | (exact cpow1 (by omega) (by omega)) | (exact cpow1 (by dsimp only; omega) (by dsimp only; omega)) | (simp only [rngD_len, List.length_replicate, List.length_map, List.length_append, List.length_cons, List.length_nil, List.length_set] at *; omega)) ?_); conv => whnf))))
end DL

set_option maxHeartbeats 4000000
namespace DL
open PySem PySem.Spec PyProof.Rows L2
/-! ### the operators -/
structure OpOk (f : Nat → Nat → Nat) (g : Bool → Bool → Bool) : Prop where
  zero : f 0 0 = 0
  lt : ∀ {a b n : Nat}, a < 2 ^ n → b < 2 ^ n → f a b < 2 ^ n
  mb : ∀ (a b : Nat) (c t : Int), mb (f a b) c t = g (mb a c t) (mb b c t)
local macro_rules | `(tactic| walk_at "Ddl") => `(tactic| ((conv => whnf); (repeat ((first | refine And.intro rfl ?_ | refine And.intro trivial ?_ | refine And.intro ⟨rfl, trivial⟩ ?_ | refine And.intro ⟨rfl, rfl, trivial⟩ ?_ | refine ifb_t ?_ | refine ifb_f ?_ | refine ifb_nr ?_ | refine ifb_er ?_ | refine And.intro (by first | decide | omega | (unfold CMul; omega) | (unfold CDiv; omega) | (unfold CPow; decide) | (exact cpow1 (by omega) (by omega)) | (exact cpow1 (by dsimp only; omega) (by dsimp only; omega)) | (simp only [rngD_len, List.length_replicate, List.length_map, List.length_append, List.length_cons, List.length_nil, List.length_set] at *; omega)) ?_); conv => whnf))))
end DL

set_option maxHeartbeats 4000000
namespace DL
open PySem PySem.Spec PyProof.Rows L2
/-! ### shifted -/
local macro_rules | `(tactic| walk_at "Ddl") => `(tactic| ((conv => whnf); (repeat ((first | refine And.intro rfl ?_ | refine And.intro trivial ?_ | refine And.intro ⟨rfl, trivial⟩ ?_ | refine And.intro ⟨rfl, rfl, trivial⟩ ?_ | refine ifb_t ?_ | refine ifb_f ?_ | refine ifb_nr ?_ | refine ifb_er ?_ | refine And.intro (by first | decide | omega | (unfold CMul; omega) | (unfold CDiv; omega) | (unfold CPow; decide) | (exact cpow1 (by omega) (by omega)) | (exact cpow1 (by dsimp only; omega) (by dsimp only; omega)) | (simp only [rngD_len, List.length_replicate, List.length_map, List.length_append, List.length_cons, List.length_nil, List.length_set] at *; omega)) ?_); conv => whnf))))
/-! ### moments to look at -/
end DL

set_option maxHeartbeats 4000000
namespace DL
open PySem PySem.Spec PyProof.Rows L2
/-! ### turns -/
local macro_rules | `(tactic| walk_at "Ddl") => `(tactic| ((conv => whnf); (repeat ((first | refine And.intro rfl ?_ | refine And.intro trivial ?_ | refine And.intro ⟨rfl, trivial⟩ ?_ | refine And.intro ⟨rfl, rfl, trivial⟩ ?_ | refine ifb_t ?_ | refine ifb_f ?_ | refine ifb_nr ?_ | refine ifb_er ?_ | refine And.intro (by first | decide | omega | (unfold CMul; omega) | (unfold CDiv; omega) | (unfold CPow; decide) | (exact cpow1 (by omega) (by omega)) | (exact cpow1 (by dsimp only; omega) (by dsimp only; omega)) | (simp only [rngD_len, List.length_replicate, List.length_map, List.length_append, List.length_cons, List.length_nil, List.length_set] at *; omega)) ?_); conv => whnf))))
/-! ### the law's look at an operator -/
end DL

set_option maxHeartbeats 2000000
namespace DL
open PySem PySem.Spec PyProof.Rows L2
local macro_rules | `(tactic| walk_at "Ddl") => `(tactic| ((conv => whnf); (repeat ((first | refine And.intro rfl ?_ | refine And.intro trivial ?_ | refine And.intro ⟨rfl, trivial⟩ ?_ | refine And.intro ⟨rfl, rfl, trivial⟩ ?_ | refine ifb_t ?_ | refine ifb_f ?_ | refine ifb_nr ?_ | refine ifb_er ?_ | refine And.intro (by first | decide | omega | (unfold CMul; omega) | (unfold CDiv; omega) | (unfold CPow; decide) | (exact cpow1 (by omega) (by omega)) | (exact cpow1 (by dsimp only; omega) (by dsimp only; omega)) | (simp only [rngD_len, List.length_replicate, List.length_map, List.length_append, List.length_cons, List.length_nil, List.length_set] at *; omega)) ?_); conv => whnf))))
end DL

set_option maxHeartbeats 4000000
namespace DL
open PySem PySem.Spec PyProof.Rows L2
local macro_rules | `(tactic| walk_at "Ddl") => `(tactic| ((conv => whnf); (repeat ((first | refine And.intro rfl ?_ | refine And.intro trivial ?_ | refine And.intro ⟨rfl, trivial⟩ ?_ | refine And.intro ⟨rfl, rfl, trivial⟩ ?_ | refine ifb_t ?_ | refine ifb_f ?_ | refine ifb_nr ?_ | refine ifb_er ?_ | refine And.intro (by first | decide | omega | (unfold CMul; omega) | (unfold CDiv; omega) | (unfold CPow; decide) | (exact cpow1 (by omega) (by omega)) | (exact cpow1 (by dsimp only; omega) (by dsimp only; omega)) | (simp only [rngD_len, List.length_replicate, List.length_map, List.length_append, List.length_cons, List.length_nil, List.length_set] at *; omega)) ?_); conv => whnf))))
end DL

set_option maxHeartbeats 4000000
namespace DL
open PySem PySem.Spec PyProof.Rows L2
theorem TbOk.split {c : Int} {ls : List Ln} (h : TbOk c ls) : ∃ p l, ls = p ++ [l] := by
  obtain ⟨_, sp, r, rfl, _⟩ := h
  exact ⟨_, _, (List.dropLast_concat_getLast (by simp)).symm⟩
/-- another set of spans at each line -/
def Rel2 (R : Sp2 → Sp2 → Prop) : List Ln → List Ln → Prop
  | [], [] => True
  | (s, sp) :: r, (s', sp') :: r' => s = s' ∧ R sp sp' ∧ Rel2 R r r'
  | _, _ => False
theorem Rel2.snoc {R : Sp2 → Sp2 → Prop} {s : Int} {sp sp' : Sp2} (h : R sp sp') : ∀ {a b : List Ln}, Rel2 R a b → Rel2 R (a ++ [(s, sp)]) (b ++ [(s, sp')])
  | [], [], _ => ⟨rfl, h, trivial⟩
  | [], _ :: _, g => g.elim
  | _ :: _, [], g => g.elim
  | (u, up) :: a, (u', up') :: b, ⟨g1, g2, g3⟩ => ⟨g1, g2, Rel2.snoc h g3⟩
theorem Rel2.len {R : Sp2 → Sp2 → Prop} : ∀ {a b : List Ln}, Rel2 R a b → b.length = a.length
  | [], [], _ => rfl
  | [], _ :: _, g => g.elim
  | _ :: _, [], g => g.elim
  | (u, up) :: a, (u', up') :: b, ⟨_, _, g3⟩ => by simp only [List.length_cons, Rel2.len g3]
theorem Rel2.ls {R : Sp2 → Sp2 → Prop} {c : Int} (hR : ∀ x y, R x y → SpOk c 0 y) : ∀ {a b : List Ln} {lo : Int}, Rel2 R a b → LsOk c lo a → LsOk c lo b
  | [], [], _, _, _ => trivial
  | [], _ :: _, _, g, _ => g.elim
  | _ :: _, [], _, g, _ => g.elim
  | (u, up) :: a, (u', up') :: b, lo, ⟨g1, g2, g3⟩, ⟨h1, h2, h3⟩ => by
    subst g1
    exact ⟨h1, hR _ _ g2, Rel2.ls hR g3 h3⟩
theorem Rel2.tb {R : Sp2 → Sp2 → Prop} {c : Int} (hR : ∀ x y, R x y → SpOk c 0 y) {a b : List Ln} (g : Rel2 R a b) (h : TbOk c a) : TbOk c b := by
  obtain ⟨hc, sp, r, rfl, h1, h2⟩ := h
  cases b with
  | nil => exact g.elim
  | cons y b =>
    obtain ⟨s', sp'⟩ := y
    obtain ⟨rfl, g2, g3⟩ := g
    exact ⟨hc, sp', b, rfl, hR _ _ g2, Rel2.ls hR g3 h2⟩
theorem Rel2.fnd {R : Sp2 → Sp2 → Prop} {c t : Int} {f : Bool → Bool} (hR : ∀ x y, R x y → inS (t % c) y = f (inS (t % c) x)) : ∀ {a b : List Ln} {x y : Bool}, Rel2 R a b → y = f x → fnd c t y b = f (DL.fnd c t x a)
  | [], [], _, _, _, e => e
  | [], _ :: _, _, _, g, _ => g.elim
  | _ :: _, [], _, _, g, _ => g.elim
  | (u, up) :: a, (u', up') :: b, x, y, ⟨g1, g2, g3⟩, e => by
    subst g1
    simp only [DL.fnd]
    by_cases h : u ≤ t
    · rw [if_pos h, if_pos h]; exact Rel2.fnd hR g3 (hR _ _ g2)
    · rw [if_neg h, if_neg h]; exact Rel2.fnd hR g3 e
end DL

set_option maxHeartbeats 4000000
namespace DL
open PySem PySem.Spec PyProof.Rows L2
local macro_rules | `(tactic| walk_at "Ddl") => `(tactic| ((conv => whnf); (repeat ((first | refine And.intro rfl ?_ | refine And.intro trivial ?_ | refine And.intro ⟨rfl, trivial⟩ ?_ | refine And.intro ⟨rfl, rfl, trivial⟩ ?_ | refine ifb_t ?_ | refine ifb_f ?_ | refine ifb_nr ?_ | refine ifb_er ?_ | refine And.intro (by first | decide | omega | (unfold CMul; omega) | (unfold CDiv; omega) | (unfold CPow; decide) | (exact cpow1 (by omega) (by omega)) | (exact cpow1 (by dsimp only; omega) (by dsimp only; omega)) | (simp only [rngD_len, List.length_replicate, List.length_map, List.length_append, List.length_cons, List.length_nil, List.length_set] at *; omega)) ?_); conv => whnf))))
/-! ### other tables of the same set -/
/-- lines so far: in order, each below the bound -/
def Ch (c : Int) (L : List Ln) (b : Int) : Prop := (L = [] ∨ TbOk c L) ∧ ∀ l ∈ L, l.1 < b
theorem Ch.snoc {c b b' s : Int} {L : List Ln} {sp : Sp2} (hc : 1 ≤ c ∧ c ≤ 60) (h : Ch c L b) (hs : b ≤ s) (h0 : L = [] → s = 0) (hsp : SpOk c 0 sp) (hb : s < b') : TbOk c (L ++ [(s, sp)]) ∧ Ch c (L ++ [(s, sp)]) b' := by
  have ht : TbOk c (L ++ [(s, sp)]) := by
    rcases h.1 with rfl | h1
    · rw [h0 rfl]; exact .one hc hsp
    · exact h1.snoc (fun l hl => by have := h.2 l hl; omega) hsp
  refine ⟨ht, .inr ht, fun l hl => ?_⟩
  rcases List.mem_append.mp hl with hl | hl
  · have := h.2 l hl; omega
  · rw [List.mem_singleton.mp hl]; exact hb
end DL

set_option maxHeartbeats 4000000
namespace DL
open PySem PySem.Spec PyProof.Rows L2
local macro_rules | `(tactic| walk_at "Ddl") => `(tactic| ((conv => whnf); (repeat ((first | refine And.intro rfl ?_ | refine And.intro trivial ?_ | refine And.intro ⟨rfl, trivial⟩ ?_ | refine And.intro ⟨rfl, rfl, trivial⟩ ?_ | refine ifb_t ?_ | refine ifb_f ?_ | refine ifb_nr ?_ | refine ifb_er ?_ | refine And.intro (by first | decide | omega | (unfold CMul; omega) | (unfold CDiv; omega) | (unfold CPow; decide) | (exact cpow1 (by omega) (by omega)) | (exact cpow1 (by dsimp only; omega) (by dsimp only; omega)) | (simp only [rngD_len, List.length_replicate, List.length_map, List.length_append, List.length_cons, List.length_nil, List.length_set] at *; omega)) ?_); conv => whnf))))
end DL

set_option maxHeartbeats 4000000
namespace DL
open PySem PySem.Spec PyProof.Rows L2
/-! ### equal pairs -/
local macro_rules | `(tactic| walk_at "Ddl") => `(tactic| ((conv => whnf); (repeat ((first | refine And.intro rfl ?_ | refine And.intro trivial ?_ | refine And.intro ⟨rfl, trivial⟩ ?_ | refine And.intro ⟨rfl, rfl, trivial⟩ ?_ | refine ifb_t ?_ | refine ifb_f ?_ | refine ifb_nr ?_ | refine ifb_er ?_ | refine And.intro (by first | decide | omega | (unfold CMul; omega) | (unfold CDiv; omega) | (unfold CPow; decide) | (exact cpow1 (by omega) (by omega)) | (exact cpow1 (by dsimp only; omega) (by dsimp only; omega)) | (simp only [rngD_len, List.length_replicate, List.length_map, List.length_append, List.length_cons, List.length_nil, List.length_set] at *; omega)) ?_); conv => whnf))))
end DL

set_option maxHeartbeats 4000000
namespace DL
open PySem PySem.Spec PyProof.Rows L2
/-! ### ends -/
local macro_rules | `(tactic| walk_at "Ddl") => `(tactic| ((conv => whnf); (repeat ((first | refine And.intro rfl ?_ | refine And.intro trivial ?_ | refine And.intro ⟨rfl, trivial⟩ ?_ | refine And.intro ⟨rfl, rfl, trivial⟩ ?_ | refine ifb_t ?_ | refine ifb_f ?_ | refine ifb_nr ?_ | refine ifb_er ?_ | refine And.intro (by first | decide | omega | (unfold CMul; omega) | (unfold CDiv; omega) | (unfold CPow; decide) | (exact cpow1 (by omega) (by omega)) | (exact cpow1 (by dsimp only; omega) (by dsimp only; omega)) | (simp only [rngD_len, List.length_replicate, List.length_map, List.length_append, List.length_cons, List.length_nil, List.length_set] at *; omega)) ?_); conv => whnf))))
end DL

set_option maxHeartbeats 4000000
namespace DL
open PySem PySem.Spec PyProof.Rows L2
/-! ### spans of moments: None, a pair of ints, or a pair of an int and None -/
abbrev SpO := Option (Int × Option Int)
def encZp (p : Int × Option Int) : D := .tup [.int p.1, encO p.2]
def encZ : SpO → D
  | none => .non
  | some p => encZp p
def hi2 : Option Int → Option Int → Option Int
  | some a, some b => some (if a > b then a else b)
  | _, _ => none
def H2 : SpO → SpO → SpO
  | none, y => y
  | x, none => x
  | some (l, h), some (l', h') => some (if l < l' then l else l', hi2 h h')
theorem H2_none (x : SpO) : H2 x none = x := by cases x <;> rfl
theorem H2_comm (x y : SpO) : H2 x y = H2 y x := by
  cases x with
  | none => exact (H2_none y).symm
  | some p =>
    cases y with
    | none => rfl
    | some q =>
      obtain ⟨l, h⟩ := p
      obtain ⟨l', h'⟩ := q
      have e1 : (if l < l' then l else l') = if l' < l then l' else l := by split <;> split <;> omega
      have e2 : hi2 h h' = hi2 h' h := by
        cases h <;> cases h' <;> simp only [hi2, Option.some.injEq]
        split <;> split <;> omega
      simp only [H2, e1, e2]
theorem H2_assoc (x y z : SpO) : H2 (H2 x y) z = H2 x (H2 y z) := by
  cases x with
  | none => rfl
  | some p =>
    cases y with
    | none => rfl
    | some q =>
      cases z with
      | none => rw [H2_none, H2_none]
      | some r =>
        obtain ⟨l, h⟩ := p
        obtain ⟨l', h'⟩ := q
        obtain ⟨l2, h2⟩ := r
        have e1 : (if (if l < l' then l else l') < l2 then (if l < l' then l else l') else l2) = if l < (if l' < l2 then l' else l2) then l else (if l' < l2 then l' else l2) := by repeat' split <;> omega
        have e2 : hi2 (hi2 h h') h2 = hi2 h (hi2 h' h2) := by
          cases h <;> cases h' <;> cases h2 <;> simp only [hi2, Option.some.injEq]
          repeat' split <;> omega
        simp only [H2, e1, e2]
def hullD : List SpO → SpO
  | [] => none
  | x :: r => H2 x (hullD r)
theorem hullD_append : ∀ a b : List SpO, hullD (a ++ b) = H2 (hullD a) (hullD b)
  | [], b => rfl
  | x :: a, b => by
    show H2 x (hullD (a ++ b)) = H2 (H2 x (hullD a)) (hullD b)
    rw [hullD_append a b, H2_assoc]
theorem encZ_inj {x y : SpO} (h : encZ x = encZ y) : x = y := by
  cases x with
  | none =>
    cases y with
    | none => rfl
    | some q => simp [encZ, encZp] at h
  | some p =>
    cases y with
    | none => simp [encZ, encZp] at h
    | some q =>
      obtain ⟨l, h1⟩ := p
      obtain ⟨l', h2⟩ := q
      simp only [encZ, encZp, D.tup.injEq, List.cons.injEq, D.int.injEq, and_true] at h
      obtain ⟨rfl, h⟩ := h
      cases h1 <;> cases h2 <;> simp [encO] at h ⊢
      exact h
theorem encZs_inj : ∀ {xs ys : List SpO}, xs.map encZ = ys.map encZ → xs = ys
  | [], [], _ => rfl
  | [], _ :: _, h => by simp at h
  | _ :: _, [], h => by simp at h
  | x :: xs, y :: ys, h => by
    simp only [List.map_cons, List.cons.injEq] at h
    rw [encZ_inj h.1, encZs_inj h.2]
/-- the least low, the greatest high -/
theorem hull_of : ∀ (ps : List (Int × Option Int)), ps ≠ [] → ∃ l h, hullD (ps.map some) = some (l, h) ∧ l ∈ ps.map Prod.fst ∧ (∀ y ∈ ps.map Prod.fst, l ≤ y) ∧
    ((none ∈ ps.map Prod.snd ∧ h = none) ∨ (none ∉ ps.map Prod.snd ∧ ∃ v, h = some v ∧ some v ∈ ps.map Prod.snd ∧ ∀ y, some y ∈ ps.map Prod.snd → y ≤ v))
  | [], h => absurd rfl h
  | [(l, h)], _ => by
    refine ⟨l, h, rfl, by simp, by simp, ?_⟩
    cases h with
    | none => exact .inl ⟨by simp, rfl⟩
    | some v => exact .inr ⟨by simp, v, rfl, by simp, by simp⟩
  | (l, h) :: q :: r, _ => by
    obtain ⟨l', h', e, h1, h2, h3⟩ := hull_of (q :: r) (by simp)
    have e2 : hullD (((l, h) :: q :: r).map some) = some (if l < l' then l else l', hi2 h h') := by
      show H2 (some (l, h)) (hullD ((q :: r).map some)) = _
      rw [e]
      rfl
    refine ⟨_, _, e2, ?_, ?_, ?_⟩
    · rw [List.map_cons]
      split
      · exact List.mem_cons_self
      · exact List.mem_cons_of_mem _ h1
    · intro y hy
      rw [List.map_cons] at hy
      rcases List.mem_cons.mp hy with hy | hy
      · have hy2 : y = l := hy
        split <;> omega
      · have := h2 y hy
        split <;> omega
    · rw [List.map_cons]
      cases h with
      | none => exact .inl ⟨List.mem_cons_self, by cases h' <;> rfl⟩
      | some v =>
        rcases h3 with ⟨h3, rfl⟩ | ⟨h3, w, rfl, h4, h5⟩
        · exact .inl ⟨List.mem_cons_of_mem _ h3, rfl⟩
        · refine .inr ⟨?_, _, rfl, ?_, ?_⟩
          · intro hm
            rcases List.mem_cons.mp hm with hm | hm
            · simp at hm
            · exact h3 hm
          · split
            · exact List.mem_cons_self
            · exact List.mem_cons_of_mem _ h4
          · intro y hy
            rcases List.mem_cons.mp hy with hy | hy
            · have : y = v := by simpa using hy
              subst this
              split <;> omega
            · have := h5 y hy
              split <;> omega
def someP (xs : List SpO) : List (Int × Option Int) := xs.filterMap id
theorem hull_some : ∀ xs : List SpO, hullD ((someP xs).map some) = hullD xs
  | [] => rfl
  | none :: r => by
    show hullD ((someP r).map some) = H2 none (hullD r)
    rw [hull_some r]
    rfl
  | some p :: r => by
    show H2 (some p) (hullD ((someP r).map some)) = H2 (some p) (hullD r)
    rw [hull_some r]
def notN : D → Bool
  | .non => false
  | _ => true
theorem notN_some : ∀ xs : List SpO, ((xs.map encZ).filter notN).map id = (someP xs).map encZp
  | [] => rfl
  | none :: r => notN_some r
  | some p :: r => by
    show encZp p :: ((r.map encZ).filter notN).map id = encZp p :: (someP r).map encZp
    rw [notN_some r]
def sp_hull : FSpec where
  pre := fun ds => ∃ xs : List SpO, ds = [.lst (xs.map encZ)] ∧ xs.length ≤ 1000
  post := fun ds r ds' => ∀ xs : List SpO, ds = [.lst (xs.map encZ)] → r = encZ (hullD xs) ∧ ds' = ds
theorem hull_post {xs : List SpO} {d : D} (h : d = encZ (hullD xs)) : sp_hull.post [.lst (xs.map encZ)] d [.lst (xs.map encZ)] := by
  intro ys e
  simp only [List.cons.injEq, D.lst.injEq, and_true] at e
  rw [← encZs_inj e]
  exact ⟨h, rfl⟩
def zfstD : D → D
  | .tup [a, _] => a
  | d => d
def zsndD : D → D
  | .tup [_, b] => b
  | d => d
theorem zfstD_map (ps : List (Int × Option Int)) : (ps.map encZp).map zfstD = (ps.map Prod.fst).map D.int := by
  rw [List.map_map, List.map_map]
  rfl
theorem zsndD_map (ps : List (Int × Option Int)) : (ps.map encZp).map zsndD = (ps.map Prod.snd).map encO := by
  rw [List.map_map, List.map_map]
  rfl
theorem flat_hi : ∀ hs : List (Option Int), flatA (hs.map encO) = true
  | [] => rfl
  | none :: r => flat_hi r
  | some _ :: r => flat_hi r
theorem in_hi : ∀ hs : List (Option Int), ((hs.map encO).any fun y => eqF y .non) = decide (none ∈ hs)
  | [] => rfl
  | none :: r => by
    rw [List.map_cons, List.any_cons, in_hi r]
    simp [encO, eqF]
  | some h :: r => by
    rw [List.map_cons, List.any_cons, in_hi r]
    simp [encO, eqF]
theorem ints_hi : ∀ hs : List (Option Int), none ∉ hs → ∃ ns : List Int, hs = ns.map some
  | [], _ => ⟨[], rfl⟩
  | none :: r, h => by simp at h
  | some x :: r, h => by
    obtain ⟨ns, e⟩ := ints_hi r (fun z => h (List.mem_cons_of_mem _ z))
    exact ⟨x :: ns, by rw [e, List.map_cons]⟩
/-- slots: 0 spans, 1 given, 2 low, 3 highs, 4 span, 5 _, 6 high -/
def w_hull : WS :=
    (cSeq (cAsg 1 [0] 1 (cLc [4] (iE (cVar 0)) (gN 1 [] 4) (cUn (fIsN true) (cVar 4)) (cVar 4)))
    (cSeq (cIte (cOp fEqS (cBi fLen (cCons (cVar 1) cNil)) (cC (.int 0)))
      (cRet 1 (cC .non))
      cNilS)
    (cSeq (cAsg 1 [0] 2 (cBi fMinL (cCons (cLc [2, 5] (iE (cVar 1)) (gT 2 (gCons' (gN 1 [] 2) (gCons' (gN 1 [] 5) gNil'))) tTrue (cVar 2)) cNil)))
    (cSeq (cAsg 1 [0] 3 (cLc [5, 6] (iE (cVar 1)) (gT 2 (gCons' (gN 1 [] 5) (gCons' (gN 1 [] 6) gNil'))) tTrue (cVar 6)))
    (cRet 1 (cTup (cCons (cVar 2) (cCons (cIf (cOp (fIn false) (cC .non) (cVar 3)) (cC .non) (cBi fMaxL (cCons (cVar 3) cNil))) cNil))))))))
local macro_rules | `(tactic| walk_at "Ddl") => `(tactic| ((conv => whnf); (repeat ((first | refine And.intro rfl ?_ | refine And.intro trivial ?_ | refine And.intro ⟨rfl, trivial⟩ ?_ | refine And.intro ⟨rfl, rfl, trivial⟩ ?_ | refine ifb_t ?_ | refine ifb_f ?_ | refine ifb_nr ?_ | refine ifb_er ?_ | refine And.intro (by first | decide | omega | (unfold CMul; omega) | (unfold CDiv; omega) | (unfold CPow; decide) | (exact cpow1 (by omega) (by omega)) | (exact cpow1 (by dsimp only; omega) (by dsimp only; omega)) | (simp only [rngD_len, List.length_replicate, List.length_map, List.length_append, List.length_cons, List.length_nil, List.length_set] at *; omega)) ?_); conv => whnf))))
theorem pure_hull : ∀ ds, ds.length = 1 → sp_hull.pre ds → w_hull (env0 ds 6) { nx := fun e => sp_hull.post ds .non (outs e 1), rt := fun d e => sp_hull.post ds d (outs e 1) } := by
  rintro ds _ ⟨xs, rfl, hl⟩
  have hlp : (someP xs).length ≤ 1000 := Nat.le_trans (List.length_filterMap_le _ _) hl
  walk_at "Ddl"
  refine lcGo_filter notN id [some (.lst (xs.map encZ)), none, none, none, none, none, none] _ ?_ ?_
  · intro x nxt acc hx hn
    obtain ⟨s, _, rfl⟩ := List.mem_map.mp hx
    cases s with
    | none =>
      have hn2 : nxt (acc ++ []) _ := hn
      rw [List.append_nil] at hn2
      walk_at "Ddl"
      exact hn2
    | some p =>
      walk_at "Ddl"
      exact hn
  · rw [notN_some]
    walk_at "Ddl"
    refine ifb_dec (fun e => ?_) (fun e => ?_)
    · have e0 : someP xs = [] := by
        cases q : someP xs with
        | nil => rfl
        | cons p r => rw [q] at e; simp at e; omega
      walk_at "Ddl"
      refine hull_post ?_
      rw [← hull_some, e0]
      rfl
    · have e0 : someP xs ≠ [] := fun z => by rw [z] at e; exact e rfl
      obtain ⟨l, h, e1, h1, h2, h3⟩ := hull_of _ e0
      rw [hull_some] at e1
      generalize hp : someP xs = ps at *
      walk_at "Ddl"
      refine lcGo_map zfstD _ _ ?_ ?_
      · intro x nxt acc hx hn
        obtain ⟨⟨l0, h0⟩, _, rfl⟩ := List.mem_map.mp hx
        cases h0 <;> (walk_at "Ddl"; exact hn)
      · rw [zfstD_map]
        walk_at "Ddl"
        have ei : intsD ((ps.map Prod.fst).map D.int) = some (ps.map Prod.fst) := intsD_map _
        rw [ei]
        refine ⟨List.length_pos_iff.mpr (fun z => e0 (by simpa using z)), fun m hm hle => ?_⟩
        have em : m = l := Int.le_antisymm (hle l h1) (h2 m hm)
        subst em
        walk_at "Ddl"
        refine lcGo_map zsndD _ _ ?_ ?_
        · intro x nxt acc hx hn
          obtain ⟨⟨l0, h0⟩, _, rfl⟩ := List.mem_map.mp hx
          cases h0 <;> (walk_at "Ddl"; exact hn)
        · rw [zsndD_map]
          walk_at "Ddl"
          refine ⟨flat_hi _, ?_⟩
          rw [in_hi]
          rcases h3 with ⟨h3, rfl⟩ | ⟨h3, v, rfl, h4, h5⟩
          · rw [decide_eq_true h3]
            walk_at "Ddl"
            exact hull_post (by rw [e1]; rfl)
          · rw [decide_eq_false h3]
            obtain ⟨ns, en⟩ := ints_hi _ h3
            rw [en] at h4 h5 ⊢
            walk_at "Ddl"
            have ei : intsD ((ns.map some).map encO) = some ns := by
              rw [List.map_map]
              exact intsD_map ns
            rw [ei]
            have h4' : v ∈ ns := by simpa using h4
            refine ⟨List.length_pos_iff.mpr (fun z => by rw [z] at h4'; simp at h4'), fun m hm hle => ?_⟩
            have em : m = v := Int.le_antisymm (h5 m (by simpa using hm)) (hle v h4')
            subst em
            walk_at "Ddl"
            exact hull_post (by rw [e1]; rfl)
theorem fit_Z (s : SpO) : fitD 7 (encZ s) = true := by
  cases s with
  | none => rfl
  | some p =>
    obtain ⟨l, h⟩ := p
    cases h <;> rfl
theorem isL_Z (s : SpO) : isL (encZ s) = false := by cases s <;> rfl
/-! ### the span of a change -/
end DL

set_option maxHeartbeats 1000000
namespace DL
open PySem PySem.Spec PyProof.Rows L2
/-! ### drawn changes -/
structure Chg where
  nm : Str
  row : List Vv
  lo : Int
  hi : Option Int
def encCh (c : Chg) : D := .tup [.str c.nm, .tup (c.row.map encV), encZ (some (c.lo, c.hi))]
structure ChOk (c : Chg) : Prop where
  nm : PyData.strOk c.nm = true
  few : c.row.length ≤ 2
  vv : ∀ v ∈ c.row, okV v
  lo : 0 ≤ c.lo
  hi : ∀ h, c.hi = some h → c.lo < h
theorem strOk_app {x y : Str} (hx : PyData.strOk x = true) (hy : PyData.strOk y = true) : PyData.strOk (x ++ y) = true := by
  unfold PyData.strOk at *
  have e : (x ++ y).cps = x.cps ++ y.cps := rfl
  rw [e, Array.all_append, hx, hy]
  rfl
def sp_law_change : FSpec where
  pre := fun ds => ∃ (ns ms : List Int) (w : Wd), ds = [.lst (ns.map D.int), .rol (ms.map D.int), encWd w] ∧ WdOk w
  post := fun ds r ds' => ∀ (l : D) (ms : List Int) (w : Wd), ds = [l, .rol (ms.map D.int), encWd w] → ∃ (ns : List Int) (c : Chg), r = encCh c ∧ ds' = [.lst (ns.map D.int), .rol (ms.map D.int), encWd w] ∧ ChOk c
theorem drch_post {l0 r : D} {ms ks : List Int} {w : Wd} {c : Chg} (e : r = encCh c) (h : ChOk c) : ∀ (l : D) (ms' : List Int) (w' : Wd), [l0, .rol (ms.map D.int), encWd w] = [l, .rol (ms'.map D.int), encWd w'] →
    ∃ (ns : List Int) (c : Chg), r = encCh c ∧ [D.lst (ks.map D.int), .rol (ms.map D.int), encWd w] = [.lst (ns.map D.int), .rol (ms'.map D.int), encWd w'] ∧ ChOk c := by
  intro l ms' w' e'
  simp only [List.cons.injEq, and_true] at e'
  exact ⟨ks, c, e, by rw [e'.2.1, e'.2.2], h⟩
/-- slots: 0 draws, 1 script, 2 world, 3 names, 4 many, 5 row, 6 low, 7 high, 8 k -/
def w_law_change : WS :=
    (cSeq (cAsg 3 [0, 1, 2] 3 (cOp fAddR (cOp fIx (cVar 2) (cC (.int 1))) (cLst (cCons (cOp fAddS (cOp fIx (cOp fIx (cVar 2) (cC (.int 2))) (cC (.int 0))) (cC (.str (PySem.Str.ofString "q")))) cNil))))
    (cSeq (cAsg 3 [0, 1, 2] 4 (cOp fIx (cLst (cCons (cC (.int 2)) (cCons (cC (.int 2)) (cCons (cC (.int 1)) (cCons (cC (.int 1)) (cCons (cC (.int 2)) (cCons (cC (.int 0)) cNil))))))) (cCallN 2 sp_law_take (cCons (cVar 0) (cCons (cC (.int 6)) cNil)))))
    (cSeq (cAsg 3 [0, 1, 2] 5 (cBi fTuple (cCons (cLc [8] (iR1 (cVar 4)) (gN 3 [] 8) tTrue (cCallN 2 sp_law_pick (cCons (cVar 0) (cCons (cOp fIx (cVar 2) (cC (.int 3))) cNil)))) cNil)))
    (cSeq (cAsg 3 [0, 1, 2] 6 (cCallN 2 sp_law_size (cCons (cVar 0) (cCons (cVar 1) cNil))))
    (cSeq (cAsg 3 [0, 1, 2] 7 (cC .non))
    (cSeq (cIte (cOp fGt (cCallN 2 sp_law_take (cCons (cVar 0) (cCons (cC (.int 4)) cNil))) (cC (.int 0)))
      (cAsg 3 [0, 1, 2] 7 (cOp fAddG (cOp fAddG (cVar 6) (cC (.int 1))) (cCallN 2 sp_law_size (cCons (cVar 0) (cCons (cVar 1) cNil)))))
      cNilS)
    (cRet 3 (cTup (cCons (cOp fIx (cVar 3) (cOp fIx (cLst (cCons (cC (.int 0)) (cCons (cC (.int 0)) (cCons (cC (.int 1)) (cCons (cC (.int 1)) (cCons (cC (.int 2)) cNil)))))) (cCallN 2 sp_law_take (cCons (cVar 0) (cCons (cC (.int 5)) cNil))))) (cCons (cVar 5) (cCons (cTup (cCons (cVar 6) (cCons (cVar 7) cNil))) cNil)))))))))))
def wc_law_change_4 : WS :=
    (cRet 3 (cTup (cCons (cOp fIx (cVar 3) (cOp fIx (cLst (cCons (cC (.int 0)) (cCons (cC (.int 0)) (cCons (cC (.int 1)) (cCons (cC (.int 1)) (cCons (cC (.int 2)) cNil)))))) (cCallN 2 sp_law_take (cCons (cVar 0) (cCons (cC (.int 5)) cNil))))) (cCons (cVar 5) (cCons (cTup (cCons (cVar 6) (cCons (cVar 7) cNil))) cNil)))))
def wc_law_change_3 : WS :=
    (cSeq (cAsg 3 [0, 1, 2] 6 (cCallN 2 sp_law_size (cCons (cVar 0) (cCons (cVar 1) cNil))))
    (cSeq (cAsg 3 [0, 1, 2] 7 (cC .non))
    (cCut (cIte (cOp fGt (cCallN 2 sp_law_take (cCons (cVar 0) (cCons (cC (.int 4)) cNil))) (cC (.int 0)))
      (cAsg 3 [0, 1, 2] 7 (cOp fAddG (cOp fAddG (cVar 6) (cC (.int 1))) (cCallN 2 sp_law_size (cCons (cVar 0) (cCons (cVar 1) cNil)))))
      cNilS) (wc_law_change_4))))
def wc_law_change_2 : WS :=
    (cCut (cAsg 3 [0, 1, 2] 5 (cBi fTuple (cCons (cLc [8] (iR1 (cVar 4)) (gN 3 [] 8) tTrue (cCallN 2 sp_law_pick (cCons (cVar 0) (cCons (cOp fIx (cVar 2) (cC (.int 3))) cNil)))) cNil))) (wc_law_change_3))
def wc_law_change_1 : WS :=
    (cCut (cAsg 3 [0, 1, 2] 4 (cOp fIx (cLst (cCons (cC (.int 2)) (cCons (cC (.int 2)) (cCons (cC (.int 1)) (cCons (cC (.int 1)) (cCons (cC (.int 2)) (cCons (cC (.int 0)) cNil))))))) (cCallN 2 sp_law_take (cCons (cVar 0) (cCons (cC (.int 6)) cNil))))) (wc_law_change_2))
def wc_law_change_0 : WS :=
    (cCut (cAsg 3 [0, 1, 2] 3 (cOp fAddR (cOp fIx (cVar 2) (cC (.int 1))) (cLst (cCons (cOp fAddS (cOp fIx (cOp fIx (cVar 2) (cC (.int 2))) (cC (.int 0))) (cC (.str (PySem.Str.ofString "q")))) cNil)))) (wc_law_change_1))
theorem wc_law_change_eq : w_law_change = wc_law_change_0 := by
  unfold wc_law_change_0 wc_law_change_1 wc_law_change_2 wc_law_change_3 wc_law_change_4
  simp only [cCut_eq]
  rfl
abbrev kt_law_change (ds : List D) : Kt := { nx := fun e => sp_law_change.post ds .non (outs e 3), rt := fun d e => sp_law_change.post ds d (outs e 3) }
abbrev KCh (ns ms : List Int) (w : Wd) : Kt := kt_law_change [.lst (ns.map D.int), .rol (ms.map D.int), encWd w]
local macro_rules | `(tactic| walk_at "Ddlx") => `(tactic| ((conv => whnf); (repeat ((first | ((with_reducible refine And.intro (stOk_nl ?_ ?_) ?_); (focus (with_reducible first | assumption | exact encQ_nl _ | exact encO_nl _ | exact encC_nl _)); (focus exact rfl)) | ((refine pick_nl ?_ ?_); (focus (with_reducible first | assumption | exact encQ_nl _ | exact encO_nl _ | exact encC_nl _))) | ((with_reducible refine And.intro ?_ ?_); (focus (with_reducible first | assumption | exact encQ_nl _ | exact encO_nl _ | exact encC_nl _))) | ((with_reducible refine And.intro (immA_c ?_ ?_) ?_); (focus (first | (with_reducible first | assumption | exact encQ_nl _ | exact encO_nl _ | exact encC_nl _) | exact rfl)); (focus ((repeat ((with_reducible refine immA_c ?_ ?_); (focus (first | (with_reducible first | assumption | exact encQ_nl _ | exact encO_nl _ | exact encC_nl _) | exact rfl)))); exact rfl))) | refine And.intro rfl ?_ | refine And.intro trivial ?_ | refine And.intro ⟨rfl, trivial⟩ ?_ | refine And.intro ⟨rfl, rfl, trivial⟩ ?_ | refine ifb_nq (by first | assumption | decide) ?_ | refine ifb_pq (by assumption) ?_ | refine ifb_er ?_ | refine ifb_t ?_ | refine ifb_f ?_ | refine ifb_nr ?_ | refine ifb_er ?_ | ((with_reducible refine And.intro (?_ : (_ : Nat) ≤ _) ?_); (focus (first | decide | omega | (unfold CMul; omega) | (unfold CDiv; omega) | (unfold CPow; decide) | (exact cpow1 (by omega) (by omega)) | (simp only [rngD_len, List.length_replicate, List.length_map, List.length_append, List.length_cons, List.length_nil, List.length_set] at *; omega)))) | ((with_reducible refine And.intro (?_ : (_ : Int) ≤ _) ?_); (focus (first | decide | omega | (unfold CMul; omega) | (unfold CDiv; omega) | (unfold CPow; decide) | (exact cpow1 (by omega) (by omega)) | (simp only [rngD_len, List.length_replicate, List.length_map, List.length_append, List.length_cons, List.length_nil, List.length_set] at *; omega)))) | ((with_reducible refine And.intro (?_ : (_ : Nat) < _) ?_); (focus (first | decide | omega | (unfold CMul; omega) | (unfold CDiv; omega) | (unfold CPow; decide) | (exact cpow1 (by omega) (by omega)) | (simp only [rngD_len, List.length_replicate, List.length_map, List.length_append, List.length_cons, List.length_nil, List.length_set] at *; omega)))) | ((with_reducible refine And.intro (?_ : (_ : Int) < _) ?_); (focus (first | decide | omega | (unfold CMul; omega) | (unfold CDiv; omega) | (unfold CPow; decide) | (exact cpow1 (by omega) (by omega)) | (simp only [rngD_len, List.length_replicate, List.length_map, List.length_append, List.length_cons, List.length_nil, List.length_set] at *; omega)))) | ((with_reducible refine And.intro (?_ : CMul _ _) ?_); (focus (first | decide | omega | (unfold CMul; omega) | (unfold CDiv; omega) | (unfold CPow; decide) | (exact cpow1 (by omega) (by omega)) | (simp only [rngD_len, List.length_replicate, List.length_map, List.length_append, List.length_cons, List.length_nil, List.length_set] at *; omega)))) | ((with_reducible refine And.intro (?_ : CDiv _ _) ?_); (focus (first | decide | omega | (unfold CMul; omega) | (unfold CDiv; omega) | (unfold CPow; decide) | (exact cpow1 (by omega) (by omega)) | (simp only [rngD_len, List.length_replicate, List.length_map, List.length_append, List.length_cons, List.length_nil, List.length_set] at *; omega)))) | ((with_reducible refine And.intro (?_ : CPow _ _) ?_); (focus (first | decide | omega | (unfold CMul; omega) | (unfold CDiv; omega) | (unfold CPow; decide) | (exact cpow1 (by omega) (by omega)) | (simp only [rngD_len, List.length_replicate, List.length_map, List.length_append, List.length_cons, List.length_nil, List.length_set] at *; omega)))) | ((with_reducible refine And.intro (?_ : (_ : Nat) = _) ?_); (focus (first | decide | omega | (unfold CMul; omega) | (unfold CDiv; omega) | (unfold CPow; decide) | (exact cpow1 (by omega) (by omega)) | (simp only [rngD_len, List.length_replicate, List.length_map, List.length_append, List.length_cons, List.length_nil, List.length_set] at *; omega))))); (conv => whnf); (try dsimp only [List.set_cons_zero, List.set_cons_succ, upA, wipeE, back, List.getElem?_cons_zero, List.getElem?_cons_succ, Option.getD_some]))); (try dsimp only [List.set_cons_zero, List.set_cons_succ, upA, wipeE, back, List.getElem?_cons_zero, List.getElem?_cons_succ, Option.getD_some])))
section
variable {ns ks ms : List Int} {w : Wd} {a b c : Str} {m lo : Int} {row : List Vv} {hi : Option Int} {o8 : Option D}
theorem ch6 (hn : PyData.strOk a = true ∧ PyData.strOk b = true ∧ PyData.strOk c = true) (hr : row.length ≤ 2) (hv : ∀ v ∈ row, okV v) (h0 : 0 ≤ lo) (hh : ∀ h, hi = some h → lo < h) :
    wc_law_change_4 [some (.lst (ks.map D.int)), some (.rol (ms.map D.int)), some (encWd w), some (.lst [.str a, .str b, .str c]), some (.int m), some (.tup (row.map encV)), some (.int lo), some (encO hi), o8] (KCh ns ms w) := by
  have post := fun {ks : List Int} {r : D} {c : Chg} e h => drch_post (l0 := .lst (ns.map D.int)) (ms := ms) (w := w) (ks := ks) (r := r) (c := c) e h
  have ok : ∀ n, PyData.strOk n = true → ChOk ⟨n, row, lo, hi⟩ := fun n hn => ⟨hn, hr, hv, h0, hh⟩
  obtain ⟨ha, hb, hc⟩ := hn
  cases hi <;>
  · simp only [encWd, encO] at *
    walk_at "Ddlx"
    refine ⟨⟨⟨_, rfl⟩, by decide⟩, ?_⟩
    rintro _ _ ⟨n1, k, rfl, rfl, k0, k1⟩
    have : k = 0 ∨ k = 1 ∨ k = 2 ∨ k = 3 ∨ k = 4 := by omega
    rcases this with rfl | rfl | rfl | rfl | rfl <;>
    · walk_at "Ddlx"
      exact post rfl (ok _ (by assumption))
theorem ch3 (hn : PyData.strOk a = true ∧ PyData.strOk b = true ∧ PyData.strOk c = true) (hr : row.length ≤ 2) (hv : ∀ v ∈ row, okV v) :
    wc_law_change_3 [some (.lst (ks.map D.int)), some (.rol (ms.map D.int)), some (encWd w), some (.lst [.str a, .str b, .str c]), some (.int m), some (.tup (row.map encV)), none, none, o8] (KCh ns ms w) := by
  have nxt := fun {k2 : List Int} {lo : Int} {hi : Option Int} h0 hh => ch6 (ns := ns) (ks := k2) (ms := ms) (w := w) (a := a) (b := b) (c := c) (m := m) (lo := lo) (row := row) (hi := hi) (o8 := o8) hn hr hv h0 hh
  simp only [encWd] at *
  walk_at "Ddlx"
  refine ⟨⟨⟨_, rfl⟩, ⟨_, rfl⟩⟩, ?_⟩
  rintro _ _ ⟨n1, lo, rfl, rfl, l0⟩
  walk_at "Ddlx"
  refine ⟨⟨⟨_, rfl⟩, by decide⟩, ?_⟩
  rintro _ _ ⟨n2, k, rfl, rfl, k0, k1⟩
  walk_at "Ddlx"
  refine ifb_dec (fun g => ?_) (fun g => ?_)
  · walk_at "Ddlx"
    refine ⟨⟨⟨_, rfl⟩, ⟨_, rfl⟩⟩, ?_⟩
    rintro _ _ ⟨n3, s, rfl, rfl, s0⟩
    walk_at "Ddlx"
    exact Stop.mk (nxt (hi := some _) l0 (fun h e => by cases e; omega))
  · walk_at "Ddlx"
    exact Stop.mk (nxt (hi := none) l0 (fun h e => by cases e))
theorem ch2 (hn : PyData.strOk a = true ∧ PyData.strOk b = true ∧ PyData.strOk c = true) (O : WdOk w) (hm : 0 ≤ m ∧ m ≤ 2) :
    wc_law_change_2 [some (.lst (ks.map D.int)), some (.rol (ms.map D.int)), some (encWd w), some (.lst [.str a, .str b, .str c]), some (.int m), none, none, none, none] (KCh ns ms w) := by
  have nxt := fun {k2 : List Int} {row : List Vv} {o8 : Option D} h1 h2 => ch3 (ns := ns) (ks := k2) (ms := ms) (w := w) (a := a) (b := b) (c := c) (m := m) (row := row) (o8 := o8) hn h1 h2
  have v3 := O.v3
  have vv := O.vv
  have pk : ∀ kk : List Int, sp_law_pick.pre [.lst (kk.map D.int), .rol (w.vs.map encV)] ∧ ∀ r ds', sp_law_pick.post [.lst (kk.map D.int), .rol (w.vs.map encV)] r ds' → ∃ (k2 : List Int) (v : Vv), r = encV v ∧ ds' = [.lst (k2.map D.int), .rol (w.vs.map encV)] ∧ v ∈ w.vs := fun kk =>
    ⟨⟨kk, _, _, rfl, rfl, by rw [List.length_map]; omega, by rw [List.length_map]; omega⟩, fun r ds' h => by
      obtain ⟨k2, hr, e⟩ := h _ _ _ rfl rfl
      obtain ⟨v, hv, rfl⟩ := List.mem_map.mp hr
      exact ⟨k2, v, rfl, e, hv⟩⟩
  simp only [encWd] at *
  walk_at "Ddlx"
  refine loop_lc (fun xs acc e => ∃ (j t : Nat) (kk : List Int) (us : List Vv) (o8 : Option D), ((j : Int) + t = m ∧ xs = rngD j t ∧ acc = us.map encV ∧ us.length = j ∧ ∀ u ∈ us, okV u) ∧ e = [some (.lst (kk.map D.int)), some (.rol (ms.map D.int)), some (.lst [.int w.c, .rol (w.ns.map D.str), .rol (w.cs.map D.str), .rol (w.vs.map encV), .rol (w.lv.map encQ)]), some (.lst [.str a, .str b, .str c]), some (.int m), none, none, none, o8]) ⟨0, m.toNat, ks, [], none, ⟨by omega, by simp, rfl, rfl, nofun⟩, rfl⟩ ?_ ?_
  · rintro x r acc env nxt ⟨j, t, kk, us, o8, ⟨h1, h2, rfl, h4, h5⟩, rfl⟩ hx
    cases t with
    | zero => simp [rngD] at h2
    | succ t =>
      simp only [rngD, List.cons.injEq] at h2
      obtain ⟨rfl, rfl⟩ := h2
      walk_at "Ddlx"
      refine ⟨(pk kk).1, fun r0 ds' hp => ?_⟩
      obtain ⟨n3, v, rfl, rfl, hv⟩ := (pk kk).2 r0 ds' hp
      have nlv := encV_nl v
      walk_at "Ddlx"
      refine hx _ _ ⟨j + 1, t, n3, us ++ [v], _, ⟨by omega, rfl, by rw [List.map_append]; rfl, by rw [List.length_append, h4]; rfl, fun u hu => ?_⟩, rfl⟩
      rcases List.mem_append.mp hu with h | h
      · exact h5 u h
      · rw [List.mem_singleton.mp h]; exact vv v hv
  · rintro acc env ⟨j, t, kk, us, o8, ⟨h1, h2, rfl, h4, h5⟩, rfl⟩
    walk_at "Ddlx"
    exact Stop.mk (nxt (by cases t with
      | zero => omega
      | succ t => simp [rngD] at h2) h5)
theorem ch1 (hn : PyData.strOk a = true ∧ PyData.strOk b = true ∧ PyData.strOk c = true) (O : WdOk w) :
    wc_law_change_1 [some (.lst (ks.map D.int)), some (.rol (ms.map D.int)), some (encWd w), some (.lst [.str a, .str b, .str c]), none, none, none, none, none] (KCh ns ms w) := by
  have nxt := fun {k2 : List Int} {m : Int} h => ch2 (ns := ns) (ks := k2) (ms := ms) (w := w) (a := a) (b := b) (c := c) (m := m) hn O h
  simp only [encWd] at *
  walk_at "Ddlx"
  refine ⟨⟨⟨_, rfl⟩, by decide⟩, ?_⟩
  rintro _ _ ⟨n1, k, rfl, rfl, k0, k1⟩
  have : k = 0 ∨ k = 1 ∨ k = 2 ∨ k = 3 ∨ k = 4 ∨ k = 5 := by omega
  rcases this with rfl | rfl | rfl | rfl | rfl | rfl <;>
  · walk_at "Ddlx"
    refine Stop.mk (nxt ?_)
    decide
theorem pure_law_change : ∀ ds, ds.length = 3 → sp_law_change.pre ds → w_law_change (env0 ds 6) { nx := fun e => sp_law_change.post ds .non (outs e 3), rt := fun d e => sp_law_change.post ds d (outs e 3) } := by
  rintro ds _ ⟨ns, ms, w, rfl, O⟩
  rw [wc_law_change_eq]
  have nxt := fun {a b c : Str} hn => ch1 (ns := ns) (ks := ns) (ms := ms) (w := w) (a := a) (b := b) (c := c) hn O
  obtain ⟨a, b, e1⟩ : ∃ a b, w.ns = [a, b] := by
    match h : w.ns, O.n2 with
    | [a, b], _ => exact ⟨a, b, rfl⟩
  obtain ⟨x, y, z, e3⟩ : ∃ x y z, w.cs = [x, y, z] := by
    match h : w.cs, O.p.l3 with
    | [x, y, z], _ => exact ⟨x, y, z, rfl⟩
  have hx : x.length + (PySem.Str.ofString "q").length ≤ 1000000 := by
    have h1 := O.p.ww x (by rw [e3]; simp)
    unfold isW at h1
    simp only [Bool.and_eq_true, decide_eq_true_eq] at h1
    have h2 : x.length = x.cps.toList.length := by simp [PySem.Str.length]
    have h3 : (PySem.Str.ofString "q").length = 1 := by decide
    omega
  simp only [KCh, kt_law_change, encWd, e1, e3, List.map_cons, List.map_nil] at nxt ⊢
  unfold wc_law_change_0
  have hq : PyData.strOk (PySem.Str.ofString "q") = true := lay_word (by decide)
  generalize PySem.Str.ofString "q" = qq at hx hq ⊢
  walk_at "Ddlx"
  exact Stop.mk (nxt ⟨lay_word (O.nw a (by rw [e1]; simp)), lay_word (O.nw b (by rw [e1]; simp)), strOk_app (lay_word (O.p.ww x (by rw [e3]; simp))) hq⟩)
end
end DL

set_option maxHeartbeats 4000000
namespace DL
open PySem PySem.Spec PyProof.Rows L2
/-! ### spans moved by kinds -/
inductive MK where
  | shift | once | lately | soon | hence | since | sincenot | until | untilnot | way | both | either | unless | only | where_ | count | sum | least | most | linked
def mkzS : MK → Str
  | .shift => PySem.Str.ofString "shift" | .once => PySem.Str.ofString "once" | .lately => PySem.Str.ofString "lately" | .soon => PySem.Str.ofString "soon" | .hence => PySem.Str.ofString "henceforth"
  | .since => PySem.Str.ofString "since" | .sincenot => PySem.Str.ofString "sincenot" | .until => PySem.Str.ofString "until" | .untilnot => PySem.Str.ofString "untilnot" | .way => PySem.Str.ofString "way"
  | .both => PySem.Str.ofString "both" | .either => PySem.Str.ofString "either" | .unless => PySem.Str.ofString "unless" | .only => PySem.Str.ofString "only" | .where_ => PySem.Str.ofString "where"
  | .count => PySem.Str.ofString "count" | .sum => PySem.Str.ofString "sum" | .least => PySem.Str.ofString "least" | .most => PySem.Str.ofString "most" | .linked => PySem.Str.ofString "linked"
theorem mkzS_inj : ∀ {k k' : MK}, mkzS k = mkzS k' → k = k' := by
  intro k k' h
  cases k <;> cases k' <;> first | rfl | exact absurd h (by decide)
def addO : Option Int → Option Int → Option Int
  | some a, some b => some (a + b)
  | _, _ => none
def movE : MK → Option Int → Int → Option Int → Int × Option Int
  | .shift, w, l, h => (l - w.getD 0, addO h (some (-(w.getD 0))))
  | .once, w, l, h => (l, addO h w)
  | .lately, w, l, h => (l, addO h w)
  | .soon, some w, l, h => (l - w, h)
  | .soon, none, _, h => (0, h)
  | .hence, some w, l, h => (l - w, h)
  | .hence, none, _, h => (0, h)
  | .since, _, l, _ => (l, none)
  | .sincenot, _, l, _ => (l, none)
  | .until, _, _, h => (0, h)
  | .untilnot, _, _, h => (0, h)
  | .way, _, _, h => (0, h)
  | _, _, l, h => (l, h)
def QOk : MK → Option Int → D → Prop
  | .shift, w, x => x = encO w ∧ w ≠ none
  | .once, w, x => x = encO w
  | .lately, w, x => x = encO w
  | .soon, w, x => x = encO w
  | .hence, w, x => x = encO w
  | _, w, x => isL x = false ∧ w = none
theorem QOk.uniq {k : MK} {w w' : Option Int} {x : D} (h : QOk k w x) (h' : QOk k w' x) : w = w' := by
  cases k <;> simp only [QOk] at h h' <;> first
    | exact encO_inj (h.symm.trans h')
    | exact encO_inj (h.1.symm.trans h'.1)
    | exact h.2.trans h'.2.symm
def sp_joined_bound : FSpec where
  pre := fun ds => ∃ a b : Option Int, ds = [encO a, encO b]
  post := fun ds r ds' => ds' = ds ∧ ∀ a b : Option Int, ds = [encO a, encO b] → r = encO (addO a b)
theorem joined_post {a b : Option Int} {d : D} (h : d = encO (addO a b)) : ∀ a' b' : Option Int, [encO a, encO b] = [encO a', encO b'] → d = encO (addO a' b') := by
  intro a' b' e
  simp only [List.cons.injEq, and_true] at e
  rw [← encO_inj e.1, ← encO_inj e.2]
  exact h
/-- slots: 0 one, 1 other -/
def w_joined_bound : WS :=
    (cSeq (cIte (cOr (cUn (fIsN false) (cVar 0)) (cUn (fIsN false) (cVar 1)))
      (cRet 2 (cC .non))
      cNilS)
    (cRet 2 (cOp fAddG (cVar 0) (cVar 1))))
local macro_rules | `(tactic| walk_at "Ddls") => `(tactic| ((conv => whnf); (repeat ((first | refine And.intro rfl ?_ | refine And.intro trivial ?_ | refine And.intro ⟨rfl, trivial⟩ ?_ | refine And.intro ⟨rfl, rfl, trivial⟩ ?_ | refine ifb_ns (by decide) ?_ | refine ifb_er ?_ | refine ifb_t ?_ | refine ifb_f ?_ | refine ifb_nr ?_ | refine ifb_er ?_ | refine And.intro (by first | decide | omega | (unfold CMul; omega) | (unfold CDiv; omega) | (unfold CPow; decide) | (exact cpow1 (by omega) (by omega)) | (exact cpow1 (by dsimp only; omega) (by dsimp only; omega)) | (simp only [rngD_len, List.length_replicate, List.length_map, List.length_append, List.length_cons, List.length_nil, List.length_set] at *; omega)) ?_); conv => whnf))))
local macro_rules | `(tactic| walk_at "Ddl") => `(tactic| ((conv => whnf); (repeat ((first | refine And.intro rfl ?_ | refine And.intro trivial ?_ | refine And.intro ⟨rfl, trivial⟩ ?_ | refine And.intro ⟨rfl, rfl, trivial⟩ ?_ | refine ifb_t ?_ | refine ifb_f ?_ | refine ifb_nr ?_ | refine ifb_er ?_ | refine And.intro (by first | decide | omega | (unfold CMul; omega) | (unfold CDiv; omega) | (unfold CPow; decide) | (exact cpow1 (by omega) (by omega)) | (exact cpow1 (by dsimp only; omega) (by dsimp only; omega)) | (simp only [rngD_len, List.length_replicate, List.length_map, List.length_append, List.length_cons, List.length_nil, List.length_set] at *; omega)) ?_); conv => whnf))))
theorem pure_joined_bound : ∀ ds, ds.length = 2 → sp_joined_bound.pre ds → w_joined_bound (env0 ds 0) { nx := fun e => sp_joined_bound.post ds .non (outs e 2), rt := fun d e => sp_joined_bound.post ds d (outs e 2) } := by
  rintro ds _ ⟨a, b, rfl⟩
  cases a with
  | none =>
    walk_at "Ddl"
    exact joined_post rfl
  | some a =>
    cases b with
    | none =>
      walk_at "Ddl"
      exact joined_post rfl
    | some b =>
      walk_at "Ddl"
      exact joined_post rfl
def sp_moved_ends : FSpec where
  pre := fun ds => ∃ (k : MK) (w : Option Int) (x : D) (r : List D) (l : Int) (h : Option Int), ds = [.tup (.str (mkzS k) :: x :: r), .int l, encO h] ∧ QOk k w x
  post := fun ds r ds' => ds' = ds ∧ ∀ (k : MK) (w : Option Int) (x : D) (rr : List D) (l : Int) (h : Option Int), ds = [.tup (.str (mkzS k) :: x :: rr), .int l, encO h] → QOk k w x → r = .tup [.int (movE k w l h).1, encO (movE k w l h).2]
theorem ends_post {k : MK} {w : Option Int} {x d : D} {r : List D} {l : Int} {h : Option Int} (q : QOk k w x) (e : d = .tup [.int (movE k w l h).1, encO (movE k w l h).2]) : ∀ (k' : MK) (w' : Option Int) (x' : D) (rr : List D) (l' : Int) (h' : Option Int), [.tup (.str (mkzS k) :: x :: r), .int l, encO h] = [D.tup (.str (mkzS k') :: x' :: rr), .int l', encO h'] → QOk k' w' x' → d = .tup [.int (movE k' w' l' h').1, encO (movE k' w' l' h').2] := by
  intro k' w' x' rr l' h' e1 q'
  simp only [List.cons.injEq, and_true, D.tup.injEq, D.str.injEq, D.int.injEq] at e1
  obtain ⟨⟨e2, rfl, _⟩, rfl, e4⟩ := e1
  cases mkzS_inj e2
  cases encO_inj e4
  cases q.uniq q'
  exact e
theorem at0 (x : D) (r : List D) : atI (x :: r) 0 = some x := atI_nat (xs := x :: r) (j := 0) rfl
theorem at1 (x y : D) (r : List D) : atI (x :: y :: r) 1 = some y := atI_nat (xs := x :: y :: r) (j := 1) rfl
/-- slots: 0 question, 1 low, 2 high, 3 kind, 4 number -/
def w_moved_ends : WS :=
    (cSeq (cPar2 3 [0, 1, 2] 3 4 (cCons (cOp fIx (cVar 0) (cC (.int 0))) (cCons (cOp fIx (cVar 0) (cC (.int 1))) cNil)))
    (cSeq (cIte (cOp fEqS (cVar 3) (cC (.str (PySem.Str.ofString "shift"))))
      (cRet 3 (cTup (cCons (cOp fSub (cVar 1) (cVar 4)) (cCons (cCallN 2 sp_joined_bound (cCons (cVar 2) (cCons (cUn fNeg (cVar 4)) cNil))) cNil))))
      cNilS)
    (cSeq (cIte (cOp (fIn false) (cVar 3) (cTup (cCons (cC (.str (PySem.Str.ofString "once"))) (cCons (cC (.str (PySem.Str.ofString "lately"))) cNil))))
      (cRet 3 (cTup (cCons (cVar 1) (cCons (cCallN 2 sp_joined_bound (cCons (cVar 2) (cCons (cVar 4) cNil))) cNil))))
      cNilS)
    (cSeq (cIte (cOp (fIn false) (cVar 3) (cTup (cCons (cC (.str (PySem.Str.ofString "soon"))) (cCons (cC (.str (PySem.Str.ofString "henceforth"))) cNil))))
      (cRet 3 (cTup (cCons (cIf (cUn (fIsN false) (cVar 4)) (cC (.int 0)) (cOp fSub (cVar 1) (cVar 4))) (cCons (cVar 2) cNil))))
      cNilS)
    (cSeq (cIte (cOp (fIn false) (cVar 3) (cTup (cCons (cC (.str (PySem.Str.ofString "since"))) (cCons (cC (.str (PySem.Str.ofString "sincenot"))) cNil))))
      (cRet 3 (cTup (cCons (cVar 1) (cCons (cC .non) cNil))))
      cNilS)
    (cSeq (cIte (cOp (fIn false) (cVar 3) (cTup (cCons (cC (.str (PySem.Str.ofString "until"))) (cCons (cC (.str (PySem.Str.ofString "untilnot"))) (cCons (cC (.str (PySem.Str.ofString "way"))) cNil)))))
      (cRet 3 (cTup (cCons (cC (.int 0)) (cCons (cVar 2) cNil))))
      cNilS)
    (cRet 3 (cTup (cCons (cVar 1) (cCons (cVar 2) cNil))))))))))
theorem pure_moved_ends : ∀ ds, ds.length = 3 → sp_moved_ends.pre ds → w_moved_ends (env0 ds 2) { nx := fun e => sp_moved_ends.post ds .non (outs e 3), rt := fun d e => sp_moved_ends.post ds d (outs e 3) } := by
  rintro ds _ ⟨k, w, x, r, l, h, rfl, q⟩
  cases k with
  | shift =>
    obtain ⟨rfl, q2⟩ := id q
    cases w with
    | none => exact absurd rfl q2
    | some n =>
      cases h with
      | none =>
        walk_at "Ddls"
        rw [at0]
        walk_at "Ddls"
        rw [at1]
        walk_at "Ddls"
        refine ⟨⟨none, some (-n), rfl⟩, ?_⟩
        rintro _ _ ⟨rfl, hj⟩
        cases hj none (some (-n)) rfl
        walk_at "Ddls"
        exact ends_post q rfl
      | some h =>
        walk_at "Ddls"
        rw [at0]
        walk_at "Ddls"
        rw [at1]
        walk_at "Ddls"
        refine ⟨⟨some h, some (-n), rfl⟩, ?_⟩
        rintro _ _ ⟨rfl, hj⟩
        cases hj (some h) (some (-n)) rfl
        walk_at "Ddls"
        exact ends_post q rfl
  | once =>
    obtain rfl := id q
    cases w <;> cases h <;> (
      walk_at "Ddls"
      rw [at0]
      walk_at "Ddls"
      rw [at1]
      walk_at "Ddls"
      refine ⟨⟨_, _, rfl⟩, ?_⟩
      rintro _ _ ⟨rfl, hj⟩
      cases hj _ _ rfl
      walk_at "Ddls"
      exact ends_post q rfl)
  | lately =>
    obtain rfl := id q
    cases w <;> cases h <;> (
      walk_at "Ddls"
      rw [at0]
      walk_at "Ddls"
      rw [at1]
      walk_at "Ddls"
      refine ⟨⟨_, _, rfl⟩, ?_⟩
      rintro _ _ ⟨rfl, hj⟩
      cases hj _ _ rfl
      walk_at "Ddls"
      exact ends_post q rfl)
  | soon =>
    obtain rfl := id q
    cases w <;> cases h <;> (
      walk_at "Ddls"
      rw [at0]
      walk_at "Ddls"
      rw [at1]
      walk_at "Ddls"
      exact ends_post q rfl)
  | hence =>
    obtain rfl := id q
    cases w <;> cases h <;> (
      walk_at "Ddls"
      rw [at0]
      walk_at "Ddls"
      rw [at1]
      walk_at "Ddls"
      exact ends_post q rfl)
  | _ =>
    obtain ⟨hL, rfl⟩ := id q
    cases x <;> first | (simp [isL] at hL; done) | skip
    all_goals cases h <;> (
      walk_at "Ddls"
      rw [at0]
      walk_at "Ddls"
      rw [at1]
      walk_at "Ddls"
      exact ends_post q rfl)
/-! ### the moved span -/
def movS (k : MK) (w : Option Int) : SpO → SpO
  | none => none
  | some (l, h) => match movE k w l h with
    | (_, some x) => if x ≤ 0 then none else some ((if 0 > (movE k w l h).1 then 0 else (movE k w l h).1), some x)
    | (_, none) => some ((if 0 > (movE k w l h).1 then 0 else (movE k w l h).1), none)
def sp_moved_span : FSpec where
  pre := fun ds => ∃ (k : MK) (w : Option Int) (x : D) (r : List D) (s : SpO), ds = [.tup (.str (mkzS k) :: x :: r), encZ s] ∧ QOk k w x
  post := fun ds r ds' => ds' = ds ∧ ∀ (k : MK) (w : Option Int) (x : D) (rr : List D) (s : SpO), ds = [.tup (.str (mkzS k) :: x :: rr), encZ s] → QOk k w x → r = encZ (movS k w s)
theorem mspan_post {k : MK} {w : Option Int} {x d : D} {r : List D} {s : SpO} (q : QOk k w x) (e : d = encZ (movS k w s)) : ∀ (k' : MK) (w' : Option Int) (x' : D) (rr : List D) (s' : SpO), [.tup (.str (mkzS k) :: x :: r), encZ s] = [D.tup (.str (mkzS k') :: x' :: rr), encZ s'] → QOk k' w' x' → d = encZ (movS k' w' s') := by
  intro k' w' x' rr s' e1 q'
  simp only [List.cons.injEq, and_true, D.tup.injEq, D.str.injEq] at e1
  obtain ⟨⟨e2, rfl, _⟩, e4⟩ := e1
  cases mkzS_inj e2
  cases encZ_inj e4
  cases q.uniq q'
  exact e
/-- slots: 0 question, 1 span, 2 low, 3 high -/
def w_moved_span : WS :=
    (cSeq (cIte (cUn (fIsN false) (cVar 1))
      (cRet 2 (cC .non))
      cNilS)
    (cSeq (cUnp (cCallN 3 sp_moved_ends (cCons (cVar 0) (cCons (cOp fIx (cVar 1) (cC (.int 0))) (cCons (cOp fIx (cVar 1) (cC (.int 1))) cNil)))) (gT 2 (gCons' (gN 2 [0, 1] 2) (gCons' (gN 2 [0, 1] 3) gNil'))))
    (cSeq (cIte (cAnd (cUn (fIsN true) (cVar 3)) (cOp fLe (cVar 3) (cC (.int 0))))
      (cRet 2 (cC .non))
      cNilS)
    (cRet 2 (cTup (cCons (cBi fMax (cCons (cVar 2) (cCons (cC (.int 0)) cNil))) (cCons (cVar 3) cNil)))))))
theorem pure_moved_span : ∀ ds, ds.length = 2 → sp_moved_span.pre ds → w_moved_span (env0 ds 2) { nx := fun e => sp_moved_span.post ds .non (outs e 2), rt := fun d e => sp_moved_span.post ds d (outs e 2) } := by
  rintro ds _ ⟨k, w, x, r, s, rfl, q⟩
  cases s with
  | none =>
    walk_at "Ddl"
    exact mspan_post q rfl
  | some p =>
    obtain ⟨l, h⟩ := p
    walk_at "Ddl"
    refine ⟨⟨k, w, x, r, l, h, rfl, q⟩, ?_⟩
    rintro _ _ ⟨rfl, hj⟩
    cases hj k w x r l h rfl q
    have e0 : movS k w (some (l, h)) = match movE k w l h with
      | (_, some x) => if x ≤ 0 then none else some ((if 0 > (movE k w l h).1 then 0 else (movE k w l h).1), some x)
      | (_, none) => some ((if 0 > (movE k w l h).1 then 0 else (movE k w l h).1), none) := rfl
    have fin := fun (d : D) (g : d = encZ (movS k w (some (l, h)))) => mspan_post (r := r) (s := some (l, h)) q g
    rw [e0] at fin
    generalize movE k w l h = m at *
    obtain ⟨l', h'⟩ := m
    cases h' with
    | none =>
      walk_at "Ddl"
      exact fin _ rfl
    | some x' =>
      walk_at "Ddl"
      refine ifb_dec (fun g => ?_) (fun g => ?_)
      · walk_at "Ddl"
        exact fin _ (by dsimp only; rw [if_pos g]; rfl)
      · walk_at "Ddl"
        exact fin _ (by dsimp only; rw [if_neg g]; rfl)
end DL

set_option maxHeartbeats 1000000
namespace DL
open PySem PySem.Spec PyProof.Rows L2
/-! ### the law's own spans of questions -/
def sp_law_around : FSpec where
  pre := fun ds => ∃ s t : SpO, ds = [encZ s, encZ t]
  post := fun ds r ds' => ds' = ds ∧ ∀ s t : SpO, ds = [encZ s, encZ t] → r = encZ (H2 s t)
theorem ar_post {s t : SpO} {r : D} (h : r = encZ (H2 s t)) : ∀ s' t' : SpO, [encZ s, encZ t] = [encZ s', encZ t'] → r = encZ (H2 s' t') := by
  intro s' t' e
  simp only [List.cons.injEq, and_true] at e
  rw [← encZ_inj e.1, ← encZ_inj e.2]
  exact h
/-- slots: 0 one, 1 other -/
def w_law_around : WS :=
    (cSeq (cIte (cOr (cUn (fIsN false) (cVar 0)) (cUn (fIsN false) (cVar 1)))
      (cRet 2 (cOp fIx (cLst (cCons (cVar 0) (cCons (cVar 1) cNil))) (cBi fInt (cCons (cUn (fIsN false) (cVar 0)) cNil))))
      cNilS)
    (cSeq (cIte (cOr (cUn (fIsN false) (cOp fIx (cVar 0) (cC (.int 1)))) (cUn (fIsN false) (cOp fIx (cVar 1) (cC (.int 1)))))
      (cRet 2 (cTup (cCons (cBi fMin (cCons (cOp fIx (cVar 0) (cC (.int 0))) (cCons (cOp fIx (cVar 1) (cC (.int 0))) cNil))) (cCons (cC .non) cNil))))
      cNilS)
    (cRet 2 (cTup (cCons (cBi fMin (cCons (cOp fIx (cVar 0) (cC (.int 0))) (cCons (cOp fIx (cVar 1) (cC (.int 0))) cNil))) (cCons (cBi fMax (cCons (cOp fIx (cVar 0) (cC (.int 1))) (cCons (cOp fIx (cVar 1) (cC (.int 1))) cNil))) cNil))))))
local macro_rules | `(tactic| walk_at "Ddlx") => `(tactic| ((conv => whnf); (repeat ((first | ((with_reducible refine And.intro (stOk_nl ?_ ?_) ?_); (focus (with_reducible first | assumption | exact encQ_nl _ | exact encO_nl _ | exact encC_nl _)); (focus exact rfl)) | ((refine pick_nl ?_ ?_); (focus (with_reducible first | assumption | exact encQ_nl _ | exact encO_nl _ | exact encC_nl _))) | ((with_reducible refine And.intro ?_ ?_); (focus (with_reducible first | assumption | exact encQ_nl _ | exact encO_nl _ | exact encC_nl _))) | ((with_reducible refine And.intro (immA_c ?_ ?_) ?_); (focus (first | (with_reducible first | assumption | exact encQ_nl _ | exact encO_nl _ | exact encC_nl _) | exact rfl)); (focus ((repeat ((with_reducible refine immA_c ?_ ?_); (focus (first | (with_reducible first | assumption | exact encQ_nl _ | exact encO_nl _ | exact encC_nl _) | exact rfl)))); exact rfl))) | refine And.intro rfl ?_ | refine And.intro trivial ?_ | refine And.intro ⟨rfl, trivial⟩ ?_ | refine And.intro ⟨rfl, rfl, trivial⟩ ?_ | refine ifb_nq (by first | assumption | decide) ?_ | refine ifb_pq (by assumption) ?_ | refine ifb_er ?_ | refine ifb_t ?_ | refine ifb_f ?_ | refine ifb_nr ?_ | refine ifb_er ?_ | ((with_reducible refine And.intro (?_ : (_ : Nat) ≤ _) ?_); (focus (first | decide | omega | (unfold CMul; omega) | (unfold CDiv; omega) | (unfold CPow; decide) | (exact cpow1 (by omega) (by omega)) | (simp only [rngD_len, List.length_replicate, List.length_map, List.length_append, List.length_cons, List.length_nil, List.length_set] at *; omega)))) | ((with_reducible refine And.intro (?_ : (_ : Int) ≤ _) ?_); (focus (first | decide | omega | (unfold CMul; omega) | (unfold CDiv; omega) | (unfold CPow; decide) | (exact cpow1 (by omega) (by omega)) | (simp only [rngD_len, List.length_replicate, List.length_map, List.length_append, List.length_cons, List.length_nil, List.length_set] at *; omega)))) | ((with_reducible refine And.intro (?_ : (_ : Nat) < _) ?_); (focus (first | decide | omega | (unfold CMul; omega) | (unfold CDiv; omega) | (unfold CPow; decide) | (exact cpow1 (by omega) (by omega)) | (simp only [rngD_len, List.length_replicate, List.length_map, List.length_append, List.length_cons, List.length_nil, List.length_set] at *; omega)))) | ((with_reducible refine And.intro (?_ : (_ : Int) < _) ?_); (focus (first | decide | omega | (unfold CMul; omega) | (unfold CDiv; omega) | (unfold CPow; decide) | (exact cpow1 (by omega) (by omega)) | (simp only [rngD_len, List.length_replicate, List.length_map, List.length_append, List.length_cons, List.length_nil, List.length_set] at *; omega)))) | ((with_reducible refine And.intro (?_ : CMul _ _) ?_); (focus (first | decide | omega | (unfold CMul; omega) | (unfold CDiv; omega) | (unfold CPow; decide) | (exact cpow1 (by omega) (by omega)) | (simp only [rngD_len, List.length_replicate, List.length_map, List.length_append, List.length_cons, List.length_nil, List.length_set] at *; omega)))) | ((with_reducible refine And.intro (?_ : CDiv _ _) ?_); (focus (first | decide | omega | (unfold CMul; omega) | (unfold CDiv; omega) | (unfold CPow; decide) | (exact cpow1 (by omega) (by omega)) | (simp only [rngD_len, List.length_replicate, List.length_map, List.length_append, List.length_cons, List.length_nil, List.length_set] at *; omega)))) | ((with_reducible refine And.intro (?_ : CPow _ _) ?_); (focus (first | decide | omega | (unfold CMul; omega) | (unfold CDiv; omega) | (unfold CPow; decide) | (exact cpow1 (by omega) (by omega)) | (simp only [rngD_len, List.length_replicate, List.length_map, List.length_append, List.length_cons, List.length_nil, List.length_set] at *; omega)))) | ((with_reducible refine And.intro (?_ : (_ : Nat) = _) ?_); (focus (first | decide | omega | (unfold CMul; omega) | (unfold CDiv; omega) | (unfold CPow; decide) | (exact cpow1 (by omega) (by omega)) | (simp only [rngD_len, List.length_replicate, List.length_map, List.length_append, List.length_cons, List.length_nil, List.length_set] at *; omega))))); (conv => whnf); (try dsimp only [List.set_cons_zero, List.set_cons_succ, upA, wipeE, back, List.getElem?_cons_zero, List.getElem?_cons_succ, Option.getD_some]))); (try dsimp only [List.set_cons_zero, List.set_cons_succ, upA, wipeE, back, List.getElem?_cons_zero, List.getElem?_cons_succ, Option.getD_some])))
theorem pure_law_around : ∀ ds, ds.length = 2 → sp_law_around.pre ds → w_law_around (env0 ds 0) { nx := fun e => sp_law_around.post ds .non (outs e 2), rt := fun d e => sp_law_around.post ds d (outs e 2) } := by
  rintro ds _ ⟨s, t, rfl⟩
  have post := fun {r : D} h => ar_post (s := s) (t := t) (r := r) h
  rcases s with _ | ⟨a, ha⟩ <;> rcases t with _ | ⟨b, hb⟩
  · walk_at "Ddlx"
    exact post rfl
  · walk_at "Ddlx"
    exact post rfl
  · walk_at "Ddlx"
    exact post rfl
  · rcases ha with _ | h <;> rcases hb with _ | k <;> walk_at "Ddlx" <;> refine post ?_ <;> rw [H2_comm] <;> rfl
end DL

set_option maxHeartbeats 1000000
namespace DL
open PySem PySem.Spec PyProof.Rows L2
/-! ### the law's own moved spans -/
def SpZ (s : SpO) : Prop := ∀ l h, s = some (l, h) → 0 ≤ l ∧ ∀ y, h = some y → l < y
def wOk (k : MK) (w : Option Int) : Prop := k = .shift ∨ ∀ n, w = some n → 0 ≤ n
def sp_law_moved : FSpec where
  pre := fun ds => ∃ (k : MK) (w : Option Int) (x : D) (r : List D) (l : Int) (h : Option Int), ds = [.tup (.str (mkzS k) :: x :: r), encZ (some (l, h))] ∧ QOk k w x ∧ 0 ≤ l ∧ (∀ y, h = some y → l < y) ∧ wOk k w
  post := fun ds r ds' => ds' = ds ∧ ∀ (k : MK) (w : Option Int) (x : D) (rr : List D) (s : SpO), ds = [.tup (.str (mkzS k) :: x :: rr), encZ s] → QOk k w x → r = encZ (movS k w s)
theorem encZ_s {l : Int} {h : Option Int} : encZ (some (l, h)) = .tup [.int l, encO h] := rfl
theorem mv1 {k : MK} {w : Option Int} {l : Int} {h : Option Int} {l' y : Int} (e : movE k w l h = (l', some y)) (h0 : 0 ≤ l') (h1 : 0 < y) : movS k w (some (l, h)) = some (l', some y) := by
  unfold movS
  simp only [e]
  rw [if_neg (by omega), if_neg (by omega)]
theorem mv0 {k : MK} {w : Option Int} {l : Int} {h : Option Int} {l' : Int} (e : movE k w l h = (l', none)) (h0 : 0 ≤ l') : movS k w (some (l, h)) = some (l', none) := by
  unfold movS
  simp only [e]
  rw [if_neg (by omega)]
theorem mv1m {k : MK} {w : Option Int} {l : Int} {h : Option Int} {l' y : Int} (e : movE k w l h = (l', some y)) (h1 : 0 < y) : movS k w (some (l, h)) = some (if l' > 0 then l' else 0, some y) := by
  unfold movS
  simp only [e]
  rw [if_neg (by omega)]
  congr 2
  split <;> split <;> omega
theorem mv0m {k : MK} {w : Option Int} {l : Int} {h : Option Int} {l' : Int} (e : movE k w l h = (l', none)) : movS k w (some (l, h)) = some (if l' > 0 then l' else 0, none) := by
  unfold movS
  simp only [e]
  congr 2
  split <;> split <;> omega
theorem mvn {k : MK} {w : Option Int} {l : Int} {h : Option Int} {l' y : Int} (e : movE k w l h = (l', some y)) (h1 : y ≤ 0) : movS k w (some (l, h)) = none := by
  unfold movS
  simp only [e]
  rw [if_pos h1]
/-- slots: 0 question, 1 span, 2 kind, 3 low, 4 high -/
def w_law_moved : WS :=
    (cSeq (cAsg 2 [0, 1] 2 (cOp fIx (cVar 0) (cC (.int 0))))
    (cSeq (cAsg 2 [0, 1] 3 (cOp fIx (cVar 1) (cC (.int 0))))
    (cSeq (cAsg 2 [0, 1] 4 (cOp fIx (cVar 1) (cC (.int 1))))
    (cSeq (cIte (cOp (fIn false) (cVar 2) (cLst (cCons (cC (.str (PySem.Str.ofString "since"))) (cCons (cC (.str (PySem.Str.ofString "sincenot"))) cNil))))
      (cRet 2 (cTup (cCons (cVar 3) (cCons (cC .non) cNil))))
      cNilS)
    (cSeq (cIte (cOp (fIn false) (cVar 2) (cLst (cCons (cC (.str (PySem.Str.ofString "until"))) (cCons (cC (.str (PySem.Str.ofString "untilnot"))) (cCons (cC (.str (PySem.Str.ofString "way"))) cNil)))))
      (cRet 2 (cTup (cCons (cC (.int 0)) (cCons (cVar 4) cNil))))
      cNilS)
    (cSeq (cIte (cOp (fIn false) (cVar 2) (cLst (cCons (cC (.str (PySem.Str.ofString "once"))) (cCons (cC (.str (PySem.Str.ofString "lately"))) cNil))))
      (cSeq (cIte (cOr (cUn (fIsN false) (cOp fIx (cVar 0) (cC (.int 1)))) (cUn (fIsN false) (cVar 4)))
          (cRet 2 (cTup (cCons (cVar 3) (cCons (cC .non) cNil))))
          cNilS)
        (cRet 2 (cTup (cCons (cVar 3) (cCons (cOp fAddG (cVar 4) (cOp fIx (cVar 0) (cC (.int 1)))) cNil)))))
      cNilS)
    (cSeq (cIte (cOp (fIn false) (cVar 2) (cLst (cCons (cC (.str (PySem.Str.ofString "soon"))) (cCons (cC (.str (PySem.Str.ofString "henceforth"))) cNil))))
      (cSeq (cIte (cUn (fIsN false) (cOp fIx (cVar 0) (cC (.int 1))))
          (cRet 2 (cTup (cCons (cC (.int 0)) (cCons (cVar 4) cNil))))
          cNilS)
        (cRet 2 (cTup (cCons (cBi fMax (cCons (cC (.int 0)) (cCons (cOp fSub (cVar 3) (cOp fIx (cVar 0) (cC (.int 1)))) cNil))) (cCons (cVar 4) cNil)))))
      cNilS)
    (cSeq (cIte (cOp fEqS (cVar 2) (cC (.str (PySem.Str.ofString "shift"))))
      (cSeq (cIte (cUn (fIsN false) (cVar 4))
          (cRet 2 (cTup (cCons (cBi fMax (cCons (cC (.int 0)) (cCons (cOp fSub (cVar 3) (cOp fIx (cVar 0) (cC (.int 1)))) cNil))) (cCons (cC .non) cNil))))
          cNilS)
        (cSeq (cIte (cOp fLe (cVar 4) (cOp fIx (cVar 0) (cC (.int 1))))
          (cRet 2 (cC .non))
          cNilS)
        (cRet 2 (cTup (cCons (cBi fMax (cCons (cC (.int 0)) (cCons (cOp fSub (cVar 3) (cOp fIx (cVar 0) (cC (.int 1)))) cNil))) (cCons (cOp fSub (cVar 4) (cOp fIx (cVar 0) (cC (.int 1)))) cNil))))))
      cNilS)
    (cRet 2 (cVar 1))))))))))
local macro_rules | `(tactic| walk_at "Ddlx") => `(tactic| ((conv => whnf); (repeat ((first | ((with_reducible refine And.intro (stOk_nl ?_ ?_) ?_); (focus (with_reducible first | assumption | exact encQ_nl _ | exact encO_nl _ | exact encC_nl _)); (focus exact rfl)) | ((refine pick_nl ?_ ?_); (focus (with_reducible first | assumption | exact encQ_nl _ | exact encO_nl _ | exact encC_nl _))) | ((with_reducible refine And.intro ?_ ?_); (focus (with_reducible first | assumption | exact encQ_nl _ | exact encO_nl _ | exact encC_nl _))) | ((with_reducible refine And.intro (immA_c ?_ ?_) ?_); (focus (first | (with_reducible first | assumption | exact encQ_nl _ | exact encO_nl _ | exact encC_nl _) | exact rfl)); (focus ((repeat ((with_reducible refine immA_c ?_ ?_); (focus (first | (with_reducible first | assumption | exact encQ_nl _ | exact encO_nl _ | exact encC_nl _) | exact rfl)))); exact rfl))) | refine And.intro rfl ?_ | refine And.intro trivial ?_ | refine And.intro ⟨rfl, trivial⟩ ?_ | refine And.intro ⟨rfl, rfl, trivial⟩ ?_ | refine ifb_nq (by first | assumption | decide) ?_ | refine ifb_pq (by assumption) ?_ | refine ifb_er ?_ | refine ifb_t ?_ | refine ifb_f ?_ | refine ifb_nr ?_ | refine ifb_er ?_ | ((with_reducible refine And.intro (?_ : (_ : Nat) ≤ _) ?_); (focus (first | decide | omega | (unfold CMul; omega) | (unfold CDiv; omega) | (unfold CPow; decide) | (exact cpow1 (by omega) (by omega)) | (simp only [rngD_len, List.length_replicate, List.length_map, List.length_append, List.length_cons, List.length_nil, List.length_set] at *; omega)))) | ((with_reducible refine And.intro (?_ : (_ : Int) ≤ _) ?_); (focus (first | decide | omega | (unfold CMul; omega) | (unfold CDiv; omega) | (unfold CPow; decide) | (exact cpow1 (by omega) (by omega)) | (simp only [rngD_len, List.length_replicate, List.length_map, List.length_append, List.length_cons, List.length_nil, List.length_set] at *; omega)))) | ((with_reducible refine And.intro (?_ : (_ : Nat) < _) ?_); (focus (first | decide | omega | (unfold CMul; omega) | (unfold CDiv; omega) | (unfold CPow; decide) | (exact cpow1 (by omega) (by omega)) | (simp only [rngD_len, List.length_replicate, List.length_map, List.length_append, List.length_cons, List.length_nil, List.length_set] at *; omega)))) | ((with_reducible refine And.intro (?_ : (_ : Int) < _) ?_); (focus (first | decide | omega | (unfold CMul; omega) | (unfold CDiv; omega) | (unfold CPow; decide) | (exact cpow1 (by omega) (by omega)) | (simp only [rngD_len, List.length_replicate, List.length_map, List.length_append, List.length_cons, List.length_nil, List.length_set] at *; omega)))) | ((with_reducible refine And.intro (?_ : CMul _ _) ?_); (focus (first | decide | omega | (unfold CMul; omega) | (unfold CDiv; omega) | (unfold CPow; decide) | (exact cpow1 (by omega) (by omega)) | (simp only [rngD_len, List.length_replicate, List.length_map, List.length_append, List.length_cons, List.length_nil, List.length_set] at *; omega)))) | ((with_reducible refine And.intro (?_ : CDiv _ _) ?_); (focus (first | decide | omega | (unfold CMul; omega) | (unfold CDiv; omega) | (unfold CPow; decide) | (exact cpow1 (by omega) (by omega)) | (simp only [rngD_len, List.length_replicate, List.length_map, List.length_append, List.length_cons, List.length_nil, List.length_set] at *; omega)))) | ((with_reducible refine And.intro (?_ : CPow _ _) ?_); (focus (first | decide | omega | (unfold CMul; omega) | (unfold CDiv; omega) | (unfold CPow; decide) | (exact cpow1 (by omega) (by omega)) | (simp only [rngD_len, List.length_replicate, List.length_map, List.length_append, List.length_cons, List.length_nil, List.length_set] at *; omega)))) | ((with_reducible refine And.intro (?_ : (_ : Nat) = _) ?_); (focus (first | decide | omega | (unfold CMul; omega) | (unfold CDiv; omega) | (unfold CPow; decide) | (exact cpow1 (by omega) (by omega)) | (simp only [rngD_len, List.length_replicate, List.length_map, List.length_append, List.length_cons, List.length_nil, List.length_set] at *; omega))))); (conv => whnf); (try dsimp only [List.set_cons_zero, List.set_cons_succ, upA, wipeE, back, List.getElem?_cons_zero, List.getElem?_cons_succ, Option.getD_some]))); (try dsimp only [List.set_cons_zero, List.set_cons_succ, upA, wipeE, back, List.getElem?_cons_zero, List.getElem?_cons_succ, Option.getD_some])))
theorem pure_law_moved : ∀ ds, ds.length = 2 → sp_law_moved.pre ds → w_law_moved (env0 ds 3) { nx := fun e => sp_law_moved.post ds .non (outs e 2), rt := fun d e => sp_law_moved.post ds d (outs e 2) } := by
  rintro ds _ ⟨k, w, x, r, l, h, rfl, q, h0, h1, wk⟩
  have fin := fun {d : D} g => mspan_post (r := r) (d := d) (s := some (l, h)) q g
  rw [encZ_s] at fin ⊢
  cases k with
  | shift =>
    obtain ⟨rfl, q2⟩ := id q
    cases w with
    | none => exact absurd rfl q2
    | some n =>
      cases h with
      | none =>
        walk_at "Ddlx"
        rw [at0]
        walk_at "Ddlx"
        rw [at1]
        walk_at "Ddlx"
        refine fin ?_
        rw [mv0m (show movE .shift (some n) l none = (l - n, none) from rfl)]
        rfl
      | some h =>
        walk_at "Ddlx"
        rw [at0]
        walk_at "Ddlx"
        rw [at1]
        walk_at "Ddlx"
        refine ifb_dec (fun g => ?_) (fun g => ?_)
        · walk_at "Ddlx"
          refine fin ?_
          rw [mvn (show movE .shift (some n) l (some h) = (l - n, some (h + -n)) from rfl) (by omega)]
          rfl
        · walk_at "Ddlx"
          rw [at1]
          walk_at "Ddlx"
          rw [at1]
          walk_at "Ddlx"
          refine fin ?_
          rw [mv1m (show movE .shift (some n) l (some h) = (l - n, some (h + -n)) from rfl) (by omega), ← Int.sub_eq_add_neg]
          rfl
  | once =>
    obtain rfl := id q
    cases w with
    | none =>
      have m := fun h => mv0 (show movE .once none l h = (l, none) from by cases h <;> rfl) h0
      cases h <;> (
        walk_at "Ddlx"
        rw [at0]
        walk_at "Ddlx"
        rw [at1]
        walk_at "Ddlx"
        refine fin ?_
        rw [m]
        rfl)
    | some n =>
      cases h with
      | none =>
        walk_at "Ddlx"
        rw [at0]
        walk_at "Ddlx"
        rw [at1]
        walk_at "Ddlx"
        refine fin ?_
        rw [mv0 (show movE .once (some n) l none = (l, none) from rfl) h0]
        rfl
      | some h =>
        have w0 := wk.resolve_left (by intro z; cases z) n rfl
        have h2 := h1 h rfl
        walk_at "Ddlx"
        rw [at0]
        walk_at "Ddlx"
        rw [at1]
        walk_at "Ddlx"
        rw [at1]
        walk_at "Ddlx"
        refine fin ?_
        rw [mv1 (show movE .once (some n) l (some h) = (l, some (h + n)) from rfl) h0 (by omega)]
        rfl
  | lately =>
    obtain rfl := id q
    cases w with
    | none =>
      have m := fun h => mv0 (show movE .lately none l h = (l, none) from by cases h <;> rfl) h0
      cases h <;> (
        walk_at "Ddlx"
        rw [at0]
        walk_at "Ddlx"
        rw [at1]
        walk_at "Ddlx"
        refine fin ?_
        rw [m]
        rfl)
    | some n =>
      cases h with
      | none =>
        walk_at "Ddlx"
        rw [at0]
        walk_at "Ddlx"
        rw [at1]
        walk_at "Ddlx"
        refine fin ?_
        rw [mv0 (show movE .lately (some n) l none = (l, none) from rfl) h0]
        rfl
      | some h =>
        have w0 := wk.resolve_left (by intro z; cases z) n rfl
        have h2 := h1 h rfl
        walk_at "Ddlx"
        rw [at0]
        walk_at "Ddlx"
        rw [at1]
        walk_at "Ddlx"
        rw [at1]
        walk_at "Ddlx"
        refine fin ?_
        rw [mv1 (show movE .lately (some n) l (some h) = (l, some (h + n)) from rfl) h0 (by omega)]
        rfl
  | soon =>
    obtain rfl := id q
    have hh : ∀ y, h = some y → 0 < y := fun y e => by have := h1 y e; omega
    cases w with
    | none =>
      cases h <;> (
        walk_at "Ddlx"
        rw [at0]
        walk_at "Ddlx"
        rw [at1]
        walk_at "Ddlx"
        refine fin ?_
        first | (rw [mv0 (show movE .soon none l none = (0, none) from rfl) (by omega)]; rfl) | (rw [mv1 (show movE .soon none l (some _) = (0, some _) from rfl) (by omega) (hh _ rfl)]; rfl))
    | some n =>
      cases h <;> (
        walk_at "Ddlx"
        rw [at0]
        walk_at "Ddlx"
        rw [at1]
        walk_at "Ddlx"
        rw [at1]
        walk_at "Ddlx"
        refine fin ?_
        first | (rw [mv0m (show movE .soon (some n) l none = (l - n, none) from rfl)]; rfl) | (rw [mv1m (show movE .soon (some n) l (some _) = (l - n, some _) from rfl) (hh _ rfl)]; rfl))
  | hence =>
    obtain rfl := id q
    have hh : ∀ y, h = some y → 0 < y := fun y e => by have := h1 y e; omega
    cases w with
    | none =>
      cases h <;> (
        walk_at "Ddlx"
        rw [at0]
        walk_at "Ddlx"
        rw [at1]
        walk_at "Ddlx"
        refine fin ?_
        first | (rw [mv0 (show movE .hence none l none = (0, none) from rfl) (by omega)]; rfl) | (rw [mv1 (show movE .hence none l (some _) = (0, some _) from rfl) (by omega) (hh _ rfl)]; rfl))
    | some n =>
      cases h <;> (
        walk_at "Ddlx"
        rw [at0]
        walk_at "Ddlx"
        rw [at1]
        walk_at "Ddlx"
        rw [at1]
        walk_at "Ddlx"
        refine fin ?_
        first | (rw [mv0m (show movE .hence (some n) l none = (l - n, none) from rfl)]; rfl) | (rw [mv1m (show movE .hence (some n) l (some _) = (l - n, some _) from rfl) (hh _ rfl)]; rfl))
  | since =>
    cases h <;> (
      walk_at "Ddlx"
      rw [at0]
      walk_at "Ddlx"
      refine fin ?_
      rw [mv0 (show movE .since w l _ = (l, none) from rfl) h0]
      rfl)
  | sincenot =>
    cases h <;> (
      walk_at "Ddlx"
      rw [at0]
      walk_at "Ddlx"
      refine fin ?_
      rw [mv0 (show movE .sincenot w l _ = (l, none) from rfl) h0]
      rfl)
  | _ =>
    have hh : ∀ y, h = some y → 0 < y := fun y e => by have := h1 y e; omega
    cases h <;> (
      walk_at "Ddlx"
      rw [at0]
      walk_at "Ddlx"
      refine fin ?_
      first
        | (rw [mv0 (l' := 0) (by rfl) (by omega)]; rfl)
        | (rw [mv0 (l' := l) (by rfl) h0]; rfl)
        | (rw [mv1 (l' := 0) (y := _) (by rfl) (by omega) (hh _ rfl)]; rfl)
        | (rw [mv1 (l' := l) (y := _) (by rfl) h0 (hh _ rfl)]; rfl))
/-- moved spans are spans again -/
theorem movE_lt {k : MK} {w : Option Int} {l : Int} {h : Option Int} (h0 : 0 ≤ l) (h1 : ∀ y, h = some y → l < y) (wk : wOk k w) {l' y : Int} (e : movE k w l h = (l', some y)) : l' < y := by
  cases h with
  | none => cases w <;> cases k <;> simp [movE, addO] at e
  | some z =>
    have h2 := h1 z rfl
    cases w with
    | none => cases k <;> simp [movE, addO] at e <;> omega
    | some n =>
      rcases wk with rfl | w1
      · simp [movE, addO] at e
        omega
      · have w2 := w1 n rfl
        cases k <;> simp [movE, addO] at e <;> omega
theorem max_z (a : Int) : 0 ≤ (if 0 > a then 0 else a) := by by_cases h : 0 > a <;> simp only [h, if_true, if_false] <;> omega
theorem max_lt {a y : Int} (h : a < y) (h2 : ¬ y ≤ 0) : (if 0 > a then 0 else a) < y := by by_cases h : 0 > a <;> simp only [h, if_true, if_false] <;> omega
theorem movS_ok {k : MK} {w : Option Int} {s : SpO} (hs : SpZ s) (wk : wOk k w) : SpZ (movS k w s) := by
  cases s with
  | none => intro l h e; cases e
  | some p =>
    obtain ⟨l, h⟩ := p
    obtain ⟨h0, h1⟩ := hs l h rfl
    have lt := fun {l' y : Int} => movE_lt (l' := l') (y := y) h0 h1 wk
    intro l' h' e
    unfold movS at e
    generalize hm : movE k w l h = m at e lt
    obtain ⟨a, b⟩ := m
    cases b with
    | none =>
      simp only [hm, Option.some.injEq, Prod.mk.injEq] at e
      obtain ⟨rfl, rfl⟩ := e
      exact ⟨max_z a, fun y hy => by cases hy⟩
    | some x =>
      by_cases g : x ≤ 0
      · simp [hm, g] at e
      · simp only [hm, g, if_false, Option.some.injEq, Prod.mk.injEq] at e
        obtain ⟨rfl, rfl⟩ := e
        exact ⟨max_z a, fun y hy => by cases hy; exact max_lt (lt rfl) g⟩
end DL

set_option maxHeartbeats 1000000
namespace DL
open PySem PySem.Spec PyProof.Rows L2
/-! ### the row that terms give -/
abbrev TV := Tm × Vv
def encTV (p : TV) : D := .tup [encTm p.1, encV p.2]
def fP : List TV → Str → Option Vv
  | [], _ => none
  | (.col y, v) :: r, x => if y = x then some v else fP r x
  | (.val _, _) :: r, x => fP r x
def fitP (L : List TV) (p : TV) : Prop := match p.1 with
  | .col x => fP L x = some p.2
  | .val u => u = p.2
def matP (L : List TV) : Prop := ∀ p ∈ L, fitP L p
noncomputable def matB (ts : List Tm) (row : List Vv) : Bool := @decide (row.length = ts.length ∧ matP (ts.zip row)) (Classical.propDecidable _)
theorem matB_t {ts : List Tm} {row : List Vv} : matB ts row = true ↔ row.length = ts.length ∧ matP (ts.zip row) := by
  unfold matB
  exact @decide_eq_true_iff _ (Classical.propDecidable _)
theorem fP_app : ∀ (a b : List TV) (x : Str), fP (a ++ b) x = (fP a x).or (fP b x)
  | [], b, x => rfl
  | (.col y, v) :: a, b, x => by
    simp only [List.cons_append, fP]
    split
    · rfl
    · exact fP_app a b x
  | (.val _, _) :: a, b, x => by
    simp only [List.cons_append, fP]
    exact fP_app a b x
theorem fP_mem : ∀ {L : List TV} {x : Str}, fP L x ≠ none ↔ x ∈ (L.map (·.1)).filterMap colOf
  | [], x => by simp [fP]
  | (.col y, v) :: L, x => by
    simp only [fP, List.map_cons]
    rw [List.filterMap_cons_some (f := colOf) (a := .col y) (b := y) rfl, List.mem_cons]
    split
    · rename_i h; simp [h]
    · rename_i h
      rw [fP_mem (L := L)]
      constructor
      · exact .inr
      · rintro (h' | h')
        · exact absurd h'.symm h
        · exact h'
  | (.val _, _) :: L, x => by
    simp only [fP, List.map_cons]
    rw [List.filterMap_cons_none (f := colOf) rfl]
    exact fP_mem (L := L)
theorem fP_val : ∀ {L : List TV} {x : Str} {v : Vv}, fP L x = some v → ∃ t, (t, v) ∈ L
  | [], x, v, h => by simp [fP] at h
  | (.col y, u) :: L, x, v, h => by
    unfold fP at h
    by_cases g : y = x
    · rw [if_pos g] at h
      cases h
      exact ⟨_, List.mem_cons_self⟩
    · rw [if_neg g] at h
      obtain ⟨t, ht⟩ := fP_val h
      exact ⟨t, List.mem_cons_of_mem _ ht⟩
  | (.val _, _) :: L, x, v, h => by
    unfold fP at h
    obtain ⟨t, ht⟩ := fP_val h
    exact ⟨t, List.mem_cons_of_mem _ ht⟩
theorem zip_fst : ∀ {ts : List Tm} {row : List Vv}, row.length = ts.length → (ts.zip row).map (·.1) = ts
  | [], [], _ => rfl
  | t :: ts, v :: row, h => by
    simp only [List.zip_cons_cons, List.map_cons]
    rw [zip_fst (by simpa using h)]
theorem zipD_TV : ∀ (ts : List Tm) (row : List Vv), zipD (ts.map encTm) (row.map encV) = (ts.zip row).map encTV
  | [], row => by cases row <;> rfl
  | t :: ts, [] => rfl
  | t :: ts, v :: row => by
    simp only [List.map_cons, List.zip_cons_cons]
    show D.tup [encTm t, encV v] :: zipD _ _ = _
    rw [zipD_TV ts row]
    rfl
def valR (L : List TV) (cs : List Str) : List Vv := cs.map fun x => (fP L x).getD (.i 0)
def colsT (ts : List Tm) : List Str := ordS (ts.filterMap colOf)
theorem eqv_neP {a b : D} (ha : plD a = true) (hb : plD b = true) (h : a ≠ b) : PyData.eqv (toP a) (toP b) = false := by
  cases e : PyData.eqv (toP a) (toP b) with
  | false => rfl
  | true => exact absurd ((eqv_pl a b ha hb).mp e) h
theorem pl_V (v : Vv) : plD (encV v) = true := by cases v <;> rfl
theorem lay_V {v : Vv} (h : okV v) : (toP (encV v)).canLay0 = true := by
  cases v with
  | i n => rfl
  | s w => exact lay_word h
theorem dep_V (v : Vv) : (toP (encV v)).depth ≤ 1 := by cases v <;> simp [encV, toP, PyData.depth]
theorem sh_V {v : Vv} (h : okV v) : SeqAt.shaped (toP (encV v)) = true := by
  have := dep_V v
  unfold SeqAt.shaped
  rw [lay_V h, decide_eq_true (by omega)]
  rfl
theorem eqv_Vv (a b : Vv) : PyData.eqv (toP (encV a)) (toP (encV b)) = true ↔ a = b := (eqv_pl _ _ (pl_V a) (pl_V b)).trans ⟨encV_inj, fun h => h ▸ rfl⟩
theorem ifb_V {a b : Vv} {A B : Prop} (h1 : a ≠ b → A) (h2 : a = b → B) : ifb (.bl (!PyData.eqv (toP (encV a)) (toP (encV b)))) A B := by
  by_cases h : a = b
  · rw [(eqv_Vv a b).mpr h]; exact .f (h2 h)
  · rw [eqv_neP (pl_V a) (pl_V b) fun z => h (encV_inj z)]; exact .t (h1 h)
/-! the entries of the dict -/
def fE (es : List (Str × Vv)) (x : Str) : Option Vv := (es.find? fun p => decide (p.1 = x)).map (·.2)
def eK (es : List (Str × Vv)) : List EntK := es.map fun p => (.str p.1, encV p.2)
theorem lookK_e : ∀ (es : List (Str × Vv)) (x : Str), lookK ((eK es).map (·.1)) ((eK es).map (·.2)) (.str x) = (fE es x).map encV
  | [], x => rfl
  | (y, v) :: es, x => by
    have ih := lookK_e es x
    unfold lookK fE eK at *
    simp only [List.map_cons, List.zip_cons_cons]
    by_cases h : y = x
    · rw [List.find?_cons_of_pos (by simpa using h), List.find?_cons_of_pos (by simpa using h)]; rfl
    · rw [List.find?_cons_of_neg (by simpa using h), List.find?_cons_of_neg (by simpa using h)]; exact ih
theorem fE_app {es : List (Str × Vv)} {x y : Str} {v : Vv} (h : fE es y = none) : fE (es ++ [(y, v)]) x = if y = x then some v else fE es x := by
  unfold fE at *
  rw [List.find?_append]
  by_cases g : y = x
  · subst g
    rw [Option.map_eq_none_iff] at h
    rw [h, if_pos rfl, Option.none_or, List.find?_cons_of_pos (by simp)]
    rfl
  · rw [if_neg g, List.find?_cons_of_neg (by simpa using g)]
    simp
theorem fE_key {es : List (Str × Vv)} {x : Str} : fE es x ≠ none ↔ x ∈ es.map (·.1) := by
  unfold fE
  rw [ne_eq, Option.map_eq_none_iff, List.find?_eq_none]
  simp only [decide_eq_true_eq, List.mem_map]
  constructor
  · intro h
    refine Classical.byContradiction fun g => h fun p hp e => g ⟨p, hp, e⟩
  · rintro ⟨p, hp, e⟩ h
    exact h p hp e
theorem strsV_e : ∀ es : List (Str × Vv), strsV ((eK es).map (·.1)) = some (es.map (·.1))
  | [] => rfl
  | (y, v) :: es => by
    simp only [eK, List.map_cons, strsV]
    rw [show strsV ((es.map fun p => ((Vl.str p.1, encV p.2) : EntK)).map (·.1)) = _ from strsV_e es]
    rfl
theorem goFoK_ind {g : G} {wb : WK} {chk : List (Nat × List D)} {k : Kb} (I : List D → DEnv → List EntK → Prop)
    (hs : ∀ x r env acc (nxt : DEnv → List EntK → Prop), I (x :: r) env acc → (∀ e a, I r e a → nxt e a) → chkE chk env ∧ g x env fun e2 => wb e2 acc { nx := nxt, rt := k.rt, bk := k.nx, ct := nxt })
    (hd : ∀ env acc, I [] env acc → chkE chk env ∧ k.nx env acc) : ∀ xs env acc, I xs env acc → goFoK g wb chk k xs env acc
  | [], env, acc, h => hd env acc h
  | x :: xs, env, acc, h => hs x xs env acc _ h fun e a h' => goFoK_ind I hs hd xs e a h'
theorem loop_fok {g : G} {wb : WK} {chk : List (Nat × List D)} {k : Kb} {xs : List D} {env : DEnv} {acc : List EntK} (I : List D → DEnv → List EntK → Prop) (h0 : I xs env acc)
    (hs : ∀ x r env acc (nxt : DEnv → List EntK → Prop), I (x :: r) env acc → (∀ e a, I r e a → nxt e a) → chkE chk env ∧ g x env fun e2 => wb e2 acc { nx := nxt, rt := k.rt, bk := k.nx, ct := nxt })
    (hd : ∀ env acc, I [] env acc → chkE chk env ∧ k.nx env acc) : Loop (goFoK g wb chk k xs env acc) := .mk (goFoK_ind I hs hd xs env acc h0)
def sp_given_row : FSpec where
  pre := fun ds => ∃ (ts : List Tm) (row : List Vv), ds = [.tup (ts.map encTm), .tup (row.map encV)] ∧ ts.length ≤ 8 ∧ (∀ t ∈ ts, okTm t) ∧ ∀ v ∈ row, okV v
  post := fun ds r ds' => ds' = ds ∧ ∀ (ts : List Tm) (row : List Vv), ds = [.tup (ts.map encTm), .tup (row.map encV)] →
    (matB ts row = true → r = .tup ((valR (ts.zip row) (colsT ts)).map encV)) ∧ (matB ts row = false → r = .non)
theorem gr_post {ts : List Tm} {row : List Vv} {r : D} (h : (matB ts row = true → r = .tup ((valR (ts.zip row) (colsT ts)).map encV)) ∧ (matB ts row = false → r = .non)) :
    ∀ (ts' : List Tm) (row' : List Vv), [D.tup (ts.map encTm), .tup (row.map encV)] = [.tup (ts'.map encTm), .tup (row'.map encV)] → (matB ts' row' = true → r = .tup ((valR (ts'.zip row') (colsT ts')).map encV)) ∧ (matB ts' row' = false → r = .non) := by
  intro ts' row' e
  simp only [List.cons.injEq, and_true, D.tup.injEq] at e
  cases mapTm_inj e.1
  cases mapV_inj e.2
  exact h
theorem gr_no {ts : List Tm} {row : List Vv} (h : ¬ (row.length = ts.length ∧ matP (ts.zip row))) {x : D} : (matB ts row = true → D.non = x) ∧ (matB ts row = false → D.non = .non) :=
  ⟨fun z => absurd (matB_t.mp z) h, fun _ => rfl⟩
/-- slots: 0 terms, 1 row, 2 values, 3 form, 4 item, 5 value, 6 wanted, 7 column -/
def w_given_row : WS :=
    (cSeq (cIte (cOp fNeS (cBi fLen (cCons (cVar 1) cNil)) (cBi fLen (cCons (cVar 0) cNil)))
      (cRet 2 (cC .non))
      cNilS)
    (cSeq (cPk 2 (kFor [0, 1] (iZG (cVar 0) (cVar 1)) (gT 2 (gCons' (gT 2 (gCons' (gN 2 [0, 1] 3) (gCons' (gN 2 [0, 1] 4) gNil'))) (gCons' (gN 2 [0, 1] 5) gNil'))) (kSeq (kSetd 2 [0, 1] 6 (cOp fEqS (cVar 3) (cC (.str (PySem.Str.ofString "col")))) (cVar 4) (cVar 5) (cVar 4)) (kIf (cOp fNeD (cVar 6) (cVar 5)) (kRet (cC .non)) kNilS))))
    (cRet 2 (cBi fTuple (cCons (cLc [7] (iE (cBi fSDK (cCons (cVar 2) cNil))) (gN 2 [] 7) tTrue (cDik (cVar 2) (cVar 7))) cNil)))))
local macro_rules | `(tactic| walk_at "Ddlx") => `(tactic| ((conv => whnf); (repeat ((first | ((with_reducible refine And.intro (stOk_nl ?_ ?_) ?_); (focus (with_reducible first | assumption | exact encQ_nl _ | exact encO_nl _ | exact encC_nl _)); (focus exact rfl)) | ((refine pick_nl ?_ ?_); (focus (with_reducible first | assumption | exact encQ_nl _ | exact encO_nl _ | exact encC_nl _))) | ((with_reducible refine And.intro ?_ ?_); (focus (with_reducible first | assumption | exact encQ_nl _ | exact encO_nl _ | exact encC_nl _))) | ((with_reducible refine And.intro (immA_c ?_ ?_) ?_); (focus (first | (with_reducible first | assumption | exact encQ_nl _ | exact encO_nl _ | exact encC_nl _) | exact rfl)); (focus ((repeat ((with_reducible refine immA_c ?_ ?_); (focus (first | (with_reducible first | assumption | exact encQ_nl _ | exact encO_nl _ | exact encC_nl _) | exact rfl)))); exact rfl))) | refine And.intro rfl ?_ | refine And.intro trivial ?_ | refine And.intro ⟨rfl, trivial⟩ ?_ | refine And.intro ⟨rfl, rfl, trivial⟩ ?_ | refine ifb_nq (by first | assumption | decide) ?_ | refine ifb_pq (by assumption) ?_ | refine ifb_er ?_ | refine ifb_t ?_ | refine ifb_f ?_ | refine ifb_nr ?_ | refine ifb_er ?_ | ((with_reducible refine And.intro (?_ : (_ : Nat) ≤ _) ?_); (focus (first | decide | omega | (unfold CMul; omega) | (unfold CDiv; omega) | (unfold CPow; decide) | (exact cpow1 (by omega) (by omega)) | (simp only [rngD_len, List.length_replicate, List.length_map, List.length_append, List.length_cons, List.length_nil, List.length_set] at *; omega)))) | ((with_reducible refine And.intro (?_ : (_ : Int) ≤ _) ?_); (focus (first | decide | omega | (unfold CMul; omega) | (unfold CDiv; omega) | (unfold CPow; decide) | (exact cpow1 (by omega) (by omega)) | (simp only [rngD_len, List.length_replicate, List.length_map, List.length_append, List.length_cons, List.length_nil, List.length_set] at *; omega)))) | ((with_reducible refine And.intro (?_ : (_ : Nat) < _) ?_); (focus (first | decide | omega | (unfold CMul; omega) | (unfold CDiv; omega) | (unfold CPow; decide) | (exact cpow1 (by omega) (by omega)) | (simp only [rngD_len, List.length_replicate, List.length_map, List.length_append, List.length_cons, List.length_nil, List.length_set] at *; omega)))) | ((with_reducible refine And.intro (?_ : (_ : Int) < _) ?_); (focus (first | decide | omega | (unfold CMul; omega) | (unfold CDiv; omega) | (unfold CPow; decide) | (exact cpow1 (by omega) (by omega)) | (simp only [rngD_len, List.length_replicate, List.length_map, List.length_append, List.length_cons, List.length_nil, List.length_set] at *; omega)))) | ((with_reducible refine And.intro (?_ : CMul _ _) ?_); (focus (first | decide | omega | (unfold CMul; omega) | (unfold CDiv; omega) | (unfold CPow; decide) | (exact cpow1 (by omega) (by omega)) | (simp only [rngD_len, List.length_replicate, List.length_map, List.length_append, List.length_cons, List.length_nil, List.length_set] at *; omega)))) | ((with_reducible refine And.intro (?_ : CDiv _ _) ?_); (focus (first | decide | omega | (unfold CMul; omega) | (unfold CDiv; omega) | (unfold CPow; decide) | (exact cpow1 (by omega) (by omega)) | (simp only [rngD_len, List.length_replicate, List.length_map, List.length_append, List.length_cons, List.length_nil, List.length_set] at *; omega)))) | ((with_reducible refine And.intro (?_ : CPow _ _) ?_); (focus (first | decide | omega | (unfold CMul; omega) | (unfold CDiv; omega) | (unfold CPow; decide) | (exact cpow1 (by omega) (by omega)) | (simp only [rngD_len, List.length_replicate, List.length_map, List.length_append, List.length_cons, List.length_nil, List.length_set] at *; omega)))) | ((with_reducible refine And.intro (?_ : (_ : Nat) = _) ?_); (focus (first | decide | omega | (unfold CMul; omega) | (unfold CDiv; omega) | (unfold CPow; decide) | (exact cpow1 (by omega) (by omega)) | (simp only [rngD_len, List.length_replicate, List.length_map, List.length_append, List.length_cons, List.length_nil, List.length_set] at *; omega))))); (conv => whnf); (try dsimp only [List.set_cons_zero, List.set_cons_succ, upA, wipeE, back, List.getElem?_cons_zero, List.getElem?_cons_succ, Option.getD_some]))); (try dsimp only [List.set_cons_zero, List.set_cons_succ, upA, wipeE, back, List.getElem?_cons_zero, List.getElem?_cons_succ, Option.getD_some])))
theorem pure_given_row : ∀ ds, ds.length = 2 → sp_given_row.pre ds → w_given_row (env0 ds 6) { nx := fun e => sp_given_row.post ds .non (outs e 2), rt := fun d e => sp_given_row.post ds d (outs e 2) } := by
  rintro ds _ ⟨ts, row, rfl, hl, ht, hv⟩
  have post := fun {r : D} h => gr_post (ts := ts) (row := row) (r := r) h
  walk_at "Ddlx"
  refine ifb_ndec (fun g => ?_) (fun g => ?_)
  · walk_at "Ddlx"
    exact post (gr_no fun z => g (by rw [List.length_map, List.length_map, z.1]))
  · have hle : row.length = ts.length := by rw [List.length_map, List.length_map] at g; omega
    walk_at "Ddlx"
    rw [zipD_TV]
    refine loop_fok (fun xs e acc => ∃ (pa pb : List TV) (es : List (Str × Vv)) (o3 o4 o5 o6 : Option D), (ts.zip row = pa ++ pb ∧ xs = pb.map encTV ∧ acc = eK es ∧ (∀ x, fE es x = fP pa x) ∧ (es.map (·.1)).Nodup ∧ es.length ≤ pa.length ∧ ∀ p ∈ pa, fitP (ts.zip row) p) ∧
      e = [some (.tup (ts.map encTm)), some (.tup (row.map encV)), none, o3, o4, o5, o6, none]) ⟨[], _, [], none, none, none, none, ⟨rfl, rfl, rfl, fun _ => rfl, by simp, by simp, by simp⟩, rfl⟩ ?_ ?_
    · rintro x r env acc nxt ⟨pa, pb, es, o3, o4, o5, o6, ⟨hL, hx, rfl, hE, hN, hS, hF⟩, rfl⟩ hn
      have L0 : (ts.zip row).length = ts.length := by rw [List.length_zip]; omega
      cases pb with
      | nil => cases hx
      | cons p pb =>
        obtain ⟨t, v⟩ := p
        rw [List.map_cons] at hx
        cases hx
        have hpa : pa.length < 1000000 := by
          have := congrArg List.length hL
          rw [List.length_append] at this
          omega
        have hek : (eK es).length < 1000000 := by unfold eK; rw [List.length_map]; omega
        have nlv := encV_nl v
        have mem : (t, v) ∈ ts.zip row := by rw [hL]; simp
        have okv := sh_V (hv v (List.of_mem_zip mem).2)
        have hL' : ts.zip row = (pa ++ [(t, v)]) ++ pb := by rw [hL]; simp
        have snoc : ∀ {P : TV → Prop}, (∀ p ∈ pa, P p) → P (t, v) → ∀ p ∈ pa ++ [(t, v)], P p := fun h1 h2 p hp => by
          rcases List.mem_append.mp hp with h | h
          · exact h1 p h
          · rw [List.mem_singleton.mp h]; exact h2
        cases t with
        | col x =>
          have fpx : fP (ts.zip row) x = (fP pa x).or (some v) := by
            rw [hL, fP_app]
            simp [fP]
          simp only [encTV, encTm] at *
          walk_at "Ddlx"
          refine ⟨.str x, rfl, ?_⟩
          rw [lookK_e]
          cases hf : fE es x with
          | some u =>
            have nlu := encV_nl u
            have fpu : fP (ts.zip row) x = some u := by rw [fpx, ← hE, hf]; rfl
            have mu : u ∈ row := by
              obtain ⟨t', ht'⟩ := fP_val fpu
              exact (List.of_mem_zip ht').2
            have oku := sh_V (hv u mu)
            simp only [Option.map_some, Option.getD_some]
            walk_at "Ddlx"
            refine ifb_V (fun g => ?_) (fun g => ?_)
            · walk_at "Ddlx"
              refine post (gr_no fun z => g ?_)
              have : fP (ts.zip row) x = some v := z.2 _ mem
              rw [fpu] at this
              exact Option.some.inj this
            · walk_at "Ddlx"
              refine hn _ _ ⟨pa ++ [(.col x, v)], pb, es, _, _, _, _, ⟨hL', rfl, rfl, fun y => ?_, hN, by rw [List.length_append]; omega, snoc hF ?_⟩, rfl⟩
              · rw [fP_app, ← hE]
                by_cases h : x = y
                · subst h; rw [hf]; rfl
                · simp [fP, h]
              · show fP _ _ = _
                rw [fpu, g]
          | none =>
            simp only [Option.map_none, Option.getD_none]
            walk_at "Ddlx"
            refine ifb_V (fun g => ?_) (fun g => ?_)
            · exact absurd rfl g
            · walk_at "Ddlx"
              have hno : x ∉ es.map (·.1) := fun z => fE_key.mpr z hf
              refine hn _ _ ⟨pa ++ [(.col x, v)], pb, es ++ [(x, v)], _, _, _, _, ⟨hL', rfl, by unfold eK; rw [List.map_append]; rfl, fun y => ?_, ?_, by rw [List.length_append, List.length_append]; simp only [List.length_cons, List.length_nil]; omega, snoc hF ?_⟩, rfl⟩
              · rw [fP_app, fE_app hf, ← hE]
                by_cases h : x = y
                · subst h; rw [hf]; simp [fP]
                · simp [fP, h]
              · rw [List.map_append, List.nodup_append]
                refine ⟨hN, by simp, fun a ha b hb => ?_⟩
                simp only [List.map_cons, List.map_nil, List.mem_singleton] at hb
                rw [hb]
                exact fun e => hno (e ▸ ha)
              · show fP _ _ = _
                rw [fpx, ← hE, hf]
                rfl
        | val u =>
          have nlu := encV_nl u
          have oku := sh_V (ht _ (List.of_mem_zip mem).1)
          simp only [encTV, encTm] at *
          walk_at "Ddlx"
          refine ifb_V (fun g => ?_) (fun g => ?_)
          · walk_at "Ddlx"
            exact post (gr_no fun z => g (z.2 _ mem))
          · walk_at "Ddlx"
            refine hn _ _ ⟨pa ++ [(.val u, v)], pb, es, _, _, _, _, ⟨hL', rfl, rfl, fun y => ?_, hN, by rw [List.length_append]; omega, snoc hF g⟩, rfl⟩
            rw [fP_app, ← hE]
            simp [fP]
    · rintro env acc ⟨pa, pb, es, o3, o4, o5, o6, ⟨hL, hx, rfl, hE, hN, hS, hF⟩, rfl⟩
      have e0 : pb = [] := by cases pb with
        | nil => rfl
        | cons a b => cases hx
      subst e0
      rw [List.append_nil] at hL
      have ec : ∀ ms : List Str, ms.Perm (es.map (·.1)) → sortedS ms = true → ms = colsT ts := fun ms pm so => by
        unfold colsT
        refine (ordS_eq (SC.of_sorted so (pm.nodup_iff.mpr hN)) fun x => ?_).symm
        rw [pm.mem_iff, ← fE_key, hE, ← hL, fP_mem, zip_fst hle]
      have lk : ∀ x ∈ colsT ts, lookK ((eK es).map (·.1)) ((eK es).map (·.2)) (.str x) = some (encV ((fP (ts.zip row) x).getD (.i 0))) := fun x hx => by
        rw [lookK_e, hE, ← hL]
        have : fP (ts.zip row) x ≠ none := fP_mem.mpr (by rw [zip_fst hle]; exact mem_ordS.mp hx)
        cases e : fP (ts.zip row) x with
        | none => exact absurd e this
        | some v => rfl
      have kl : (es.map (·.1)).length < 64 := by
        have := congrArg List.length hL
        rw [List.length_zip] at this
        rw [List.length_map]
        omega
      have fin : matB ts row = true := matB_t.mpr ⟨hle, by rw [hL] at hF ⊢; exact hF⟩
      have se := strsV_e es
      have lc : (colsT ts).length ≤ 1000000 := by
        have h1 := ordS_len (ts.filterMap colOf)
        have h2 := List.length_filterMap_le colOf ts
        unfold colsT
        omega
      walk_at "Ddlx"
      rw [se]
      refine ⟨kl, fun ms pm so => ?_⟩
      cases ec ms pm so
      clear se ec
      generalize (eK es).map (·.1) = ks at *
      generalize (eK es).map (·.2) = vs at *
      walk_at "Ddlx"
      try refine ⟨by rw [List.length_map]; exact lc, ?_⟩
      refine lcGo_map (fun d => match d with | .str x => encV ((fP (ts.zip row) x).getD (.i 0)) | d => d) _ _ ?_ ?_
      · intro d nxt acc hd hn
        obtain ⟨x, hx, rfl⟩ := List.mem_map.mp hd
        have nl := encV_nl ((fP (ts.zip row) x).getD (.i 0))
        have l1 := lk x hx
        dsimp only at hn
        generalize encV ((fP (ts.zip row) x).getD (.i 0)) = y at *
        walk_at "Ddlx"
        refine ⟨ks, vs, rfl, ?_⟩
        walk_at "Ddlx"
        refine ⟨.str x, rfl, _, l1, ?_⟩
        walk_at "Ddlx"
        exact hn
      · walk_at "Ddlx"
        refine post ⟨fun _ => ?_, fun z => by rw [fin] at z; cases z⟩
        rw [List.map_map]
        unfold valR
        rw [List.map_map]
        rfl
end DL

set_option maxHeartbeats 1000000
namespace DL
open PySem PySem.Spec PyProof.Rows L2
/-! ### the law's own matching -/
--REN _law_columns=law_columns_f
def spn_law_columns_f : Nat → FSpec
  | 0 => ⟨fun _ => False, fun _ _ _ => False⟩
  | n + 1 => ⟨fun ds => ∃ (nm : Str) (ts : List Tm), ds = [encQ (.fact nm ts)] ∧ ts.length ≤ 8, fun ds r ds' => ds' = ds ∧ ∀ (nm : Str) (ts : List Tm), ds = [encQ (.fact nm ts)] → r = .tpd ((colsT ts).map D.str)⟩
abbrev sp_law_columns_f := spn_law_columns_f 16
theorem lcf_post {nm : Str} {ts : List Tm} {r : D} (h : r = .tpd ((colsT ts).map D.str)) : ∀ (nm' : Str) (ts' : List Tm), [encQ (.fact nm ts)] = [encQ (.fact nm' ts')] → r = .tpd ((colsT ts').map D.str) := by
  intro nm' ts' e
  simp only [List.cons.injEq, and_true] at e
  cases encQ_inj e
  exact h
theorem ord_tpd {l ms : List Str} (h1 : sortedS ms = true) (h2 : ms.Nodup) (h3 : ∀ z, z ∈ ms ↔ z ∈ l) : D.tpd (ms.map D.str) = .tpd ((ordS l).map D.str) := by
  rw [ordS_eq (SC.of_sorted h1 h2) fun x => (h3 x).symm]
/-- slots: 0 question, 1 kind, 2 term -/
def w_law_columns_f (n : Nat) : WS :=
    (cSeq (cAsg 1 [0] 1 (cOp fIx (cVar 0) (cC (.int 0))))
    (cSeq (cIte (cOp fEqS (cVar 1) (cC (.str (PySem.Str.ofString "fact"))))
      (cRet 1 (cBi fTupD (cCons (cBi fSST (cCons (cLc [2] (iE (cOp fIx (cVar 0) (cC (.int 2)))) (gN 1 [] 2) (cOp fEqS (cOp fIx (cVar 2) (cC (.int 0))) (cC (.str (PySem.Str.ofString "col")))) (cOp fIx (cVar 2) (cC (.int 1)))) cNil)) cNil)))
      cNilS)
    (cSeq (cIte (cOp fEqS (cVar 1) (cC (.str (PySem.Str.ofString "both"))))
      (cRet 1 (cBi fTuple (cCons (cBi fSST (cCons (cOp fAddG (cCallN 1 (spn_law_columns_f n) (cCons (cOp fIx (cVar 0) (cC (.int 1))) cNil)) (cCallN 1 (spn_law_columns_f n) (cCons (cOp fIx (cVar 0) (cC (.int 2))) cNil))) cNil)) cNil)))
      cNilS)
    (cSeq (cIte (cOp fEqS (cVar 1) (cC (.str (PySem.Str.ofString "only"))))
      (cRet 1 (cOp fIx (cVar 0) (cC (.int 1))))
      cNilS)
    (cSeq (cIte (cOp (fIn false) (cVar 1) (cLst (cCons (cC (.str (PySem.Str.ofString "count"))) (cCons (cC (.str (PySem.Str.ofString "sum"))) (cCons (cC (.str (PySem.Str.ofString "least"))) (cCons (cC (.str (PySem.Str.ofString "most"))) cNil))))))
      (cRet 1 (cBi fTuple (cCons (cBi fSortTp (cCons (cOp fAddG (cOp fIx (cVar 0) (cOp fSub (cBi fLen (cCons (cVar 0) cNil)) (cC (.int 2)))) (cTup (cCons (cOp fIx (cVar 0) (cC (.int 1))) cNil))) cNil)) cNil)))
      cNilS)
    (cSeq (cIte (cOr (cOp fEqS (cVar 1) (cC (.str (PySem.Str.ofString "either")))) (cOp fEqS (cVar 1) (cC (.str (PySem.Str.ofString "unless")))))
      (cRet 1 (cCallN 1 (spn_law_columns_f n) (cCons (cOp fIx (cVar 0) (cC (.int 1))) cNil)))
      cNilS)
    (cRet 1 (cCallN 1 (spn_law_columns_f n) (cCons (cOp fIx (cVar 0) (cOp fSub (cBi fLen (cCons (cVar 0) cNil)) (cC (.int 1)))) cNil)))))))))
local macro_rules | `(tactic| walk_at "Ddlx") => `(tactic| ((conv => whnf); (repeat ((first | ((with_reducible refine And.intro (stOk_nl ?_ ?_) ?_); (focus (with_reducible first | assumption | exact encQ_nl _ | exact encO_nl _ | exact encC_nl _)); (focus exact rfl)) | ((refine pick_nl ?_ ?_); (focus (with_reducible first | assumption | exact encQ_nl _ | exact encO_nl _ | exact encC_nl _))) | ((with_reducible refine And.intro ?_ ?_); (focus (with_reducible first | assumption | exact encQ_nl _ | exact encO_nl _ | exact encC_nl _))) | ((with_reducible refine And.intro (immA_c ?_ ?_) ?_); (focus (first | (with_reducible first | assumption | exact encQ_nl _ | exact encO_nl _ | exact encC_nl _) | exact rfl)); (focus ((repeat ((with_reducible refine immA_c ?_ ?_); (focus (first | (with_reducible first | assumption | exact encQ_nl _ | exact encO_nl _ | exact encC_nl _) | exact rfl)))); exact rfl))) | refine And.intro rfl ?_ | refine And.intro trivial ?_ | refine And.intro ⟨rfl, trivial⟩ ?_ | refine And.intro ⟨rfl, rfl, trivial⟩ ?_ | refine ifb_nq (by first | assumption | decide) ?_ | refine ifb_pq (by assumption) ?_ | refine ifb_er ?_ | refine ifb_t ?_ | refine ifb_f ?_ | refine ifb_nr ?_ | refine ifb_er ?_ | ((with_reducible refine And.intro (?_ : (_ : Nat) ≤ _) ?_); (focus (first | decide | omega | (unfold CMul; omega) | (unfold CDiv; omega) | (unfold CPow; decide) | (exact cpow1 (by omega) (by omega)) | (simp only [rngD_len, List.length_replicate, List.length_map, List.length_append, List.length_cons, List.length_nil, List.length_set] at *; omega)))) | ((with_reducible refine And.intro (?_ : (_ : Int) ≤ _) ?_); (focus (first | decide | omega | (unfold CMul; omega) | (unfold CDiv; omega) | (unfold CPow; decide) | (exact cpow1 (by omega) (by omega)) | (simp only [rngD_len, List.length_replicate, List.length_map, List.length_append, List.length_cons, List.length_nil, List.length_set] at *; omega)))) | ((with_reducible refine And.intro (?_ : (_ : Nat) < _) ?_); (focus (first | decide | omega | (unfold CMul; omega) | (unfold CDiv; omega) | (unfold CPow; decide) | (exact cpow1 (by omega) (by omega)) | (simp only [rngD_len, List.length_replicate, List.length_map, List.length_append, List.length_cons, List.length_nil, List.length_set] at *; omega)))) | ((with_reducible refine And.intro (?_ : (_ : Int) < _) ?_); (focus (first | decide | omega | (unfold CMul; omega) | (unfold CDiv; omega) | (unfold CPow; decide) | (exact cpow1 (by omega) (by omega)) | (simp only [rngD_len, List.length_replicate, List.length_map, List.length_append, List.length_cons, List.length_nil, List.length_set] at *; omega)))) | ((with_reducible refine And.intro (?_ : CMul _ _) ?_); (focus (first | decide | omega | (unfold CMul; omega) | (unfold CDiv; omega) | (unfold CPow; decide) | (exact cpow1 (by omega) (by omega)) | (simp only [rngD_len, List.length_replicate, List.length_map, List.length_append, List.length_cons, List.length_nil, List.length_set] at *; omega)))) | ((with_reducible refine And.intro (?_ : CDiv _ _) ?_); (focus (first | decide | omega | (unfold CMul; omega) | (unfold CDiv; omega) | (unfold CPow; decide) | (exact cpow1 (by omega) (by omega)) | (simp only [rngD_len, List.length_replicate, List.length_map, List.length_append, List.length_cons, List.length_nil, List.length_set] at *; omega)))) | ((with_reducible refine And.intro (?_ : CPow _ _) ?_); (focus (first | decide | omega | (unfold CMul; omega) | (unfold CDiv; omega) | (unfold CPow; decide) | (exact cpow1 (by omega) (by omega)) | (simp only [rngD_len, List.length_replicate, List.length_map, List.length_append, List.length_cons, List.length_nil, List.length_set] at *; omega)))) | ((with_reducible refine And.intro (?_ : (_ : Nat) = _) ?_); (focus (first | decide | omega | (unfold CMul; omega) | (unfold CDiv; omega) | (unfold CPow; decide) | (exact cpow1 (by omega) (by omega)) | (simp only [rngD_len, List.length_replicate, List.length_map, List.length_append, List.length_cons, List.length_nil, List.length_set] at *; omega))))); (conv => whnf); (try dsimp only [List.set_cons_zero, List.set_cons_succ, upA, wipeE, back, List.getElem?_cons_zero, List.getElem?_cons_succ, Option.getD_some]))); (try dsimp only [List.set_cons_zero, List.set_cons_succ, upA, wipeE, back, List.getElem?_cons_zero, List.getElem?_cons_succ, Option.getD_some])))
local macro_rules | `(tactic| walk_at "Ddlq") => `(tactic| ((conv => whnf); (repeat ((first | refine And.intro rfl ?_ | refine And.intro trivial ?_ | refine And.intro ⟨rfl, trivial⟩ ?_ | refine And.intro ⟨rfl, rfl, trivial⟩ ?_ | refine ifb_nq (by decide) ?_ | refine ifb_er ?_ | refine ifb_t ?_ | refine ifb_f ?_ | refine ifb_nr ?_ | refine ifb_er ?_ | refine And.intro (by first | decide | omega | (unfold CMul; omega) | (unfold CDiv; omega) | (unfold CPow; decide) | (exact cpow1 (by omega) (by omega)) | (exact cpow1 (by dsimp only; omega) (by dsimp only; omega)) | (simp only [rngD_len, List.length_replicate, List.length_map, List.length_append, List.length_cons, List.length_nil, List.length_set] at *; omega)) ?_); conv => whnf))))
theorem pure_law_columns_f : ∀ n, ∀ ds, ds.length = 1 → (spn_law_columns_f (n + 1)).pre ds → w_law_columns_f n (env0 ds 2) { nx := fun e => (spn_law_columns_f (n + 1)).post ds .non (outs e 1), rt := fun d e => (spn_law_columns_f (n + 1)).post ds d (outs e 1) } := by
  rintro n ds _ ⟨nm, ts, rfl, hl⟩
  have post := fun {r : D} h => lcf_post (nm := nm) (ts := ts) (r := r) h
  have hz := cols_zip ts
  have hfl := fm_len ts
  walk_at "Ddlq"
  refine lcGo_filter isCol itQ _ _ ?_ ?_
  · intro d nxt acc hd hnx
    obtain ⟨t, _, rfl⟩ := List.mem_map.mp hd
    obtain ⟨f, it, e1, e2, e3, e4⟩ := tm_item (t := t)
    rw [e3, e4] at hnx
    rw [e1]
    cases it with
    | lst _ => simp [isL] at e2
    | _ =>
      walk_at "Ddlq"
      refine ifb_dec (fun g => ?_) (fun g => ?_)
      · rw [decide_eq_true g, if_pos rfl] at hnx
        walk_at "Ddlq"
        exact hnx
      · rw [decide_eq_false g, if_neg (by decide), List.append_nil] at hnx
        walk_at "Ddlq"
        exact hnx
  · rw [hz]
    walk_at "Ddlq"
    rw [strsD_map]
    refine ⟨by omega, fun ms h1 h2 h3 h4 => ?_⟩
    walk_at "Ddlq"
    exact post (ord_tpd h1 h2 h3)
/-! ### the value of a term -/
def tvV (cs : List Str) (row : List Vv) (t : Tm) (v : Vv) : Prop := match t with
  | .val u => v = u
  | .col x => ∃ j : Nat, cs[j]? = some x ∧ row[j]? = some v
def sp_law_term_value : FSpec where
  pre := fun ds => ∃ (cs : List Str) (row : List Vv) (t : Tm), ds = [.tpd (cs.map D.str), .lst (row.map encV), encTm t] ∧ row.length = cs.length ∧ ∀ x, t = .col x → x ∈ cs
  post := fun ds r ds' => ds' = ds ∧ ∀ (cs : List Str) (row : List Vv) (t : Tm), ds = [.tpd (cs.map D.str), .lst (row.map encV), encTm t] → ∃ v, r = encV v ∧ tvV cs row t v
theorem tv_post {cs : List Str} {row : List Vv} {t : Tm} {r : D} {v : Vv} (h : r = encV v) (hv : tvV cs row t v) : ∀ (cs' : List Str) (row' : List Vv) (t' : Tm), [D.tpd (cs.map D.str), .lst (row.map encV), encTm t] = [.tpd (cs'.map D.str), .lst (row'.map encV), encTm t'] → ∃ v, r = encV v ∧ tvV cs' row' t' v := by
  intro cs' row' t' e
  simp only [List.cons.injEq, and_true, D.tpd.injEq, D.lst.injEq] at e
  obtain ⟨e1, e2, e3⟩ := e
  cases mapS_inj e1
  cases mapV_inj e2
  cases encTm_inj e3
  exact ⟨v, h, hv⟩
theorem atI_mapR {α : Type} {f : α → D} {l : List α} {j : Nat} {x : α} (h : l[j]? = some x) : atI (l.map f) (j : Int) = some (f x) := atI_nat (by rw [List.getElem?_map, h]; rfl)
theorem first_at : ∀ {cs : List Str} {x : Str}, x ∈ cs → ∃ j : Nat, cs[j]? = some x ∧ ∀ m, m < j → cs[m]? ≠ some x
  | c :: cs, x, h => by
    by_cases g : c = x
    · exact ⟨0, by simp [g], fun m hm => by omega⟩
    · obtain ⟨j, h1, h2⟩ := first_at ((List.mem_cons.mp h).resolve_left fun z => g z.symm)
      refine ⟨j + 1, by simpa using h1, fun m hm => ?_⟩
      cases m with
      | zero => simpa using g
      | succ m => simpa using h2 m (by omega)
theorem at_len {α β : Type} {cs : List α} {row : List β} {j : Nat} {x : α} (h : cs[j]? = some x) (hl : row.length = cs.length) : ∃ v, row[j]? = some v := by
  have := (List.getElem?_eq_some_iff.mp h).1
  exact ⟨row[j]'(by omega), List.getElem?_eq_getElem _⟩
/-- slots: 0 columns, 1 row, 2 term -/
def w_law_term_value : WS :=
    (cSeq (cIte (cOp fEqS (cOp fIx (cVar 2) (cC (.int 0))) (cC (.str (PySem.Str.ofString "col"))))
      (cRet 3 (cOp fIx (cVar 1) (cOpT fTidx (cVar 0) (cOp fIx (cVar 2) (cC (.int 1))))))
      cNilS)
    (cRet 3 (cOp fIx (cVar 2) (cC (.int 1)))))
theorem pure_law_term_value : ∀ ds, ds.length = 3 → sp_law_term_value.pre ds → w_law_term_value (env0 ds 0) { nx := fun e => sp_law_term_value.post ds .non (outs e 3), rt := fun d e => sp_law_term_value.post ds d (outs e 3) } := by
  rintro ds _ ⟨cs, row, t, rfl, hl, hx⟩
  have post := fun {r : D} {v : Vv} h hv => tv_post (cs := cs) (row := row) (t := t) (r := r) (v := v) h hv
  cases t with
  | col x =>
    obtain ⟨j, h1, h2⟩ := first_at (hx x rfl)
    obtain ⟨v, h3⟩ := at_len h1 hl
    have nlv := encV_nl v
    simp only [encTm] at post ⊢
    walk_at "Ddlx"
    refine ⟨_, rfl, ?_⟩
    walk_at "Ddlx"
    rw [strsD_map]
    refine ⟨j, h1, h2, ?_⟩
    walk_at "Ddlx"
    rw [atI_mapR h3]
    walk_at "Ddlx"
    exact post rfl ⟨j, h1, h3⟩
  | val v =>
    have nlv := encV_nl v
    simp only [encTm] at post ⊢
    walk_at "Ddlx"
    exact post rfl rfl
/-! ### the law's match -/
def sp_law_match : FSpec where
  pre := fun ds => ∃ (ts : List Tm) (row : List Vv), ds = [.tup (ts.map encTm), .tpd ((colsT ts).map D.str), .tup (row.map encV)] ∧ ts.length ≤ 8 ∧ (∀ t ∈ ts, okTm t) ∧ ∀ v ∈ row, okV v
  post := fun ds r ds' => ds' = ds ∧ ∀ (ts : List Tm) (row : List Vv) (c : D), ds = [.tup (ts.map encTm), c, .tup (row.map encV)] → (matB ts row = true → ∃ xs, r = .tup xs) ∧ (matB ts row = false → r = .non)
theorem gr_no' {ts : List Tm} {row : List Vv} (h : ¬ (row.length = ts.length ∧ matP (ts.zip row))) : (matB ts row = true → ∃ xs, D.non = .tup xs) ∧ (matB ts row = false → D.non = .non) := ⟨fun z => absurd (matB_t.mp z) h, fun _ => rfl⟩
theorem gr_yes {ts : List Tm} {row : List Vv} {xs : List D} (h : row.length = ts.length ∧ matP (ts.zip row)) : (matB ts row = true → ∃ ys, D.tup xs = .tup ys) ∧ (matB ts row = false → D.tup xs = .non) := ⟨fun _ => ⟨_, rfl⟩, fun z => by rw [matB_t.mpr h] at z; cases z⟩
theorem ma_post {ts : List Tm} {row : List Vv} {r c : D} (h : (matB ts row = true → ∃ xs, r = .tup xs) ∧ (matB ts row = false → r = .non)) :
    ∀ (ts' : List Tm) (row' : List Vv) (c' : D), [D.tup (ts.map encTm), c, .tup (row.map encV)] = [.tup (ts'.map encTm), c', .tup (row'.map encV)] → (matB ts' row' = true → ∃ xs, r = .tup xs) ∧ (matB ts' row' = false → r = .non) := by
  intro ts' row' c' e
  simp only [List.cons.injEq, and_true, D.tup.injEq] at e
  cases mapTm_inj e.1
  cases mapV_inj e.2.2
  exact h
def isc (x : Str) (p : TV) : Bool := match p.1 with | .col y => decide (y = x) | .val _ => false
theorem isc_val (x : Str) (u v : Vv) : ¬ isc x (.val u, v) = true := by simp [isc]
theorem fP_head : ∀ {L : List TV} {x : Str} {v : Vv}, fP L x = some v → ∃ r, (L.filter (isc x)).map (fun p => encV p.2) = encV v :: r
  | [], x, v, h => by simp [fP] at h
  | (.col y, u) :: L, x, v, h => by
    unfold fP at h
    by_cases g : y = x
    · rw [if_pos g] at h
      cases h
      rw [List.filter_cons_of_pos (show isc x (.col y, _) = true by simp [isc, g])]
      exact ⟨_, rfl⟩
    · rw [if_neg g] at h
      rw [List.filter_cons_of_neg (show ¬ isc x (.col y, u) = true by simp [isc, g])]
      exact fP_head h
  | (.val u, u2) :: L, x, v, h => by
    unfold fP at h
    rw [List.filter_cons_of_neg (isc_val x u u2)]
    exact fP_head h
theorem pl_Tm (t : Tm) : plD (encTm t) = true := by
  cases t with
  | col x => rfl
  | val v => cases v <;> rfl
theorem sh_Tm {t : Tm} (h : okTm t) : SeqAt.shaped (toP (encTm t)) = true := by
  have lw : ∀ w : Str, isW w = true → PyData.strOk w = true := fun w h => lay_word h
  have e0 : PyData.strOk (PySem.Str.ofString "col") = true := lw _ (by decide)
  have e9 : PyData.strOk (PySem.Str.ofString "value") = true := lw _ (by decide)
  unfold SeqAt.shaped
  cases t with
  | col x =>
    have e1 : (toP (encTm (.col x))).canLay0 = true := by simp only [encTm, toP, toPs, PyData.canLay0, PyData.canLayAll0, Bool.and_true, e0, Bool.true_and]; exact lw x h
    have e2 : (toP (encTm (.col x))).depth ≤ 64 := by simp only [encTm, toP, toPs, PyData.depth, PyData.depthAll]; decide
    rw [e1, decide_eq_true e2]; rfl
  | val v =>
    have e1 : (toP (encTm (.val v))).canLay0 = true := by simp only [encTm, toP, toPs, PyData.canLay0, PyData.canLayAll0, Bool.and_true, e9, Bool.true_and]; exact lay_V h
    have e2 : (toP (encTm (.val v))).depth ≤ 64 := by have := dep_V v; simp only [encTm, toP, toPs, PyData.depth, PyData.depthAll] at *; omega
    rw [e1, decide_eq_true e2]; rfl
theorem eqv_col (t : Tm) (x : Str) : PyData.eqv (toP (encTm t)) (toP (.tup [.str (PySem.Str.ofString "col"), .str x])) = match t with | .col y => decide (y = x) | .val _ => false := by
  have e : D.tup [.str (PySem.Str.ofString "col"), .str x] = encTm (.col x) := rfl
  rw [e]
  by_cases h : t = .col x
  · subst h
    rw [(eqv_pl _ _ (pl_Tm _) (pl_Tm _)).mpr rfl]
    simp
  · rw [eqv_neP (pl_Tm _) (pl_Tm _) fun z => h (encTm_inj z)]
    cases t with
    | col y => simp only; rw [decide_eq_false fun z => h (by rw [z])]
    | val v => rfl
theorem tv_fit {L : List TV} {cs : List Str} {t : Tm} {v v' : Vv} (h : tvV cs (valR L cs) t v') (hx : ∀ x, t = .col x → fP L x ≠ none) : fitP L (t, v) ↔ v' = v := by
  cases t with
  | val u =>
    have h' : v' = u := h
    show u = v ↔ v' = v
    rw [h']
  | col x =>
    obtain ⟨j, h1, h2⟩ := h
    have hn := hx x rfl
    show fP L x = some v ↔ v' = v
    unfold valR at h2
    rw [List.getElem?_map, h1] at h2
    cases e : fP L x with
    | none => exact absurd e hn
    | some u =>
      simp only [Option.map_some, e, Option.getD_some, Option.some.injEq] at h2
      rw [h2, Option.some.injEq]
theorem fP_col {ts : List Tm} {row : List Vv} {x : Str} (hl : row.length = ts.length) : fP (ts.zip row) x ≠ none ↔ x ∈ ts.filterMap colOf := by
  rw [fP_mem, zip_fst hl]
theorem tv_ok {ts : List Tm} {row : List Vv} {cs : List Str} {t : Tm} {v : Vv} (ht : okTm t) (hv : ∀ v ∈ row, okV v) (hx : ∀ x, t = .col x → fP (ts.zip row) x ≠ none) (h : tvV cs (valR (ts.zip row) cs) t v) : okV v := by
  cases t with
  | val u =>
    have h' : v = u := h
    rw [h']
    exact ht
  | col x =>
    obtain ⟨j, h1, h2⟩ := h
    unfold valR at h2
    rw [List.getElem?_map, h1] at h2
    cases e : fP (ts.zip row) x with
    | none => exact absurd e (hx x rfl)
    | some u =>
      simp only [Option.map_some, e, Option.getD_some, Option.some.injEq] at h2
      obtain ⟨t', h3⟩ := fP_val e
      rw [← h2]
      exact hv _ (List.of_mem_zip h3).2
theorem col_mem {ts : List Tm} {x : Str} (h : Tm.col x ∈ ts) : x ∈ ts.filterMap colOf := List.mem_filterMap.mpr ⟨_, h, rfl⟩
theorem col_ok {ts : List Tm} {x : Str} (h : ∀ t ∈ ts, okTm t) (hx : x ∈ ts.filterMap colOf) : isW x = true := by
  obtain ⟨t, h1, h2⟩ := List.mem_filterMap.mp hx
  cases t with
  | col y => cases h2; exact h _ h1
  | val v => cases h2
theorem zip_at {ts : List Tm} {row : List Vv} {i : Nat} (hl : row.length = ts.length) (h : i < ts.length) : ∃ t v, ts[i]? = some t ∧ row[i]? = some v ∧ (ts.zip row)[i]? = some (t, v) ∧ t ∈ ts := by
  refine ⟨ts[i], row[i]'(by omega), List.getElem?_eq_getElem _, List.getElem?_eq_getElem _, ?_, List.getElem_mem _⟩
  rw [List.getElem?_eq_getElem (by rw [List.length_zip]; omega), List.getElem_zip]
theorem take_snocR {α : Type} {L : List α} {i : Nat} {x : α} (h : L[i]? = some x) : L.take (i + 1) = L.take i ++ [x] := by
  obtain ⟨h1, rfl⟩ := List.getElem?_eq_some_iff.mp h
  rw [List.take_succ_eq_append_getElem h1]
/-- slots: 0 terms, 1 columns, 2 row, 3 found, 4 x, 5 k -/
def w_law_match : WS :=
    (cSeq (cIte (cOp fNeS (cBi fLen (cCons (cVar 0) cNil)) (cBi fLen (cCons (cVar 2) cNil)))
      (cRet 3 (cC .non))
      cNilS)
    (cSeq (cAsg 3 [0, 1, 2] 3 (cLst cNil))
    (cSeq (cFor [0, 1, 2] (iE (cVar 1)) (gN 3 [0, 1, 2] 4)
      (cEx (cMeth 3 fAppend (cCons (cOp fIx (cLc [5] (iR1 (cBi fLen (cCons (cVar 2) cNil))) (gN 3 [] 5) (cOp fEqD (cOp fIx (cVar 0) (cVar 5)) (cTup (cCons (cC (.str (PySem.Str.ofString "col"))) (cCons (cVar 4) cNil)))) (cOp fIx (cVar 2) (cVar 5))) (cC (.int 0))) cNil))))
    (cSeq (cFor [0, 1, 2] (iR1 (cBi fLen (cCons (cVar 2) cNil))) (gN 3 [0, 1, 2] 5)
      (cIte (cOp fNeD (cCallN 3 sp_law_term_value (cCons (cVar 1) (cCons (cVar 3) (cCons (cOp fIx (cVar 0) (cVar 5)) cNil)))) (cOp fIx (cVar 2) (cVar 5)))
          (cRet 3 (cC .non))
          cNilS))
    (cRet 3 (cBi fTuple (cCons (cVar 3) cNil)))))))
def wc_law_match_2 : WS :=
    (cSeq (cFor [0, 1, 2] (iR1 (cBi fLen (cCons (cVar 2) cNil))) (gN 3 [0, 1, 2] 5)
      (cIte (cOp fNeD (cCallN 3 sp_law_term_value (cCons (cVar 1) (cCons (cVar 3) (cCons (cOp fIx (cVar 0) (cVar 5)) cNil)))) (cOp fIx (cVar 2) (cVar 5)))
          (cRet 3 (cC .non))
          cNilS))
    (cRet 3 (cBi fTuple (cCons (cVar 3) cNil))))
def wc_law_match_1 : WS :=
    (cCut (cFor [0, 1, 2] (iE (cVar 1)) (gN 3 [0, 1, 2] 4)
      (cEx (cMeth 3 fAppend (cCons (cOp fIx (cLc [5] (iR1 (cBi fLen (cCons (cVar 2) cNil))) (gN 3 [] 5) (cOp fEqD (cOp fIx (cVar 0) (cVar 5)) (cTup (cCons (cC (.str (PySem.Str.ofString "col"))) (cCons (cVar 4) cNil)))) (cOp fIx (cVar 2) (cVar 5))) (cC (.int 0))) cNil)))) (wc_law_match_2))
def wc_law_match_0 : WS :=
    (cSeq (cIte (cOp fNeS (cBi fLen (cCons (cVar 0) cNil)) (cBi fLen (cCons (cVar 2) cNil)))
      (cRet 3 (cC .non))
      cNilS)
    (cCut (cAsg 3 [0, 1, 2] 3 (cLst cNil)) (wc_law_match_1)))
theorem wc_law_match_eq : w_law_match = wc_law_match_0 := by
  unfold wc_law_match_0 wc_law_match_1 wc_law_match_2
  simp only [cCut_eq]
  rfl
abbrev kt_law_match (ds : List D) : Kt := { nx := fun e => sp_law_match.post ds .non (outs e 3), rt := fun d e => sp_law_match.post ds d (outs e 3) }
abbrev KMa (ts : List Tm) (row : List Vv) : Kt := kt_law_match [.tup (ts.map encTm), .tpd ((colsT ts).map D.str), .tup (row.map encV)]
section
variable {ts : List Tm} {row : List Vv} {o4 : Option D}
theorem ma2 (h8 : ts.length ≤ 8) (ht : ∀ t ∈ ts, okTm t) (hv0 : ∀ v ∈ row, okV v) (hl : row.length = ts.length) :
    wc_law_match_2 [some (.tup (ts.map encTm)), some (.tpd ((colsT ts).map D.str)), some (.tup (row.map encV)), some (.lst ((valR (ts.zip row) (colsT ts)).map encV)), o4, none] (KMa ts row) := by
  have post := fun {r : D} h => ma_post (ts := ts) (row := row) (r := r) (c := .tpd ((colsT ts).map D.str)) h
  have L0 : (ts.zip row).length = ts.length := by rw [List.length_zip]; omega
  walk_at "Ddlx"
  refine loop_rng (fun j e => ∃ (i : Nat) (o5 : Option D), (j = (i : Int) ∧ ∀ p ∈ (ts.zip row).take i, fitP (ts.zip row) p) ∧ e = [some (.tup (ts.map encTm)), some (.tpd ((colsT ts).map D.str)), some (.tup (row.map encV)), some (.lst ((valR (ts.zip row) (colsT ts)).map encV)), o4, o5]) ⟨0, none, ⟨rfl, by simp⟩, rfl⟩ ?_ ?_
  · rintro j env nxt j0 j1 ⟨i, o5, ⟨rfl, hf⟩, rfl⟩ hx
    obtain ⟨t, v, h1, h2, h3, h4⟩ := zip_at (i := i) hl (by rw [List.length_map] at j1; omega)
    have nlt := encTm_nl t
    have nlv := encV_nl v
    have pre : sp_law_term_value.pre [.tpd ((colsT ts).map D.str), .lst ((valR (ts.zip row) (colsT ts)).map encV), encTm t] := ⟨_, _, _, rfl, by simp [valR], fun x e => mem_ordS.mpr (col_mem (e ▸ h4))⟩
    walk_at "Ddlx"
    rw [atI_mapR h1]
    walk_at "Ddlx"
    try refine ⟨pre, ?_⟩
    intro r ds' hp
    obtain ⟨rfl, hp⟩ := hp
    obtain ⟨v', rfl, hv⟩ := hp _ _ _ rfl
    have fi := tv_fit (v := v) hv fun x e => (fP_col hl).mpr (col_mem (e ▸ h4))
    have nlv' := encV_nl v'
    have okv := sh_V (hv0 v (List.mem_of_getElem? h2))
    have okv' := sh_V (tv_ok (ht _ h4) hv0 (fun x e => (fP_col hl).mpr (col_mem (e ▸ h4))) hv)
    walk_at "Ddlx"
    rw [atI_mapR h2]
    walk_at "Ddlx"
    refine ifb_V (fun g => ?_) (fun g => ?_)
    · walk_at "Ddlx"
      exact post (gr_no' fun z => g (fi.mp (z.2 _ (List.mem_of_getElem? h3))))
    · walk_at "Ddlx"
      refine hx _ ⟨i + 1, _, ⟨by omega, fun p hp => ?_⟩, rfl⟩
      rw [take_snocR h3] at hp
      rcases List.mem_append.mp hp with h | h
      · exact hf p h
      · rw [List.mem_singleton.mp h]; exact fi.mpr g
  · rintro env ⟨i, o5, ⟨e, hf⟩, rfl⟩
    walk_at "Ddlx"
    refine post (gr_yes ⟨hl, fun p hp => hf p ?_⟩)
    rw [List.take_of_length_le (by rw [List.length_map] at e; omega)]
    exact hp
theorem ma1 (h8 : ts.length ≤ 8) (ht : ∀ t ∈ ts, okTm t) (hv0 : ∀ v ∈ row, okV v) (hl : row.length = ts.length) :
    wc_law_match_1 [some (.tup (ts.map encTm)), some (.tpd ((colsT ts).map D.str)), some (.tup (row.map encV)), some (.lst []), none, none] (KMa ts row) := by
  have nxt := fun {o4 : Option D} => ma2 (ts := ts) (row := row) (o4 := o4) h8 ht hv0 hl
  have L0 : (ts.zip row).length = ts.length := by rw [List.length_zip]; omega
  walk_at "Ddlx"
  refine loop_for (fun xs e => ∃ (p q : List Str) (o4 : Option D), (colsT ts = p ++ q ∧ xs = q.map D.str) ∧ e = [some (.tup (ts.map encTm)), some (.tpd ((colsT ts).map D.str)), some (.tup (row.map encV)), some (.lst ((valR (ts.zip row) p).map encV)), o4, none]) ⟨[], _, none, ⟨rfl, rfl⟩, rfl⟩ ?_ ?_
  · rintro x r env nx ⟨p, q, o4, ⟨hc, hq⟩, rfl⟩ hx
    cases q with
    | nil => cases hq
    | cons x q =>
      rw [List.map_cons] at hq
      cases hq
      have hin : x ∈ ts.filterMap colOf := mem_ordS.mp (show x ∈ colsT ts by rw [hc]; simp)
      obtain ⟨v, hv⟩ := Option.ne_none_iff_exists'.mp ((fP_col hl).mpr hin)
      obtain ⟨rr, hr⟩ := fP_head hv
      walk_at "Ddlx"
      refine loop_lc (fun xs acc e => ∃ (j t : Nat), (j + t = row.length ∧ xs = rngD j t ∧ acc = (((ts.zip row).take j).filter (isc x)).map fun p => encV p.2) ∧ e = [some (.tup (ts.map encTm)), some (.tpd ((colsT ts).map D.str)), some (.tup (row.map encV)), some (.lst ((valR (ts.zip row) p).map encV)), some (.str x), none]) ⟨0, row.length, ⟨by omega, by simp, rfl⟩, rfl⟩ ?_ ?_
      · rintro x0 r acc env nxt2 ⟨j, t, ⟨hj, hx0, rfl⟩, rfl⟩ hn
        cases t with
        | zero => simp [rngD] at hx0
        | succ t =>
          simp only [rngD, List.cons.injEq] at hx0
          obtain ⟨rfl, rfl⟩ := hx0
          obtain ⟨t', v', h1, h2, h3, h4⟩ := zip_at (i := j) hl (by omega)
          have nlt := encTm_nl t'
          have nlv := encV_nl v'
          have sh1 := sh_Tm (ht _ h4)
          have sh2 : SeqAt.shaped (toP (.tup [.str (PySem.Str.ofString "col"), .str x])) = true := sh_Tm (t := .col x) (col_ok ht hin)
          have step : ∀ b, isc x (t', v') = b → (((ts.zip row).take j).filter (isc x)).map (fun p => encV p.2) ++ (if b then [encV v'] else []) = (((ts.zip row).take (j + 1)).filter (isc x)).map (fun p => encV p.2) := by
            intro b hb
            rw [take_snocR h3, List.filter_append, List.map_append]
            cases b with
            | true => rw [List.filter_cons_of_pos hb]; rfl
            | false => rw [List.filter_cons_of_neg (by rw [hb]; decide)]; rfl
          have ec := eqv_col t' x
          walk_at "Ddlx"
          rw [atI_mapR h1]
          walk_at "Ddlx"
          rw [ec]
          have hb : (match t' with | .col y => decide (y = x) | .val _ => false) = isc x (t', v') := by cases t' <;> rfl
          rw [hb]
          cases hi : isc x (t', v') with
          | true =>
            walk_at "Ddlx"
            rw [atI_mapR h2]
            walk_at "Ddlx"
            exact hn _ _ ⟨j + 1, t, ⟨by omega, rfl, step true hi⟩, rfl⟩
          | false =>
            walk_at "Ddlx"
            exact hn _ _ ⟨j + 1, t, ⟨by omega, rfl, by rw [← step false hi]; simp⟩, rfl⟩
      · rintro acc env ⟨j, t, ⟨hj, hx0, rfl⟩, rfl⟩
        have hj2 : j = row.length := by
          cases t with
          | zero => omega
          | succ t => simp [rngD] at hx0
        rw [List.take_of_length_le (by omega), hr]
        have nlv := encV_nl v
        walk_at "Ddlx"
        rw [at0]
        walk_at "Ddlx"
        refine ⟨by
          have h1 := ordS_len (ts.filterMap colOf)
          have h2 := List.length_filterMap_le colOf ts
          have h3 := congrArg List.length hc
          unfold colsT at h3
          rw [List.length_append] at h3
          unfold valR
          rw [List.length_map, List.length_map]
          omega, ?_⟩
        refine hx _ ⟨p ++ [x], q, some (.str x), ⟨by rw [hc]; simp, rfl⟩, ?_⟩
        rw [show valR (ts.zip row) (p ++ [x]) = valR (ts.zip row) p ++ [v] from by simp [valR, hv]]
        rw [List.map_append]
        rfl
  · rintro env ⟨p, q, o4, ⟨hc, hq⟩, rfl⟩
    have e0 : q = [] := by cases q with
      | nil => rfl
      | cons a b => cases hq
    rw [e0, List.append_nil] at hc
    rw [← hc]
    walk_at "Ddlx"
    exact Stop.mk nxt
theorem pure_law_match : ∀ ds, ds.length = 3 → sp_law_match.pre ds → w_law_match (env0 ds 3) { nx := fun e => sp_law_match.post ds .non (outs e 3), rt := fun d e => sp_law_match.post ds d (outs e 3) } := by
  rintro ds _ ⟨ts, row, rfl, h8, ht, hv⟩
  have post := fun {r : D} h => ma_post (ts := ts) (row := row) (r := r) (c := .tpd ((colsT ts).map D.str)) h
  rw [wc_law_match_eq]
  by_cases hl : row.length = ts.length
  · have nxt := ma1 (ts := ts) (row := row) h8 ht hv hl
    walk_at "Ddlx"
    refine ifb_ndec (fun g => absurd (by rw [List.length_map, List.length_map, hl]) g) (fun g => ?_)
    walk_at "Ddlx"
    exact Stop.mk nxt
  · walk_at "Ddlx"
    refine ifb_ndec (fun g => ?_) (fun g => absurd (by rw [List.length_map, List.length_map] at g; omega) hl)
    walk_at "Ddlx"
    exact post (gr_no' fun z => hl z.1)
end
end DL

set_option maxHeartbeats 1000000
namespace DL
open PySem PySem.Spec PyProof.Rows L2
--REN _law_columns=law_columns_f
/-! ### the span of a question -/
def mkK2 : K2 → MK
  | .both => .both | .either => .either | .unless => .unless | .since => .since | .sincenot => .sincenot | .until => .until | .untilnot => .untilnot
def mkK4 : K4 → MK
  | .once => .once | .lately => .lately | .soon => .soon | .hence => .hence
def mkK3 : K3 → MK
  | .sum => .sum | .least => .least | .most => .most
def mkKL : KL → MK
  | .linked => .linked | .way => .way
def mkQ : Qn → MK
  | .fact .. => .both | .two k .. => mkK2 k | .only .. => .only | .whr .. => .where_ | .shift .. => .shift | .look k .. => mkK4 k | .count .. => .count | .total k .. => mkK3 k | .link k .. => mkKL k
def wQ : Qn → Option Int
  | .shift n _ => some n | .look _ w _ => w | _ => none
theorem kdMk (q : Qn) (h : ix q ≠ 0) : mkzS (mkQ q) = kd q := by
  cases q with
  | fact => exact absurd rfl h
  | two k => cases k <;> rfl
  | look k => cases k <;> rfl
  | total k => cases k <;> rfl
  | link k => cases k <;> rfl
  | _ => rfl
theorem encQ_mv (q : Qn) (h : ix q ≠ 0) : ∃ x r, encQ q = .tup (.str (mkzS (mkQ q)) :: x :: r) ∧ QOk (mkQ q) (wQ q) x := by
  cases q with
  | fact => exact absurd rfl h
  | two k p q =>
    have np := encQ_nl p
    cases k <;> exact ⟨_, _, rfl, np, rfl⟩
  | only cs p => exact ⟨_, _, rfl, rfl, rfl⟩
  | whr t l r p => exact ⟨_, _, rfl, rfl, rfl⟩
  | shift n p => exact ⟨_, _, rfl, rfl, by simp [wQ]⟩
  | look k w p => cases k <;> exact ⟨_, _, rfl, rfl⟩
  | count n ks p => exact ⟨_, _, rfl, rfl, rfl⟩
  | total k n c ks p => cases k <;> exact ⟨_, _, rfl, rfl, rfl⟩
  | link k x y p => cases k <;> exact ⟨_, _, rfl, rfl, rfl⟩
theorem wOk_of {q : Qn} (h : okQ q) : wOk (mkQ q) (wQ q) := by
  cases q with
  | shift n p => exact .inl rfl
  | look k w p => exact .inr fun n e => h.1.1 n e
  | _ => exact .inr fun n e => by cases e
def spC (c : Chg) : SpO := some (c.lo, c.hi)
noncomputable def hitB (n : Str) (ts : List Tm) (c : Chg) : Bool := decide (c.nm = n) && matB ts c.row
noncomputable def spanQ (cs : List Chg) : Qn → SpO
  | .fact n ts => hullD ((cs.filter (hitB n ts)).map spC)
  | .two k p q => movS (mkK2 k) none (hullD [spanQ cs p, spanQ cs q])
  | .only _ p => movS .only none (hullD [spanQ cs p])
  | .whr _ _ _ p => movS .where_ none (hullD [spanQ cs p])
  | .shift n p => movS .shift (some n) (hullD [spanQ cs p])
  | .look k w p => movS (mkK4 k) w (hullD [spanQ cs p])
  | .count _ _ p => movS .count none (hullD [spanQ cs p])
  | .total k _ _ _ p => movS (mkK3 k) none (hullD [spanQ cs p])
  | .link k _ _ p => movS (mkKL k) none (hullD [spanQ cs p])
theorem spanQ_eq (cs : List Chg) (q : Qn) (h : ix q ≠ 0) : spanQ cs q = movS (mkQ q) (wQ q) (hullD ((partsQ q).map (spanQ cs))) := by
  cases q <;> first | exact absurd rfl h | rfl
theorem H2_ok {s t : SpO} (hs : SpZ s) (ht : SpZ t) : SpZ (H2 s t) := by
  cases s with
  | none => exact ht
  | some p =>
    cases t with
    | none => exact hs
    | some q =>
      obtain ⟨l, h⟩ := p
      obtain ⟨l', h'⟩ := q
      obtain ⟨a1, a2⟩ := hs l h rfl
      obtain ⟨b1, b2⟩ := ht l' h' rfl
      intro x y e
      simp only [H2, Option.some.injEq, Prod.mk.injEq] at e
      obtain ⟨rfl, rfl⟩ := e
      refine ⟨by split <;> omega, fun z hz => ?_⟩
      cases h with
      | none => cases hz
      | some h =>
        cases h' with
        | none => cases hz
        | some h' =>
          have c1 := a2 h rfl
          have c2 := b2 h' rfl
          simp only [hi2, Option.some.injEq] at hz
          subst hz
          repeat' split <;> omega
theorem hull_ok : ∀ {xs : List SpO}, (∀ s ∈ xs, SpZ s) → SpZ (hullD xs)
  | [], _ => fun l h e => by cases e
  | x :: r, h => H2_ok (h x (by simp)) (hull_ok fun s hs => h s (by simp [hs]))
def ChsOk (cs : List Chg) : Prop := ∀ c ∈ cs, ChOk c
theorem span_ok {cs : List Chg} (hc : ChsOk cs) : ∀ q : Qn, okQ q → SpZ (spanQ cs q)
  | .fact n ts, _ => hull_ok fun s hs => by
    obtain ⟨c, h1, rfl⟩ := List.mem_map.mp hs
    have k := hc c (List.mem_filter.mp h1).1
    intro l h e
    cases e
    exact ⟨k.lo, fun y e => k.hi y e⟩
  | .two k p q, h => movS_ok (hull_ok (by simpa using ⟨span_ok hc p h.2.1, span_ok hc q h.2.2⟩)) (wOk_of h)
  | .only _ p, h => movS_ok (hull_ok (by simpa using span_ok hc p h.2)) (wOk_of h)
  | .whr _ _ _ p, h => movS_ok (hull_ok (by simpa using span_ok hc p h.2)) (wOk_of h)
  | .shift n p, h => movS_ok (hull_ok (by simpa using span_ok hc p h.2)) (wOk_of h)
  | .look k w p, h => movS_ok (hull_ok (by simpa using span_ok hc p h.2)) (wOk_of h)
  | .count _ _ p, h => movS_ok (hull_ok (by simpa using span_ok hc p h.2)) (wOk_of h)
  | .total k _ _ _ p, h => movS_ok (hull_ok (by simpa using span_ok hc p h.2)) (wOk_of h)
  | .link k _ _ p, h => movS_ok (hull_ok (by simpa using span_ok hc p h.2)) (wOk_of h)
theorem encCh_inj {a b : Chg} (h : encCh a = encCh b) : a = b := by
  obtain ⟨n, r, l, hi⟩ := a
  obtain ⟨n', r', l', hi'⟩ := b
  simp only [encCh, D.tup.injEq, List.cons.injEq, and_true, D.str.injEq] at h
  obtain ⟨rfl, h2, h3⟩ := h
  cases mapV_inj h2
  have := encZ_inj h3
  simp only [Option.some.injEq, Prod.mk.injEq] at this
  rw [this.1, this.2]
theorem mapCh_inj {a b : List Chg} (h : a.map encCh = b.map encCh) : a = b := (List.map_inj_right fun _ _ h => encCh_inj h).mp h
def spn_question_span : Nat → FSpec
  | 0 => ⟨fun _ => False, fun _ _ _ => False⟩
  | n + 1 => ⟨fun ds => ∃ (q : Qn) (cs : List Chg), ds = [encQ q, .lst (cs.map encCh)] ∧ okQ q ∧ dpQ q ≤ n + 1 ∧ cs.length ≤ 1000 ∧ ChsOk cs,
      fun ds r ds' => ds' = ds ∧ ∀ (q : Qn) (cs : List Chg), ds = [encQ q, .lst (cs.map encCh)] → r = encZ (spanQ cs q)⟩
abbrev sp_question_span := spn_question_span 16
theorem qs_post {q : Qn} {cs : List Chg} {r : D} (h : r = encZ (spanQ cs q)) : ∀ (q' : Qn) (cs' : List Chg), [encQ q, .lst (cs.map encCh)] = [encQ q', D.lst (cs'.map encCh)] → r = encZ (spanQ cs' q') := by
  intro q' cs' e
  simp only [List.cons.injEq, and_true, D.lst.injEq] at e
  cases encQ_inj e.1
  cases mapCh_inj e.2
  exact h
/-- slots: 0 question, 1 changes, 2 _, 3 wanted, 4 terms, 5 name, 6 row, 7 span, 8 part -/
def w_question_span (n : Nat) : WS :=
    (cSeq (cIte (cOp fEqS (cOp fIx (cVar 0) (cC (.int 0))) (cC (.str (PySem.Str.ofString "fact"))))
      (cSeq (cUnp (cVar 0) (gT 3 (gCons' (gN 2 [0, 1] 2) (gCons' (gN 2 [0, 1] 3) (gCons' (gN 2 [0, 1] 4) gNil')))))
        (cRet 2 (cCallN 1 sp_hull (cCons (cLc [5, 6, 7] (iE (cVar 1)) (gT 3 (gCons' (gN 2 [] 5) (gCons' (gN 2 [] 6) (gCons' (gN 2 [] 7) gNil')))) (cAnd (cOp fEqS (cVar 5) (cVar 3)) (cUn (fIsN true) (cCallN 2 sp_given_row (cCons (cVar 4) (cCons (cVar 6) cNil))))) (cVar 7)) cNil))))
      cNilS)
    (cRet 2 (cCallN 2 sp_moved_span (cCons (cVar 0) (cCons (cCallN 1 sp_hull (cCons (cLc [8] (iE (cCallN 1 sp_parts_of (cCons (cVar 0) cNil))) (gN 2 [] 8) tTrue (cCallN 2 (spn_question_span n) (cCons (cVar 8) (cCons (cVar 1) cNil)))) cNil)) cNil)))))
local macro_rules | `(tactic| walk_at "Ddlx") => `(tactic| ((conv => whnf); (repeat ((first | ((with_reducible refine And.intro (stOk_nl ?_ ?_) ?_); (focus (with_reducible first | assumption | exact encQ_nl _ | exact encO_nl _ | exact encC_nl _)); (focus exact rfl)) | ((refine pick_nl ?_ ?_); (focus (with_reducible first | assumption | exact encQ_nl _ | exact encO_nl _ | exact encC_nl _))) | ((with_reducible refine And.intro ?_ ?_); (focus (with_reducible first | assumption | exact encQ_nl _ | exact encO_nl _ | exact encC_nl _))) | ((with_reducible refine And.intro (immA_c ?_ ?_) ?_); (focus (first | (with_reducible first | assumption | exact encQ_nl _ | exact encO_nl _ | exact encC_nl _) | exact rfl)); (focus ((repeat ((with_reducible refine immA_c ?_ ?_); (focus (first | (with_reducible first | assumption | exact encQ_nl _ | exact encO_nl _ | exact encC_nl _) | exact rfl)))); exact rfl))) | refine And.intro rfl ?_ | refine And.intro trivial ?_ | refine And.intro ⟨rfl, trivial⟩ ?_ | refine And.intro ⟨rfl, rfl, trivial⟩ ?_ | refine ifb_nq (by first | assumption | decide) ?_ | refine ifb_pq (by assumption) ?_ | refine ifb_er ?_ | refine ifb_t ?_ | refine ifb_f ?_ | refine ifb_nr ?_ | refine ifb_er ?_ | ((with_reducible refine And.intro (?_ : (_ : Nat) ≤ _) ?_); (focus (first | decide | omega | (unfold CMul; omega) | (unfold CDiv; omega) | (unfold CPow; decide) | (exact cpow1 (by omega) (by omega)) | (simp only [rngD_len, List.length_replicate, List.length_map, List.length_append, List.length_cons, List.length_nil, List.length_set] at *; omega)))) | ((with_reducible refine And.intro (?_ : (_ : Int) ≤ _) ?_); (focus (first | decide | omega | (unfold CMul; omega) | (unfold CDiv; omega) | (unfold CPow; decide) | (exact cpow1 (by omega) (by omega)) | (simp only [rngD_len, List.length_replicate, List.length_map, List.length_append, List.length_cons, List.length_nil, List.length_set] at *; omega)))) | ((with_reducible refine And.intro (?_ : (_ : Nat) < _) ?_); (focus (first | decide | omega | (unfold CMul; omega) | (unfold CDiv; omega) | (unfold CPow; decide) | (exact cpow1 (by omega) (by omega)) | (simp only [rngD_len, List.length_replicate, List.length_map, List.length_append, List.length_cons, List.length_nil, List.length_set] at *; omega)))) | ((with_reducible refine And.intro (?_ : (_ : Int) < _) ?_); (focus (first | decide | omega | (unfold CMul; omega) | (unfold CDiv; omega) | (unfold CPow; decide) | (exact cpow1 (by omega) (by omega)) | (simp only [rngD_len, List.length_replicate, List.length_map, List.length_append, List.length_cons, List.length_nil, List.length_set] at *; omega)))) | ((with_reducible refine And.intro (?_ : CMul _ _) ?_); (focus (first | decide | omega | (unfold CMul; omega) | (unfold CDiv; omega) | (unfold CPow; decide) | (exact cpow1 (by omega) (by omega)) | (simp only [rngD_len, List.length_replicate, List.length_map, List.length_append, List.length_cons, List.length_nil, List.length_set] at *; omega)))) | ((with_reducible refine And.intro (?_ : CDiv _ _) ?_); (focus (first | decide | omega | (unfold CMul; omega) | (unfold CDiv; omega) | (unfold CPow; decide) | (exact cpow1 (by omega) (by omega)) | (simp only [rngD_len, List.length_replicate, List.length_map, List.length_append, List.length_cons, List.length_nil, List.length_set] at *; omega)))) | ((with_reducible refine And.intro (?_ : CPow _ _) ?_); (focus (first | decide | omega | (unfold CMul; omega) | (unfold CDiv; omega) | (unfold CPow; decide) | (exact cpow1 (by omega) (by omega)) | (simp only [rngD_len, List.length_replicate, List.length_map, List.length_append, List.length_cons, List.length_nil, List.length_set] at *; omega)))) | ((with_reducible refine And.intro (?_ : (_ : Nat) = _) ?_); (focus (first | decide | omega | (unfold CMul; omega) | (unfold CDiv; omega) | (unfold CPow; decide) | (exact cpow1 (by omega) (by omega)) | (simp only [rngD_len, List.length_replicate, List.length_map, List.length_append, List.length_cons, List.length_nil, List.length_set] at *; omega))))); (conv => whnf); (try dsimp only [List.set_cons_zero, List.set_cons_succ, upA, wipeE, back, List.getElem?_cons_zero, List.getElem?_cons_succ, Option.getD_some]))); (try dsimp only [List.set_cons_zero, List.set_cons_succ, upA, wipeE, back, List.getElem?_cons_zero, List.getElem?_cons_succ, Option.getD_some])))
theorem pure_question_span : ∀ n, ∀ ds, ds.length = 2 → (spn_question_span (n + 1)).pre ds → w_question_span n (env0 ds 7) { nx := fun e => (spn_question_span (n + 1)).post ds .non (outs e 2), rt := fun d e => (spn_question_span (n + 1)).post ds d (outs e 2) } := by
  rintro n ds _ ⟨q, cs, rfl, hq, hd, few, ok⟩
  have post := fun {r : D} h => qs_post (q := q) (cs := cs) (r := r) h
  by_cases hx : ix q = 0
  · cases q with
    | fact nm ts =>
      have hl : ts.length ≤ 8 := hq.1.2.1
      have gr : ∀ c : Chg, c ∈ cs → sp_given_row.pre [.tup (ts.map encTm), .tup (c.row.map encV)] ∧ ∀ r ds', sp_given_row.post [.tup (ts.map encTm), .tup (c.row.map encV)] r ds' → ds' = [.tup (ts.map encTm), .tup (c.row.map encV)] ∧
          ((∃ xs, r = .tup xs ∧ matB ts c.row = true) ∨ (r = .non ∧ matB ts c.row = false)) := fun c hc => ⟨⟨ts, c.row, rfl, hl, hq.1.2.2, (ok c hc).vv⟩, fun r ds' h => by
        refine ⟨h.1, ?_⟩
        obtain ⟨h1, h2⟩ := h.2 _ _ rfl
        cases e : matB ts c.row with
        | true => exact .inl ⟨_, h1 e, rfl⟩
        | false => exact .inr ⟨h2 e, rfl⟩⟩
      simp only [encQ] at post ⊢
      walk_at "Ddlx"
      refine loop_lc (fun xs acc e => ∃ (p q : List Chg), (cs = p ++ q ∧ xs = q.map encCh ∧ acc = ((p.filter (hitB nm ts)).map spC).map encZ) ∧ e = [some (.tup [.str (PySem.Str.ofString "fact"), .str nm, .tup (ts.map encTm)]), some (.lst (cs.map encCh)), some (.str (PySem.Str.ofString "fact")), some (.str nm), some (.tup (ts.map encTm)), none, none, none, none]) ⟨[], cs, ⟨rfl, rfl, rfl⟩, rfl⟩ ?_ ?_
      · rintro x r acc env nx ⟨p, q, ⟨hc, hq', rfl⟩, rfl⟩ hn
        cases q with
        | nil => cases hq'
        | cons c q =>
          rw [List.map_cons] at hq'
          cases hq'
          have hin : c ∈ cs := by rw [hc]; simp
          obtain ⟨g1, g2⟩ := gr c hin
          have step : ∀ b, hitB nm ts c = b → ((p.filter (hitB nm ts)).map spC).map encZ ++ (if b then [encZ (spC c)] else []) = (((p ++ [c]).filter (hitB nm ts)).map spC).map encZ := by
            intro b hb
            rw [List.filter_append, List.map_append, List.map_append]
            cases b with
            | true => rw [List.filter_cons_of_pos hb]; rfl
            | false => rw [List.filter_cons_of_neg (by rw [hb]; decide)]; rfl
          have nlz := isL_Z (spC c)
          have sz : encZ (some (c.lo, c.hi)) = encZ (spC c) := rfl
          simp only [encCh, sz]
          generalize encZ (spC c) = z at *
          walk_at "Ddlx"
          refine ifb_dec (fun g => ?_) (fun g => ?_)
          · walk_at "Ddlx"
            try refine ⟨g1, ?_⟩
            intro r ds' hp
            obtain ⟨rfl, h⟩ := g2 r ds' hp
            rcases h with ⟨xs, rfl, hm⟩ | ⟨rfl, hm⟩
            · have hh : hitB nm ts c = true := by unfold hitB; rw [hm, decide_eq_true g]; rfl
              walk_at "Ddlx"
              exact hn _ _ ⟨p ++ [c], q, ⟨by rw [hc]; simp, rfl, step true hh⟩, rfl⟩
            · have hh : hitB nm ts c = false := by unfold hitB; rw [hm, Bool.and_false]
              walk_at "Ddlx"
              exact hn _ _ ⟨p ++ [c], q, ⟨by rw [hc]; simp, rfl, by rw [← step false hh]; simp⟩, rfl⟩
          · have hh : hitB nm ts c = false := by unfold hitB; rw [decide_eq_false g]; rfl
            walk_at "Ddlx"
            exact hn _ _ ⟨p ++ [c], q, ⟨by rw [hc]; simp, rfl, by rw [← step false hh]; simp⟩, rfl⟩
      · rintro acc env ⟨p, q, ⟨hc, hq', rfl⟩, rfl⟩
        have e0 : q = [] := by cases q with
          | nil => rfl
          | cons a b => cases hq'
        subst e0
        rw [List.append_nil] at hc
        subst hc
        have hpre : sp_hull.pre [.lst (((cs.filter (hitB nm ts)).map spC).map encZ)] := ⟨_, rfl, by
          have := List.length_filter_le (hitB nm ts) cs
          rw [List.length_map]
          omega⟩
        walk_at "Ddlx"
        try refine ⟨hpre, ?_⟩
        intro r ds' hp
        obtain ⟨rfl, rfl⟩ := hp _ rfl
        walk_at "Ddlx"
        exact post rfl
    | _ => exact absurd hx (by simp [ix])
  · obtain ⟨x, r, e1, qo⟩ := encQ_mv q hx
    have hf := kd_notfact q hx
    have hk := kdMk q hx
    have po : sp_parts_of.pre [encQ q] ∧ ∀ r ds', sp_parts_of.post [encQ q] r ds' → ds' = [encQ q] ∧ r = .tup ((partsQ q).map encQ) := ⟨⟨q, rfl⟩, fun r ds' h => ⟨h.1, h.2 q rfl⟩⟩
    have sp := spanQ_eq cs q hx
    have mv : ∀ s : SpO, sp_moved_span.pre [encQ q, encZ s] ∧ ∀ r ds', sp_moved_span.post [encQ q, encZ s] r ds' → ds' = [encQ q, encZ s] ∧ r = encZ (movS (mkQ q) (wQ q) s) := fun s => by
      rw [e1]
      exact ⟨⟨_, _, _, _, s, rfl, qo⟩, fun r ds' h => ⟨h.1, h.2 _ _ _ _ s rfl qo⟩⟩
    have call : ∀ {p : Qn}, p ∈ partsQ q → (spn_question_span n).pre [encQ p, .lst (cs.map encCh)] ∧ ∀ r ds', (spn_question_span n).post [encQ p, .lst (cs.map encCh)] r ds' → ds' = [encQ p, .lst (cs.map encCh)] ∧ r = encZ (spanQ cs p) := fun {p} hp => by
      have h1 := dpQ_part hp
      have h2 := dpQ_pos p
      cases n with
      | zero => omega
      | succ n => exact ⟨⟨p, cs, rfl, okQ_part hq hp, by omega, few, ok⟩, fun r ds' h => ⟨h.1, h.2 p cs rfl⟩⟩
    have lp : (partsQ q).length ≤ 2 := by cases q <;> simp [partsQ]
    have lp2 : ((partsQ q).map encQ).length ≤ 1000000 := by rw [List.length_map]; omega
    rw [← hk] at hf
    rw [e1] at post po mv ⊢
    generalize mkzS (mkQ q) = kq at *
    walk_at "Ddlx"
    rw [at0]
    walk_at "Ddlx"
    try refine ⟨po.1, ?_⟩
    intro r0 ds' hp
    obtain ⟨rfl, rfl⟩ := po.2 r0 ds' hp
    walk_at "Ddlx"
    refine loop_lc (fun xs acc e => ∃ (a b : List Qn), (partsQ q = a ++ b ∧ xs = b.map encQ ∧ acc = (a.map (spanQ cs)).map encZ) ∧ e = [some (.tup (.str kq :: x :: r)), some (.lst (cs.map encCh)), none, none, none, none, none, none, none]) ⟨[], _, ⟨rfl, rfl, rfl⟩, rfl⟩ ?_ ?_
    · rintro y ys acc env nx ⟨a, b, ⟨hc, hq', rfl⟩, rfl⟩ hn
      cases b with
      | nil => cases hq'
      | cons p b =>
        rw [List.map_cons] at hq'
        cases hq'
        obtain ⟨c1, c2⟩ := call (p := p) (by rw [hc]; simp)
        have nlq := encQ_nl p
        have nlz := isL_Z (spanQ cs p)
        walk_at "Ddlx"
        try refine ⟨c1, ?_⟩
        intro r0 ds' hp
        obtain ⟨rfl, rfl⟩ := c2 r0 ds' hp
        walk_at "Ddlx"
        refine hn _ _ ⟨a ++ [p], b, ⟨by rw [hc]; simp, rfl, by simp⟩, rfl⟩
    · rintro acc env ⟨a, b, ⟨hc, hq', rfl⟩, rfl⟩
      have e0 : b = [] := by cases b with
        | nil => rfl
        | cons a b => cases hq'
      subst e0
      rw [List.append_nil] at hc
      have hpre : sp_hull.pre [.lst ((a.map (spanQ cs)).map encZ)] := ⟨_, rfl, by
        rw [hc] at lp
        rw [List.length_map]
        omega⟩
      have nlz := isL_Z (hullD (a.map (spanQ cs)))
      obtain ⟨m1, m2⟩ := mv (hullD (a.map (spanQ cs)))
      walk_at "Ddlx"
      try refine ⟨hpre, ?_⟩
      intro r0 ds' hp
      obtain ⟨rfl, rfl⟩ := hp _ rfl
      walk_at "Ddlx"
      try refine ⟨m1, ?_⟩
      intro r0 ds' hp
      obtain ⟨rfl, rfl⟩ := m2 r0 ds' hp
      walk_at "Ddlx"
      exact post (by rw [sp, hc])
/-! ### the law's own -/
def spn_law_due : Nat → FSpec := spn_question_span
abbrev sp_law_due := spn_law_due 16
/-- slots: 0 question, 1 changes, 2 due, 3 columns, 4 change -/
def w_law_due (n : Nat) : WS :=
    (cSeq (cIte (cOp fEqS (cOp fIx (cVar 0) (cC (.int 0))) (cC (.str (PySem.Str.ofString "fact"))))
      (cSeq (cAsg 2 [0, 1] 2 (cC .non))
        (cSeq (cAsg 2 [0, 1] 3 (cCallN 1 sp_law_columns_f (cCons (cVar 0) cNil)))
        (cSeq (cFor [0, 1] (iE (cVar 1)) (gN 2 [0, 1] 4)
          (cIte (cAnd (cOp fEqS (cOp fIx (cVar 4) (cC (.int 0))) (cOp fIx (cVar 0) (cC (.int 1)))) (cUn (fIsN true) (cCallN 3 sp_law_match (cCons (cOp fIx (cVar 0) (cC (.int 2))) (cCons (cVar 3) (cCons (cOp fIx (cVar 4) (cC (.int 1))) cNil))))))
              (cAsg 2 [0, 1] 2 (cCallN 2 sp_law_around (cCons (cVar 2) (cCons (cOp fIx (cVar 4) (cC (.int 2))) cNil))))
              cNilS))
        (cRet 2 (cVar 2)))))
      cNilS)
    (cSeq (cAsg 2 [0, 1] 2 (cCallN 2 (spn_law_due n) (cCons (cOp fIx (cVar 0) (cOp fSub (cBi fLen (cCons (cVar 0) cNil)) (cC (.int 1)))) (cCons (cVar 1) cNil))))
    (cSeq (cIte (cOp (fIn false) (cOp fIx (cVar 0) (cC (.int 0))) (cLst (cCons (cC (.str (PySem.Str.ofString "both"))) (cCons (cC (.str (PySem.Str.ofString "either"))) (cCons (cC (.str (PySem.Str.ofString "unless"))) (cCons (cC (.str (PySem.Str.ofString "since"))) (cCons (cC (.str (PySem.Str.ofString "sincenot"))) (cCons (cC (.str (PySem.Str.ofString "until"))) (cCons (cC (.str (PySem.Str.ofString "untilnot"))) cNil)))))))))
      (cAsg 2 [0, 1] 2 (cCallN 2 sp_law_around (cCons (cCallN 2 (spn_law_due n) (cCons (cOp fIx (cVar 0) (cC (.int 1))) (cCons (cVar 1) cNil))) (cCons (cVar 2) cNil))))
      cNilS)
    (cSeq (cIte (cUn (fIsN false) (cVar 2))
      (cRet 2 (cC .non))
      cNilS)
    (cRet 2 (cCallN 2 sp_law_moved (cCons (cVar 0) (cCons (cVar 2) cNil))))))))
def wc_law_due_1 (n : Nat) : WS :=
    (cSeq (cIte (cUn (fIsN false) (cVar 2))
      (cRet 2 (cC .non))
      cNilS)
    (cRet 2 (cCallN 2 sp_law_moved (cCons (cVar 0) (cCons (cVar 2) cNil)))))
def wc_law_due_0 (n : Nat) : WS :=
    (cSeq (cIte (cOp fEqS (cOp fIx (cVar 0) (cC (.int 0))) (cC (.str (PySem.Str.ofString "fact"))))
      (cSeq (cAsg 2 [0, 1] 2 (cC .non))
        (cSeq (cAsg 2 [0, 1] 3 (cCallN 1 sp_law_columns_f (cCons (cVar 0) cNil)))
        (cSeq (cFor [0, 1] (iE (cVar 1)) (gN 2 [0, 1] 4)
          (cIte (cAnd (cOp fEqS (cOp fIx (cVar 4) (cC (.int 0))) (cOp fIx (cVar 0) (cC (.int 1)))) (cUn (fIsN true) (cCallN 3 sp_law_match (cCons (cOp fIx (cVar 0) (cC (.int 2))) (cCons (cVar 3) (cCons (cOp fIx (cVar 4) (cC (.int 1))) cNil))))))
              (cAsg 2 [0, 1] 2 (cCallN 2 sp_law_around (cCons (cVar 2) (cCons (cOp fIx (cVar 4) (cC (.int 2))) cNil))))
              cNilS))
        (cRet 2 (cVar 2)))))
      cNilS)
    (cSeq (cAsg 2 [0, 1] 2 (cCallN 2 (spn_law_due n) (cCons (cOp fIx (cVar 0) (cOp fSub (cBi fLen (cCons (cVar 0) cNil)) (cC (.int 1)))) (cCons (cVar 1) cNil))))
    (cCut (cIte (cOp (fIn false) (cOp fIx (cVar 0) (cC (.int 0))) (cLst (cCons (cC (.str (PySem.Str.ofString "both"))) (cCons (cC (.str (PySem.Str.ofString "either"))) (cCons (cC (.str (PySem.Str.ofString "unless"))) (cCons (cC (.str (PySem.Str.ofString "since"))) (cCons (cC (.str (PySem.Str.ofString "sincenot"))) (cCons (cC (.str (PySem.Str.ofString "until"))) (cCons (cC (.str (PySem.Str.ofString "untilnot"))) cNil)))))))))
      (cAsg 2 [0, 1] 2 (cCallN 2 sp_law_around (cCons (cCallN 2 (spn_law_due n) (cCons (cOp fIx (cVar 0) (cC (.int 1))) (cCons (cVar 1) cNil))) (cCons (cVar 2) cNil))))
      cNilS) (wc_law_due_1 n))))
theorem wc_law_due_eq (n : Nat) : w_law_due n = wc_law_due_0 n := by
  unfold wc_law_due_0 wc_law_due_1
  simp only [cCut_eq]
  rfl
abbrev kt_law_due (n : Nat) (ds : List D) : Kt := { nx := fun e => (spn_law_due (n + 1)).post ds .non (outs e 2), rt := fun d e => (spn_law_due (n + 1)).post ds d (outs e 2) }
theorem lastQ (q : Qn) (h : ix q ≠ 0) : ∃ t p, encQ q = .tup t ∧ atI t ((t.length : Int) - 1) = some (encQ p) ∧ atI t 0 = some (.str (kd q)) ∧ ((∃ p1, ix q = 1 ∧ partsQ q = [p1, p] ∧ atI t 1 = some (encQ p1)) ∨ (ix q ≠ 1 ∧ partsQ q = [p])) := by
  cases q with
  | fact => exact absurd rfl h
  | two k p q => exact ⟨_, q, rfl, atI_nat (j := 2) rfl, atI_nat (j := 0) rfl, .inl ⟨p, rfl, rfl, atI_nat (j := 1) rfl⟩⟩
  | only cs p => exact ⟨_, p, rfl, atI_nat (j := 2) rfl, atI_nat (j := 0) rfl, .inr ⟨by simp [ix], rfl⟩⟩
  | whr t l r p => exact ⟨_, p, rfl, atI_nat (j := 4) rfl, atI_nat (j := 0) rfl, .inr ⟨by simp [ix], rfl⟩⟩
  | shift n p => exact ⟨_, p, rfl, atI_nat (j := 2) rfl, atI_nat (j := 0) rfl, .inr ⟨by simp [ix], rfl⟩⟩
  | look k w p => exact ⟨_, p, rfl, atI_nat (j := 2) rfl, atI_nat (j := 0) rfl, .inr ⟨by simp [ix], rfl⟩⟩
  | count n ks p => exact ⟨_, p, rfl, atI_nat (j := 3) rfl, atI_nat (j := 0) rfl, .inr ⟨by simp [ix], rfl⟩⟩
  | total k n c ks p => exact ⟨_, p, rfl, atI_nat (j := 4) rfl, atI_nat (j := 0) rfl, .inr ⟨by simp [ix], rfl⟩⟩
  | link k x y p => exact ⟨_, p, rfl, atI_nat (j := 3) rfl, atI_nat (j := 0) rfl, .inr ⟨by simp [ix], rfl⟩⟩
theorem in_pair (q : Qn) : ([D.str (PySem.Str.ofString "both"), D.str (PySem.Str.ofString "either"), D.str (PySem.Str.ofString "unless"), D.str (PySem.Str.ofString "since"), D.str (PySem.Str.ofString "sincenot"), D.str (PySem.Str.ofString "until"), D.str (PySem.Str.ofString "untilnot")].any fun y => eqF y (D.str (kd q))) = decide (ix q = 1) := by
  cases q with
  | two k => cases k <;> rfl
  | look k => cases k <;> rfl
  | total k => cases k <;> rfl
  | link k => cases k <;> rfl
  | _ => rfl
theorem due_fold : ∀ (cs : List Chg) (s : SpO), hullD (cs.map spC) = s → ∀ c, hullD ((cs ++ [c]).map spC) = H2 s (spC c) := fun cs s h c => by
  rw [List.map_append, hullD_append, h]
  show H2 s (H2 (spC c) none) = _
  rw [H2_none]
theorem pure_law_due : ∀ n, ∀ ds, ds.length = 2 → (spn_law_due (n + 1)).pre ds → w_law_due n (env0 ds 3) { nx := fun e => (spn_law_due (n + 1)).post ds .non (outs e 2), rt := fun d e => (spn_law_due (n + 1)).post ds d (outs e 2) } := by
  rintro n ds _ ⟨q, cs, rfl, hq, hd, few, ok⟩
  rw [wc_law_due_eq]
  have post := fun {r : D} h => qs_post (q := q) (cs := cs) (r := r) h
  by_cases hx : ix q = 0
  · cases q with
    | fact nm ts =>
      have hl : ts.length ≤ 8 := hq.1.2.1
      have co : sp_law_columns_f.pre [encQ (.fact nm ts)] ∧ ∀ r ds', sp_law_columns_f.post [encQ (.fact nm ts)] r ds' → ds' = [encQ (.fact nm ts)] ∧ r = .tpd ((colsT ts).map D.str) := ⟨⟨nm, ts, rfl, hl⟩, fun r ds' h => ⟨h.1, h.2 _ _ rfl⟩⟩
      have ma : ∀ c : Chg, c ∈ cs → sp_law_match.pre [.tup (ts.map encTm), .tpd ((colsT ts).map D.str), .tup (c.row.map encV)] ∧ ∀ r ds', sp_law_match.post [.tup (ts.map encTm), .tpd ((colsT ts).map D.str), .tup (c.row.map encV)] r ds' → ds' = [.tup (ts.map encTm), .tpd ((colsT ts).map D.str), .tup (c.row.map encV)] ∧
          ((∃ xs, r = .tup xs ∧ matB ts c.row = true) ∨ (r = .non ∧ matB ts c.row = false)) := fun c hc => ⟨⟨ts, c.row, rfl, hl, hq.1.2.2, (ok c hc).vv⟩, fun r ds' h => by
        refine ⟨h.1, ?_⟩
        obtain ⟨h1, h2⟩ := h.2 _ _ _ rfl
        cases e : matB ts c.row with
        | true => obtain ⟨xs, e1⟩ := h1 e; exact .inl ⟨xs, e1, rfl⟩
        | false => exact .inr ⟨h2 e, rfl⟩⟩
      have ar : ∀ s t : SpO, sp_law_around.pre [encZ s, encZ t] ∧ ∀ r ds', sp_law_around.post [encZ s, encZ t] r ds' → ds' = [encZ s, encZ t] ∧ r = encZ (H2 s t) := fun s t => ⟨⟨s, t, rfl⟩, fun r ds' h => ⟨h.1, h.2 s t rfl⟩⟩
      simp only [encQ] at post co ⊢
      walk_at "Ddlx"
      try refine ⟨co.1, ?_⟩
      intro r0 ds' hp
      obtain ⟨rfl, rfl⟩ := co.2 r0 ds' hp
      walk_at "Ddlx"
      refine loop_for (fun xs e => ∃ (p q : List Chg) (o4 : Option D), (cs = p ++ q ∧ xs = q.map encCh) ∧ e = [some (.tup [.str (PySem.Str.ofString "fact"), .str nm, .tup (ts.map encTm)]), some (.lst (cs.map encCh)), some (encZ (hullD ((p.filter (hitB nm ts)).map spC))), some (.tpd ((colsT ts).map D.str)), o4]) ⟨[], cs, none, ⟨rfl, rfl⟩, rfl⟩ ?_ ?_
      · rintro x r env nx ⟨p, q, o4, ⟨hc, hq'⟩, rfl⟩ hn
        cases q with
        | nil => cases hq'
        | cons c q =>
          rw [List.map_cons] at hq'
          cases hq'
          have hin : c ∈ cs := by rw [hc]; simp
          obtain ⟨g1, g2⟩ := ma c hin
          generalize hs : hullD ((p.filter (hitB nm ts)).map spC) = s at *
          have step : ∀ b, hitB nm ts c = b → encZ (if b then H2 s (spC c) else s) = encZ (hullD (((p ++ [c]).filter (hitB nm ts)).map spC)) := by
            intro b hb
            rw [List.filter_append]
            cases b with
            | true => rw [List.filter_cons_of_pos hb, List.filter_nil, due_fold _ s hs]; rfl
            | false => rw [List.filter_cons_of_neg (by rw [hb]; decide), List.filter_nil, List.append_nil, hs]; rfl
          obtain ⟨a1, a2⟩ := ar s (spC c)
          have nlz := isL_Z (spC c)
          have nls := isL_Z s
          have nlh := isL_Z (H2 s (spC c))
          have sz : encZ (some (c.lo, c.hi)) = encZ (spC c) := rfl
          simp only [encCh, sz]
          walk_at "Ddlx"
          refine ifb_dec (fun g => ?_) (fun g => ?_)
          · walk_at "Ddlx"
            try refine ⟨g1, ?_⟩
            intro r ds' hp
            obtain ⟨rfl, h⟩ := g2 r ds' hp
            rcases h with ⟨xs, rfl, hm⟩ | ⟨rfl, hm⟩
            · have hh : hitB nm ts c = true := by unfold hitB; rw [hm, decide_eq_true g]; rfl
              walk_at "Ddlx"
              try refine ⟨a1, ?_⟩
              intro r ds' hp
              obtain ⟨rfl, rfl⟩ := a2 r ds' hp
              walk_at "Ddlx"
              refine hn _ ⟨p ++ [c], q, some (.tup [.str c.nm, .tup (c.row.map encV), encZ (spC c)]), ⟨by rw [hc]; simp, rfl⟩, ?_⟩
              rw [← step true hh]
              rfl
            · have hh : hitB nm ts c = false := by unfold hitB; rw [hm, Bool.and_false]
              walk_at "Ddlx"
              refine hn _ ⟨p ++ [c], q, some (.tup [.str c.nm, .tup (c.row.map encV), encZ (spC c)]), ⟨by rw [hc]; simp, rfl⟩, ?_⟩
              rw [← step false hh]
              rfl
          · have hh : hitB nm ts c = false := by unfold hitB; rw [decide_eq_false g]; rfl
            walk_at "Ddlx"
            refine hn _ ⟨p ++ [c], q, some (.tup [.str c.nm, .tup (c.row.map encV), encZ (spC c)]), ⟨by rw [hc]; simp, rfl⟩, ?_⟩
            rw [← step false hh]
            rfl
      · rintro env ⟨p, q, o4, ⟨hc, hq'⟩, rfl⟩
        have e0 : q = [] := by cases q with
          | nil => rfl
          | cons a b => cases hq'
        subst e0
        rw [List.append_nil] at hc
        subst hc
        have nlz := isL_Z (hullD ((cs.filter (hitB nm ts)).map spC))
        walk_at "Ddlx"
        exact post rfl
    | _ => exact absurd hx (by simp [ix])
  · have hf := kd_notfact q hx
    have call : ∀ {p : Qn}, p ∈ partsQ q → (spn_law_due n).pre [encQ p, .lst (cs.map encCh)] ∧ ∀ r ds', (spn_law_due n).post [encQ p, .lst (cs.map encCh)] r ds' → ds' = [encQ p, .lst (cs.map encCh)] ∧ r = encZ (spanQ cs p) := fun {p} hp => by
      have h1 := dpQ_part hp
      have h2 := dpQ_pos p
      cases n with
      | zero => omega
      | succ n => exact ⟨⟨p, cs, rfl, okQ_part hq hp, by omega, few, ok⟩, fun r ds' h => ⟨h.1, h.2 p cs rfl⟩⟩
    have ar : ∀ s t : SpO, sp_law_around.pre [encZ s, encZ t] ∧ ∀ r ds', sp_law_around.post [encZ s, encZ t] r ds' → ds' = [encZ s, encZ t] ∧ r = encZ (H2 s t) := fun s t => ⟨⟨s, t, rfl⟩, fun r ds' h => ⟨h.1, h.2 s t rfl⟩⟩
    have mo : ∀ s : SpO, SpZ s → s ≠ none → sp_law_moved.pre [encQ q, encZ s] ∧ ∀ r ds', sp_law_moved.post [encQ q, encZ s] r ds' → ds' = [encQ q, encZ s] ∧ r = encZ (movS (mkQ q) (wQ q) s) := fun s hs h => by
      obtain ⟨x, r, e1, qo⟩ := encQ_mv q hx
      rw [e1]
      cases s with
      | none => exact absurd rfl h
      | some p =>
        obtain ⟨l, hh⟩ := p
        exact ⟨⟨_, _, _, _, l, hh, rfl, qo, (hs l hh rfl).1, (hs l hh rfl).2, wOk_of hq⟩, fun r ds' h => ⟨h.1, h.2 _ _ _ _ _ rfl qo⟩⟩
    have sp := spanQ_eq cs q hx
    obtain ⟨t, p, e1, ea, e0, hp⟩ := lastQ q hx
    have nlq := encQ_nl p
    obtain ⟨tp, ep⟩ := encQ_tup p
    have c1 := call (p := p) (by rcases hp with ⟨p1, _, h, _⟩ | ⟨_, h⟩ <;> rw [h] <;> simp)
    rw [e1] at post mo ⊢
    have inb := in_pair q
    generalize kd q = kq at *
    walk_at "Ddlx"
    rw [e0]
    walk_at "Ddlx"
    rw [ea]
    walk_at "Ddlx"
    try refine ⟨c1.1, ?_⟩
    intro r0 ds' hh
    obtain ⟨rfl, rfl⟩ := c1.2 r0 ds' hh
    have nls := isL_Z (spanQ cs p)
    walk_at "Ddlx"
    rw [e0]
    walk_at "Ddlx"
    rw [if_neg (by decide : ¬ false = true), inb]
    have sz := span_ok ok q hq
    have hz := hull_ok (xs := (partsQ q).map (spanQ cs)) fun s hs => by
      obtain ⟨p', h1, rfl⟩ := List.mem_map.mp hs
      exact span_ok ok p' (okQ_part hq h1)
    have fin : ∀ s : SpO, hullD ((partsQ q).map (spanQ cs)) = s → wc_law_due_1 n [some (.tup t), some (.lst (cs.map encCh)), some (encZ s), none, none] (kt_law_due n [.tup t, .lst (cs.map encCh)]) := by
      intro s hs
      rw [hs] at hz
      cases s with
      | none =>
        walk_at "Ddlx"
        exact post (by rw [sp, hs]; rfl)
      | some lh =>
        obtain ⟨m1, m2⟩ := mo (some lh) hz (by simp)
        have e2 : encZ (some lh) = .tup [.int lh.1, encO lh.2] := rfl
        rw [e2] at m1 m2 ⊢
        have nlm := isL_Z (movS (mkQ q) (wQ q) (some lh))
        have nlo := encO_nl lh.2
        walk_at "Ddlx"
        try refine ⟨m1, ?_⟩
        intro r0 ds' hh
        obtain ⟨rfl, rfl⟩ := m2 r0 ds' hh
        walk_at "Ddlx"
        exact post (by rw [sp, hs])
    rcases hp with ⟨p1, h1, h2, h3⟩ | ⟨h1, h2⟩
    · rw [decide_eq_true h1]
      have d1 := call (p := p1) (by rw [h2]; simp)
      have nl1 := encQ_nl p1
      have nlz := isL_Z (spanQ cs p1)
      obtain ⟨a1, a2⟩ := ar (spanQ cs p1) (spanQ cs p)
      have nlh := isL_Z (H2 (spanQ cs p1) (spanQ cs p))
      walk_at "Ddlx"
      rw [h3]
      walk_at "Ddlx"
      try refine ⟨d1.1, ?_⟩
      intro r0 ds' hh
      obtain ⟨rfl, rfl⟩ := d1.2 r0 ds' hh
      walk_at "Ddlx"
      try refine ⟨a1, ?_⟩
      intro r0 ds' hh
      obtain ⟨rfl, rfl⟩ := a2 r0 ds' hh
      walk_at "Ddlx"
      refine Stop.mk (fin _ ?_)
      rw [h2]
      show H2 _ (H2 _ none) = _
      rw [H2_none]
    · rw [decide_eq_false h1]
      walk_at "Ddlx"
      refine Stop.mk (fin _ ?_)
      rw [h2]
      exact H2_none _
end DL

set_option maxHeartbeats 2000000
namespace DL
open PySem PySem.Spec PyProof.Rows L2
--REN _law_columns=law_columns_f
theorem pl_Ch (c : Chg) : plD (encCh c) = true := by
  obtain ⟨n, r, l, h⟩ := c
  have e : plDs (r.map encV) = true := plDs_map fun v _ => pl_V v
  cases h <;> simp only [encCh, encZ, encZp, encO, plD, plDs, e, Bool.and_true, Bool.true_and]
theorem eqv_Ch (cs : List Chg) : PyData.eqv (toP (.lst (cs.map encCh))) (toP (.lst (cs.map encCh))) = true := by
  simp only [toP, PyData.eqv]
  exact (eqvs_pl _ _ (plDs_map fun c _ => pl_Ch c) (plDs_map fun c _ => pl_Ch c)).mpr rfl
theorem lay_row : ∀ {r : List Vv}, (∀ v ∈ r, okV v) → PyData.canLayAll0 (toPs (r.map encV)) = true ∧ PyData.depthAll (toPs (r.map encV)) ≤ 1
  | [], _ => ⟨by simp [toPs, PyData.canLayAll0], by simp [toPs, PyData.depthAll]⟩
  | v :: r, h => by
    obtain ⟨h1, h2⟩ := lay_row fun x hx => h x (List.mem_cons_of_mem _ hx)
    have h3 := lay_V (h v List.mem_cons_self)
    have h4 := dep_V v
    simp only [List.map_cons, toPs]
    exact ⟨by simp only [PyData.canLayAll0, h1, h3, Bool.and_self], by simp only [PyData.depthAll]; omega⟩
theorem lay_Ch {c : Chg} (h : ChOk c) : (toP (encCh c)).canLay0 = true ∧ (toP (encCh c)).depth ≤ 4 := by
  obtain ⟨h1, h2⟩ := lay_row h.vv
  have h3 := h.nm
  obtain ⟨n, r, l, hi⟩ := c
  have h3' : PyData.strOk n = true := h3
  cases hi <;>
  · simp only [encCh, encZ, encZp, encO, toP, toPs, PyData.canLay0, PyData.canLayAll0, PyData.depth, PyData.depthAll, h1, h3', Bool.and_true, Bool.true_and] at *
    refine ⟨by first | trivial | rfl, by omega⟩
theorem lay_Chs : ∀ {cs : List Chg}, ChsOk cs → PyData.canLayAll0 (toPs (cs.map encCh)) = true ∧ PyData.depthAll (toPs (cs.map encCh)) ≤ 4
  | [], _ => ⟨by simp [toPs, PyData.canLayAll0], by simp [toPs, PyData.depthAll]⟩
  | c :: r, h => by
    obtain ⟨h1, h2⟩ := lay_Chs (cs := r) fun x hx => h x (List.mem_cons_of_mem _ hx)
    obtain ⟨h3, h4⟩ := lay_Ch (h c List.mem_cons_self)
    simp only [List.map_cons, toPs]
    exact ⟨by simp only [PyData.canLayAll0, h1, h3, Bool.and_self], by simp only [PyData.depthAll]; omega⟩
theorem shaped_Chs {cs : List Chg} (h : ChsOk cs) : SeqAt.shaped (toP (.lst (cs.map encCh))) = true := by
  obtain ⟨h1, h2⟩ := lay_Chs h
  unfold SeqAt.shaped
  simp only [toP, PyData.canLay0, PyData.depth, h1]
  rw [decide_eq_true (by omega)]
  rfl
/-- slots: 0 script, 1 draws, 2 world, 3 question, 4 changes, 5 passed, 6 k -/
def w_law : WS :=
    (cSeq (cAsg 1 [0] 1 (cCallN 2 sp_law_draws (cCons (cVar 0) (cCons (cC (.int 200)) cNil))))
    (cSeq (cAsg 1 [0] 2 (cCallN 1 sp_law_world (cCons (cVar 1) cNil)))
    (cSeq (cAsg 1 [0] 3 (cCallN 3 sp_law_asked (cCons (cVar 1) (cCons (cVar 2) (cCons (cCallN 2 sp_law_take (cCons (cVar 1) (cCons (cC (.int 4)) cNil))) cNil)))))
    (cSeq (cAsg 1 [0] 4 (cLc [6] (iR1 (cCallN 2 sp_law_take (cCons (cVar 1) (cCons (cC (.int 6)) cNil)))) (gN 1 [] 6) tTrue (cCallN 3 sp_law_change (cCons (cVar 1) (cCons (cVar 0) (cCons (cVar 2) cNil))))))
    (cSeq (cAsg 1 [0] 5 (cBi fList (cCons (cVar 4) cNil)))
    (cSeq (cIte (cUn fNot (cCallN 2 sp_law_same (cCons (cCallN 2 sp_question_span (cCons (cVar 3) (cCons (cVar 5) cNil))) (cCons (cCallN 2 sp_law_due (cCons (cVar 3) (cCons (cVar 4) cNil))) cNil))))
      (cRet 1 (cC (.bl false)))
      cNilS)
    (cRet 1 (cOp fEqD (cVar 5) (cVar 4)))))))))
def wc_law_2 : WS :=
    (cSeq (cAsg 1 [0] 5 (cBi fList (cCons (cVar 4) cNil)))
    (cSeq (cIte (cUn fNot (cCallN 2 sp_law_same (cCons (cCallN 2 sp_question_span (cCons (cVar 3) (cCons (cVar 5) cNil))) (cCons (cCallN 2 sp_law_due (cCons (cVar 3) (cCons (cVar 4) cNil))) cNil))))
      (cRet 1 (cC (.bl false)))
      cNilS)
    (cRet 1 (cOp fEqD (cVar 5) (cVar 4)))))
def wc_law_1 : WS :=
    (cCut (cAsg 1 [0] 4 (cLc [6] (iR1 (cCallN 2 sp_law_take (cCons (cVar 1) (cCons (cC (.int 6)) cNil)))) (gN 1 [] 6) tTrue (cCallN 3 sp_law_change (cCons (cVar 1) (cCons (cVar 0) (cCons (cVar 2) cNil)))))) (wc_law_2))
def wc_law_0 : WS :=
    (cSeq (cAsg 1 [0] 1 (cCallN 2 sp_law_draws (cCons (cVar 0) (cCons (cC (.int 200)) cNil))))
    (cSeq (cAsg 1 [0] 2 (cCallN 1 sp_law_world (cCons (cVar 1) cNil)))
    (cCut (cAsg 1 [0] 3 (cCallN 3 sp_law_asked (cCons (cVar 1) (cCons (cVar 2) (cCons (cCallN 2 sp_law_take (cCons (cVar 1) (cCons (cC (.int 4)) cNil))) cNil))))) (wc_law_1))))
theorem wc_law_eq : w_law = wc_law_0 := by
  unfold wc_law_0 wc_law_1 wc_law_2
  simp only [cCut_eq]
  rfl
abbrev kt_law (ds : List D) : Kt := { nx := fun e => sp_law.post ds .non (outs e 1), rt := fun d e => sp_law.post ds d (outs e 1) }
local macro_rules | `(tactic| walk_at "Ddlx") => `(tactic| ((conv => whnf); (repeat ((first | ((with_reducible refine And.intro (stOk_nl ?_ ?_) ?_); (focus (with_reducible first | assumption | exact encQ_nl _ | exact encO_nl _ | exact encC_nl _)); (focus exact rfl)) | ((refine pick_nl ?_ ?_); (focus (with_reducible first | assumption | exact encQ_nl _ | exact encO_nl _ | exact encC_nl _))) | ((with_reducible refine And.intro ?_ ?_); (focus (with_reducible first | assumption | exact encQ_nl _ | exact encO_nl _ | exact encC_nl _))) | ((with_reducible refine And.intro (immA_c ?_ ?_) ?_); (focus (first | (with_reducible first | assumption | exact encQ_nl _ | exact encO_nl _ | exact encC_nl _) | exact rfl)); (focus ((repeat ((with_reducible refine immA_c ?_ ?_); (focus (first | (with_reducible first | assumption | exact encQ_nl _ | exact encO_nl _ | exact encC_nl _) | exact rfl)))); exact rfl))) | refine And.intro rfl ?_ | refine And.intro trivial ?_ | refine And.intro ⟨rfl, trivial⟩ ?_ | refine And.intro ⟨rfl, rfl, trivial⟩ ?_ | refine ifb_nq (by first | assumption | decide) ?_ | refine ifb_pq (by assumption) ?_ | refine ifb_er ?_ | refine ifb_t ?_ | refine ifb_f ?_ | refine ifb_nr ?_ | refine ifb_er ?_ | ((with_reducible refine And.intro (?_ : (_ : Nat) ≤ _) ?_); (focus (first | decide | omega | (unfold CMul; omega) | (unfold CDiv; omega) | (unfold CPow; decide) | (exact cpow1 (by omega) (by omega)) | (simp only [rngD_len, List.length_replicate, List.length_map, List.length_append, List.length_cons, List.length_nil, List.length_set] at *; omega)))) | ((with_reducible refine And.intro (?_ : (_ : Int) ≤ _) ?_); (focus (first | decide | omega | (unfold CMul; omega) | (unfold CDiv; omega) | (unfold CPow; decide) | (exact cpow1 (by omega) (by omega)) | (simp only [rngD_len, List.length_replicate, List.length_map, List.length_append, List.length_cons, List.length_nil, List.length_set] at *; omega)))) | ((with_reducible refine And.intro (?_ : (_ : Nat) < _) ?_); (focus (first | decide | omega | (unfold CMul; omega) | (unfold CDiv; omega) | (unfold CPow; decide) | (exact cpow1 (by omega) (by omega)) | (simp only [rngD_len, List.length_replicate, List.length_map, List.length_append, List.length_cons, List.length_nil, List.length_set] at *; omega)))) | ((with_reducible refine And.intro (?_ : (_ : Int) < _) ?_); (focus (first | decide | omega | (unfold CMul; omega) | (unfold CDiv; omega) | (unfold CPow; decide) | (exact cpow1 (by omega) (by omega)) | (simp only [rngD_len, List.length_replicate, List.length_map, List.length_append, List.length_cons, List.length_nil, List.length_set] at *; omega)))) | ((with_reducible refine And.intro (?_ : CMul _ _) ?_); (focus (first | decide | omega | (unfold CMul; omega) | (unfold CDiv; omega) | (unfold CPow; decide) | (exact cpow1 (by omega) (by omega)) | (simp only [rngD_len, List.length_replicate, List.length_map, List.length_append, List.length_cons, List.length_nil, List.length_set] at *; omega)))) | ((with_reducible refine And.intro (?_ : CDiv _ _) ?_); (focus (first | decide | omega | (unfold CMul; omega) | (unfold CDiv; omega) | (unfold CPow; decide) | (exact cpow1 (by omega) (by omega)) | (simp only [rngD_len, List.length_replicate, List.length_map, List.length_append, List.length_cons, List.length_nil, List.length_set] at *; omega)))) | ((with_reducible refine And.intro (?_ : CPow _ _) ?_); (focus (first | decide | omega | (unfold CMul; omega) | (unfold CDiv; omega) | (unfold CPow; decide) | (exact cpow1 (by omega) (by omega)) | (simp only [rngD_len, List.length_replicate, List.length_map, List.length_append, List.length_cons, List.length_nil, List.length_set] at *; omega)))) | ((with_reducible refine And.intro (?_ : (_ : Nat) = _) ?_); (focus (first | decide | omega | (unfold CMul; omega) | (unfold CDiv; omega) | (unfold CPow; decide) | (exact cpow1 (by omega) (by omega)) | (simp only [rngD_len, List.length_replicate, List.length_map, List.length_append, List.length_cons, List.length_nil, List.length_set] at *; omega))))); (conv => whnf); (try dsimp only [List.set_cons_zero, List.set_cons_succ, upA, wipeE, back, List.getElem?_cons_zero, List.getElem?_cons_succ, Option.getD_some]))); (try dsimp only [List.set_cons_zero, List.set_cons_succ, upA, wipeE, back, List.getElem?_cons_zero, List.getElem?_cons_succ, Option.getD_some])))
section
variable {ns ks : List Int} {w : Wd} {q : Qn} {cs : List Chg}
theorem lw2 (hq : okQ q) (hd : dpQ q ≤ 12) (few : cs.length ≤ 1000) (ok : ChsOk cs) :
    wc_law_2 [some (.rol (ns.map D.int)), some (.lst (ks.map D.int)), some (encWd w), some (encQ q), some (.lst (cs.map encCh)), none, none] (kt_law [.rol (ns.map D.int)]) := by
  have nlq := encQ_nl q
  have nlz := isL_Z (spanQ cs q)
  have c1 : sp_question_span.pre [encQ q, .lst (cs.map encCh)] ∧ ∀ r ds', sp_question_span.post [encQ q, .lst (cs.map encCh)] r ds' → ds' = [encQ q, .lst (cs.map encCh)] ∧ r = encZ (spanQ cs q) := ⟨⟨q, cs, rfl, hq, Nat.le_trans hd (by decide), few, ok⟩, fun r ds' h => ⟨h.1, h.2 q cs rfl⟩⟩
  have c2 : sp_law_due.pre [encQ q, .lst (cs.map encCh)] ∧ ∀ r ds', sp_law_due.post [encQ q, .lst (cs.map encCh)] r ds' → ds' = [encQ q, .lst (cs.map encCh)] ∧ r = encZ (spanQ cs q) := ⟨⟨q, cs, rfl, hq, Nat.le_trans hd (by decide), few, ok⟩, fun r ds' h => ⟨h.1, h.2 q cs rfl⟩⟩
  have fz := fit_Z (spanQ cs q)
  have sh := shaped_Chs ok
  have ev := eqv_Ch cs
  simp only [encWd]
  walk_at "Ddlx"
  try refine ⟨c1.1, ?_⟩
  intro r0 ds' hh
  obtain ⟨rfl, rfl⟩ := c1.2 r0 ds' hh
  walk_at "Ddlx"
  try refine ⟨c2.1, ?_⟩
  intro r0 ds' hh
  obtain ⟨rfl, rfl⟩ := c2.2 r0 ds' hh
  walk_at "Ddlx"
  refine ⟨⟨_, rfl, fz⟩, ?_⟩
  rintro _ _ ⟨rfl, rfl⟩
  walk_at "Ddlx"
  rw [ev]
theorem lw1 (hq : okQ q) (hd : dpQ q ≤ 12) (O : WdOk w) :
    wc_law_1 [some (.rol (ns.map D.int)), some (.lst (ks.map D.int)), some (encWd w), some (encQ q), none, none, none] (kt_law [.rol (ns.map D.int)]) := by
  have nxt := fun {k2 : List Int} {cs : List Chg} few ok => lw2 (ns := ns) (ks := k2) (w := w) (q := q) (cs := cs) hq hd few ok
  have nlq := encQ_nl q
  have ch : ∀ kk : List Int, sp_law_change.pre [.lst (kk.map D.int), .rol (ns.map D.int), encWd w] ∧ ∀ r ds', sp_law_change.post [.lst (kk.map D.int), .rol (ns.map D.int), encWd w] r ds' → ∃ (k2 : List Int) (c : Chg), r = encCh c ∧ ds' = [.lst (k2.map D.int), .rol (ns.map D.int), encWd w] ∧ ChOk c := fun kk =>
    ⟨⟨kk, ns, w, rfl, O⟩, fun r ds' h => h _ _ _ rfl⟩
  simp only [encWd] at *
  walk_at "Ddlx"
  refine ⟨⟨⟨_, rfl⟩, by decide⟩, ?_⟩
  rintro _ _ ⟨n1, k, rfl, rfl, k0, k1⟩
  walk_at "Ddlx"
  refine loop_lc (fun xs acc e => ∃ (j t : Nat) (kk : List Int) (us : List Chg), ((j : Int) + t = k ∧ xs = rngD j t ∧ acc = us.map encCh ∧ us.length = j ∧ ChsOk us) ∧
    e = [some (.rol (ns.map D.int)), some (.lst (kk.map D.int)), some (.lst [.int w.c, .rol (w.ns.map D.str), .rol (w.cs.map D.str), .rol (w.vs.map encV), .rol (w.lv.map encQ)]), some (encQ q), none, none, none])
    ⟨0, k.toNat, n1, [], ⟨by omega, by simp, rfl, rfl, fun c h => by cases h⟩, rfl⟩ ?_ ?_
  · rintro x r acc env nx ⟨j, t, kk, us, ⟨h1, h2, rfl, h4, h5⟩, rfl⟩ hx
    cases t with
    | zero => simp [rngD] at h2
    | succ t =>
      simp only [rngD, List.cons.injEq] at h2
      obtain ⟨rfl, rfl⟩ := h2
      walk_at "Ddlx"
      refine ⟨(ch kk).1, fun r0 ds' hp => ?_⟩
      obtain ⟨n3, c, rfl, rfl, hc⟩ := (ch kk).2 r0 ds' hp
      walk_at "Ddlx"
      refine hx _ _ ⟨j + 1, t, n3, us ++ [c], ⟨by omega, rfl, by rw [List.map_append]; rfl, by rw [List.length_append, h4]; rfl, fun u hu => ?_⟩, rfl⟩
      rcases List.mem_append.mp hu with h | h
      · exact h5 u h
      · rw [List.mem_singleton.mp h]; exact hc
  · rintro acc env ⟨j, t, kk, us, ⟨h1, h2, rfl, h4, h5⟩, rfl⟩
    walk_at "Ddlx"
    exact Stop.mk (nxt (by omega) h5)
theorem pure_law : ∀ ds, ds.length = 1 → sp_law.pre ds → w_law (env0 ds 6) { nx := fun e => sp_law.post ds .non (outs e 1), rt := fun d e => sp_law.post ds d (outs e 1) } := by
  rintro ds _ ⟨ns, rfl, hl⟩
  rw [wc_law_eq]
  have nxt := fun {k2 : List Int} {w : Wd} {q : Qn} h1 h2 h3 => lw1 (ns := ns) (ks := k2) (w := w) (q := q) h1 h2 h3
  have ask : ∀ (kk : List Int) (w : Wd) (d : Int), WdOk w → w.lv = [] → 0 ≤ d → d < 4 → sp_law_asked.pre [.lst (kk.map D.int), encWd w, .int d] ∧ ∀ r ds', sp_law_asked.post [.lst (kk.map D.int), encWd w, .int d] r ds' → ∃ (k2 : List Int) (w2 : Wd) (q : Qn), r = encQ q ∧ ds' = [.lst (k2.map D.int), encWd w2, .int d] ∧ WdOk w2 ∧ okQ q ∧ dpQ q ≤ 12 := fun kk w d O e d0 d3 =>
    ⟨⟨kk, w, d, rfl, O, by rw [e]; decide, d0, by omega⟩, fun r ds' h => by
      obtain ⟨k2, q, h1, h2, h3, h4, _⟩ := h _ _ _ rfl
      exact ⟨k2, _, q, h1, h2, ⟨O.c1, O.c2, O.n2, O.nw, O.p, O.so, O.v3, O.vv⟩, h3, by omega⟩⟩
  walk_at "Ddlx"
  refine ⟨⟨⟨ns, rfl⟩, by simpa using hl, by decide, by decide⟩, ?_⟩
  rintro _ _ ⟨rfl, ms, rfl⟩
  walk_at "Ddlx"
  refine ⟨⟨_, rfl⟩, ?_⟩
  rintro _ _ ⟨m2, w, rfl, rfl, O, e⟩
  walk_at "Ddlx"
  refine ⟨⟨⟨_, rfl⟩, by decide⟩, ?_⟩
  rintro _ _ ⟨m3, d, rfl, rfl, d0, d3⟩
  obtain ⟨a1, a2⟩ := ask m3 w d O e d0 d3
  walk_at "Ddlx"
  try refine ⟨a1, ?_⟩
  intro r0 ds' hh
  obtain ⟨m4, w2, q, rfl, rfl, O2, hq, hd⟩ := a2 r0 ds' hh
  have nlq := encQ_nl q
  walk_at "Ddlx"
  exact Stop.mk (nxt hq hd O2)
end
end DL

namespace Lw
open PySem PySem.Spec PyProof.Rows L2 DL
def topS (i : Nat) : Stmt := PySem.Challenge.pw_ateverymoment_k78_spans_of_questions.main.body.getD i (.Pass ⟨0, 0, 0, 0⟩)
structure Blt (mg : Str → Option Value) : Prop where
  len_ : mg "len" = none
  range_ : mg "range" = none
  int_ : mg "int" = none
  abs_ : mg "abs" = none
  list_ : mg "list" = none
  tuple_ : mg "tuple" = none
  sum_ : mg "sum" = none
  any_ : mg "any" = none
  sorted_ : mg "sorted" = none
  max_ : mg "max" = none
  min_ : mg "min" = none
  divmod_ : mg "divmod" = none
  isinstance_ : mg "isinstance" = none
  zip_ : mg "zip" = none
  reversed_ : mg "reversed" = none
  bool_ : mg "bool" = none
  str_ : mg "str" = none
  set_ : mg "set" = none
  all_ : mg "all" = none
  enumerate_ : mg "enumerate" = none
section
variable {P : Program} {w : World} {K : PySem.W.Frag} {mg : Str → Option Value} {base : Heap}
abbrev s_given_row : Stmt := topS 1
abbrev N_given_row : List Str := ["terms", "row", "values", "form", "item", "value", "wanted", "column"]
theorem sc_given_row : FnScope ["terms", "row", "values", "form", "item", "value", "wanted", "column"] ["terms", "row"] (defScope s_given_row) := ⟨rfl, rfl, rfl, by decide +kernel, rfl, by decide +kernel, by decide +kernel⟩
set_option maxHeartbeats 0 in
theorem ok_given_row {f : Addr} {fd : FuncData} (B : Blt mg) (F : Fun K "given_row" "given_row" s_given_row f fd) : FnOk P w K mg base CX0 1 f fd ["terms", "row"] (spOf K 2 sp_given_row) := by
  have nd := (sc_given_row).nd
  exact fn_ok w_given_row F sc_given_row (fun cdv A outer s H E hr =>
    (s_cons (s_if (t_neS (e_len B.len_ (e_var 1)) (e_len B.len_ (e_var 0)))
      (s_one (s_ret e_non))
      s_nil)
    (s_pk 2 nd (k_for (i := 2) [0, 1] [5, 3, 4] .never rfl (i_zipG B.zip_ (e_var 0) (e_var 1)) (g_tup rfl (g_cons (g_tup rfl (g_cons (g_name 3 nd) (g_cons (g_name 4 nd) g_nil))) (g_cons (g_name 5 nd) g_nil))) (k_cons (k_setd nd (t_eqS (e_var 3) e_str) (e_var 4) (e_var 5) (e_var 4)) (k_one (k_if (t_neD hr.units (e_var 6) (e_var 5)) (k_one (k_ret e_non)) k_nil))))
    (s_one (s_ret (e_tuple B.tuple_ (e_lc rfl nd (i_seq (e_sdk rfl B.sorted_ (e_var 2))) (blkOk_by (N := N_given_row) (sc := defScope s_given_row) (own := [("column", 7)]) (by decide +kernel)) (fun _ _ _ _ _ => (g_name 7 nd)) (fun _ _ _ _ _ => ts_nil) (fun _ _ _ _ _ => (e_dik hr.units (e_var 2) (e_var 7)))))))))) pure_given_row
abbrev s_parts_of : Stmt := topS 4
abbrev N_parts_of : List Str := ["question", "forms", "form", "item"]
theorem sc_parts_of : FnScope ["question", "forms", "form", "item"] ["question"] (defScope s_parts_of) := ⟨rfl, rfl, rfl, by decide +kernel, rfl, by decide +kernel, by decide +kernel⟩
set_option maxHeartbeats 0 in
theorem ok_parts_of {f : Addr} {fd : FuncData} (B : Blt mg) (F : Fun K "parts_of" "parts_of" s_parts_of f fd) (G_ITEMS : DctT w K mg "ITEMS" tab_ITEMS) : FnOk P w K mg base CX0 1 f fd ["question"] (spOf K 1 sp_parts_of) := by
  have nd := (sc_parts_of).nd
  exact fn_ok w_parts_of F sc_parts_of (fun cdv A outer s H E hr =>
    (s_cons (s_asg 1 nd (e_itm G_ITEMS (e_ixs (e_var 0) e_int)))
    (s_one (s_ret (e_tuple B.tuple_ (e_lc rfl nd (i_zipG B.zip_ (e_var 1) (e_slL (e_var 0) e_int)) (blkOk_by (N := N_parts_of) (sc := defScope s_parts_of) (own := [("form", 2), ("item", 3)]) (by decide +kernel)) (fun _ _ _ _ _ => (g_tup rfl (g_cons (g_name 2 nd) (g_cons (g_name 3 nd) g_nil)))) (fun _ _ _ _ _ => (ts_one (t_eqS (e_var 2) e_str))) (fun _ _ _ _ _ => (e_var 3)))))))) pure_parts_of
abbrev s_joined_bound : Stmt := topS 6
theorem sc_joined_bound : FnScope ["one", "other"] ["one", "other"] (defScope s_joined_bound) := ⟨rfl, rfl, rfl, by decide +kernel, rfl, by decide +kernel, by decide +kernel⟩
set_option maxHeartbeats 0 in
theorem ok_joined_bound {f : Addr} {fd : FuncData} (B : Blt mg) (F : Fun K "joined_bound" "joined_bound" s_joined_bound f fd) : FnOk P w K mg base CX0 1 f fd ["one", "other"] (spOf K 2 sp_joined_bound) := by
  have nd := (sc_joined_bound).nd
  exact fn_ok w_joined_bound F sc_joined_bound (fun cdv A outer s H E hr =>
    (s_cons (s_if (t_bop (w_or (t_isN (e_var 0)) (w_or1 (t_isN (e_var 1)))))
      (s_one (s_ret e_non))
      s_nil)
    (s_one (s_ret (e_addG (e_var 0) (e_var 1)))))) pure_joined_bound
abbrev s_hull : Stmt := topS 8
abbrev N_hull : List Str := ["spans", "given", "low", "highs", "span", "_", "high"]
theorem sc_hull : FnScope ["spans", "given", "low", "highs", "span", "_", "high"] ["spans"] (defScope s_hull) := ⟨rfl, rfl, rfl, by decide +kernel, rfl, by decide +kernel, by decide +kernel⟩
set_option maxHeartbeats 0 in
theorem ok_hull {f : Addr} {fd : FuncData} (B : Blt mg) (F : Fun K "hull" "hull" s_hull f fd) : FnOk P w K mg base CX0 1 f fd ["spans"] (spOf K 1 sp_hull) := by
  have nd := (sc_hull).nd
  exact fn_ok w_hull F sc_hull (fun cdv A outer s H E hr =>
    (s_cons (s_setLc 1 rfl nd (i_seq (e_var 0)) (blkOk_by (N := N_hull) (sc := defScope s_hull) (own := [("span", 4)]) (by decide +kernel)) (fun _ _ _ _ _ => (g_name 4 nd)) (fun _ _ _ _ _ => (ts_one (t_notN (e_var 4)))) (fun _ _ _ _ _ => (e_var 4)))
    (s_cons (s_if (t_eqS (e_len B.len_ (e_var 1)) e_int)
      (s_one (s_ret e_non))
      s_nil)
    (s_cons (s_asg 2 nd (e_minL rfl B.min_ (e_lc rfl nd (i_seq (e_var 1)) (blkOk_by (N := N_hull) (sc := defScope s_hull) (own := [("low", 2), ("_", 5)]) (by decide +kernel)) (fun _ _ _ _ _ => (g_tup rfl (g_cons (g_name 2 nd) (g_cons (g_name 5 nd) g_nil)))) (fun _ _ _ _ _ => ts_nil) (fun _ _ _ _ _ => (e_var 2)))))
    (s_cons (s_setLc 3 rfl nd (i_seq (e_var 1)) (blkOk_by (N := N_hull) (sc := defScope s_hull) (own := [("_", 5), ("high", 6)]) (by decide +kernel)) (fun _ _ _ _ _ => (g_tup rfl (g_cons (g_name 5 nd) (g_cons (g_name 6 nd) g_nil)))) (fun _ _ _ _ _ => ts_nil) (fun _ _ _ _ _ => (e_var 6)))
    (s_one (s_ret (e_tup (a_cons (e_var 2) (a_cons (e_ifx (t_in e_non (e_var 3)) e_non (e_maxL rfl B.max_ (e_var 3))) a_nil)))))))))) pure_hull
abbrev s_moved_span : Stmt := topS 9
theorem sc_moved_span : FnScope ["question", "span", "low", "high"] ["question", "span"] (defScope s_moved_span) := ⟨rfl, rfl, rfl, by decide +kernel, rfl, by decide +kernel, by decide +kernel⟩
set_option maxHeartbeats 0 in
theorem ok_moved_span {f : Addr} {fd : FuncData} (B : Blt mg) (F : Fun K "moved_span" "moved_span" s_moved_span f fd) (F_moved_ends : FnD P w K mg base 2 "moved_ends" ["question", "low", "high"] sp_moved_ends) : FnOk P w K mg base CX0 3 f fd ["question", "span"] (spOf K 2 sp_moved_span) := by
  have nd := (sc_moved_span).nd
  exact fn_ok w_moved_span F sc_moved_span (fun cdv A outer s H E hr =>
    (s_cons (s_if (t_isN (e_var 1))
      (s_one (s_ret e_non))
      s_nil)
    (s_cons (s_unp (sl := [2, 3]) (e_call F_moved_ends (hr.mono (j := 2) (by decide)) (a_cons (e_var 0) (a_cons (e_ixs (e_var 1) e_int) (a_cons (e_ixs (e_var 1) e_int) a_nil)))) (g_tup rfl (g_cons (g_name 2 nd) (g_cons (g_name 3 nd) g_nil))))
    (s_cons (s_if (t_bop (w_and (t_notN (e_var 3)) (w_and1 (t_le (e_var 3) e_int))))
      (s_one (s_ret e_non))
      s_nil)
    (s_one (s_ret (e_tup (a_cons (e_max rfl B.max_ (e_var 2) e_int) (a_cons (e_var 3) a_nil))))))))) pure_moved_span
abbrev s_moved_ends : Stmt := topS 10
theorem sc_moved_ends : FnScope ["question", "low", "high", "kind", "number"] ["question", "low", "high"] (defScope s_moved_ends) := ⟨rfl, rfl, rfl, by decide +kernel, rfl, by decide +kernel, by decide +kernel⟩
set_option maxHeartbeats 0 in
theorem ok_moved_ends {f : Addr} {fd : FuncData} (B : Blt mg) (F : Fun K "moved_ends" "moved_ends" s_moved_ends f fd) (F_joined_bound : FnD P w K mg base 1 "joined_bound" ["one", "other"] sp_joined_bound) : FnOk P w K mg base CX0 2 f fd ["question", "low", "high"] (spOf K 3 sp_moved_ends) := by
  have nd := (sc_moved_ends).nd
  exact fn_ok w_moved_ends F sc_moved_ends (fun cdv A outer s H E hr =>
    (s_cons (s_par2 3 4 rfl nd (a_cons (e_ixs (e_var 0) e_int) (a_cons (e_ixs (e_var 0) e_int) a_nil)))
    (s_cons (s_if (t_eqS (e_var 3) e_str)
      (s_one (s_ret (e_tup (a_cons (e_sub (e_var 1) (e_var 4)) (a_cons (e_call F_joined_bound (hr.mono (j := 1) (by decide)) (a_cons (e_var 2) (a_cons (e_neg (e_var 4)) a_nil))) a_nil)))))
      s_nil)
    (s_cons (s_if (t_in (e_var 3) (e_tup (a_cons e_str (a_cons e_str a_nil))))
      (s_one (s_ret (e_tup (a_cons (e_var 1) (a_cons (e_call F_joined_bound (hr.mono (j := 1) (by decide)) (a_cons (e_var 2) (a_cons (e_var 4) a_nil))) a_nil)))))
      s_nil)
    (s_cons (s_if (t_in (e_var 3) (e_tup (a_cons e_str (a_cons e_str a_nil))))
      (s_one (s_ret (e_tup (a_cons (e_ifx (t_isN (e_var 4)) e_int (e_sub (e_var 1) (e_var 4))) (a_cons (e_var 2) a_nil)))))
      s_nil)
    (s_cons (s_if (t_in (e_var 3) (e_tup (a_cons e_str (a_cons e_str a_nil))))
      (s_one (s_ret (e_tup (a_cons (e_var 1) (a_cons e_non a_nil)))))
      s_nil)
    (s_cons (s_if (t_in (e_var 3) (e_tup (a_cons e_str (a_cons e_str (a_cons e_str a_nil)))))
      (s_one (s_ret (e_tup (a_cons e_int (a_cons (e_var 2) a_nil)))))
      s_nil)
    (s_one (s_ret (e_tup (a_cons (e_var 1) (a_cons (e_var 2) a_nil)))))))))))) pure_moved_ends
abbrev s_question_span : Stmt := topS 11
abbrev N_question_span : List Str := ["question", "changes", "_", "wanted", "terms", "name", "row", "span", "part"]
theorem sc_question_span : FnScope ["question", "changes", "_", "wanted", "terms", "name", "row", "span", "part"] ["question", "changes"] (defScope s_question_span) := ⟨rfl, rfl, rfl, by decide +kernel, rfl, by decide +kernel, by decide +kernel⟩
set_option maxHeartbeats 0 in
theorem okn_question_span {f : Addr} {fd : FuncData} (B : Blt mg) (F : Fun K "question_span" "question_span" s_question_span f fd) (g : mg "question_span" = some (.ref f)) (F_hull : FnD P w K mg base 1 "hull" ["spans"] sp_hull) (F_given_row : FnD P w K mg base 1 "given_row" ["terms", "row"] sp_given_row) (F_moved_span : FnD P w K mg base 3 "moved_span" ["question", "span"] sp_moved_span) (F_parts_of : FnD P w K mg base 1 "parts_of" ["question"] sp_parts_of) : ∀ n : Nat, FnOk P w K mg base CX0 (3 + n) f fd ["question", "changes"] (spOf K 2 (spn_question_span n))
  | 0 => fn_false fun _ h => h
  | n + 1 => by
    have nd := (sc_question_span).nd
    have F_question_span : FnD P w K mg base (3 + n) "question_span" ["question", "changes"] (spn_question_span n) := ⟨f, fd, okn_question_span B F g F_hull F_given_row F_moved_span F_parts_of n, g, F.kp, F.binds fun _ _ _ _ _ _ us hl => match us, hl with | [_, _], _ => rfl⟩
    exact fn_ok (w_question_span n) F sc_question_span (fun cdv A outer s H E hr =>
    (s_cons (s_if (t_eqS (e_ixs (e_var 0) e_int) e_str)
      (s_cons (s_unp (sl := [2, 3, 4]) (e_var 0) (g_tup rfl (g_cons (g_name 2 nd) (g_cons (g_name 3 nd) (g_cons (g_name 4 nd) g_nil)))))
        (s_one (s_ret (e_call F_hull (hr.mono (j := 1) (Nat.le_trans (by decide : _ ≤ 3) (Nat.le_add_right _ _))) (a_cons (e_lc rfl nd (i_seq (e_var 1)) (blkOk_by (N := N_question_span) (sc := defScope s_question_span) (own := [("name", 5), ("row", 6), ("span", 7)]) (by decide +kernel)) (fun _ _ _ _ _ => (g_tup rfl (g_cons (g_name 5 nd) (g_cons (g_name 6 nd) (g_cons (g_name 7 nd) g_nil))))) (fun _ _ _ _ _ => (ts_one (t_bop (w_and (t_eqS (e_var 5) (e_var 3)) (w_and1 (t_notN (e_call F_given_row (hr.mono (j := 1) (Nat.le_trans (by decide : _ ≤ 3) (Nat.le_add_right _ _))) (a_cons (e_var 4) (a_cons (e_var 6) a_nil))))))))) (fun _ _ _ _ _ => (e_var 7))) a_nil)))))
      s_nil)
    (s_one (s_ret (e_call F_moved_span (hr.mono (j := 3) (Nat.le_trans (by decide : _ ≤ 3) (Nat.le_add_right _ _))) (a_cons (e_var 0) (a_cons (e_call F_hull (hr.mono (j := 1) (Nat.le_trans (by decide : _ ≤ 3) (Nat.le_add_right _ _))) (a_cons (e_lc rfl nd (i_seq (e_call F_parts_of (hr.mono (j := 1) (Nat.le_trans (by decide : _ ≤ 3) (Nat.le_add_right _ _))) (a_cons (e_var 0) a_nil))) (blkOk_by (N := N_question_span) (sc := defScope s_question_span) (own := [("part", 8)]) (by decide +kernel)) (fun _ _ _ _ _ => (g_name 8 nd)) (fun _ _ _ _ _ => ts_nil) (fun _ _ _ _ _ => (e_call F_question_span (hr.mono (j := 3 + n) (Nat.le_refl _)) (a_cons (e_var 8) (a_cons (e_var 1) a_nil))))) a_nil)) a_nil))))))) (pure_question_span n)
theorem ok_question_span {f : Addr} {fd : FuncData} (B : Blt mg) (F : Fun K "question_span" "question_span" s_question_span f fd) (g : mg "question_span" = some (.ref f)) (F_hull : FnD P w K mg base 1 "hull" ["spans"] sp_hull) (F_given_row : FnD P w K mg base 1 "given_row" ["terms", "row"] sp_given_row) (F_moved_span : FnD P w K mg base 3 "moved_span" ["question", "span"] sp_moved_span) (F_parts_of : FnD P w K mg base 1 "parts_of" ["question"] sp_parts_of) : FnOk P w K mg base CX0 19 f fd ["question", "changes"] (spOf K 2 sp_question_span) :=
  okn_question_span B F g F_hull F_given_row F_moved_span F_parts_of 16
abbrev s_law_draws : Stmt := topS 13
abbrev N_law_draws : List Str := ["script", "many", "cells", "rest", "draws", "k", "at", "mixed", "cell"]
theorem sc_law_draws : FnScope ["script", "many", "cells", "rest", "draws", "k", "at", "mixed", "cell"] ["script", "many"] (defScope s_law_draws) := ⟨rfl, rfl, rfl, by decide +kernel, rfl, by decide +kernel, by decide +kernel⟩
set_option maxHeartbeats 0 in
theorem ok_law_draws {f : Addr} {fd : FuncData} (B : Blt mg) (F : Fun K "_law_draws" "_law_draws" s_law_draws f fd) : FnOk P w K mg base CX0 1 f fd ["script", "many"] (spOf K 2 sp_law_draws) := by
  have nd := (sc_law_draws).nd
  exact fn_ok w_law_draws F sc_law_draws (fun cdv A outer s H E hr =>
    (s_cons (s_setLc 2 rfl nd (i_seq (e_var 0)) (blkOk_by (N := N_law_draws) (sc := defScope s_law_draws) (own := [("cell", 8)]) (by decide +kernel)) (fun _ _ _ _ _ => (g_name 8 nd)) (fun _ _ _ _ _ => ts_nil) (fun _ _ _ _ _ => (e_int1 B.int_ (e_var 8))))
    (s_cons (s_if (t_eqS (e_len B.len_ (e_var 2)) e_int)
      (s_one (s_expr (e_append (i := 2) e_int)))
      s_nil)
    (s_cons (s_asg 3 nd (e_list B.list_ (e_var 2)))
    (s_cons (s_asg 4 nd (e_lst a_nil))
    (s_cons (s_for [0, 1] [5] .never rfl (i_rng1 B.range_ (e_var 1)) (g_name 5 nd)
      (s_cons (s_asg 6 nd (e_mod (e_var 5) (e_len B.len_ (e_var 2))))
        (s_one (s_if (t_ge (e_ixs (e_var 2) (e_var 6)) (e_pow e_int e_int))
          (s_cons (s_expr (e_append (i := 4) (e_mod (e_int1 B.int_ (e_ixs (e_var 3) (e_var 6))) e_int)))
            (s_one (s_set 3 (e_fdiv (e_ixs (e_var 3) (e_var 6)) e_int) (e_var 6))))
          (s_cons (s_asg 7 nd (e_mod (e_int1 B.int_ (e_addG (e_addG (e_mul (e_ixs (e_var 2) (e_var 6)) e_int) (e_mul (e_var 5) e_int)) e_int)) e_int))
            (s_one (s_expr (e_append (i := 4) (e_mod (e_int1 B.int_ (e_addG (e_addG (e_mul (e_var 7) (e_var 7)) (e_mul e_int (e_var 7))) (e_var 5))) e_int)))))))))
    (s_cons (s_expr (e_reverse (i := 4)))
    (s_one (s_ret (e_var 4)))))))))) pure_law_draws
abbrev s_law_take : Stmt := topS 14
theorem sc_law_take : FnScope ["draws", "many"] ["draws", "many"] (defScope s_law_take) := ⟨rfl, rfl, rfl, by decide +kernel, rfl, by decide +kernel, by decide +kernel⟩
set_option maxHeartbeats 0 in
theorem ok_law_take {f : Addr} {fd : FuncData} (B : Blt mg) (F : Fun K "_law_take" "_law_take" s_law_take f fd) : FnOk P w K mg base CX0 1 f fd ["draws", "many"] (spOf K 2 sp_law_take) := by
  have nd := (sc_law_take).nd
  exact fn_ok w_law_take F sc_law_take (fun cdv A outer s H E hr =>
    (s_cons (s_if (t_eqS (e_len B.len_ (e_var 0)) e_int)
      (s_one (s_ret e_int))
      s_nil)
    (s_one (s_ret (e_mod (e_int1 B.int_ (e_pop (i := 0))) (e_var 1)))))) pure_law_take
abbrev s_law_pick : Stmt := topS 15
theorem sc_law_pick : FnScope ["draws", "row"] ["draws", "row"] (defScope s_law_pick) := ⟨rfl, rfl, rfl, by decide +kernel, rfl, by decide +kernel, by decide +kernel⟩
set_option maxHeartbeats 0 in
theorem ok_law_pick {f : Addr} {fd : FuncData} (B : Blt mg) (F : Fun K "_law_pick" "_law_pick" s_law_pick f fd) (F_law_take : FnD P w K mg base 1 "_law_take" ["draws", "many"] sp_law_take) : FnOk P w K mg base CX0 2 f fd ["draws", "row"] (spOf K 2 sp_law_pick) := by
  have nd := (sc_law_pick).nd
  exact fn_ok w_law_pick F sc_law_pick (fun cdv A outer s H E hr =>
    (s_one (s_ret (e_ixs (e_var 1) (e_call F_law_take (hr.mono (j := 1) (by decide)) (a_cons (e_var 0) (a_cons (e_len B.len_ (e_var 1)) a_nil))))))) pure_law_pick
abbrev s_law_size : Stmt := topS 16
theorem sc_law_size : FnScope ["draws", "script", "kind", "number", "k"] ["draws", "script"] (defScope s_law_size) := ⟨rfl, rfl, rfl, by decide +kernel, rfl, by decide +kernel, by decide +kernel⟩
set_option maxHeartbeats 0 in
theorem ok_law_size {f : Addr} {fd : FuncData} (B : Blt mg) (F : Fun K "_law_size" "_law_size" s_law_size f fd) (F_law_take : FnD P w K mg base 1 "_law_take" ["draws", "many"] sp_law_take) : FnOk P w K mg base CX0 2 f fd ["draws", "script"] (spOf K 2 sp_law_size) := by
  have nd := (sc_law_size).nd
  exact fn_ok w_law_size F sc_law_size (fun cdv A outer s H E hr =>
    (s_cons (s_asg 2 nd (e_call F_law_take (hr.mono (j := 1) (by decide)) (a_cons (e_var 0) (a_cons e_int a_nil))))
    (s_cons (s_if (t_lt (e_var 2) e_int)
      (s_one (s_ret (e_call F_law_take (hr.mono (j := 1) (by decide)) (a_cons (e_var 0) (a_cons e_int a_nil)))))
      s_nil)
    (s_cons (s_if (t_eqS (e_var 2) e_int)
      (s_one (s_ret (e_call F_law_take (hr.mono (j := 1) (by decide)) (a_cons (e_var 0) (a_cons e_int a_nil)))))
      s_nil)
    (s_cons (s_if (t_bop (w_or (t_eqS (e_var 2) e_int) (w_or1 (t_eqS (e_len B.len_ (e_var 1)) e_int))))
      (s_cons (s_asg 3 nd e_int)
        (s_cons (s_for [0, 1] [4] .never rfl (i_rng1 B.range_ e_int) (g_name 4 nd)
          (s_one (s_asg 3 nd (e_addG (e_mul (e_var 3) e_int) (e_call F_law_take (hr.mono (j := 1) (by decide)) (a_cons (e_var 0) (a_cons e_int a_nil)))))))
        (s_one (s_ret (e_var 3)))))
      s_nil)
    (s_one (s_ret (e_abs B.abs_ (e_int1 B.int_ (e_ixs (e_var 1) (e_call F_law_take (hr.mono (j := 1) (by decide)) (a_cons (e_var 0) (a_cons (e_len B.len_ (e_var 1)) a_nil))))))))))))) pure_law_size
abbrev s_law_same : Stmt := topS 17
abbrev N_law_same : List Str := ["actual", "due", "k"]
theorem sc_law_same : FnScope ["actual", "due", "k"] ["actual", "due"] (defScope s_law_same) := ⟨rfl, rfl, rfl, by decide +kernel, rfl, by decide +kernel, by decide +kernel⟩
set_option maxHeartbeats 0 in
theorem okn_law_same {f : Addr} {fd : FuncData} (B : Blt mg) (F : Fun K "_law_same" "_law_same" s_law_same f fd) (g : mg "_law_same" = some (.ref f)) : ∀ n : Nat, FnOk P w K mg base CX0 (0 + n) f fd ["actual", "due"] (spOf K 2 (spn_law_same n))
  | 0 => fn_false fun _ h => h
  | n + 1 => by
    have nd := (sc_law_same).nd
    have F_law_same : FnD P w K mg base (0 + n) "_law_same" ["actual", "due"] (spn_law_same n) := ⟨f, fd, okn_law_same B F g n, g, F.kp, F.binds fun _ _ _ _ _ _ us hl => match us, hl with | [_, _], _ => rfl⟩
    exact fn_ok (w_law_same n) F sc_law_same (fun cdv A outer s H E hr =>
    (s_cons (s_if (t_val (e_isi2 .tuple .list B.isinstance_ B.tuple_ B.list_ (by decide +kernel) (by decide +kernel) (e_var 1)))
      (s_cons (s_if (t_bop (w_or (t_neS (e_isi .tuple B.isinstance_ B.tuple_ (by decide +kernel) (e_var 0)) (e_isi .tuple B.isinstance_ B.tuple_ (by decide +kernel) (e_var 1))) (w_or1 (t_neS (e_isi .list B.isinstance_ B.list_ (by decide +kernel) (e_var 0)) (e_isi .list B.isinstance_ B.list_ (by decide +kernel) (e_var 1))))))
          (s_one (s_ret e_bl))
          s_nil)
        (s_cons (s_if (t_neS (e_len B.len_ (e_var 0)) (e_len B.len_ (e_var 1)))
          (s_one (s_ret e_bl))
          s_nil)
        (s_one (s_ret (e_notIn e_bl (e_lc rfl nd (i_rng1 B.range_ (e_len B.len_ (e_var 1))) (blkOk_by (N := N_law_same) (sc := defScope s_law_same) (own := [("k", 2)]) (by decide +kernel)) (fun _ _ _ _ _ => (g_name 2 nd)) (fun _ _ _ _ _ => ts_nil) (fun _ _ _ _ _ => (e_call F_law_same (hr.mono (j := 0 + n) (Nat.le_refl _)) (a_cons (e_ixs (e_var 0) (e_var 2)) (a_cons (e_ixs (e_var 1) (e_var 2)) a_nil))))))))))
      s_nil)
    (s_cons (s_if (t_bop (w_or (t_neS (e_isi .bool B.isinstance_ B.bool_ (by decide +kernel) (e_var 0)) (e_isi .bool B.isinstance_ B.bool_ (by decide +kernel) (e_var 1))) (w_or1 (t_neS (e_isi .int B.isinstance_ B.int_ (by decide +kernel) (e_var 0)) (e_isi .int B.isinstance_ B.int_ (by decide +kernel) (e_var 1))))))
      (s_one (s_ret e_bl))
      s_nil)
    (s_cons (s_if (t_bop (w_or (t_neS (e_isi .str B.isinstance_ B.str_ (by decide +kernel) (e_var 0)) (e_isi .str B.isinstance_ B.str_ (by decide +kernel) (e_var 1))) (w_or1 (t_neS (e_isN (e_var 0)) (e_isN (e_var 1))))))
      (s_one (s_ret e_bl))
      s_nil)
    (s_one (s_ret (e_eqS (e_var 0) (e_var 1)))))))) (pure_law_same n)
theorem ok_law_same {f : Addr} {fd : FuncData} (B : Blt mg) (F : Fun K "_law_same" "_law_same" s_law_same f fd) (g : mg "_law_same" = some (.ref f)) : FnOk P w K mg base CX0 8 f fd ["actual", "due"] (spOf K 2 sp_law_same) :=
  okn_law_same B F g 8
abbrev s_law_pool : Stmt := topS 18
abbrev N_law_pool : List Str := ["draws", "many", "pool", "k", "letters", "word", "j"]
theorem sc_law_pool : FnScope ["draws", "many", "pool", "k", "letters", "word", "j"] ["draws", "many"] (defScope s_law_pool) := ⟨rfl, rfl, rfl, by decide +kernel, rfl, by decide +kernel, by decide +kernel⟩
set_option maxHeartbeats 0 in
theorem ok_law_pool {f : Addr} {fd : FuncData} (B : Blt mg) (F : Fun K "_law_pool" "_law_pool" s_law_pool f fd) (F_law_take : FnD P w K mg base 1 "_law_take" ["draws", "many"] sp_law_take) : FnOk P w K mg base CX0 2 f fd ["draws", "many"] (spOf K 2 sp_law_pool) := by
  have nd := (sc_law_pool).nd
  exact fn_ok w_law_pool F sc_law_pool (fun cdv A outer s H E hr =>
    (s_cons (s_asg 2 nd (e_lst a_nil))
    (s_cons (s_for [0, 1] [3] .never rfl (i_rng1 B.range_ (e_var 1)) (g_name 3 nd)
      (s_cons (s_setLc 4 rfl nd (i_rng1 B.range_ (e_addG e_int (e_call F_law_take (hr.mono (j := 1) (by decide)) (a_cons (e_var 0) (a_cons e_int a_nil))))) (blkOk_by (N := N_law_pool) (sc := defScope s_law_pool) (own := [("j", 6)]) (by decide +kernel)) (fun _ _ _ _ _ => (g_name 6 nd)) (fun _ _ _ _ _ => ts_nil) (fun _ _ _ _ _ => (e_ixStr e_str (e_call F_law_take (hr.mono (j := 1) (by decide)) (a_cons (e_var 0) (a_cons e_int a_nil))))))
        (s_cons (s_asg 5 nd (e_join (e_var 4)))
        (s_cons (s_if (t_in (e_var 5) (e_var 2))
          (s_one (s_asg 5 nd (e_addS (e_join (e_var 2)) e_str)))
          s_nil)
        (s_one (s_expr (e_append (i := 2) (e_var 5))))))))
    (s_one (s_ret (e_var 2)))))) pure_law_pool
abbrev s_law_small_cycle : Stmt := topS 19
theorem sc_law_small_cycle : FnScope ["draws"] ["draws"] (defScope s_law_small_cycle) := ⟨rfl, rfl, rfl, by decide +kernel, rfl, by decide +kernel, by decide +kernel⟩
set_option maxHeartbeats 0 in
theorem ok_law_small_cycle {f : Addr} {fd : FuncData} (B : Blt mg) (F : Fun K "_law_small_cycle" "_law_small_cycle" s_law_small_cycle f fd) (F_law_take : FnD P w K mg base 1 "_law_take" ["draws", "many"] sp_law_take) : FnOk P w K mg base CX0 2 f fd ["draws"] (spOf K 1 sp_law_small_cycle) := by
  have nd := (sc_law_small_cycle).nd
  exact fn_ok w_law_small_cycle F sc_law_small_cycle (fun cdv A outer s H E hr =>
    (s_cons (s_if (t_eqS (e_call F_law_take (hr.mono (j := 1) (by decide)) (a_cons (e_var 0) (a_cons e_int a_nil))) e_int)
      (s_one (s_ret (e_addG e_int (e_call F_law_take (hr.mono (j := 1) (by decide)) (a_cons (e_var 0) (a_cons e_int a_nil))))))
      s_nil)
    (s_one (s_ret (e_addG e_int (e_call F_law_take (hr.mono (j := 1) (by decide)) (a_cons (e_var 0) (a_cons e_int a_nil)))))))) pure_law_small_cycle
abbrev s_law_values : Stmt := topS 20
theorem sc_law_values : FnScope ["draws", "words", "low", "values"] ["draws", "words"] (defScope s_law_values) := ⟨rfl, rfl, rfl, by decide +kernel, rfl, by decide +kernel, by decide +kernel⟩
set_option maxHeartbeats 0 in
theorem ok_law_values {f : Addr} {fd : FuncData} (B : Blt mg) (F : Fun K "_law_values" "_law_values" s_law_values f fd) (F_law_take : FnD P w K mg base 1 "_law_take" ["draws", "many"] sp_law_take) : FnOk P w K mg base CX0 2 f fd ["draws", "words"] (spOf K 2 sp_law_values) := by
  have nd := (sc_law_values).nd
  exact fn_ok w_law_values F sc_law_values (fun cdv A outer s H E hr =>
    (s_cons (s_asg 2 nd (e_sub (e_call F_law_take (hr.mono (j := 1) (by decide)) (a_cons (e_var 0) (a_cons e_int a_nil))) e_int))
    (s_cons (s_asg 3 nd (e_lst (a_cons (e_var 2) (a_cons (e_addG (e_addG (e_var 2) e_int) (e_call F_law_take (hr.mono (j := 1) (by decide)) (a_cons (e_var 0) (a_cons e_int a_nil)))) (a_cons (e_ixs (e_var 1) e_int) a_nil)))))
    (s_cons (s_if (t_eqS (e_call F_law_take (hr.mono (j := 1) (by decide)) (a_cons (e_var 0) (a_cons e_int a_nil))) e_int)
      (s_one (s_set 3 (e_ixs (e_var 1) e_int) e_int))
      s_nil)
    (s_one (s_ret (e_var 3))))))) pure_law_values
abbrev s_law_value : Stmt := topS 21
theorem sc_law_value : FnScope ["draws", "values"] ["draws", "values"] (defScope s_law_value) := ⟨rfl, rfl, rfl, by decide +kernel, rfl, by decide +kernel, by decide +kernel⟩
set_option maxHeartbeats 0 in
theorem ok_law_value {f : Addr} {fd : FuncData} (B : Blt mg) (F : Fun K "_law_value" "_law_value" s_law_value f fd) (F_law_take : FnD P w K mg base 1 "_law_take" ["draws", "many"] sp_law_take) : FnOk P w K mg base CX0 2 f fd ["draws", "values"] (spOf K 2 sp_law_value) := by
  have nd := (sc_law_value).nd
  exact fn_ok w_law_value F sc_law_value (fun cdv A outer s H E hr =>
    (s_one (s_ret (e_ixs (e_var 1) (e_ixs (e_lst (a_cons e_int (a_cons e_int (a_cons e_int (a_cons e_int (a_cons e_int a_nil)))))) (e_call F_law_take (hr.mono (j := 1) (by decide)) (a_cons (e_var 0) (a_cons e_int a_nil)))))))) pure_law_value
abbrev s_law_name : Stmt := topS 22
theorem sc_law_name : FnScope ["draws", "names"] ["draws", "names"] (defScope s_law_name) := ⟨rfl, rfl, rfl, by decide +kernel, rfl, by decide +kernel, by decide +kernel⟩
set_option maxHeartbeats 0 in
theorem ok_law_name {f : Addr} {fd : FuncData} (B : Blt mg) (F : Fun K "_law_name" "_law_name" s_law_name f fd) (F_law_take : FnD P w K mg base 1 "_law_take" ["draws", "many"] sp_law_take) : FnOk P w K mg base CX0 2 f fd ["draws", "names"] (spOf K 2 sp_law_name) := by
  have nd := (sc_law_name).nd
  exact fn_ok w_law_name F sc_law_name (fun cdv A outer s H E hr =>
    (s_one (s_ret (e_ixs (e_var 1) (e_ixs (e_lst (a_cons e_int (a_cons e_int (a_cons e_int a_nil)))) (e_call F_law_take (hr.mono (j := 1) (by decide)) (a_cons (e_var 0) (a_cons e_int a_nil)))))))) pure_law_name
abbrev s_law_leaf : Stmt := topS 23
abbrev N_law_leaf : List Str := ["draws", "names", "columns", "values", "terms", "x", "k"]
theorem sc_law_leaf : FnScope ["draws", "names", "columns", "values", "terms", "x", "k"] ["draws", "names", "columns", "values"] (defScope s_law_leaf) := ⟨rfl, rfl, rfl, by decide +kernel, rfl, by decide +kernel, by decide +kernel⟩
set_option maxHeartbeats 0 in
theorem ok_law_leaf {f : Addr} {fd : FuncData} (B : Blt mg) (F : Fun K "_law_leaf" "_law_leaf" s_law_leaf f fd) (F_law_take : FnD P w K mg base 1 "_law_take" ["draws", "many"] sp_law_take) (F_law_value : FnD P w K mg base 2 "_law_value" ["draws", "values"] sp_law_value) (F_law_name : FnD P w K mg base 2 "_law_name" ["draws", "names"] sp_law_name) : FnOk P w K mg base CX0 3 f fd ["draws", "names", "columns", "values"] (spOf K 4 sp_law_leaf) := by
  have nd := (sc_law_leaf).nd
  exact fn_ok w_law_leaf F sc_law_leaf (fun cdv A outer s H E hr =>
    (s_cons (s_setLc 4 rfl nd (i_seq (e_var 2)) (blkOk_by (N := N_law_leaf) (sc := defScope s_law_leaf) (own := [("x", 5)]) (by decide +kernel)) (fun _ _ _ _ _ => (g_name 5 nd)) (fun _ _ _ _ _ => ts_nil) (fun _ _ _ _ _ => (e_tup (a_cons e_str (a_cons (e_var 5) a_nil)))))
    (s_cons (s_if (t_bop (w_and (t_eqS (e_len B.len_ (e_var 4)) e_int) (w_and1 (t_gt (e_call F_law_take (hr.mono (j := 1) (by decide)) (a_cons (e_var 0) (a_cons e_int a_nil))) e_int))))
      (s_one (s_expr (e_append (i := 4) (e_ixs (e_lst (a_cons (e_tup (a_cons e_str (a_cons (e_call F_law_value (hr.mono (j := 2) (by decide)) (a_cons (e_var 0) (a_cons (e_var 3) a_nil))) a_nil))) (a_cons (e_tup (a_cons e_str (a_cons (e_ixs (e_var 2) e_int) a_nil))) a_nil))) (e_int1 B.int_ (e_eqS (e_call F_law_take (hr.mono (j := 1) (by decide)) (a_cons (e_var 0) (a_cons e_int a_nil))) e_int))))))
      s_nil)
    (s_cons (s_if (t_bop (w_and (t_eqS (e_len B.len_ (e_var 4)) e_int) (w_and1 (t_gt (e_call F_law_take (hr.mono (j := 1) (by decide)) (a_cons (e_var 0) (a_cons e_int a_nil))) e_int))))
      (s_one (s_setLc 4 rfl nd (i_rng1 B.range_ (e_addG e_int (e_call F_law_take (hr.mono (j := 1) (by decide)) (a_cons (e_var 0) (a_cons e_int a_nil))))) (blkOk_by (N := N_law_leaf) (sc := defScope s_law_leaf) (own := [("k", 6)]) (by decide +kernel)) (fun _ _ _ _ _ => (g_name 6 nd)) (fun _ _ _ _ _ => ts_nil) (fun _ _ _ _ _ => (e_tup (a_cons e_str (a_cons (e_call F_law_value (hr.mono (j := 2) (by decide)) (a_cons (e_var 0) (a_cons (e_var 3) a_nil))) a_nil))))))
      s_nil)
    (s_cons (s_if (t_eqS (e_call F_law_take (hr.mono (j := 1) (by decide)) (a_cons (e_var 0) (a_cons e_int a_nil))) e_int)
      (s_one (s_expr (e_reverse (i := 4))))
      s_nil)
    (s_one (s_ret (e_tup (a_cons e_str (a_cons (e_call F_law_name (hr.mono (j := 2) (by decide)) (a_cons (e_var 0) (a_cons (e_var 1) a_nil))) (a_cons (e_tuple B.tuple_ (e_var 4)) a_nil))))))))))) pure_law_leaf
abbrev s_law_term : Stmt := topS 24
theorem sc_law_term : FnScope ["draws", "columns", "values"] ["draws", "columns", "values"] (defScope s_law_term) := ⟨rfl, rfl, rfl, by decide +kernel, rfl, by decide +kernel, by decide +kernel⟩
set_option maxHeartbeats 0 in
theorem ok_law_term {f : Addr} {fd : FuncData} (B : Blt mg) (F : Fun K "_law_term" "_law_term" s_law_term f fd) (F_law_take : FnD P w K mg base 1 "_law_take" ["draws", "many"] sp_law_take) (F_law_pick : FnD P w K mg base 2 "_law_pick" ["draws", "row"] sp_law_pick) : FnOk P w K mg base CX0 3 f fd ["draws", "columns", "values"] (spOf K 3 sp_law_term) := by
  have nd := (sc_law_term).nd
  exact fn_ok w_law_term F sc_law_term (fun cdv A outer s H E hr =>
    (s_cons (s_if (t_bop (w_and (t_gt (e_len B.len_ (e_var 1)) e_int) (w_and1 (t_eqS (e_call F_law_take (hr.mono (j := 1) (by decide)) (a_cons (e_var 0) (a_cons e_int a_nil))) e_int))))
      (s_one (s_ret (e_tup (a_cons e_str (a_cons (e_call F_law_pick (hr.mono (j := 2) (by decide)) (a_cons (e_var 0) (a_cons (e_var 1) a_nil))) a_nil)))))
      s_nil)
    (s_one (s_ret (e_tup (a_cons e_str (a_cons (e_call F_law_pick (hr.mono (j := 2) (by decide)) (a_cons (e_var 0) (a_cons (e_var 2) a_nil))) a_nil))))))) pure_law_term
abbrev s_law_question : Stmt := topS 25
abbrev N_law_question : List Str := ["draws", "names", "columns", "pool", "values", "depth", "kind", "some", "rest", "p", "name", "test", "within", "pair", "x"]
theorem sc_law_question : FnScope ["draws", "names", "columns", "pool", "values", "depth", "kind", "some", "rest", "p", "name", "test", "within", "pair", "x"] ["draws", "names", "columns", "pool", "values", "depth"] (defScope s_law_question) := ⟨rfl, rfl, rfl, by decide +kernel, rfl, by decide +kernel, by decide +kernel⟩
abbrev s_law_grouped : Stmt := topS 26
abbrev N_law_grouped : List Str := ["draws", "names", "columns", "pool", "values", "depth", "more", "sides", "new", "keep", "wide", "p", "name", "x", "side"]
theorem sc_law_grouped : FnScope ["draws", "names", "columns", "pool", "values", "depth", "more", "sides", "new", "keep", "wide", "p", "name", "x", "side"] ["draws", "names", "columns", "pool", "values", "depth"] (defScope s_law_grouped) := ⟨rfl, rfl, rfl, by decide +kernel, rfl, by decide +kernel, by decide +kernel⟩
abbrev s_law_is_pair : Stmt := topS 27
theorem sc_law_is_pair : FnScope ["kind"] ["kind"] (defScope s_law_is_pair) := ⟨rfl, rfl, rfl, by decide +kernel, rfl, by decide +kernel, by decide +kernel⟩
set_option maxHeartbeats 0 in
theorem ok_law_is_pair {f : Addr} {fd : FuncData} (B : Blt mg) (F : Fun K "_law_is_pair" "_law_is_pair" s_law_is_pair f fd) : FnOk P w K mg base CX0 1 f fd ["kind"] (spOf K 1 sp_law_is_pair) := by
  have nd := (sc_law_is_pair).nd
  exact fn_ok w_law_is_pair F sc_law_is_pair (fun cdv A outer s H E hr =>
    (s_one (s_ret (e_in (e_var 0) (e_lst (a_cons e_str (a_cons e_str (a_cons e_str (a_cons e_str (a_cons e_str (a_cons e_str (a_cons e_str a_nil)))))))))))) pure_law_is_pair
abbrev s_law_columns_f : Stmt := topS 28
abbrev N_law_columns_f : List Str := ["question", "kind", "term"]
theorem sc_law_columns_f : FnScope ["question", "kind", "term"] ["question"] (defScope s_law_columns_f) := ⟨rfl, rfl, rfl, by decide +kernel, rfl, by decide +kernel, by decide +kernel⟩
set_option maxHeartbeats 0 in
theorem okn_law_columns_f {f : Addr} {fd : FuncData} (B : Blt mg) (F : Fun K "_law_columns" "_law_columns" s_law_columns_f f fd) (g : mg "_law_columns" = some (.ref f)) : ∀ n : Nat, FnOk P w K mg base CX0 (0 + n) f fd ["question"] (spOf K 1 (spn_law_columns_f n))
  | 0 => fn_false fun _ h => h
  | n + 1 => by
    have nd := (sc_law_columns_f).nd
    have F_law_columns_f : FnD P w K mg base (0 + n) "_law_columns" ["question"] (spn_law_columns_f n) := ⟨f, fd, okn_law_columns_f B F g n, g, F.kp, F.binds fun _ _ _ _ _ _ us hl => match us, hl with | [_], _ => rfl⟩
    exact fn_ok (w_law_columns_f n) F sc_law_columns_f (fun cdv A outer s H E hr =>
    (s_cons (s_asg 1 nd (e_ixs (e_var 0) e_int))
    (s_cons (s_if (t_eqS (e_var 1) e_str)
      (s_one (s_ret (e_tupD B.tuple_ (e_ssetT rfl B.sorted_ B.set_ (e_lc rfl nd (i_seq (e_ixs (e_var 0) e_int)) (blkOk_by (N := N_law_columns_f) (sc := defScope s_law_columns_f) (own := [("term", 2)]) (by decide +kernel)) (fun _ _ _ _ _ => (g_name 2 nd)) (fun _ _ _ _ _ => (ts_one (t_eqS (e_ixs (e_var 2) e_int) e_str))) (fun _ _ _ _ _ => (e_ixs (e_var 2) e_int)))))))
      s_nil)
    (s_cons (s_if (t_eqS (e_var 1) e_str)
      (s_one (s_ret (e_tuple B.tuple_ (e_ssetT rfl B.sorted_ B.set_ (e_addG (e_call F_law_columns_f (hr.mono (j := 0 + n) (Nat.le_refl _)) (a_cons (e_ixs (e_var 0) e_int) a_nil)) (e_call F_law_columns_f (hr.mono (j := 0 + n) (Nat.le_refl _)) (a_cons (e_ixs (e_var 0) e_int) a_nil)))))))
      s_nil)
    (s_cons (s_if (t_eqS (e_var 1) e_str)
      (s_one (s_ret (e_ixs (e_var 0) e_int)))
      s_nil)
    (s_cons (s_if (t_in (e_var 1) (e_lst (a_cons e_str (a_cons e_str (a_cons e_str (a_cons e_str a_nil))))))
      (s_one (s_ret (e_tuple B.tuple_ (e_sortTp rfl B.sorted_ (e_addG (e_ixs (e_var 0) (e_sub (e_len B.len_ (e_var 0)) e_int)) (e_tup (a_cons (e_ixs (e_var 0) e_int) a_nil)))))))
      s_nil)
    (s_cons (s_if (t_bop (w_or (t_eqS (e_var 1) e_str) (w_or1 (t_eqS (e_var 1) e_str))))
      (s_one (s_ret (e_call F_law_columns_f (hr.mono (j := 0 + n) (Nat.le_refl _)) (a_cons (e_ixs (e_var 0) e_int) a_nil))))
      s_nil)
    (s_one (s_ret (e_call F_law_columns_f (hr.mono (j := 0 + n) (Nat.le_refl _)) (a_cons (e_ixs (e_var 0) (e_sub (e_len B.len_ (e_var 0)) e_int)) a_nil))))))))))) (pure_law_columns_f n)
theorem ok_law_columns_f {f : Addr} {fd : FuncData} (B : Blt mg) (F : Fun K "_law_columns" "_law_columns" s_law_columns_f f fd) (g : mg "_law_columns" = some (.ref f)) : FnOk P w K mg base CX0 16 f fd ["question"] (spOf K 1 sp_law_columns_f) :=
  okn_law_columns_f B F g 16
abbrev s_law_term_value : Stmt := topS 29
theorem sc_law_term_value : FnScope ["columns", "row", "term"] ["columns", "row", "term"] (defScope s_law_term_value) := ⟨rfl, rfl, rfl, by decide +kernel, rfl, by decide +kernel, by decide +kernel⟩
set_option maxHeartbeats 0 in
theorem ok_law_term_value {f : Addr} {fd : FuncData} (B : Blt mg) (F : Fun K "_law_term_value" "_law_term_value" s_law_term_value f fd) : FnOk P w K mg base CX0 1 f fd ["columns", "row", "term"] (spOf K 3 sp_law_term_value) := by
  have nd := (sc_law_term_value).nd
  exact fn_ok w_law_term_value F sc_law_term_value (fun cdv A outer s H E hr =>
    (s_cons (s_if (t_eqS (e_ixs (e_var 2) e_int) e_str)
      (s_one (s_ret (e_ixs (e_var 1) (e_tidx (e_var 0) (e_ixs (e_var 2) e_int)))))
      s_nil)
    (s_one (s_ret (e_ixs (e_var 2) e_int))))) pure_law_term_value
abbrev s_law_match : Stmt := topS 30
abbrev N_law_match : List Str := ["terms", "columns", "row", "found", "x", "k"]
theorem sc_law_match : FnScope ["terms", "columns", "row", "found", "x", "k"] ["terms", "columns", "row"] (defScope s_law_match) := ⟨rfl, rfl, rfl, by decide +kernel, rfl, by decide +kernel, by decide +kernel⟩
set_option maxHeartbeats 0 in
theorem ok_law_match {f : Addr} {fd : FuncData} (B : Blt mg) (F : Fun K "_law_match" "_law_match" s_law_match f fd) (F_law_term_value : FnD P w K mg base 1 "_law_term_value" ["columns", "row", "term"] sp_law_term_value) : FnOk P w K mg base CX0 2 f fd ["terms", "columns", "row"] (spOf K 3 sp_law_match) := by
  have nd := (sc_law_match).nd
  exact fn_ok w_law_match F sc_law_match (fun cdv A outer s H E hr =>
    (s_cons (s_if (t_neS (e_len B.len_ (e_var 0)) (e_len B.len_ (e_var 2)))
      (s_one (s_ret e_non))
      s_nil)
    (s_cons (s_asg 3 nd (e_lst a_nil))
    (s_cons (s_for [0, 1, 2] [4] .never rfl (i_seq (e_var 1)) (g_name 4 nd)
      (s_one (s_expr (e_append (i := 3) (e_ixs (e_lc rfl nd (i_rng1 B.range_ (e_len B.len_ (e_var 2))) (blkOk_by (N := N_law_match) (sc := defScope s_law_match) (own := [("k", 5)]) (by decide +kernel)) (fun _ _ _ _ _ => (g_name 5 nd)) (fun _ _ _ _ _ => (ts_one (t_eqD hr.units (e_ixs (e_var 0) (e_var 5)) (e_tup (a_cons e_str (a_cons (e_var 4) a_nil)))))) (fun _ _ _ _ _ => (e_ixs (e_var 2) (e_var 5)))) e_int)))))
    (s_cons (s_for [0, 1, 2] [5] .never rfl (i_rng1 B.range_ (e_len B.len_ (e_var 2))) (g_name 5 nd)
      (s_one (s_if (t_neD hr.units (e_call F_law_term_value (hr.mono (j := 1) (by decide)) (a_cons (e_var 1) (a_cons (e_var 3) (a_cons (e_ixs (e_var 0) (e_var 5)) a_nil)))) (e_ixs (e_var 2) (e_var 5)))
          (s_one (s_ret e_non))
          s_nil)))
    (s_one (s_ret (e_tuple B.tuple_ (e_var 3))))))))) pure_law_match
abbrev s_law_world : Stmt := topS 31
theorem sc_law_world : FnScope ["draws", "cycle", "pool"] ["draws"] (defScope s_law_world) := ⟨rfl, rfl, rfl, by decide +kernel, rfl, by decide +kernel, by decide +kernel⟩
set_option maxHeartbeats 0 in
theorem ok_law_world {f : Addr} {fd : FuncData} (B : Blt mg) (F : Fun K "_law_world" "_law_world" s_law_world f fd) (F_law_small_cycle : FnD P w K mg base 2 "_law_small_cycle" ["draws"] sp_law_small_cycle) (F_law_pool : FnD P w K mg base 2 "_law_pool" ["draws", "many"] sp_law_pool) (F_law_values : FnD P w K mg base 2 "_law_values" ["draws", "words"] sp_law_values) : FnOk P w K mg base CX0 3 f fd ["draws"] (spOf K 1 sp_law_world) := by
  have nd := (sc_law_world).nd
  exact fn_ok w_law_world F sc_law_world (fun cdv A outer s H E hr =>
    (s_cons (s_asg 1 nd (e_call F_law_small_cycle (hr.mono (j := 2) (by decide)) (a_cons (e_var 0) a_nil)))
    (s_cons (s_asg 2 nd (e_call F_law_pool (hr.mono (j := 2) (by decide)) (a_cons (e_var 0) (a_cons e_int a_nil))))
    (s_one (s_ret (e_lst (a_cons (e_var 1) (a_cons (e_fz (e_slH (e_var 2) e_int)) (a_cons (e_fz (e_sortedS rfl B.sorted_ (e_slL (e_var 2) e_int))) (a_cons (e_fz (e_call F_law_values (hr.mono (j := 2) (by decide)) (a_cons (e_var 0) (a_cons (e_var 2) a_nil)))) (a_cons (e_fz (e_lst a_nil)) a_nil))))))))))) pure_law_world
abbrev s_law_asked : Stmt := topS 32
theorem sc_law_asked : FnScope ["draws", "world", "depth", "columns", "many", "question"] ["draws", "world", "depth"] (defScope s_law_asked) := ⟨rfl, rfl, rfl, by decide +kernel, rfl, by decide +kernel, by decide +kernel⟩
set_option maxHeartbeats 0 in
theorem ok_law_asked {f : Addr} {fd : FuncData} (B : Blt mg) (F : Fun K "_law_asked" "_law_asked" s_law_asked f fd) (F_law_take : FnD P w K mg base 1 "_law_take" ["draws", "many"] sp_law_take) (F_law_question : FnD P w K mg base 35 "_law_question" ["draws", "names", "columns", "pool", "values", "depth"] sp_law_question) (F_law_leaves : FnD P w K mg base 17 "_law_leaves" ["question"] sp_law_leaves) : FnOk P w K mg base CX0 36 f fd ["draws", "world", "depth"] (spOf K 3 sp_law_asked) := by
  have nd := (sc_law_asked).nd
  exact fn_ok w_law_asked F sc_law_asked (fun cdv A outer s H E hr =>
    (s_cons (s_asg 3 nd (e_lst (a_cons (e_ixs (e_ixs (e_var 1) e_int) e_int) (a_cons (e_ixs (e_ixs (e_var 1) e_int) e_int) a_nil))))
    (s_cons (s_asg 4 nd (e_ixs (e_lst (a_cons e_int (a_cons e_int (a_cons e_int (a_cons e_int (a_cons e_int (a_cons e_int a_nil))))))) (e_call F_law_take (hr.mono (j := 1) (by decide)) (a_cons (e_var 0) (a_cons e_int a_nil)))))
    (s_cons (s_if (t_eqS (e_call F_law_take (hr.mono (j := 1) (by decide)) (a_cons (e_var 0) (a_cons e_int a_nil))) e_int)
      (s_one (s_asg 3 nd (e_lst (a_cons (e_ixs (e_ixs (e_var 1) e_int) e_int) (a_cons (e_ixs (e_ixs (e_var 1) e_int) e_int) a_nil)))))
      s_nil)
    (s_cons (s_asg 5 nd (e_call F_law_question (hr.mono (j := 35) (by decide)) (a_cons (e_var 0) (a_cons (e_ixs (e_var 1) e_int) (a_cons (e_tuple B.tuple_ (e_slH (e_var 3) (e_var 4))) (a_cons (e_ixs (e_var 1) e_int) (a_cons (e_ixs (e_var 1) e_int) (a_cons (e_var 2) a_nil))))))))
    (s_cons (s_set 1 (e_fz (e_addR (e_ixs (e_var 1) e_int) (e_call F_law_leaves (hr.mono (j := 17) (by decide)) (a_cons (e_var 5) a_nil)))) e_int)
    (s_one (s_ret (e_var 5))))))))) pure_law_asked
abbrev s_law_leaves : Stmt := topS 33
theorem sc_law_leaves : FnScope ["question"] ["question"] (defScope s_law_leaves) := ⟨rfl, rfl, rfl, by decide +kernel, rfl, by decide +kernel, by decide +kernel⟩
set_option maxHeartbeats 0 in
theorem okn_law_leaves {f : Addr} {fd : FuncData} (B : Blt mg) (F : Fun K "_law_leaves" "_law_leaves" s_law_leaves f fd) (g : mg "_law_leaves" = some (.ref f)) (F_law_is_pair : FnD P w K mg base 1 "_law_is_pair" ["kind"] sp_law_is_pair) : ∀ n : Nat, FnOk P w K mg base CX0 (1 + n) f fd ["question"] (spOf K 1 (spn_law_leaves n))
  | 0 => fn_false fun _ h => h
  | n + 1 => by
    have nd := (sc_law_leaves).nd
    have F_law_leaves : FnD P w K mg base (1 + n) "_law_leaves" ["question"] (spn_law_leaves n) := ⟨f, fd, okn_law_leaves B F g F_law_is_pair n, g, F.kp, F.binds fun _ _ _ _ _ _ us hl => match us, hl with | [_], _ => rfl⟩
    exact fn_ok (w_law_leaves n) F sc_law_leaves (fun cdv A outer s H E hr =>
    (s_cons (s_if (t_eqS (e_ixs (e_var 0) e_int) e_str)
      (s_one (s_ret (e_lst (a_cons (e_var 0) a_nil))))
      s_nil)
    (s_cons (s_if (t_val (e_call F_law_is_pair (hr.mono (j := 1) (Nat.le_trans (by decide : _ ≤ 1) (Nat.le_add_right _ _))) (a_cons (e_ixs (e_var 0) e_int) a_nil)))
      (s_one (s_ret (e_addG (e_call F_law_leaves (hr.mono (j := 1 + n) (Nat.le_refl _)) (a_cons (e_ixs (e_var 0) e_int) a_nil)) (e_call F_law_leaves (hr.mono (j := 1 + n) (Nat.le_refl _)) (a_cons (e_ixs (e_var 0) e_int) a_nil)))))
      s_nil)
    (s_one (s_ret (e_call F_law_leaves (hr.mono (j := 1 + n) (Nat.le_refl _)) (a_cons (e_ixs (e_var 0) (e_sub (e_len B.len_ (e_var 0)) e_int)) a_nil))))))) (pure_law_leaves n)
theorem ok_law_leaves {f : Addr} {fd : FuncData} (B : Blt mg) (F : Fun K "_law_leaves" "_law_leaves" s_law_leaves f fd) (g : mg "_law_leaves" = some (.ref f)) (F_law_is_pair : FnD P w K mg base 1 "_law_is_pair" ["kind"] sp_law_is_pair) : FnOk P w K mg base CX0 17 f fd ["question"] (spOf K 1 sp_law_leaves) :=
  okn_law_leaves B F g F_law_is_pair 16
abbrev s_law_change : Stmt := topS 34
abbrev N_law_change : List Str := ["draws", "script", "world", "names", "many", "row", "low", "high", "k"]
theorem sc_law_change : FnScope ["draws", "script", "world", "names", "many", "row", "low", "high", "k"] ["draws", "script", "world"] (defScope s_law_change) := ⟨rfl, rfl, rfl, by decide +kernel, rfl, by decide +kernel, by decide +kernel⟩
set_option maxHeartbeats 0 in
theorem ok_law_change {f : Addr} {fd : FuncData} (B : Blt mg) (F : Fun K "_law_change" "_law_change" s_law_change f fd) (F_law_take : FnD P w K mg base 1 "_law_take" ["draws", "many"] sp_law_take) (F_law_pick : FnD P w K mg base 2 "_law_pick" ["draws", "row"] sp_law_pick) (F_law_size : FnD P w K mg base 2 "_law_size" ["draws", "script"] sp_law_size) : FnOk P w K mg base CX0 3 f fd ["draws", "script", "world"] (spOf K 3 sp_law_change) := by
  have nd := (sc_law_change).nd
  exact fn_ok w_law_change F sc_law_change (fun cdv A outer s H E hr =>
    (s_cons (s_asg 3 nd (e_addR (e_ixs (e_var 2) e_int) (e_lst (a_cons (e_addS (e_ixs (e_ixs (e_var 2) e_int) e_int) e_str) a_nil))))
    (s_cons (s_asg 4 nd (e_ixs (e_lst (a_cons e_int (a_cons e_int (a_cons e_int (a_cons e_int (a_cons e_int (a_cons e_int a_nil))))))) (e_call F_law_take (hr.mono (j := 1) (by decide)) (a_cons (e_var 0) (a_cons e_int a_nil)))))
    (s_cons (s_asg 5 nd (e_tuple B.tuple_ (e_lc rfl nd (i_rng1 B.range_ (e_var 4)) (blkOk_by (N := N_law_change) (sc := defScope s_law_change) (own := [("k", 8)]) (by decide +kernel)) (fun _ _ _ _ _ => (g_name 8 nd)) (fun _ _ _ _ _ => ts_nil) (fun _ _ _ _ _ => (e_call F_law_pick (hr.mono (j := 2) (by decide)) (a_cons (e_var 0) (a_cons (e_ixs (e_var 2) e_int) a_nil)))))))
    (s_cons (s_asg 6 nd (e_call F_law_size (hr.mono (j := 2) (by decide)) (a_cons (e_var 0) (a_cons (e_var 1) a_nil))))
    (s_cons (s_asg 7 nd e_non)
    (s_cons (s_if (t_gt (e_call F_law_take (hr.mono (j := 1) (by decide)) (a_cons (e_var 0) (a_cons e_int a_nil))) e_int)
      (s_one (s_asg 7 nd (e_addG (e_addG (e_var 6) e_int) (e_call F_law_size (hr.mono (j := 2) (by decide)) (a_cons (e_var 0) (a_cons (e_var 1) a_nil))))))
      s_nil)
    (s_one (s_ret (e_tup (a_cons (e_ixs (e_var 3) (e_ixs (e_lst (a_cons e_int (a_cons e_int (a_cons e_int (a_cons e_int (a_cons e_int a_nil)))))) (e_call F_law_take (hr.mono (j := 1) (by decide)) (a_cons (e_var 0) (a_cons e_int a_nil))))) (a_cons (e_var 5) (a_cons (e_tup (a_cons (e_var 6) (a_cons (e_var 7) a_nil))) a_nil))))))))))))) pure_law_change
abbrev s_law_around : Stmt := topS 35
theorem sc_law_around : FnScope ["one", "other"] ["one", "other"] (defScope s_law_around) := ⟨rfl, rfl, rfl, by decide +kernel, rfl, by decide +kernel, by decide +kernel⟩
set_option maxHeartbeats 0 in
theorem ok_law_around {f : Addr} {fd : FuncData} (B : Blt mg) (F : Fun K "_law_around" "_law_around" s_law_around f fd) : FnOk P w K mg base CX0 1 f fd ["one", "other"] (spOf K 2 sp_law_around) := by
  have nd := (sc_law_around).nd
  exact fn_ok w_law_around F sc_law_around (fun cdv A outer s H E hr =>
    (s_cons (s_if (t_bop (w_or (t_isN (e_var 0)) (w_or1 (t_isN (e_var 1)))))
      (s_one (s_ret (e_ixs (e_lst (a_cons (e_var 0) (a_cons (e_var 1) a_nil))) (e_int1 B.int_ (e_isN (e_var 0))))))
      s_nil)
    (s_cons (s_if (t_bop (w_or (t_isN (e_ixs (e_var 0) e_int)) (w_or1 (t_isN (e_ixs (e_var 1) e_int)))))
      (s_one (s_ret (e_tup (a_cons (e_min rfl B.min_ (e_ixs (e_var 0) e_int) (e_ixs (e_var 1) e_int)) (a_cons e_non a_nil)))))
      s_nil)
    (s_one (s_ret (e_tup (a_cons (e_min rfl B.min_ (e_ixs (e_var 0) e_int) (e_ixs (e_var 1) e_int)) (a_cons (e_max rfl B.max_ (e_ixs (e_var 0) e_int) (e_ixs (e_var 1) e_int)) a_nil)))))))) pure_law_around
abbrev s_law_moved : Stmt := topS 36
theorem sc_law_moved : FnScope ["question", "span", "kind", "low", "high"] ["question", "span"] (defScope s_law_moved) := ⟨rfl, rfl, rfl, by decide +kernel, rfl, by decide +kernel, by decide +kernel⟩
set_option maxHeartbeats 0 in
theorem ok_law_moved {f : Addr} {fd : FuncData} (B : Blt mg) (F : Fun K "_law_moved" "_law_moved" s_law_moved f fd) : FnOk P w K mg base CX0 1 f fd ["question", "span"] (spOf K 2 sp_law_moved) := by
  have nd := (sc_law_moved).nd
  exact fn_ok w_law_moved F sc_law_moved (fun cdv A outer s H E hr =>
    (s_cons (s_asg 2 nd (e_ixs (e_var 0) e_int))
    (s_cons (s_asg 3 nd (e_ixs (e_var 1) e_int))
    (s_cons (s_asg 4 nd (e_ixs (e_var 1) e_int))
    (s_cons (s_if (t_in (e_var 2) (e_lst (a_cons e_str (a_cons e_str a_nil))))
      (s_one (s_ret (e_tup (a_cons (e_var 3) (a_cons e_non a_nil)))))
      s_nil)
    (s_cons (s_if (t_in (e_var 2) (e_lst (a_cons e_str (a_cons e_str (a_cons e_str a_nil)))))
      (s_one (s_ret (e_tup (a_cons e_int (a_cons (e_var 4) a_nil)))))
      s_nil)
    (s_cons (s_if (t_in (e_var 2) (e_lst (a_cons e_str (a_cons e_str a_nil))))
      (s_cons (s_if (t_bop (w_or (t_isN (e_ixs (e_var 0) e_int)) (w_or1 (t_isN (e_var 4)))))
          (s_one (s_ret (e_tup (a_cons (e_var 3) (a_cons e_non a_nil)))))
          s_nil)
        (s_one (s_ret (e_tup (a_cons (e_var 3) (a_cons (e_addG (e_var 4) (e_ixs (e_var 0) e_int)) a_nil))))))
      s_nil)
    (s_cons (s_if (t_in (e_var 2) (e_lst (a_cons e_str (a_cons e_str a_nil))))
      (s_cons (s_if (t_isN (e_ixs (e_var 0) e_int))
          (s_one (s_ret (e_tup (a_cons e_int (a_cons (e_var 4) a_nil)))))
          s_nil)
        (s_one (s_ret (e_tup (a_cons (e_max rfl B.max_ e_int (e_sub (e_var 3) (e_ixs (e_var 0) e_int))) (a_cons (e_var 4) a_nil))))))
      s_nil)
    (s_cons (s_if (t_eqS (e_var 2) e_str)
      (s_cons (s_if (t_isN (e_var 4))
          (s_one (s_ret (e_tup (a_cons (e_max rfl B.max_ e_int (e_sub (e_var 3) (e_ixs (e_var 0) e_int))) (a_cons e_non a_nil)))))
          s_nil)
        (s_cons (s_if (t_le (e_var 4) (e_ixs (e_var 0) e_int))
          (s_one (s_ret e_non))
          s_nil)
        (s_one (s_ret (e_tup (a_cons (e_max rfl B.max_ e_int (e_sub (e_var 3) (e_ixs (e_var 0) e_int))) (a_cons (e_sub (e_var 4) (e_ixs (e_var 0) e_int)) a_nil)))))))
      s_nil)
    (s_one (s_ret (e_var 1)))))))))))) pure_law_moved
abbrev s_law_due : Stmt := topS 37
theorem sc_law_due : FnScope ["question", "changes", "due", "columns", "change"] ["question", "changes"] (defScope s_law_due) := ⟨rfl, rfl, rfl, by decide +kernel, rfl, by decide +kernel, by decide +kernel⟩
set_option maxHeartbeats 0 in
theorem okn_law_due {f : Addr} {fd : FuncData} (B : Blt mg) (F : Fun K "_law_due" "_law_due" s_law_due f fd) (g : mg "_law_due" = some (.ref f)) (F_law_columns_f : FnD P w K mg base 16 "_law_columns" ["question"] sp_law_columns_f) (F_law_match : FnD P w K mg base 2 "_law_match" ["terms", "columns", "row"] sp_law_match) (F_law_around : FnD P w K mg base 1 "_law_around" ["one", "other"] sp_law_around) (F_law_moved : FnD P w K mg base 1 "_law_moved" ["question", "span"] sp_law_moved) : ∀ n : Nat, FnOk P w K mg base CX0 (16 + n) f fd ["question", "changes"] (spOf K 2 (spn_law_due n))
  | 0 => fn_false fun _ h => h
  | n + 1 => by
    have nd := (sc_law_due).nd
    have F_law_due : FnD P w K mg base (16 + n) "_law_due" ["question", "changes"] (spn_law_due n) := ⟨f, fd, okn_law_due B F g F_law_columns_f F_law_match F_law_around F_law_moved n, g, F.kp, F.binds fun _ _ _ _ _ _ us hl => match us, hl with | [_, _], _ => rfl⟩
    exact fn_ok (w_law_due n) F sc_law_due (fun cdv A outer s H E hr =>
    (s_cons (s_if (t_eqS (e_ixs (e_var 0) e_int) e_str)
      (s_cons (s_asg 2 nd e_non)
        (s_cons (s_asg 3 nd (e_call F_law_columns_f (hr.mono (j := 16) (Nat.le_trans (by decide : _ ≤ 16) (Nat.le_add_right _ _))) (a_cons (e_var 0) a_nil)))
        (s_cons (s_for [0, 1] [4] .never rfl (i_seq (e_var 1)) (g_name 4 nd)
          (s_one (s_if (t_bop (w_and (t_eqS (e_ixs (e_var 4) e_int) (e_ixs (e_var 0) e_int)) (w_and1 (t_notN (e_call F_law_match (hr.mono (j := 2) (Nat.le_trans (by decide : _ ≤ 16) (Nat.le_add_right _ _))) (a_cons (e_ixs (e_var 0) e_int) (a_cons (e_var 3) (a_cons (e_ixs (e_var 4) e_int) a_nil))))))))
              (s_one (s_asg 2 nd (e_call F_law_around (hr.mono (j := 1) (Nat.le_trans (by decide : _ ≤ 16) (Nat.le_add_right _ _))) (a_cons (e_var 2) (a_cons (e_ixs (e_var 4) e_int) a_nil)))))
              s_nil)))
        (s_one (s_ret (e_var 2))))))
      s_nil)
    (s_cons (s_asg 2 nd (e_call F_law_due (hr.mono (j := 16 + n) (Nat.le_refl _)) (a_cons (e_ixs (e_var 0) (e_sub (e_len B.len_ (e_var 0)) e_int)) (a_cons (e_var 1) a_nil))))
    (s_cons (s_if (t_in (e_ixs (e_var 0) e_int) (e_lst (a_cons e_str (a_cons e_str (a_cons e_str (a_cons e_str (a_cons e_str (a_cons e_str (a_cons e_str a_nil)))))))))
      (s_one (s_asg 2 nd (e_call F_law_around (hr.mono (j := 1) (Nat.le_trans (by decide : _ ≤ 16) (Nat.le_add_right _ _))) (a_cons (e_call F_law_due (hr.mono (j := 16 + n) (Nat.le_refl _)) (a_cons (e_ixs (e_var 0) e_int) (a_cons (e_var 1) a_nil))) (a_cons (e_var 2) a_nil)))))
      s_nil)
    (s_cons (s_if (t_isN (e_var 2))
      (s_one (s_ret e_non))
      s_nil)
    (s_one (s_ret (e_call F_law_moved (hr.mono (j := 1) (Nat.le_trans (by decide : _ ≤ 16) (Nat.le_add_right _ _))) (a_cons (e_var 0) (a_cons (e_var 2) a_nil)))))))))) (pure_law_due n)
theorem ok_law_due {f : Addr} {fd : FuncData} (B : Blt mg) (F : Fun K "_law_due" "_law_due" s_law_due f fd) (g : mg "_law_due" = some (.ref f)) (F_law_columns_f : FnD P w K mg base 16 "_law_columns" ["question"] sp_law_columns_f) (F_law_match : FnD P w K mg base 2 "_law_match" ["terms", "columns", "row"] sp_law_match) (F_law_around : FnD P w K mg base 1 "_law_around" ["one", "other"] sp_law_around) (F_law_moved : FnD P w K mg base 1 "_law_moved" ["question", "span"] sp_law_moved) : FnOk P w K mg base CX0 32 f fd ["question", "changes"] (spOf K 2 sp_law_due) :=
  okn_law_due B F g F_law_columns_f F_law_match F_law_around F_law_moved 16
abbrev s_law : Stmt := topS 38
abbrev N_law : List Str := ["script", "draws", "world", "question", "changes", "passed", "k"]
theorem sc_law : FnScope ["script", "draws", "world", "question", "changes", "passed", "k"] ["script"] (defScope s_law) := ⟨rfl, rfl, rfl, by decide +kernel, rfl, by decide +kernel, by decide +kernel⟩
set_option maxHeartbeats 0 in
theorem ok_law {f : Addr} {fd : FuncData} (B : Blt mg) (F : Fun K "law" "law" s_law f fd) (F_law_draws : FnD P w K mg base 1 "_law_draws" ["script", "many"] sp_law_draws) (F_law_world : FnD P w K mg base 3 "_law_world" ["draws"] sp_law_world) (F_law_asked : FnD P w K mg base 36 "_law_asked" ["draws", "world", "depth"] sp_law_asked) (F_law_take : FnD P w K mg base 1 "_law_take" ["draws", "many"] sp_law_take) (F_law_change : FnD P w K mg base 3 "_law_change" ["draws", "script", "world"] sp_law_change) (F_law_same : FnD P w K mg base 8 "_law_same" ["actual", "due"] sp_law_same) (F_question_span : FnD P w K mg base 19 "question_span" ["question", "changes"] sp_question_span) (F_law_due : FnD P w K mg base 32 "_law_due" ["question", "changes"] sp_law_due) : FnOk P w K mg base CX0 37 f fd ["script"] (spOf K 1 sp_law) := by
  have nd := (sc_law).nd
  exact fn_ok w_law F sc_law (fun cdv A outer s H E hr =>
    (s_cons (s_asg 1 nd (e_call F_law_draws (hr.mono (j := 1) (by decide)) (a_cons (e_var 0) (a_cons e_int a_nil))))
    (s_cons (s_asg 2 nd (e_call F_law_world (hr.mono (j := 3) (by decide)) (a_cons (e_var 1) a_nil)))
    (s_cons (s_asg 3 nd (e_call F_law_asked (hr.mono (j := 36) (by decide)) (a_cons (e_var 1) (a_cons (e_var 2) (a_cons (e_call F_law_take (hr.mono (j := 1) (by decide)) (a_cons (e_var 1) (a_cons e_int a_nil))) a_nil)))))
    (s_cons (s_setLc 4 rfl nd (i_rng1 B.range_ (e_call F_law_take (hr.mono (j := 1) (by decide)) (a_cons (e_var 1) (a_cons e_int a_nil)))) (blkOk_by (N := N_law) (sc := defScope s_law) (own := [("k", 6)]) (by decide +kernel)) (fun _ _ _ _ _ => (g_name 6 nd)) (fun _ _ _ _ _ => ts_nil) (fun _ _ _ _ _ => (e_call F_law_change (hr.mono (j := 3) (by decide)) (a_cons (e_var 1) (a_cons (e_var 0) (a_cons (e_var 2) a_nil))))))
    (s_cons (s_asg 5 nd (e_list B.list_ (e_var 4)))
    (s_cons (s_if (t_not (t_val (e_call F_law_same (hr.mono (j := 8) (by decide)) (a_cons (e_call F_question_span (hr.mono (j := 19) (by decide)) (a_cons (e_var 3) (a_cons (e_var 5) a_nil))) (a_cons (e_call F_law_due (hr.mono (j := 32) (by decide)) (a_cons (e_var 3) (a_cons (e_var 4) a_nil))) a_nil)))))
      (s_one (s_ret e_bl))
      s_nil)
    (s_one (s_ret (e_eqD hr.units (e_var 5) (e_var 4))))))))))) pure_law
set_option maxHeartbeats 0 in
theorem okg_law_question (B : Blt mg) {f_law_question : Addr} {fd_law_question : FuncData} (U_law_question : Fun K "_law_question" "_law_question" s_law_question f_law_question fd_law_question) (g_law_question : mg "_law_question" = some (.ref f_law_question)) {f_law_grouped : Addr} {fd_law_grouped : FuncData} (U_law_grouped : Fun K "_law_grouped" "_law_grouped" s_law_grouped f_law_grouped fd_law_grouped) (g_law_grouped : mg "_law_grouped" = some (.ref f_law_grouped)) (F_law_leaf : FnD P w K mg base 3 "_law_leaf" ["draws", "names", "columns", "values"] sp_law_leaf) (F_law_take : FnD P w K mg base 1 "_law_take" ["draws", "many"] sp_law_take) (F_law_term : FnD P w K mg base 3 "_law_term" ["draws", "columns", "values"] sp_law_term) (F_law_pick : FnD P w K mg base 2 "_law_pick" ["draws", "row"] sp_law_pick) : ∀ n : Nat, FnOk P w K mg base CX0 (3 + n) f_law_question fd_law_question ["draws", "names", "columns", "pool", "values", "depth"] (spOf K 6 (spn_law_question n)) ∧ FnOk P w K mg base CX0 (3 + n) f_law_grouped fd_law_grouped ["draws", "names", "columns", "pool", "values", "depth"] (spOf K 6 (spn_law_grouped n))
  | 0 => ⟨fn_false fun _ h => h, fn_false fun _ h => h⟩
  | n + 1 => by
    have Gr := okg_law_question B U_law_question g_law_question U_law_grouped g_law_grouped F_law_leaf F_law_take F_law_term F_law_pick n
    have F_law_question : FnD P w K mg base (3 + n) "_law_question" ["draws", "names", "columns", "pool", "values", "depth"] (spn_law_question n) := ⟨f_law_question, fd_law_question, Gr.1, g_law_question, U_law_question.kp, U_law_question.binds fun _ _ _ _ _ _ us hl => match us, hl with | [_, _, _, _, _, _], _ => rfl⟩
    have F_law_grouped : FnD P w K mg base (3 + n) "_law_grouped" ["draws", "names", "columns", "pool", "values", "depth"] (spn_law_grouped n) := ⟨f_law_grouped, fd_law_grouped, Gr.2, g_law_grouped, U_law_grouped.kp, U_law_grouped.binds fun _ _ _ _ _ _ us hl => match us, hl with | [_, _, _, _, _, _], _ => rfl⟩
    refine ⟨?_, ?_⟩
    · have nd := (sc_law_question).nd
      exact fn_ok (w_law_question n) U_law_question sc_law_question (fun cdv A outer s H E hr =>
    (s_cons (s_if (t_eqS (e_var 5) e_int)
      (s_one (s_ret (e_call F_law_leaf (hr.mono (j := 3) (Nat.le_trans (by decide : _ ≤ 3) (Nat.le_add_right _ _))) (a_cons (e_var 0) (a_cons (e_var 1) (a_cons (e_var 2) (a_cons (e_var 4) a_nil)))))))
      s_nil)
    (s_cons (s_asg 6 nd (e_call F_law_take (hr.mono (j := 1) (Nat.le_trans (by decide : _ ≤ 3) (Nat.le_add_right _ _))) (a_cons (e_var 0) (a_cons e_int a_nil))))
    (s_cons (s_if (t_bop (w_or (t_eqS (e_var 6) e_int) (w_or1 (t_bop (w_and (t_gt (e_var 6) e_int) (w_and1 (t_lt (e_len B.len_ (e_var 2)) e_int)))))))
      (s_one (s_ret (e_call F_law_grouped (hr.mono (j := 3 + n) (Nat.le_refl _)) (a_cons (e_var 0) (a_cons (e_var 1) (a_cons (e_var 2) (a_cons (e_var 3) (a_cons (e_var 4) (a_cons (e_var 5) a_nil)))))))))
      s_nil)
    (s_cons (s_asg 7 nd (e_tuple B.tuple_ (e_lc rfl nd (i_seq (e_var 2)) (blkOk_by (N := N_law_question) (sc := defScope s_law_question) (own := [("x", 14)]) (by decide +kernel)) (fun _ _ _ _ _ => (g_name 14 nd)) (fun _ _ _ _ _ => (ts_one (t_gt (e_call F_law_take (hr.mono (j := 1) (Nat.le_trans (by decide : _ ≤ 3) (Nat.le_add_right _ _))) (a_cons (e_var 0) (a_cons e_int a_nil))) e_int))) (fun _ _ _ _ _ => (e_var 14)))))
    (s_cons (s_if (t_eqS (e_var 6) e_int)
      (s_cons (s_asg 8 nd (e_tuple B.tuple_ (e_lc rfl nd (i_seq (e_var 2)) (blkOk_by (N := N_law_question) (sc := defScope s_law_question) (own := [("x", 14)]) (by decide +kernel)) (fun _ _ _ _ _ => (g_name 14 nd)) (fun _ _ _ _ _ => (ts_one (t_bop (w_or (t_notIn (e_var 14) (e_var 7)) (w_or1 (t_eqS (e_call F_law_take (hr.mono (j := 1) (Nat.le_trans (by decide : _ ≤ 3) (Nat.le_add_right _ _))) (a_cons (e_var 0) (a_cons e_int a_nil))) e_int)))))) (fun _ _ _ _ _ => (e_var 14)))))
        (s_cons (s_asg 9 nd (e_call F_law_question (hr.mono (j := 3 + n) (Nat.le_refl _)) (a_cons (e_var 0) (a_cons (e_var 1) (a_cons (e_var 7) (a_cons (e_var 3) (a_cons (e_var 4) (a_cons (e_sub (e_var 5) e_int) a_nil))))))))
        (s_one (s_ret (e_tup (a_cons e_str (a_cons (e_var 9) (a_cons (e_call F_law_question (hr.mono (j := 3 + n) (Nat.le_refl _)) (a_cons (e_var 0) (a_cons (e_var 1) (a_cons (e_var 8) (a_cons (e_var 3) (a_cons (e_var 4) (a_cons (e_sub (e_var 5) e_int) a_nil))))))) a_nil))))))))
      s_nil)
    (s_cons (s_asg 9 nd (e_call F_law_question (hr.mono (j := 3 + n) (Nat.le_refl _)) (a_cons (e_var 0) (a_cons (e_var 1) (a_cons (e_var 2) (a_cons (e_var 3) (a_cons (e_var 4) (a_cons (e_sub (e_var 5) e_int) a_nil))))))))
    (s_cons (s_if (t_eqS (e_var 6) e_int)
      (s_one (s_ret (e_tup (a_cons e_str (a_cons (e_var 9) (a_cons (e_call F_law_question (hr.mono (j := 3 + n) (Nat.le_refl _)) (a_cons (e_var 0) (a_cons (e_var 1) (a_cons (e_var 2) (a_cons (e_var 3) (a_cons (e_var 4) (a_cons (e_sub (e_var 5) e_int) a_nil))))))) a_nil))))))
      s_nil)
    (s_cons (s_if (t_eqS (e_var 6) e_int)
      (s_one (s_ret (e_tup (a_cons e_str (a_cons (e_var 9) (a_cons (e_call F_law_question (hr.mono (j := 3 + n) (Nat.le_refl _)) (a_cons (e_var 0) (a_cons (e_var 1) (a_cons (e_var 7) (a_cons (e_var 3) (a_cons (e_var 4) (a_cons (e_sub (e_var 5) e_int) a_nil))))))) a_nil))))))
      s_nil)
    (s_cons (s_if (t_lt (e_var 6) e_int)
      (s_cons (s_asg 10 nd (e_ixs (e_lst (a_cons e_str (a_cons e_str (a_cons e_str (a_cons e_str a_nil))))) (e_call F_law_take (hr.mono (j := 1) (Nat.le_trans (by decide : _ ≤ 3) (Nat.le_add_right _ _))) (a_cons (e_var 0) (a_cons e_int a_nil)))))
        (s_one (s_ret (e_tup (a_cons (e_var 10) (a_cons (e_call F_law_question (hr.mono (j := 3 + n) (Nat.le_refl _)) (a_cons (e_var 0) (a_cons (e_var 1) (a_cons (e_var 7) (a_cons (e_var 3) (a_cons (e_var 4) (a_cons (e_sub (e_var 5) e_int) a_nil))))))) (a_cons (e_var 9) a_nil)))))))
      s_nil)
    (s_cons (s_if (t_eqS (e_var 6) e_int)
      (s_one (s_ret (e_tup (a_cons e_str (a_cons (e_sub (e_call F_law_take (hr.mono (j := 1) (Nat.le_trans (by decide : _ ≤ 3) (Nat.le_add_right _ _))) (a_cons (e_var 0) (a_cons e_int a_nil))) e_int) (a_cons (e_var 9) a_nil))))))
      s_nil)
    (s_cons (s_if (t_eqS (e_var 6) e_int)
      (s_cons (s_asg 11 nd (e_ixs (e_lst (a_cons e_str (a_cons e_str (a_cons e_str a_nil)))) (e_call F_law_take (hr.mono (j := 1) (Nat.le_trans (by decide : _ ≤ 3) (Nat.le_add_right _ _))) (a_cons (e_var 0) (a_cons e_int a_nil)))))
        (s_one (s_ret (e_tup (a_cons e_str (a_cons (e_var 11) (a_cons (e_call F_law_term (hr.mono (j := 3) (Nat.le_trans (by decide : _ ≤ 3) (Nat.le_add_right _ _))) (a_cons (e_var 0) (a_cons (e_var 2) (a_cons (e_var 4) a_nil)))) (a_cons (e_call F_law_term (hr.mono (j := 3) (Nat.le_trans (by decide : _ ≤ 3) (Nat.le_add_right _ _))) (a_cons (e_var 0) (a_cons (e_var 2) (a_cons (e_var 4) a_nil)))) (a_cons (e_var 9) a_nil)))))))))
      s_nil)
    (s_cons (s_if (t_lt (e_var 6) e_int)
      (s_cons (s_asg 12 nd (e_ixs (e_lst (a_cons e_non (a_cons e_int (a_cons e_int (a_cons e_int (a_cons e_int (a_cons e_int a_nil))))))) (e_call F_law_take (hr.mono (j := 1) (Nat.le_trans (by decide : _ ≤ 3) (Nat.le_add_right _ _))) (a_cons (e_var 0) (a_cons e_int a_nil)))))
        (s_one (s_ret (e_tup (a_cons (e_ixs (e_lst (a_cons e_str (a_cons e_str (a_cons e_str (a_cons e_str a_nil))))) (e_call F_law_take (hr.mono (j := 1) (Nat.le_trans (by decide : _ ≤ 3) (Nat.le_add_right _ _))) (a_cons (e_var 0) (a_cons e_int a_nil)))) (a_cons (e_var 12) (a_cons (e_var 9) a_nil)))))))
      s_nil)
    (s_cons (s_asg 13 nd (e_ixs (e_lst (a_cons (e_var 2) (a_cons (e_tup (a_cons (e_ixs (e_var 2) e_int) (a_cons (e_ixs (e_var 2) e_int) a_nil))) a_nil))) (e_call F_law_take (hr.mono (j := 1) (Nat.le_trans (by decide : _ ≤ 3) (Nat.le_add_right _ _))) (a_cons (e_var 0) (a_cons e_int a_nil)))))
    (s_one (s_ret (e_tup (a_cons (e_ixs (e_lst (a_cons e_str (a_cons e_str a_nil))) (e_sub (e_var 6) e_int)) (a_cons (e_ixs (e_var 13) e_int) (a_cons (e_ixs (e_var 13) e_int) (a_cons (e_var 9) a_nil))))))))))))))))))))) (pure_law_question n)
    · have nd := (sc_law_grouped).nd
      exact fn_ok (w_law_grouped n) U_law_grouped sc_law_grouped (fun cdv A outer s H E hr =>
    (s_cons (s_asg 6 nd (e_ixs (e_lc rfl nd (i_seq (e_var 3)) (blkOk_by (N := N_law_grouped) (sc := defScope s_law_grouped) (own := [("x", 13)]) (by decide +kernel)) (fun _ _ _ _ _ => (g_name 13 nd)) (fun _ _ _ _ _ => (ts_one (t_notIn (e_var 13) (e_var 2)))) (fun _ _ _ _ _ => (e_var 13))) e_int))
    (s_cons (s_if (t_bop (w_and (t_eqS (e_len B.len_ (e_var 2)) e_int) (w_and1 (t_eqS (e_call F_law_take (hr.mono (j := 1) (Nat.le_trans (by decide : _ ≤ 3) (Nat.le_add_right _ _))) (a_cons (e_var 0) (a_cons e_int a_nil))) e_int))))
      (s_cons (s_setLc 7 rfl nd (i_seq (e_var 2)) (blkOk_by (N := N_law_grouped) (sc := defScope s_law_grouped) (own := [("x", 13)]) (by decide +kernel)) (fun _ _ _ _ _ => (g_name 13 nd)) (fun _ _ _ _ _ => ts_nil) (fun _ _ _ _ _ => (e_tuple B.tuple_ (e_sortedS rfl B.sorted_ (e_lst (a_cons (e_var 13) (a_cons (e_var 6) a_nil)))))))
        (s_cons (s_setLc 7 rfl nd (i_seq (e_var 7)) (blkOk_by (N := N_law_grouped) (sc := defScope s_law_grouped) (own := [("side", 14)]) (by decide +kernel)) (fun _ _ _ _ _ => (g_name 14 nd)) (fun _ _ _ _ _ => ts_nil) (fun _ _ _ _ _ => (e_call F_law_question (hr.mono (j := 3 + n) (Nat.le_refl _)) (a_cons (e_var 0) (a_cons (e_var 1) (a_cons (e_var 14) (a_cons (e_var 3) (a_cons (e_var 4) (a_cons (e_sub (e_var 5) e_int) a_nil)))))))))
        (s_one (s_ret (e_tup (a_cons e_str (a_cons (e_var 2) (a_cons (e_tup (a_cons e_str (a_cons (e_ixs (e_var 7) e_int) (a_cons (e_ixs (e_var 7) e_int) a_nil)))) a_nil))))))))
      s_nil)
    (s_cons (s_if (t_bop (w_or (t_eqS (e_len B.len_ (e_var 2)) e_int) (w_or1 (t_bop (w_and (t_eqS (e_len B.len_ (e_var 2)) e_int) (w_and1 (t_eqS (e_call F_law_take (hr.mono (j := 1) (Nat.le_trans (by decide : _ ≤ 3) (Nat.le_add_right _ _))) (a_cons (e_var 0) (a_cons e_int a_nil))) e_int)))))))
      (s_cons (s_asg 8 nd (e_call F_law_pick (hr.mono (j := 2) (Nat.le_trans (by decide : _ ≤ 3) (Nat.le_add_right _ _))) (a_cons (e_var 0) (a_cons (e_var 2) a_nil))))
        (s_cons (s_asg 9 nd (e_tuple B.tuple_ (e_lc rfl nd (i_seq (e_var 2)) (blkOk_by (N := N_law_grouped) (sc := defScope s_law_grouped) (own := [("x", 13)]) (by decide +kernel)) (fun _ _ _ _ _ => (g_name 13 nd)) (fun _ _ _ _ _ => (ts_one (t_neS (e_var 13) (e_var 8)))) (fun _ _ _ _ _ => (e_var 13)))))
        (s_cons (s_asg 10 nd (e_tuple B.tuple_ (e_sortTp rfl B.sorted_ (e_addG (e_var 9) (e_tup (a_cons (e_ixs (e_lst (a_cons (e_var 6) (a_cons (e_var 8) a_nil))) (e_call F_law_take (hr.mono (j := 1) (Nat.le_trans (by decide : _ ≤ 3) (Nat.le_add_right _ _))) (a_cons (e_var 0) (a_cons e_int a_nil)))) a_nil))))))
        (s_cons (s_asg 11 nd (e_call F_law_question (hr.mono (j := 3 + n) (Nat.le_refl _)) (a_cons (e_var 0) (a_cons (e_var 1) (a_cons (e_var 10) (a_cons (e_var 3) (a_cons (e_var 4) (a_cons (e_sub (e_var 5) e_int) a_nil))))))))
        (s_cons (s_asg 12 nd (e_ixs (e_lst (a_cons e_str (a_cons e_str (a_cons e_str (a_cons e_str a_nil))))) (e_call F_law_take (hr.mono (j := 1) (Nat.le_trans (by decide : _ ≤ 3) (Nat.le_add_right _ _))) (a_cons (e_var 0) (a_cons e_int a_nil)))))
        (s_cons (s_if (t_eqS (e_var 12) e_str)
          (s_one (s_ret (e_tup (a_cons (e_var 12) (a_cons (e_var 8) (a_cons (e_var 9) (a_cons (e_var 11) a_nil)))))))
          s_nil)
        (s_one (s_ret (e_tup (a_cons (e_var 12) (a_cons (e_var 8) (a_cons (e_call F_law_pick (hr.mono (j := 2) (Nat.le_trans (by decide : _ ≤ 3) (Nat.le_add_right _ _))) (a_cons (e_var 0) (a_cons (e_var 10) a_nil))) (a_cons (e_var 9) (a_cons (e_var 11) a_nil))))))))))))))
      s_nil)
    (s_cons (s_asg 10 nd (e_tuple B.tuple_ (e_sortTp rfl B.sorted_ (e_addG (e_var 2) (e_tup (a_cons (e_var 6) a_nil))))))
    (s_one (s_ret (e_tup (a_cons e_str (a_cons (e_var 2) (a_cons (e_call F_law_question (hr.mono (j := 3 + n) (Nat.le_refl _)) (a_cons (e_var 0) (a_cons (e_var 1) (a_cons (e_var 10) (a_cons (e_var 3) (a_cons (e_var 4) (a_cons (e_sub (e_var 5) e_int) a_nil))))))) a_nil))))))))))) (pure_law_grouped n)
end
set_option maxHeartbeats 0 in
theorem all_mk {l : PySem.W.OpenLaw} {w : World} {K : PySem.W.Frag} {h : Heap} {mg : Str → Option Value} {fa f0 f1 f2 f3 f4 f5 f6 f7 f8 f9 f10 f11 f12 f13 f14 f15 f16 f17 f18 f19 f20 f21 f22 f23 f24 f25 f26 f27 f28 f29 f30 f31 f32 : Addr} (X : K.In h) (G : h.Ns mainGlobals mg) (hfa : mg "law" = some (.ref fa))
    {od0 an0 od1 an1 od2 an2 od3 an3 od4 an4 od5 an5 od6 an6 od7 an7 od8 an8 od9 an9 od10 an10 od11 an11 od12 an12 od13 an13 od14 an14 od15 an15 od16 an16 od17 an17 od18 an18 od19 an19 od20 an20 od21 an21 od22 an22 od23 an23 od24 an24 od25 an25 od26 an26 od27 an27 od28 an28 od29 an29 od30 an30 od31 an31 od32 an32 : Option Addr} {sl0 sl1 sl2 sl3 sl4 sl5 sl6 sl7 sl8 sl9 sl10 sl11 sl12 sl13 sl14 sl15 sl16 sl17 sl18 sl19 sl20 sl21 sl22 sl23 sl24 sl25 sl26 sl27 sl28 sl29 sl30 sl31 sl32 : Array (Option Value)} {oc0 kV0 dc0 pm0 cd0 ct0 oc1 kV1 dc1 pm1 cd1 ct1 oc2 kV2 dc2 pm2 cd2 ct2 oc3 kV3 dc3 pm3 cd3 ct3 oc4 kV4 dc4 pm4 cd4 ct4 oc5 kV5 dc5 pm5 cd5 ct5 oc6 kV6 dc6 pm6 cd6 ct6 oc7 kV7 dc7 pm7 cd7 ct7 oc8 kV8 dc8 pm8 cd8 ct8 oc9 kV9 dc9 pm9 cd9 ct9 oc10 kV10 dc10 pm10 cd10 ct10 oc11 kV11 dc11 pm11 cd11 ct11 oc12 kV12 dc12 pm12 cd12 ct12 oc13 kV13 dc13 pm13 cd13 ct13 oc14 kV14 dc14 pm14 cd14 ct14 oc15 kV15 dc15 pm15 cd15 ct15 oc16 kV16 dc16 pm16 cd16 ct16 oc17 kV17 dc17 pm17 cd17 ct17 oc18 kV18 dc18 pm18 cd18 ct18 oc19 kV19 dc19 pm19 cd19 ct19 oc20 kV20 dc20 pm20 cd20 ct20 oc21 kV21 dc21 pm21 cd21 ct21 oc22 kV22 dc22 pm22 cd22 ct22 oc23 kV23 dc23 pm23 cd23 ct23 oc24 kV24 dc24 pm24 cd24 ct24 oc25 kV25 dc25 pm25 cd25 ct25 oc26 kV26 dc26 pm26 cd26 ct26 oc27 kV27 dc27 pm27 cd27 ct27 oc28 kV28 dc28 pm28 cd28 ct28 oc29 kV29 dc29 pm29 cd29 ct29 oc30 kV30 dc30 pm30 cd30 ct30 oc31 kV31 dc31 pm31 cd31 ct31 oc32 kV32 dc32 pm32 cd32 ct32 : Value}
    (a0 : PySem.W.nsIn K mainGlobals "given_row" = some (some (.ref f0))) (l0 : K.lookup f0 = some ⟨oc0, od0, .func (PySem.W.fnOf "given_row" "given_row" (defArgs s_given_row) (defBody s_given_row) (defScope s_given_row) .none kV0 dc0 pm0 an0 cd0 ct0), sl0⟩) (c0 : PySem.W.codeIn K cd0 "given_row" = true) (k0 : PySem.W.keepIn K (.ref f0) = true)
    (a1 : PySem.W.nsIn K mainGlobals "parts_of" = some (some (.ref f1))) (l1 : K.lookup f1 = some ⟨oc1, od1, .func (PySem.W.fnOf "parts_of" "parts_of" (defArgs s_parts_of) (defBody s_parts_of) (defScope s_parts_of) .none kV1 dc1 pm1 an1 cd1 ct1), sl1⟩) (c1 : PySem.W.codeIn K cd1 "parts_of" = true) (k1 : PySem.W.keepIn K (.ref f1) = true)
    (a2 : PySem.W.nsIn K mainGlobals "joined_bound" = some (some (.ref f2))) (l2 : K.lookup f2 = some ⟨oc2, od2, .func (PySem.W.fnOf "joined_bound" "joined_bound" (defArgs s_joined_bound) (defBody s_joined_bound) (defScope s_joined_bound) .none kV2 dc2 pm2 an2 cd2 ct2), sl2⟩) (c2 : PySem.W.codeIn K cd2 "joined_bound" = true) (k2 : PySem.W.keepIn K (.ref f2) = true)
    (a3 : PySem.W.nsIn K mainGlobals "hull" = some (some (.ref f3))) (l3 : K.lookup f3 = some ⟨oc3, od3, .func (PySem.W.fnOf "hull" "hull" (defArgs s_hull) (defBody s_hull) (defScope s_hull) .none kV3 dc3 pm3 an3 cd3 ct3), sl3⟩) (c3 : PySem.W.codeIn K cd3 "hull" = true) (k3 : PySem.W.keepIn K (.ref f3) = true)
    (a4 : PySem.W.nsIn K mainGlobals "moved_span" = some (some (.ref f4))) (l4 : K.lookup f4 = some ⟨oc4, od4, .func (PySem.W.fnOf "moved_span" "moved_span" (defArgs s_moved_span) (defBody s_moved_span) (defScope s_moved_span) .none kV4 dc4 pm4 an4 cd4 ct4), sl4⟩) (c4 : PySem.W.codeIn K cd4 "moved_span" = true) (k4 : PySem.W.keepIn K (.ref f4) = true)
    (a5 : PySem.W.nsIn K mainGlobals "moved_ends" = some (some (.ref f5))) (l5 : K.lookup f5 = some ⟨oc5, od5, .func (PySem.W.fnOf "moved_ends" "moved_ends" (defArgs s_moved_ends) (defBody s_moved_ends) (defScope s_moved_ends) .none kV5 dc5 pm5 an5 cd5 ct5), sl5⟩) (c5 : PySem.W.codeIn K cd5 "moved_ends" = true) (k5 : PySem.W.keepIn K (.ref f5) = true)
    (a6 : PySem.W.nsIn K mainGlobals "question_span" = some (some (.ref f6))) (l6 : K.lookup f6 = some ⟨oc6, od6, .func (PySem.W.fnOf "question_span" "question_span" (defArgs s_question_span) (defBody s_question_span) (defScope s_question_span) .none kV6 dc6 pm6 an6 cd6 ct6), sl6⟩) (c6 : PySem.W.codeIn K cd6 "question_span" = true) (k6 : PySem.W.keepIn K (.ref f6) = true)
    (a7 : PySem.W.nsIn K mainGlobals "_law_draws" = some (some (.ref f7))) (l7 : K.lookup f7 = some ⟨oc7, od7, .func (PySem.W.fnOf "_law_draws" "_law_draws" (defArgs s_law_draws) (defBody s_law_draws) (defScope s_law_draws) .none kV7 dc7 pm7 an7 cd7 ct7), sl7⟩) (c7 : PySem.W.codeIn K cd7 "_law_draws" = true) (k7 : PySem.W.keepIn K (.ref f7) = true)
    (a8 : PySem.W.nsIn K mainGlobals "_law_take" = some (some (.ref f8))) (l8 : K.lookup f8 = some ⟨oc8, od8, .func (PySem.W.fnOf "_law_take" "_law_take" (defArgs s_law_take) (defBody s_law_take) (defScope s_law_take) .none kV8 dc8 pm8 an8 cd8 ct8), sl8⟩) (c8 : PySem.W.codeIn K cd8 "_law_take" = true) (k8 : PySem.W.keepIn K (.ref f8) = true)
    (a9 : PySem.W.nsIn K mainGlobals "_law_pick" = some (some (.ref f9))) (l9 : K.lookup f9 = some ⟨oc9, od9, .func (PySem.W.fnOf "_law_pick" "_law_pick" (defArgs s_law_pick) (defBody s_law_pick) (defScope s_law_pick) .none kV9 dc9 pm9 an9 cd9 ct9), sl9⟩) (c9 : PySem.W.codeIn K cd9 "_law_pick" = true) (k9 : PySem.W.keepIn K (.ref f9) = true)
    (a10 : PySem.W.nsIn K mainGlobals "_law_size" = some (some (.ref f10))) (l10 : K.lookup f10 = some ⟨oc10, od10, .func (PySem.W.fnOf "_law_size" "_law_size" (defArgs s_law_size) (defBody s_law_size) (defScope s_law_size) .none kV10 dc10 pm10 an10 cd10 ct10), sl10⟩) (c10 : PySem.W.codeIn K cd10 "_law_size" = true) (k10 : PySem.W.keepIn K (.ref f10) = true)
    (a11 : PySem.W.nsIn K mainGlobals "_law_same" = some (some (.ref f11))) (l11 : K.lookup f11 = some ⟨oc11, od11, .func (PySem.W.fnOf "_law_same" "_law_same" (defArgs s_law_same) (defBody s_law_same) (defScope s_law_same) .none kV11 dc11 pm11 an11 cd11 ct11), sl11⟩) (c11 : PySem.W.codeIn K cd11 "_law_same" = true) (k11 : PySem.W.keepIn K (.ref f11) = true)
    (a12 : PySem.W.nsIn K mainGlobals "_law_pool" = some (some (.ref f12))) (l12 : K.lookup f12 = some ⟨oc12, od12, .func (PySem.W.fnOf "_law_pool" "_law_pool" (defArgs s_law_pool) (defBody s_law_pool) (defScope s_law_pool) .none kV12 dc12 pm12 an12 cd12 ct12), sl12⟩) (c12 : PySem.W.codeIn K cd12 "_law_pool" = true) (k12 : PySem.W.keepIn K (.ref f12) = true)
    (a13 : PySem.W.nsIn K mainGlobals "_law_small_cycle" = some (some (.ref f13))) (l13 : K.lookup f13 = some ⟨oc13, od13, .func (PySem.W.fnOf "_law_small_cycle" "_law_small_cycle" (defArgs s_law_small_cycle) (defBody s_law_small_cycle) (defScope s_law_small_cycle) .none kV13 dc13 pm13 an13 cd13 ct13), sl13⟩) (c13 : PySem.W.codeIn K cd13 "_law_small_cycle" = true) (k13 : PySem.W.keepIn K (.ref f13) = true)
    (a14 : PySem.W.nsIn K mainGlobals "_law_values" = some (some (.ref f14))) (l14 : K.lookup f14 = some ⟨oc14, od14, .func (PySem.W.fnOf "_law_values" "_law_values" (defArgs s_law_values) (defBody s_law_values) (defScope s_law_values) .none kV14 dc14 pm14 an14 cd14 ct14), sl14⟩) (c14 : PySem.W.codeIn K cd14 "_law_values" = true) (k14 : PySem.W.keepIn K (.ref f14) = true)
    (a15 : PySem.W.nsIn K mainGlobals "_law_value" = some (some (.ref f15))) (l15 : K.lookup f15 = some ⟨oc15, od15, .func (PySem.W.fnOf "_law_value" "_law_value" (defArgs s_law_value) (defBody s_law_value) (defScope s_law_value) .none kV15 dc15 pm15 an15 cd15 ct15), sl15⟩) (c15 : PySem.W.codeIn K cd15 "_law_value" = true) (k15 : PySem.W.keepIn K (.ref f15) = true)
    (a16 : PySem.W.nsIn K mainGlobals "_law_name" = some (some (.ref f16))) (l16 : K.lookup f16 = some ⟨oc16, od16, .func (PySem.W.fnOf "_law_name" "_law_name" (defArgs s_law_name) (defBody s_law_name) (defScope s_law_name) .none kV16 dc16 pm16 an16 cd16 ct16), sl16⟩) (c16 : PySem.W.codeIn K cd16 "_law_name" = true) (k16 : PySem.W.keepIn K (.ref f16) = true)
    (a17 : PySem.W.nsIn K mainGlobals "_law_leaf" = some (some (.ref f17))) (l17 : K.lookup f17 = some ⟨oc17, od17, .func (PySem.W.fnOf "_law_leaf" "_law_leaf" (defArgs s_law_leaf) (defBody s_law_leaf) (defScope s_law_leaf) .none kV17 dc17 pm17 an17 cd17 ct17), sl17⟩) (c17 : PySem.W.codeIn K cd17 "_law_leaf" = true) (k17 : PySem.W.keepIn K (.ref f17) = true)
    (a18 : PySem.W.nsIn K mainGlobals "_law_term" = some (some (.ref f18))) (l18 : K.lookup f18 = some ⟨oc18, od18, .func (PySem.W.fnOf "_law_term" "_law_term" (defArgs s_law_term) (defBody s_law_term) (defScope s_law_term) .none kV18 dc18 pm18 an18 cd18 ct18), sl18⟩) (c18 : PySem.W.codeIn K cd18 "_law_term" = true) (k18 : PySem.W.keepIn K (.ref f18) = true)
    (a19 : PySem.W.nsIn K mainGlobals "_law_question" = some (some (.ref f19))) (l19 : K.lookup f19 = some ⟨oc19, od19, .func (PySem.W.fnOf "_law_question" "_law_question" (defArgs s_law_question) (defBody s_law_question) (defScope s_law_question) .none kV19 dc19 pm19 an19 cd19 ct19), sl19⟩) (c19 : PySem.W.codeIn K cd19 "_law_question" = true) (k19 : PySem.W.keepIn K (.ref f19) = true)
    (a20 : PySem.W.nsIn K mainGlobals "_law_grouped" = some (some (.ref f20))) (l20 : K.lookup f20 = some ⟨oc20, od20, .func (PySem.W.fnOf "_law_grouped" "_law_grouped" (defArgs s_law_grouped) (defBody s_law_grouped) (defScope s_law_grouped) .none kV20 dc20 pm20 an20 cd20 ct20), sl20⟩) (c20 : PySem.W.codeIn K cd20 "_law_grouped" = true) (k20 : PySem.W.keepIn K (.ref f20) = true)
    (a21 : PySem.W.nsIn K mainGlobals "_law_is_pair" = some (some (.ref f21))) (l21 : K.lookup f21 = some ⟨oc21, od21, .func (PySem.W.fnOf "_law_is_pair" "_law_is_pair" (defArgs s_law_is_pair) (defBody s_law_is_pair) (defScope s_law_is_pair) .none kV21 dc21 pm21 an21 cd21 ct21), sl21⟩) (c21 : PySem.W.codeIn K cd21 "_law_is_pair" = true) (k21 : PySem.W.keepIn K (.ref f21) = true)
    (a22 : PySem.W.nsIn K mainGlobals "_law_columns" = some (some (.ref f22))) (l22 : K.lookup f22 = some ⟨oc22, od22, .func (PySem.W.fnOf "_law_columns" "_law_columns" (defArgs s_law_columns_f) (defBody s_law_columns_f) (defScope s_law_columns_f) .none kV22 dc22 pm22 an22 cd22 ct22), sl22⟩) (c22 : PySem.W.codeIn K cd22 "_law_columns" = true) (k22 : PySem.W.keepIn K (.ref f22) = true)
    (a23 : PySem.W.nsIn K mainGlobals "_law_term_value" = some (some (.ref f23))) (l23 : K.lookup f23 = some ⟨oc23, od23, .func (PySem.W.fnOf "_law_term_value" "_law_term_value" (defArgs s_law_term_value) (defBody s_law_term_value) (defScope s_law_term_value) .none kV23 dc23 pm23 an23 cd23 ct23), sl23⟩) (c23 : PySem.W.codeIn K cd23 "_law_term_value" = true) (k23 : PySem.W.keepIn K (.ref f23) = true)
    (a24 : PySem.W.nsIn K mainGlobals "_law_match" = some (some (.ref f24))) (l24 : K.lookup f24 = some ⟨oc24, od24, .func (PySem.W.fnOf "_law_match" "_law_match" (defArgs s_law_match) (defBody s_law_match) (defScope s_law_match) .none kV24 dc24 pm24 an24 cd24 ct24), sl24⟩) (c24 : PySem.W.codeIn K cd24 "_law_match" = true) (k24 : PySem.W.keepIn K (.ref f24) = true)
    (a25 : PySem.W.nsIn K mainGlobals "_law_world" = some (some (.ref f25))) (l25 : K.lookup f25 = some ⟨oc25, od25, .func (PySem.W.fnOf "_law_world" "_law_world" (defArgs s_law_world) (defBody s_law_world) (defScope s_law_world) .none kV25 dc25 pm25 an25 cd25 ct25), sl25⟩) (c25 : PySem.W.codeIn K cd25 "_law_world" = true) (k25 : PySem.W.keepIn K (.ref f25) = true)
    (a26 : PySem.W.nsIn K mainGlobals "_law_asked" = some (some (.ref f26))) (l26 : K.lookup f26 = some ⟨oc26, od26, .func (PySem.W.fnOf "_law_asked" "_law_asked" (defArgs s_law_asked) (defBody s_law_asked) (defScope s_law_asked) .none kV26 dc26 pm26 an26 cd26 ct26), sl26⟩) (c26 : PySem.W.codeIn K cd26 "_law_asked" = true) (k26 : PySem.W.keepIn K (.ref f26) = true)
    (a27 : PySem.W.nsIn K mainGlobals "_law_leaves" = some (some (.ref f27))) (l27 : K.lookup f27 = some ⟨oc27, od27, .func (PySem.W.fnOf "_law_leaves" "_law_leaves" (defArgs s_law_leaves) (defBody s_law_leaves) (defScope s_law_leaves) .none kV27 dc27 pm27 an27 cd27 ct27), sl27⟩) (c27 : PySem.W.codeIn K cd27 "_law_leaves" = true) (k27 : PySem.W.keepIn K (.ref f27) = true)
    (a28 : PySem.W.nsIn K mainGlobals "_law_change" = some (some (.ref f28))) (l28 : K.lookup f28 = some ⟨oc28, od28, .func (PySem.W.fnOf "_law_change" "_law_change" (defArgs s_law_change) (defBody s_law_change) (defScope s_law_change) .none kV28 dc28 pm28 an28 cd28 ct28), sl28⟩) (c28 : PySem.W.codeIn K cd28 "_law_change" = true) (k28 : PySem.W.keepIn K (.ref f28) = true)
    (a29 : PySem.W.nsIn K mainGlobals "_law_around" = some (some (.ref f29))) (l29 : K.lookup f29 = some ⟨oc29, od29, .func (PySem.W.fnOf "_law_around" "_law_around" (defArgs s_law_around) (defBody s_law_around) (defScope s_law_around) .none kV29 dc29 pm29 an29 cd29 ct29), sl29⟩) (c29 : PySem.W.codeIn K cd29 "_law_around" = true) (k29 : PySem.W.keepIn K (.ref f29) = true)
    (a30 : PySem.W.nsIn K mainGlobals "_law_moved" = some (some (.ref f30))) (l30 : K.lookup f30 = some ⟨oc30, od30, .func (PySem.W.fnOf "_law_moved" "_law_moved" (defArgs s_law_moved) (defBody s_law_moved) (defScope s_law_moved) .none kV30 dc30 pm30 an30 cd30 ct30), sl30⟩) (c30 : PySem.W.codeIn K cd30 "_law_moved" = true) (k30 : PySem.W.keepIn K (.ref f30) = true)
    (a31 : PySem.W.nsIn K mainGlobals "_law_due" = some (some (.ref f31))) (l31 : K.lookup f31 = some ⟨oc31, od31, .func (PySem.W.fnOf "_law_due" "_law_due" (defArgs s_law_due) (defBody s_law_due) (defScope s_law_due) .none kV31 dc31 pm31 an31 cd31 ct31), sl31⟩) (c31 : PySem.W.codeIn K cd31 "_law_due" = true) (k31 : PySem.W.keepIn K (.ref f31) = true)
    (a32 : PySem.W.nsIn K mainGlobals "law" = some (some (.ref f32))) (l32 : K.lookup f32 = some ⟨oc32, od32, .func (PySem.W.fnOf "law" "law" (defArgs s_law) (defBody s_law) (defScope s_law) .none kV32 dc32 pm32 an32 cd32 ct32), sl32⟩) (c32 : PySem.W.codeIn K cd32 "law" = true) (k32 : PySem.W.keepIn K (.ref f32) = true)
    (z0 : PySem.W.nsIn K mainGlobals "len" = some none) (z1 : PySem.W.nsIn K mainGlobals "range" = some none) (z2 : PySem.W.nsIn K mainGlobals "int" = some none) (z3 : PySem.W.nsIn K mainGlobals "abs" = some none) (z4 : PySem.W.nsIn K mainGlobals "list" = some none) (z5 : PySem.W.nsIn K mainGlobals "tuple" = some none) (z6 : PySem.W.nsIn K mainGlobals "sum" = some none) (z7 : PySem.W.nsIn K mainGlobals "any" = some none) (z8 : PySem.W.nsIn K mainGlobals "sorted" = some none) (z9 : PySem.W.nsIn K mainGlobals "max" = some none) (z10 : PySem.W.nsIn K mainGlobals "min" = some none) (z11 : PySem.W.nsIn K mainGlobals "divmod" = some none) (z12 : PySem.W.nsIn K mainGlobals "isinstance" = some none) (z13 : PySem.W.nsIn K mainGlobals "zip" = some none) (z14 : PySem.W.nsIn K mainGlobals "reversed" = some none) (z15 : PySem.W.nsIn K mainGlobals "bool" = some none) (z16 : PySem.W.nsIn K mainGlobals "str" = some none) (z17 : PySem.W.nsIn K mainGlobals "set" = some none) (z18 : PySem.W.nsIn K mainGlobals "all" = some none) (z19 : PySem.W.nsIn K mainGlobals "enumerate" = some none)  (G_ITEMS : DctT w K mg "ITEMS" tab_ITEMS) :
    ∃ fd : FuncData, (∀ (s : Shared) (v : Value), BindsTo s fd ⟨[v], []⟩ [("script", v)]) ∧ ∀ base : Heap, K.In base → base.Ns mainGlobals mg → FnOk l.prog w K mg base CX0 37 fa fd ["script"] (spOf K 1 sp_law) := by
  have e := hfa.symm.trans (PySem.W.mg_of X G a32)
  cases e
  have U0 := fun_mk (st := s_given_row) l0 c0 k0
  have U1 := fun_mk (st := s_parts_of) l1 c1 k1
  have U2 := fun_mk (st := s_joined_bound) l2 c2 k2
  have U3 := fun_mk (st := s_hull) l3 c3 k3
  have U4 := fun_mk (st := s_moved_span) l4 c4 k4
  have U5 := fun_mk (st := s_moved_ends) l5 c5 k5
  have U6 := fun_mk (st := s_question_span) l6 c6 k6
  have U7 := fun_mk (st := s_law_draws) l7 c7 k7
  have U8 := fun_mk (st := s_law_take) l8 c8 k8
  have U9 := fun_mk (st := s_law_pick) l9 c9 k9
  have U10 := fun_mk (st := s_law_size) l10 c10 k10
  have U11 := fun_mk (st := s_law_same) l11 c11 k11
  have U12 := fun_mk (st := s_law_pool) l12 c12 k12
  have U13 := fun_mk (st := s_law_small_cycle) l13 c13 k13
  have U14 := fun_mk (st := s_law_values) l14 c14 k14
  have U15 := fun_mk (st := s_law_value) l15 c15 k15
  have U16 := fun_mk (st := s_law_name) l16 c16 k16
  have U17 := fun_mk (st := s_law_leaf) l17 c17 k17
  have U18 := fun_mk (st := s_law_term) l18 c18 k18
  have U19 := fun_mk (st := s_law_question) l19 c19 k19
  have U20 := fun_mk (st := s_law_grouped) l20 c20 k20
  have U21 := fun_mk (st := s_law_is_pair) l21 c21 k21
  have U22 := fun_mk (st := s_law_columns_f) l22 c22 k22
  have U23 := fun_mk (st := s_law_term_value) l23 c23 k23
  have U24 := fun_mk (st := s_law_match) l24 c24 k24
  have U25 := fun_mk (st := s_law_world) l25 c25 k25
  have U26 := fun_mk (st := s_law_asked) l26 c26 k26
  have U27 := fun_mk (st := s_law_leaves) l27 c27 k27
  have U28 := fun_mk (st := s_law_change) l28 c28 k28
  have U29 := fun_mk (st := s_law_around) l29 c29 k29
  have U30 := fun_mk (st := s_law_moved) l30 c30 k30
  have U31 := fun_mk (st := s_law_due) l31 c31 k31
  have U32 := fun_mk (st := s_law) l32 c32 k32
  refine ⟨PySem.W.fnOf "law" "law" (defArgs s_law) (defBody s_law) (defScope s_law) .none kV32 dc32 pm32 an32 cd32 ct32, fun s v => .of_eq rfl, fun base _ _ => ?_⟩
  have B : Blt mg := ⟨PySem.W.mg_none_of X G z0, PySem.W.mg_none_of X G z1, PySem.W.mg_none_of X G z2, PySem.W.mg_none_of X G z3, PySem.W.mg_none_of X G z4, PySem.W.mg_none_of X G z5, PySem.W.mg_none_of X G z6, PySem.W.mg_none_of X G z7, PySem.W.mg_none_of X G z8, PySem.W.mg_none_of X G z9, PySem.W.mg_none_of X G z10, PySem.W.mg_none_of X G z11, PySem.W.mg_none_of X G z12, PySem.W.mg_none_of X G z13, PySem.W.mg_none_of X G z14, PySem.W.mg_none_of X G z15, PySem.W.mg_none_of X G z16, PySem.W.mg_none_of X G z17, PySem.W.mg_none_of X G z18, PySem.W.mg_none_of X G z19⟩
  have F_law_draws : FnD l.prog w K mg base 1 "_law_draws" ["script", "many"] sp_law_draws := ⟨_, _, ok_law_draws B U7, PySem.W.mg_of X G a7, (U7).kp, (U7).binds fun _ _ _ _ _ _ us hl => match us, hl with | [_, _], _ => rfl⟩
  have F_law_take : FnD l.prog w K mg base 1 "_law_take" ["draws", "many"] sp_law_take := ⟨_, _, ok_law_take B U8, PySem.W.mg_of X G a8, (U8).kp, (U8).binds fun _ _ _ _ _ _ us hl => match us, hl with | [_, _], _ => rfl⟩
  have F_law_small_cycle : FnD l.prog w K mg base 2 "_law_small_cycle" ["draws"] sp_law_small_cycle := ⟨_, _, ok_law_small_cycle B U13 F_law_take, PySem.W.mg_of X G a13, (U13).kp, (U13).binds fun _ _ _ _ _ _ us hl => match us, hl with | [_], _ => rfl⟩
  have F_law_pool : FnD l.prog w K mg base 2 "_law_pool" ["draws", "many"] sp_law_pool := ⟨_, _, ok_law_pool B U12 F_law_take, PySem.W.mg_of X G a12, (U12).kp, (U12).binds fun _ _ _ _ _ _ us hl => match us, hl with | [_, _], _ => rfl⟩
  have F_law_values : FnD l.prog w K mg base 2 "_law_values" ["draws", "words"] sp_law_values := ⟨_, _, ok_law_values B U14 F_law_take, PySem.W.mg_of X G a14, (U14).kp, (U14).binds fun _ _ _ _ _ _ us hl => match us, hl with | [_, _], _ => rfl⟩
  have F_law_world : FnD l.prog w K mg base 3 "_law_world" ["draws"] sp_law_world := ⟨_, _, ok_law_world B U25 F_law_small_cycle F_law_pool F_law_values, PySem.W.mg_of X G a25, (U25).kp, (U25).binds fun _ _ _ _ _ _ us hl => match us, hl with | [_], _ => rfl⟩
  have F_law_value : FnD l.prog w K mg base 2 "_law_value" ["draws", "values"] sp_law_value := ⟨_, _, ok_law_value B U15 F_law_take, PySem.W.mg_of X G a15, (U15).kp, (U15).binds fun _ _ _ _ _ _ us hl => match us, hl with | [_, _], _ => rfl⟩
  have F_law_name : FnD l.prog w K mg base 2 "_law_name" ["draws", "names"] sp_law_name := ⟨_, _, ok_law_name B U16 F_law_take, PySem.W.mg_of X G a16, (U16).kp, (U16).binds fun _ _ _ _ _ _ us hl => match us, hl with | [_, _], _ => rfl⟩
  have F_law_leaf : FnD l.prog w K mg base 3 "_law_leaf" ["draws", "names", "columns", "values"] sp_law_leaf := ⟨_, _, ok_law_leaf B U17 F_law_take F_law_value F_law_name, PySem.W.mg_of X G a17, (U17).kp, (U17).binds fun _ _ _ _ _ _ us hl => match us, hl with | [_, _, _, _], _ => rfl⟩
  have F_law_pick : FnD l.prog w K mg base 2 "_law_pick" ["draws", "row"] sp_law_pick := ⟨_, _, ok_law_pick B U9 F_law_take, PySem.W.mg_of X G a9, (U9).kp, (U9).binds fun _ _ _ _ _ _ us hl => match us, hl with | [_, _], _ => rfl⟩
  have F_law_term : FnD l.prog w K mg base 3 "_law_term" ["draws", "columns", "values"] sp_law_term := ⟨_, _, ok_law_term B U18 F_law_take F_law_pick, PySem.W.mg_of X G a18, (U18).kp, (U18).binds fun _ _ _ _ _ _ us hl => match us, hl with | [_, _, _], _ => rfl⟩
  have Gr_law_question := okg_law_question (P := l.prog) (w := w) (base := base) B U19 (PySem.W.mg_of X G a19) U20 (PySem.W.mg_of X G a20) F_law_leaf F_law_take F_law_term F_law_pick 32
  have F_law_question : FnD l.prog w K mg base 35 "_law_question" ["draws", "names", "columns", "pool", "values", "depth"] (spn_law_question 32) := ⟨_, _, Gr_law_question.1, PySem.W.mg_of X G a19, (U19).kp, (U19).binds fun _ _ _ _ _ _ us hl => match us, hl with | [_, _, _, _, _, _], _ => rfl⟩
  have F_law_grouped : FnD l.prog w K mg base 35 "_law_grouped" ["draws", "names", "columns", "pool", "values", "depth"] (spn_law_grouped 32) := ⟨_, _, Gr_law_question.2, PySem.W.mg_of X G a20, (U20).kp, (U20).binds fun _ _ _ _ _ _ us hl => match us, hl with | [_, _, _, _, _, _], _ => rfl⟩
  have F_law_is_pair : FnD l.prog w K mg base 1 "_law_is_pair" ["kind"] sp_law_is_pair := ⟨_, _, ok_law_is_pair B U21, PySem.W.mg_of X G a21, (U21).kp, (U21).binds fun _ _ _ _ _ _ us hl => match us, hl with | [_], _ => rfl⟩
  have F_law_leaves : FnD l.prog w K mg base 17 "_law_leaves" ["question"] sp_law_leaves := ⟨_, _, ok_law_leaves B U27 (PySem.W.mg_of X G a27) F_law_is_pair, PySem.W.mg_of X G a27, (U27).kp, (U27).binds fun _ _ _ _ _ _ us hl => match us, hl with | [_], _ => rfl⟩
  have F_law_asked : FnD l.prog w K mg base 36 "_law_asked" ["draws", "world", "depth"] sp_law_asked := ⟨_, _, ok_law_asked B U26 F_law_take F_law_question F_law_leaves, PySem.W.mg_of X G a26, (U26).kp, (U26).binds fun _ _ _ _ _ _ us hl => match us, hl with | [_, _, _], _ => rfl⟩
  have F_law_size : FnD l.prog w K mg base 2 "_law_size" ["draws", "script"] sp_law_size := ⟨_, _, ok_law_size B U10 F_law_take, PySem.W.mg_of X G a10, (U10).kp, (U10).binds fun _ _ _ _ _ _ us hl => match us, hl with | [_, _], _ => rfl⟩
  have F_law_change : FnD l.prog w K mg base 3 "_law_change" ["draws", "script", "world"] sp_law_change := ⟨_, _, ok_law_change B U28 F_law_take F_law_pick F_law_size, PySem.W.mg_of X G a28, (U28).kp, (U28).binds fun _ _ _ _ _ _ us hl => match us, hl with | [_, _, _], _ => rfl⟩
  have F_law_same : FnD l.prog w K mg base 8 "_law_same" ["actual", "due"] sp_law_same := ⟨_, _, ok_law_same B U11 (PySem.W.mg_of X G a11), PySem.W.mg_of X G a11, (U11).kp, (U11).binds fun _ _ _ _ _ _ us hl => match us, hl with | [_, _], _ => rfl⟩
  have F_hull : FnD l.prog w K mg base 1 "hull" ["spans"] sp_hull := ⟨_, _, ok_hull B U3, PySem.W.mg_of X G a3, (U3).kp, (U3).binds fun _ _ _ _ _ _ us hl => match us, hl with | [_], _ => rfl⟩
  have F_given_row : FnD l.prog w K mg base 1 "given_row" ["terms", "row"] sp_given_row := ⟨_, _, ok_given_row B U0, PySem.W.mg_of X G a0, (U0).kp, (U0).binds fun _ _ _ _ _ _ us hl => match us, hl with | [_, _], _ => rfl⟩
  have F_joined_bound : FnD l.prog w K mg base 1 "joined_bound" ["one", "other"] sp_joined_bound := ⟨_, _, ok_joined_bound B U2, PySem.W.mg_of X G a2, (U2).kp, (U2).binds fun _ _ _ _ _ _ us hl => match us, hl with | [_, _], _ => rfl⟩
  have F_moved_ends : FnD l.prog w K mg base 2 "moved_ends" ["question", "low", "high"] sp_moved_ends := ⟨_, _, ok_moved_ends B U5 F_joined_bound, PySem.W.mg_of X G a5, (U5).kp, (U5).binds fun _ _ _ _ _ _ us hl => match us, hl with | [_, _, _], _ => rfl⟩
  have F_moved_span : FnD l.prog w K mg base 3 "moved_span" ["question", "span"] sp_moved_span := ⟨_, _, ok_moved_span B U4 F_moved_ends, PySem.W.mg_of X G a4, (U4).kp, (U4).binds fun _ _ _ _ _ _ us hl => match us, hl with | [_, _], _ => rfl⟩
  have F_parts_of : FnD l.prog w K mg base 1 "parts_of" ["question"] sp_parts_of := ⟨_, _, ok_parts_of B U1 G_ITEMS, PySem.W.mg_of X G a1, (U1).kp, (U1).binds fun _ _ _ _ _ _ us hl => match us, hl with | [_], _ => rfl⟩
  have F_question_span : FnD l.prog w K mg base 19 "question_span" ["question", "changes"] sp_question_span := ⟨_, _, ok_question_span B U6 (PySem.W.mg_of X G a6) F_hull F_given_row F_moved_span F_parts_of, PySem.W.mg_of X G a6, (U6).kp, (U6).binds fun _ _ _ _ _ _ us hl => match us, hl with | [_, _], _ => rfl⟩
  have F_law_columns_f : FnD l.prog w K mg base 16 "_law_columns" ["question"] sp_law_columns_f := ⟨_, _, ok_law_columns_f B U22 (PySem.W.mg_of X G a22), PySem.W.mg_of X G a22, (U22).kp, (U22).binds fun _ _ _ _ _ _ us hl => match us, hl with | [_], _ => rfl⟩
  have F_law_term_value : FnD l.prog w K mg base 1 "_law_term_value" ["columns", "row", "term"] sp_law_term_value := ⟨_, _, ok_law_term_value B U23, PySem.W.mg_of X G a23, (U23).kp, (U23).binds fun _ _ _ _ _ _ us hl => match us, hl with | [_, _, _], _ => rfl⟩
  have F_law_match : FnD l.prog w K mg base 2 "_law_match" ["terms", "columns", "row"] sp_law_match := ⟨_, _, ok_law_match B U24 F_law_term_value, PySem.W.mg_of X G a24, (U24).kp, (U24).binds fun _ _ _ _ _ _ us hl => match us, hl with | [_, _, _], _ => rfl⟩
  have F_law_around : FnD l.prog w K mg base 1 "_law_around" ["one", "other"] sp_law_around := ⟨_, _, ok_law_around B U29, PySem.W.mg_of X G a29, (U29).kp, (U29).binds fun _ _ _ _ _ _ us hl => match us, hl with | [_, _], _ => rfl⟩
  have F_law_moved : FnD l.prog w K mg base 1 "_law_moved" ["question", "span"] sp_law_moved := ⟨_, _, ok_law_moved B U30, PySem.W.mg_of X G a30, (U30).kp, (U30).binds fun _ _ _ _ _ _ us hl => match us, hl with | [_, _], _ => rfl⟩
  have F_law_due : FnD l.prog w K mg base 32 "_law_due" ["question", "changes"] sp_law_due := ⟨_, _, ok_law_due B U31 (PySem.W.mg_of X G a31) F_law_columns_f F_law_match F_law_around F_law_moved, PySem.W.mg_of X G a31, (U31).kp, (U31).binds fun _ _ _ _ _ _ us hl => match us, hl with | [_, _], _ => rfl⟩
  exact ok_law (P := l.prog) (w := w) (base := base) B U32 F_law_draws F_law_world F_law_asked F_law_take F_law_change F_law_same F_question_span F_law_due
end Lw
open PySem PySem.W PyProof.Rows
set_option maxHeartbeats 0 in
theorem PySem.Challenge.cw_ateverymoment_k78_spans_of_questions_holds : PySem.Challenge.rw_ateverymoment_k78_spans_of_questions.Holds := by
  w_on; o_law; k_head; (case hw => w_witness2)
  k_fill
  refine L2.walk_of (l := PySem.Challenge.rw_ateverymoment_k78_spans_of_questions) (n := 63) (k := 37) (x := "script") (CX := fun _ => L2.CX0) (sp := fun w => DL.spOf _ 1 DL.sp_law) rfl (by decide) rfl ⟨rfl, by decide, by decide⟩ (fun w h Y => PySem.W.kIn_of Y) ?F (fun _ H a ns hl hO hS => DL.law_start hl hO hS) (fun _ _ _ _ _ h => h)
  case F =>
    intro w mg fa h KX G hmg
    refine' Lw.all_mk KX G hmg ?a0 ?l0 ?c0 ?k0 ?a1 ?l1 ?c1 ?k1 ?a2 ?l2 ?c2 ?k2 ?a3 ?l3 ?c3 ?k3 ?a4 ?l4 ?c4 ?k4 ?a5 ?l5 ?c5 ?k5 ?a6 ?l6 ?c6 ?k6 ?a7 ?l7 ?c7 ?k7 ?a8 ?l8 ?c8 ?k8 ?a9 ?l9 ?c9 ?k9 ?a10 ?l10 ?c10 ?k10 ?a11 ?l11 ?c11 ?k11 ?a12 ?l12 ?c12 ?k12 ?a13 ?l13 ?c13 ?k13 ?a14 ?l14 ?c14 ?k14 ?a15 ?l15 ?c15 ?k15 ?a16 ?l16 ?c16 ?k16 ?a17 ?l17 ?c17 ?k17 ?a18 ?l18 ?c18 ?k18 ?a19 ?l19 ?c19 ?k19 ?a20 ?l20 ?c20 ?k20 ?a21 ?l21 ?c21 ?k21 ?a22 ?l22 ?c22 ?k22 ?a23 ?l23 ?c23 ?k23 ?a24 ?l24 ?c24 ?k24 ?a25 ?l25 ?c25 ?k25 ?a26 ?l26 ?c26 ?k26 ?a27 ?l27 ?c27 ?k27 ?a28 ?l28 ?c28 ?k28 ?a29 ?l29 ?c29 ?k29 ?a30 ?l30 ?c30 ?k30 ?a31 ?l31 ?c31 ?k31 ?a32 ?l32 ?c32 ?k32 ?z0 ?z1 ?z2 ?z3 ?z4 ?z5 ?z6 ?z7 ?z8 ?z9 ?z10 ?z11 ?z12 ?z13 ?z14 ?z15 ?z16 ?z17 ?z18 ?z19 ?G_ITEMS
    (case a0 => k_is); (case l0 => k_is); (case c0 => k_is); (case k0 => k_is); (case a1 => k_is); (case l1 => k_is); (case c1 => k_is); (case k1 => k_is); (case a2 => k_is); (case l2 => k_is); (case c2 => k_is); (case k2 => k_is); (case a3 => k_is); (case l3 => k_is); (case c3 => k_is); (case k3 => k_is); (case a4 => k_is); (case l4 => k_is); (case c4 => k_is); (case k4 => k_is); (case a5 => k_is); (case l5 => k_is); (case c5 => k_is); (case k5 => k_is); (case a6 => k_is); (case l6 => k_is); (case c6 => k_is); (case k6 => k_is); (case a7 => k_is); (case l7 => k_is); (case c7 => k_is); (case k7 => k_is); (case a8 => k_is); (case l8 => k_is); (case c8 => k_is); (case k8 => k_is); (case a9 => k_is); (case l9 => k_is); (case c9 => k_is); (case k9 => k_is); (case a10 => k_is); (case l10 => k_is); (case c10 => k_is); (case k10 => k_is); (case a11 => k_is); (case l11 => k_is); (case c11 => k_is); (case k11 => k_is); (case a12 => k_is); (case l12 => k_is); (case c12 => k_is); (case k12 => k_is); (case a13 => k_is); (case l13 => k_is); (case c13 => k_is); (case k13 => k_is); (case a14 => k_is); (case l14 => k_is); (case c14 => k_is); (case k14 => k_is); (case a15 => k_is); (case l15 => k_is); (case c15 => k_is); (case k15 => k_is); (case a16 => k_is); (case l16 => k_is); (case c16 => k_is); (case k16 => k_is); (case a17 => k_is); (case l17 => k_is); (case c17 => k_is); (case k17 => k_is); (case a18 => k_is); (case l18 => k_is); (case c18 => k_is); (case k18 => k_is); (case a19 => k_is); (case l19 => k_is); (case c19 => k_is); (case k19 => k_is); (case a20 => k_is); (case l20 => k_is); (case c20 => k_is); (case k20 => k_is); (case a21 => k_is); (case l21 => k_is); (case c21 => k_is); (case k21 => k_is); (case a22 => k_is); (case l22 => k_is); (case c22 => k_is); (case k22 => k_is); (case a23 => k_is); (case l23 => k_is); (case c23 => k_is); (case k23 => k_is); (case a24 => k_is); (case l24 => k_is); (case c24 => k_is); (case k24 => k_is); (case a25 => k_is); (case l25 => k_is); (case c25 => k_is); (case k25 => k_is); (case a26 => k_is); (case l26 => k_is); (case c26 => k_is); (case k26 => k_is); (case a27 => k_is); (case l27 => k_is); (case c27 => k_is); (case k27 => k_is); (case a28 => k_is); (case l28 => k_is); (case c28 => k_is); (case k28 => k_is); (case a29 => k_is); (case l29 => k_is); (case c29 => k_is); (case k29 => k_is); (case a30 => k_is); (case l30 => k_is); (case c30 => k_is); (case k30 => k_is); (case a31 => k_is); (case l31 => k_is); (case c31 => k_is); (case k31 => k_is); (case a32 => k_is); (case l32 => k_is); (case c32 => k_is); (case k32 => k_is); (case z0 => k_is); (case z1 => k_is); (case z2 => k_is); (case z3 => k_is); (case z4 => k_is); (case z5 => k_is); (case z6 => k_is); (case z7 => k_is); (case z8 => k_is); (case z9 => k_is); (case z10 => k_is); (case z11 => k_is); (case z12 => k_is); (case z13 => k_is); (case z14 => k_is); (case z15 => k_is); (case z16 => k_is); (case z17 => k_is); (case z18 => k_is); (case z19 => k_is); (case G_ITEMS => (refine' DL.DctT.mk' (PySem.W.mg_of KX G ?y) ?l ?k ?al; (case y => k_is); (case l => k_is); (case k => k_keys); (case al => ((refine' DL.AllT.cons' ?i0 ?e0 ?r0; (case i0 => k_is); (case e0 => (refine' DL.TupT.mk' ?lk ?oc ?on ?od ?sz ?vs; (case lk => k_is); (case oc => rfl); (case on => rfl); (case od => rfl); (case sz => decide); (case vs => exact ⟨rfl, rfl, True.intro⟩)))); (refine' DL.AllT.cons' ?i1 ?e1 ?r1; (case i1 => k_is); (case e1 => (refine' DL.TupT.mk' ?lk ?oc ?on ?od ?sz ?vs; (case lk => k_is); (case oc => rfl); (case on => rfl); (case od => rfl); (case sz => decide); (case vs => exact ⟨rfl, rfl, True.intro⟩)))); (refine' DL.AllT.cons' ?i2 ?e2 ?r2; (case i2 => k_is); (case e2 => (refine' DL.TupT.mk' ?lk ?oc ?on ?od ?sz ?vs; (case lk => k_is); (case oc => rfl); (case on => rfl); (case od => rfl); (case sz => decide); (case vs => exact ⟨rfl, rfl, True.intro⟩)))); (refine' DL.AllT.cons' ?i3 ?e3 ?r3; (case i3 => k_is); (case e3 => (refine' DL.TupT.mk' ?lk ?oc ?on ?od ?sz ?vs; (case lk => k_is); (case oc => rfl); (case on => rfl); (case od => rfl); (case sz => decide); (case vs => exact ⟨rfl, rfl, True.intro⟩)))); (refine' DL.AllT.cons' ?i4 ?e4 ?r4; (case i4 => k_is); (case e4 => (refine' DL.TupT.mk' ?lk ?oc ?on ?od ?sz ?vs; (case lk => k_is); (case oc => rfl); (case on => rfl); (case od => rfl); (case sz => decide); (case vs => exact ⟨rfl, rfl, True.intro⟩)))); (refine' DL.AllT.cons' ?i5 ?e5 ?r5; (case i5 => k_is); (case e5 => (refine' DL.TupT.mk' ?lk ?oc ?on ?od ?sz ?vs; (case lk => k_is); (case oc => rfl); (case on => rfl); (case od => rfl); (case sz => decide); (case vs => exact ⟨rfl, rfl, rfl, rfl, True.intro⟩)))); (refine' DL.AllT.cons' ?i6 ?e6 ?r6; (case i6 => k_is); (case e6 => (refine' DL.TupT.mk' ?lk ?oc ?on ?od ?sz ?vs; (case lk => k_is); (case oc => rfl); (case on => rfl); (case od => rfl); (case sz => decide); (case vs => exact ⟨rfl, rfl, True.intro⟩)))); (refine' DL.AllT.cons' ?i7 ?e7 ?r7; (case i7 => k_is); (case e7 => (refine' DL.TupT.mk' ?lk ?oc ?on ?od ?sz ?vs; (case lk => k_is); (case oc => rfl); (case on => rfl); (case od => rfl); (case sz => decide); (case vs => exact ⟨rfl, rfl, True.intro⟩)))); (refine' DL.AllT.cons' ?i8 ?e8 ?r8; (case i8 => k_is); (case e8 => (refine' DL.TupT.mk' ?lk ?oc ?on ?od ?sz ?vs; (case lk => k_is); (case oc => rfl); (case on => rfl); (case od => rfl); (case sz => decide); (case vs => exact ⟨rfl, rfl, True.intro⟩)))); (refine' DL.AllT.cons' ?i9 ?e9 ?r9; (case i9 => k_is); (case e9 => (refine' DL.TupT.mk' ?lk ?oc ?on ?od ?sz ?vs; (case lk => k_is); (case oc => rfl); (case on => rfl); (case od => rfl); (case sz => decide); (case vs => exact ⟨rfl, rfl, True.intro⟩)))); (refine' DL.AllT.cons' ?i10 ?e10 ?r10; (case i10 => k_is); (case e10 => (refine' DL.TupT.mk' ?lk ?oc ?on ?od ?sz ?vs; (case lk => k_is); (case oc => rfl); (case on => rfl); (case od => rfl); (case sz => decide); (case vs => exact ⟨rfl, rfl, True.intro⟩)))); (refine' DL.AllT.cons' ?i11 ?e11 ?r11; (case i11 => k_is); (case e11 => (refine' DL.TupT.mk' ?lk ?oc ?on ?od ?sz ?vs; (case lk => k_is); (case oc => rfl); (case on => rfl); (case od => rfl); (case sz => decide); (case vs => exact ⟨rfl, rfl, True.intro⟩)))); (refine' DL.AllT.cons' ?i12 ?e12 ?r12; (case i12 => k_is); (case e12 => (refine' DL.TupT.mk' ?lk ?oc ?on ?od ?sz ?vs; (case lk => k_is); (case oc => rfl); (case on => rfl); (case od => rfl); (case sz => decide); (case vs => exact ⟨rfl, rfl, True.intro⟩)))); (refine' DL.AllT.cons' ?i13 ?e13 ?r13; (case i13 => k_is); (case e13 => (refine' DL.TupT.mk' ?lk ?oc ?on ?od ?sz ?vs; (case lk => k_is); (case oc => rfl); (case on => rfl); (case od => rfl); (case sz => decide); (case vs => exact ⟨rfl, rfl, True.intro⟩)))); (refine' DL.AllT.cons' ?i14 ?e14 ?r14; (case i14 => k_is); (case e14 => (refine' DL.TupT.mk' ?lk ?oc ?on ?od ?sz ?vs; (case lk => k_is); (case oc => rfl); (case on => rfl); (case od => rfl); (case sz => decide); (case vs => exact ⟨rfl, rfl, True.intro⟩)))); (refine' DL.AllT.cons' ?i15 ?e15 ?r15; (case i15 => k_is); (case e15 => (refine' DL.TupT.mk' ?lk ?oc ?on ?od ?sz ?vs; (case lk => k_is); (case oc => rfl); (case on => rfl); (case od => rfl); (case sz => decide); (case vs => exact ⟨rfl, rfl, rfl, True.intro⟩)))); (refine' DL.AllT.cons' ?i16 ?e16 ?r16; (case i16 => k_is); (case e16 => (refine' DL.TupT.mk' ?lk ?oc ?on ?od ?sz ?vs; (case lk => k_is); (case oc => rfl); (case on => rfl); (case od => rfl); (case sz => decide); (case vs => exact ⟨rfl, rfl, rfl, rfl, True.intro⟩)))); (refine' DL.AllT.cons' ?i17 ?e17 ?r17; (case i17 => k_is); (case e17 => (refine' DL.TupT.mk' ?lk ?oc ?on ?od ?sz ?vs; (case lk => k_is); (case oc => rfl); (case on => rfl); (case od => rfl); (case sz => decide); (case vs => exact ⟨rfl, rfl, rfl, rfl, True.intro⟩)))); (refine' DL.AllT.cons' ?i18 ?e18 ?r18; (case i18 => k_is); (case e18 => (refine' DL.TupT.mk' ?lk ?oc ?on ?od ?sz ?vs; (case lk => k_is); (case oc => rfl); (case on => rfl); (case od => rfl); (case sz => decide); (case vs => exact ⟨rfl, rfl, rfl, rfl, True.intro⟩)))); (refine' DL.AllT.cons' ?i19 ?e19 ?r19; (case i19 => k_is); (case e19 => (refine' DL.TupT.mk' ?lk ?oc ?on ?od ?sz ?vs; (case lk => k_is); (case oc => rfl); (case on => rfl); (case od => rfl); (case sz => decide); (case vs => exact ⟨rfl, rfl, rfl, True.intro⟩)))); (refine' DL.AllT.cons' ?i20 ?e20 ?r20; (case i20 => k_is); (case e20 => (refine' DL.TupT.mk' ?lk ?oc ?on ?od ?sz ?vs; (case lk => k_is); (case oc => rfl); (case on => rfl); (case od => rfl); (case sz => decide); (case vs => exact ⟨rfl, rfl, rfl, True.intro⟩)))); exact True.intro))))