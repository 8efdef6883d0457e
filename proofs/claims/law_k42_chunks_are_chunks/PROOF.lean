import PyProof.Rows.All
import Wide.All
import OpenK.AllK
import Wide.FinOn
import KE.KStateDown
import HandS.ForMost
import HandS.Defaults
import HandS.Head0
import HandS.Head1
import HandS.Head2
import HandS.HeadEnd
import HandS.HeadHook1
import HandS.HeadHook2
import HandS.Conv
import HandS.Flow
import HandS.Exc
import HandS.ExcOwn
import HandS.WordsExc
import HandS.TryOnly
import HandS.Deep
import HandS.TupAny
import HandS.TupMul
import HandS.SortInts
import HandS.Sort
import HandS.More
import HandS.HeadHook3
import HandS.EndBits
import KE.GoesMore
import PyProof.EnumMake
import HandS.IsInst
import HandS.Small
import HandS.Strs
import HandS.SetFor
import KE.KExcIs
import HandS.ExcInit
import HandS.ExcField
import HandS.SortKw
import KE.DatumOrd
import KE.KBits
import PySem.Challenge.RW_fardesk_k42_chunks_are_chunks
set_option Elab.async false
set_option linter.all false
set_option maxRecDepth 100000
-- MHook
set_option linter.all false
set_option maxRecDepth 100000
namespace MH
open PySem PySem.Spec PyProof.Rows L2
def nsVals (g : Addr → Option Obj) (a : Addr) : List Addr := match g a with
  | some ⟨_, _, .dict es _, _⟩ => es.toList.flatMap fun e => He.refV e.val
  | _ => []
def fnRefs (o : Obj) : List Addr := match o.data with
  | .func fd => He.refV fd.code ++ He.refV fd.defaults ++ He.refV fd.kwdefaults
  | _ => []
def withCode (g : Addr → Option Obj) (m : Addr) : List Addr := m :: match g m with
  | some o => fnRefs o
  | none => []
def valRefs (g : Addr → Option Obj) (a : Addr) : List Addr := a :: match g a with
  | some o => (match o.data with
    | .cls cd => cd.ns :: ((nsVals g cd.ns).flatMap (withCode g))
    | .func fd => fnRefs o
    | .seq its _ => its.toList.flatMap He.refV
    | .dict es _ => es.toList.flatMap fun e => He.refV e.val
    | _ => [])
  | none => []
def addrs (g : Addr → Option Obj) : List Addr := mainGlobals :: (nsVals g mainGlobals).flatMap (valRefs g)
def obsG (fa : List He.Fa) (fn : List He.DefD) (g : Addr → Option Obj) : He.AlD := He.obsD fa fn (He.frG g (addrs g))
def hook (fa : List He.Fa) (fn : List He.DefD) : PySem.W.Hook where
  α := He.AlD
  obs := fun s => obsG fa fn s.heap.get?
  val := fun _ => He.valD fn
  says := fun _ h => ∃ K : PySem.W.Frag, K.In h ∧ He.SaysD fa fn K
  of := fun _ _ e => ⟨_, He.frG_in, e⟩
  keeps := fun _ _ _ ⟨K, hK, c⟩ k => ⟨K, PySem.W.Frag.In.keeps hK k, c⟩
theorem obsG_eq {fa : List He.Fa} {fn : List He.DefD} {g : Addr → Option Obj} {s : Shared} (h : ∀ a, g a = s.heap.get? a) : obsG fa fn g = (hook fa fn).obs s := by
  have e : g = s.heap.get? := funext h
  rw [e] <;> rfl
end MH

-- ML1
set_option linter.all false
set_option maxRecDepth 100000
set_option maxHeartbeats 4000000
/-! ML1: values, stores, results; what represents them. -/
namespace ML
open PySem PySem.Spec PyProof.Rows L2
inductive Val where
  | non | bl (b : Bool) | int (i : Int) | str (x : Str) | tup (xs : List Val) | lst (xs : List Val) | fzl (xs : List Val) | brw (xs : List Val) | dct (kvs : List (Key × Val)) | rng (lo hi : Int) | ref (n : Nat) | fn (x : Str)
inductive MObj where
  | lst (xs : List Val) | dct (kvs : List (Key × Val)) | ins (C : Str) (fs : List (Str × Val)) | dt (kvs : List (List Key × Val))
abbrev Store := List MObj
abbrev MEnv := List (Option Val)
inductive R (α : Type) where
  | ok (a : α) (st : Store) | exc (c : Str) (fs : Option (List (Str × Val))) (st : Store) | stuck
inductive S where
  | nx (env : MEnv) (st : Store) | rt (v : Val) (st : Store) | bk (env : MEnv) (st : Store) | ct (env : MEnv) (st : Store) | exc (c : Str) (fs : Option (List (Str × Val))) (env : MEnv) (st : Store) | stuck
def R.bind {α γ : Type} (r : R α) (k : α → Store → R γ) : R γ := match r with
  | .ok a st => k a st
  | .exc c fs st => .exc c fs st
  | .stuck => .stuck
@[simp] theorem R.bind_ok {α γ : Type} (a : α) (st : Store) (k : α → Store → R γ) : (R.ok a st).bind k = k a st := rfl
@[simp] theorem R.bind_exc {α γ : Type} (c fs) (st : Store) (k : α → Store → R γ) : (R.exc (α := α) c fs st).bind k = .exc c fs st := rfl
@[simp] theorem R.bind_stuck {α γ : Type} (k : α → Store → R γ) : (R.stuck (α := α)).bind k = .stuck := rfl
def R.bindS {α : Type} (r : R α) (env : MEnv) (k : α → Store → S) : S := match r with
  | .ok a st => k a st
  | .exc c fs st => .exc c fs env st
  | .stuck => .stuck
@[simp] theorem R.bindS_ok {α : Type} (a : α) (st : Store) (env) (k : α → Store → S) : (R.ok a st).bindS env k = k a st := rfl
@[simp] theorem R.bindS_exc {α : Type} (c fs) (st : Store) (env) (k : α → Store → S) : (R.exc (α := α) c fs st).bindS env k = .exc c fs env st := rfl
@[simp] theorem R.bindS_stuck {α : Type} (env) (k : α → Store → S) : (R.stuck (α := α)).bindS env k = .stuck := rfl

/-- the addresses of the store's objects; those of whoever called -/
structure Mp where
  own : List Addr
  fb : List Addr
  /-- those that nothing refers to -/
  bar : List Addr
def Mp.lent (m : Mp) (a : Addr) : Prop := a ∉ m.own ∧ a ∉ m.bar
def Mp.free (m : Mp) (a : Addr) : Prop := m.lent a ∧ a ∉ m.fb
def Mp.add (m : Mp) (p : Addr) : Mp := ⟨m.own ++ [p], m.fb, m.bar⟩
section
variable (K : PySem.W.Frag) (mp : Mp) (H : Hp)
/-- a list at a: one that nobody here changes -/
def RdL (a : Addr) (xs : List V) : Prop := H a = some (.lst xs) ∧ mp.free a
def RdZ (a : Addr) (xs : List V) : Prop := ((∃ o, H a = some (.frz o (.lst xs))) ∧ mp.lent a) ∨
    ∃ (o : Obj) (its : Array Value) (n : Nat), K.lookup a = some o ∧ o.cls = .type "list" ∧ o.dict = none ∧ o.data = .seq its n ∧ its.size ≤ sizeLine ∧ Vals xs its.toList
def RdB (a : Addr) (xs : List V) : Prop := H a = some (.lst xs) ∧ mp.lent a
def RdT (a : Addr) (xs : List V) : Prop := (Rd H a (.tup xs) ∧ mp.free a) ∨
    ∃ (o : Obj) (its : Array Value) (n : Nat), K.lookup a = some o ∧ o.cls = .type "tuple" ∧ o.data = .seq its n ∧ its.size ≤ sizeLine ∧ Vals xs its.toList
def RdD (a : Addr) (kvs : List (Key × V)) : Prop := Rd H a (.dK kvs) ∧ mp.free a
mutual
def RepV : Val → V → Prop
  | .non, u => u = .non
  | .bl b, u => u = .bl b
  | .int i, u => u = .int i
  | .str x, u => u = .str x
  | .tup ds, u => ∃ a xs, u = .ref a ∧ RdT K mp H a xs ∧ RepVs ds xs
  | .lst ds, u => ∃ a xs, u = .ref a ∧ RdL mp H a xs ∧ RepVs ds xs
  | .fzl ds, u => ∃ a xs, u = .ref a ∧ RdZ K mp H a xs ∧ RepVs ds xs
  | .brw ds, u => ∃ a xs, u = .ref a ∧ RdB mp H a xs ∧ RepVs ds xs
  | .rng lo hi, u => ∃ a, u = .ref a ∧ H a = some (.rng lo hi) ∧ mp.free a
  | .dct kvs, u => ∃ a xs, u = .ref a ∧ RdD mp H a xs ∧ RepK kvs xs
  | .ref n, u => ∃ a, u = .ref a ∧ mp.own[n]? = some a
  | .fn x, u => u = .ref (He.ga K x)
def RepVs : List Val → List V → Prop
  | [], xs => xs = []
  | d :: ds, xs => ∃ u us, xs = u :: us ∧ RepV d u ∧ RepVs ds us
def RepK : List (Key × Val) → List (Key × V) → Prop
  | [], xs => xs = []
  | (k, d) :: ds, xs => ∃ u us, xs = (k, u) :: us ∧ RepV d u ∧ RepK ds us
end
def RepF : List (Str × Val) → List (Str × V) → Prop
  | [], xs => xs = []
  | (k, d) :: ds, xs => ∃ u us, xs = (k, u) :: us ∧ RepV K mp H d u ∧ RepF ds us
def ObjRel (a : Addr) : MObj → Prop
  | .lst ds => ∃ xs, H a = some (.lst xs) ∧ RepVs K mp H ds xs
  | .dct kvs => ∃ xs, H a = some (.dK xs) ∧ RepK K mp H kvs xs
  | .ins C fs => ∃ dx xs, H a = some (.ins (He.ga K C) dx xs) ∧ RepF K mp H fs xs
  | .dt kvs => ∃ xs : List (List Key × V), H a = some (.dT xs) ∧ xs.map (·.1) = kvs.map (·.1) ∧ RepVs K mp H (kvs.map (·.2)) (xs.map (·.2))
structure RelS (st : Store) : Prop where
  nd : mp.own.Nodup
  len : mp.own.length = st.length
  obj : ∀ (n : Nat) (a : Addr) (o : MObj), mp.own[n]? = some a → st[n]? = some o → ObjRel K mp H a o
  old : ∀ a ∈ mp.fb, H a ≠ none
  sep : ∀ a ∈ mp.bar, a ∉ mp.own ∧ H a ≠ none
def RelO : Option Val → Option V → Prop
  | none, _ => True
  | some d, some u => RepV K mp H d u
  | some _, none => False
def RelE : MEnv → L2.St → Prop
  | [], σ => σ = []
  | e :: es, σ => ∃ u us, σ = u :: us ∧ RelO K mp H e u ∧ RelE es us
end
/-- what comes behind -/
structure Le (mp : Mp) (H : Hp) (mp' : Mp) (H' : Hp) : Prop where
  fb : mp'.fb = mp.fb
  bar : mp'.bar = mp.bar
  ext : ∃ nw, mp'.own = mp.own ++ nw ∧ ∀ a ∈ nw, H a = none
  keep : ∀ a o, H a = some o → a ∉ mp.own → H' a = some o
  dom : ∀ a, H a ≠ none → H' a ≠ none
theorem Le.refl {mp H} : Le mp H mp H := ⟨rfl, rfl, ⟨[], by simp, fun _ h => by cases h⟩, fun _ _ e _ => e, fun _ e => e⟩
theorem Le.trans {mp H mp1 H1 mp2 H2} (x : Le mp H mp1 H1) (y : Le mp1 H1 mp2 H2) : Le mp H mp2 H2 := by
  obtain ⟨b1, c1, ⟨n1, e1, f1⟩, k1, d1⟩ := x
  obtain ⟨b2, c2, ⟨n2, e2, f2⟩, k2, d2⟩ := y
  refine ⟨b2.trans b1, c2.trans c1, ⟨n1 ++ n2, by rw [e2, e1, List.append_assoc], fun a ha => ?_⟩, fun a o e ha => ?_, fun a e => d2 a (d1 a e)⟩
  · rcases List.mem_append.mp ha with h | h
    · exact f1 a h
    · cases q : H a with
      | none => rfl
      | some o => exact absurd (f2 a h) (d1 a (by rw [q]; simp))
  · refine k2 a o (k1 a o e ha) fun h => ?_
    rw [e1] at h
    rcases List.mem_append.mp h with h | h
    · exact ha h
    · rw [f1 a h] at e; cases e
section
variable {K : PySem.W.Frag} {mp mp' : Mp} {H H' : Hp}
theorem Le.notin (l : Le mp H mp' H') {a : Addr} {o : HO} (e : H a = some o) (h : a ∉ mp.own) : a ∉ mp'.own := fun z => by
  obtain ⟨nw, e1, f1⟩ := l.ext
  rw [e1] at z
  rcases List.mem_append.mp z with q | q
  · exact h q
  · rw [f1 a q] at e; cases e
theorem Le.lent (l : Le mp H mp' H') {a : Addr} {o : HO} (e : H a = some o) (h : mp.lent a) : mp'.lent a := ⟨l.notin e h.1, by rw [l.bar]; exact h.2⟩
theorem Le.free (l : Le mp H mp' H') {a : Addr} {o : HO} (e : H a = some o) (h : mp.free a) : mp'.free a := ⟨l.lent e h.1, by rw [l.fb]; exact h.2⟩
theorem Le.rd (l : Le mp H mp' H') {a u} (r : Rd H a u) (h : mp.free a) : Rd H' a u ∧ mp'.free a := by
  rcases r with s | ⟨o, s⟩
  · exact ⟨.inl (l.keep a _ s h.1.1), l.free s h⟩
  · exact ⟨.inr ⟨o, l.keep a _ s h.1.1⟩, l.free s h⟩
theorem RdL.sq {a xs} (r : RdL mp H a xs) : SqL K H a xs := .inl (.inl r.1)
theorem RdT.sq {a xs} (r : RdT K mp H a xs) : SqT K H a xs := r.elim (fun z => .inl z.1) .inr
theorem Le.rdL (l : Le mp H mp' H') {a xs} (r : RdL mp H a xs) : RdL mp' H' a xs := ⟨l.keep _ _ r.1 r.2.1.1, l.free r.1 r.2⟩
theorem Le.rdB (l : Le mp H mp' H') {a xs} (r : RdB mp H a xs) : RdB mp' H' a xs := ⟨l.keep _ _ r.1 r.2.1, l.lent r.1 r.2⟩
theorem Le.rdZ (l : Le mp H mp' H') {a xs} (r : RdZ K mp H a xs) : RdZ K mp' H' a xs := by
  rcases r with ⟨⟨o, e⟩, n⟩ | z
  · exact .inl ⟨⟨o, l.keep _ _ e n.1⟩, l.lent e n⟩
  · exact .inr z
theorem RdZ.sq {a xs} (r : RdZ K mp H a xs) : SqL K H a xs := by
  rcases r with ⟨⟨o, e⟩, n⟩ | z
  · exact .inl (.inr ⟨o, e⟩)
  · exact .inr z
theorem Le.rdT (l : Le mp H mp' H') {a xs} (r : RdT K mp H a xs) : RdT K mp' H' a xs := r.elim (fun z => .inl (l.rd z.1 z.2)) .inr
theorem Le.at (l : Le mp H mp' H') {n : Nat} {a : Addr} (r : mp.own[n]? = some a) : mp'.own[n]? = some a := by
  obtain ⟨nw, e1, f1⟩ := l.ext
  have hn : n < mp.own.length := (List.getElem?_eq_some_iff.mp r).1
  rw [e1, List.getElem?_append_left hn]; exact r
mutual
theorem Le.rep (l : Le mp H mp' H') : ∀ {d : Val} {u : V}, RepV K mp H d u → RepV K mp' H' d u
  | .non, _, h => h
  | .bl _, _, h => h
  | .int _, _, h => h
  | .str _, _, h => h
  | .tup ds, _, h => by
    unfold RepV at h ⊢
    obtain ⟨a, xs, e, r, q⟩ := h
    exact ⟨a, xs, e, l.rdT r, l.reps q⟩
  | .lst ds, _, h => by
    unfold RepV at h ⊢
    obtain ⟨a, xs, e, r, q⟩ := h
    exact ⟨a, xs, e, l.rdL r, l.reps q⟩
  | .fzl ds, _, h => by
    unfold RepV at h ⊢
    obtain ⟨a, xs, e, r, q⟩ := h
    exact ⟨a, xs, e, l.rdZ r, l.reps q⟩
  | .brw ds, _, h => by
    unfold RepV at h ⊢
    obtain ⟨a, xs, e, r, q⟩ := h
    exact ⟨a, xs, e, l.rdB r, l.reps q⟩
  | .rng lo hi, _, h => by
    unfold RepV at h ⊢
    obtain ⟨a, e, q, n⟩ := h
    exact ⟨a, e, l.keep _ _ q n.1.1, l.free q n⟩
  | .dct ds, _, h => by
    unfold RepV at h ⊢
    obtain ⟨a, xs, e, r, q⟩ := h
    exact ⟨a, xs, e, l.rd r.1 r.2, l.repk q⟩
  | .ref n, _, h => by
    unfold RepV at h ⊢
    obtain ⟨a, e, q⟩ := h
    exact ⟨a, e, l.at q⟩
  | .fn _, _, h => h
theorem Le.reps (l : Le mp H mp' H') : ∀ {d : List Val} {u : List V}, RepVs K mp H d u → RepVs K mp' H' d u
  | [], _, h => h
  | d :: ds, _, h => by
    unfold RepVs at h ⊢
    obtain ⟨a, xs, e, r, q⟩ := h
    exact ⟨a, xs, e, l.rep r, l.reps q⟩
theorem Le.repk (l : Le mp H mp' H') : ∀ {d : List (Key × Val)} {u : List (Key × V)}, RepK K mp H d u → RepK K mp' H' d u
  | [], _, h => h
  | (k, d) :: ds, _, h => by
    unfold RepK at h ⊢
    obtain ⟨a, xs, e, r, q⟩ := h
    exact ⟨a, xs, e, l.rep r, l.repk q⟩
end
theorem Le.repf (l : Le mp H mp' H') : ∀ {d : List (Str × Val)} {u : List (Str × V)}, RepF K mp H d u → RepF K mp' H' d u
  | [], _, h => h
  | (k, d) :: ds, _, h => by
    unfold RepF at h ⊢
    obtain ⟨a, xs, e, r, q⟩ := h
    exact ⟨a, xs, e, l.rep r, l.repf q⟩
theorem Le.relO (l : Le mp H mp' H') : ∀ {e : Option Val} {u : Option V}, RelO K mp H e u → RelO K mp' H' e u
  | none, _, _ => trivial
  | some _, some _, h => l.rep (show RepV K mp H _ _ from h)
  | some _, none, h => h
theorem Le.relE (l : Le mp H mp' H') : ∀ {env : MEnv} {σ : L2.St}, RelE K mp H env σ → RelE K mp' H' env σ
  | [], _, h => h
  | e :: es, _, h => by
    unfold RelE at h ⊢
    obtain ⟨a, xs, e, r, q⟩ := h
    exact ⟨a, xs, e, l.relO r, l.relE q⟩
end

/-! ### the judgements -/
/-- what stands of a class's wish -/
def ExRep (K : PySem.W.Frag) (mp : Mp) (H : Hp) : Option (List (Str × Val)) → Option Addr → Prop
  | none, d => d = none
  | some fs, d => ∃ a xs, d = some a ∧ mp.free a ∧ H a = some (.xd xs) ∧ RepF K mp H fs xs
abbrev RepT (α β : Type) := Mp → Hp → α → β → Prop
def Post {α β : Type} (K : PySem.W.Frag) (W : WX) (σ : L2.St) (Rp : RepT α β) (mp : Mp) (H : Hp) (r : R α) (Q : β → Hp → Prop) : Prop := match r with
  | .ok a st => ∀ mp' H' u, Le mp H mp' H' → RelS K mp' H' st → Rp mp' H' a u → Q u H'
  | .exc c fs st => ∀ mp' H' d, Le mp H mp' H' → RelS K mp' H' st → ExRep K mp' H' fs d → W (.ref (He.ga K c)) d σ H'
  | .stuck => False
theorem Post.le {α β : Type} {K : PySem.W.Frag} {W : WX} {σ : L2.St} {Rp : RepT α β} {mp mp1 : Mp} {H H1 : Hp} {r : R α} {Q : β → Hp → Prop} (h : Post K W σ Rp mp H r Q) (l : Le mp H mp1 H1) : Post K W σ Rp mp1 H1 r Q := by
  cases r with
  | ok a st => exact fun mp' H' u l' => h mp' H' u (l.trans l')
  | exc c fs st => exact fun mp' H' u l' => h mp' H' u (l.trans l')
  | stuck => exact h
theorem Post.of_bind {α β γ δ : Type} {K : PySem.W.Frag} {W : WX} {σ : L2.St} {Ra : RepT α β} {Rc : RepT γ δ} {mp : Mp} {H : Hp} {r : R α} {k : α → Store → R γ} {Q : δ → Hp → Prop} {Q' : β → Hp → Prop} (h : Post K W σ Rc mp H (r.bind k) Q)
    (hk : ∀ mp1 H1 a st1 u, r = .ok a st1 → Le mp H mp1 H1 → RelS K mp1 H1 st1 → Ra mp1 H1 a u → Post K W σ Rc mp1 H1 (k a st1) Q → Q' u H1) : Post K W σ Ra mp H r Q' := by
  cases r with
  | ok a st => exact fun mp' H' u l s r => hk mp' H' a st u rfl l s r (Post.le (show Post K W σ Rc mp H (k a st) Q from h) l)
  | exc c fs st => exact h
  | stuck => exact h
theorem Post.mono {α β : Type} {K : PySem.W.Frag} {W : WX} {σ : L2.St} {Rp : RepT α β} {mp : Mp} {H : Hp} {r : R α} {Q Q' : β → Hp → Prop} (h : Post K W σ Rp mp H r Q) (hq : ∀ u H', Q u H' → Q' u H') : Post K W σ Rp mp H r Q' := by
  cases r with
  | ok a st => exact fun mp' H' u l s r => hq _ _ (h mp' H' u l s r)
  | exc c fs st => exact h
  | stuck => exact h
/-- at once: a value -/
theorem Post.now {α β : Type} {K : PySem.W.Frag} {W : WX} {σ : L2.St} {Rp : RepT α β} {mp : Mp} {H : Hp} {a : α} {st : Store} {Q : β → Hp → Prop} {u : β} (h : Post K W σ Rp mp H (.ok a st) Q) (s : RelS K mp H st) (r : Rp mp H a u) : Q u H := h mp H u .refl s r
abbrev RV (K : PySem.W.Frag) : RepT Val V := fun mp H d u => RepV K mp H d u
abbrev RVs (K : PySem.W.Frag) : RepT (List Val) (List V) := fun mp H d u => RepVs K mp H d u
abbrev RB : RepT Bool Bool := fun _ _ a b => a = b
def PostS (K : PySem.W.Frag) (W : WX) (mp : Mp) (H : Hp) (r : S) (D : Ends) : Prop := match r with
  | .nx env st => ∀ mp' H' σ, Le mp H mp' H' → RelS K mp' H' st → RelE K mp' H' env σ → D.nx σ H'
  | .bk env st => ∀ mp' H' σ, Le mp H mp' H' → RelS K mp' H' st → RelE K mp' H' env σ → D.bk σ H'
  | .ct env st => ∀ mp' H' σ, Le mp H mp' H' → RelS K mp' H' st → RelE K mp' H' env σ → D.ct σ H'
  | .rt v st => ∀ mp' H' u, Le mp H mp' H' → RelS K mp' H' st → RepV K mp' H' v u → D.rt u H'
  | .exc c fs env st => ∀ mp' H' d σ, Le mp H mp' H' → RelS K mp' H' st → RelE K mp' H' env σ → ExRep K mp' H' fs d → W (.ref (He.ga K c)) d σ H'
  | .stuck => False
theorem PostS.le {K : PySem.W.Frag} {W : WX} {mp mp1 : Mp} {H H1 : Hp} {r : S} {D : Ends} (h : PostS K W mp H r D) (l : Le mp H mp1 H1) : PostS K W mp1 H1 r D := by
  cases r with
  | nx env st => exact fun mp' H' u l' => h mp' H' u (l.trans l')
  | bk env st => exact fun mp' H' u l' => h mp' H' u (l.trans l')
  | ct env st => exact fun mp' H' u l' => h mp' H' u (l.trans l')
  | rt v st => exact fun mp' H' u l' => h mp' H' u (l.trans l')
  | exc c fs env st => exact fun mp' H' d u l' => h mp' H' d u (l.trans l')
  | stuck => exact h
theorem PostS.of_bind {α β : Type} {K : PySem.W.Frag} {W : WX} {σ : L2.St} {Ra : RepT α β} {mp : Mp} {H : Hp} {env : MEnv} {r : R α} {k : α → Store → S} {D : Ends} {Q' : β → Hp → Prop} (he : RelE K mp H env σ) (h : PostS K W mp H (r.bindS env k) D)
    (hk : ∀ mp1 H1 a st1 u, r = .ok a st1 → Le mp H mp1 H1 → RelS K mp1 H1 st1 → Ra mp1 H1 a u → RelE K mp1 H1 env σ → PostS K W mp1 H1 (k a st1) D → Q' u H1) : Post K W σ Ra mp H r Q' := by
  cases r with
  | ok a st => exact fun mp' H' u l s r => hk mp' H' a st u rfl l s r (l.relE he) (PostS.le (show PostS K W mp H (k a st) D from h) l)
  | exc c fs st => exact fun mp' H' d l s x => h mp' H' d σ l s (l.relE he) x
  | stuck => exact h

structure ME (X : Cx) (W : WX) (e : Expr) (m : MEnv → Store → R Val) : Prop where
  ex : ∃ t, PE X e t ∧ ∀ σ H Q mp env st, RelS X.K mp H st → RelE X.K mp H env σ → Post X.K W σ (RV X.K) mp H (m env st) Q → t σ H Q
structure MT (X : Cx) (W : WX) (e : Expr) (m : MEnv → Store → R Bool) : Prop where
  ex : ∃ t, PT X e t ∧ ∀ σ H Q mp env st, RelS X.K mp H st → RelE X.K mp H env σ → Post X.K W σ RB mp H (m env st) Q → t σ H Q
structure MW (X : Cx) (W : WX) (e : Expr) (m : MEnv → Store → R Bool) : Prop where
  ex : ∃ t, PW X e t ∧ ∀ σ H Q mp env st, RelS X.K mp H st → RelE X.K mp H env σ → Post X.K W σ RB mp H (m env st) Q → t σ H Q
structure MA (X : Cx) (W : WX) (es : List Expr) (m : MEnv → Store → R (List Val)) : Prop where
  ex : ∃ t, PA X es t ∧ ∀ σ H Q mp env st, RelS X.K mp H st → RelE X.K mp H env σ → Post X.K W σ (RVs X.K) mp H (m env st) Q → t σ H Q
structure MS (X : Cx) (W : WX) (s : Stmt) (m : MEnv → Store → S) : Prop where
  ex : ∃ t, PS X s t ∧ ∀ D σ H mp env st, RelS X.K mp H st → RelE X.K mp H env σ → PostS X.K W mp H (m env st) D → t D σ H
structure MSs (X : Cx) (W : WX) (s : List Stmt) (m : MEnv → Store → S) : Prop where
  ex : ∃ t, PSs X s t ∧ ∀ D σ H mp env st, RelS X.K mp H st → RelE X.K mp H env σ → PostS X.K W mp H (m env st) D → t D σ H
end ML

-- ML2
set_option linter.all false
set_option maxRecDepth 100000
set_option maxHeartbeats 4000000
namespace ML
open PySem PySem.Spec PyProof.Rows L2
abbrev line : Nat := 16777216
theorem line_eq : sizeLine = line := by decide
/-! ### heaps -/
section
variable {K : PySem.W.Frag} {mp mp' : Mp} {H H' : Hp} {st : Store}
theorem RelS.some (s : RelS K mp H st) {a : Addr} (h : a ∈ mp.own) : ∃ o, H a = some o := by
  obtain ⟨n, hn⟩ := List.mem_iff_getElem?.mp h
  have hl : n < st.length := by rw [← s.len]; exact (List.getElem?_eq_some_iff.mp hn).1
  have := s.obj n a st[n] hn (List.getElem?_eq_getElem hl)
  cases e : st[n] with
  | lst ds => rw [e] at this; obtain ⟨xs, h1, _⟩ := this; exact ⟨_, h1⟩
  | dct ds => rw [e] at this; obtain ⟨xs, h1, _⟩ := this; exact ⟨_, h1⟩
  | ins C fs => rw [e] at this; obtain ⟨dx, xs, h1, _⟩ := this; exact ⟨_, h1⟩
  | dt ds => rw [e] at this; obtain ⟨xs, h1, _⟩ := this; exact ⟨_, h1⟩
theorem ObjRel.le (l : Le mp H mp' H') {a : Addr} (e : H' a = H a) : ∀ {o : MObj}, ObjRel K mp H a o → ObjRel K mp' H' a o
  | .lst _, h => by
    obtain ⟨xs, h1, h2⟩ := h
    exact ⟨xs, by rw [e]; exact h1, l.reps h2⟩
  | .dct _, h => by
    obtain ⟨xs, h1, h2⟩ := h
    exact ⟨xs, by rw [e]; exact h1, l.repk h2⟩
  | .ins _ _, h => by
    obtain ⟨dx, xs, h1, h2⟩ := h
    exact ⟨dx, xs, by rw [e]; exact h1, l.repf h2⟩
  | .dt _, h => by
    obtain ⟨xs, h1, h2, h3⟩ := h
    exact ⟨xs, by rw [e]; exact h1, h2, l.reps h3⟩
theorem RelS.stay (s : RelS K mp H st) (l : Le mp H mp H') (e : ∀ a ∈ mp.own, H' a = H a) : RelS K mp H' st :=
  ⟨s.nd, s.len, fun n a o h1 h2 => (s.obj n a o h1 h2).le l (e a (List.mem_of_getElem? h1)), fun a h => l.dom a (s.old a h), fun a h => ⟨(s.sep a h).1, l.dom a (s.sep a h).2⟩⟩
theorem le_new {p : Addr} {o : HO} (np : H p = none) : Le mp H mp (upd H p o) :=
  ⟨rfl, rfl, ⟨[], by simp, fun _ h => by cases h⟩, fun a u e _ => by rw [upd_ne (ne_of_none e np)]; exact e, fun a e => by
    by_cases h : a = p
    · subst h; exact absurd np e
    · rw [upd_ne h]; exact e⟩
theorem RelS.new (s : RelS K mp H st) {p : Addr} {o : HO} (np : H p = none) : RelS K mp (upd H p o) st :=
  s.stay (le_new np) fun a h => upd_ne (by
    obtain ⟨u, e⟩ := s.some h
    exact ne_of_none e np)
theorem RelS.notin (s : RelS K mp H st) {p : Addr} (np : H p = none) : mp.free p := by
  refine ⟨⟨fun h => ?_, fun h => (s.sep p h).2 np⟩, fun h => s.old p h np⟩
  obtain ⟨u, e⟩ := s.some h
  rw [np] at e; cases e
theorem repvs_len : ∀ {ds : List Val} {xs : List V}, RepVs K mp H ds xs → ds.length = xs.length
  | [], _, h => by unfold RepVs at h; subst h; rfl
  | d :: ds, _, h => by
    unfold RepVs at h
    obtain ⟨u, us, rfl, _, q⟩ := h
    simp [repvs_len q]
theorem repvs_get : ∀ {ds : List Val} {xs : List V} {i : Nat} {d : Val}, RepVs K mp H ds xs → ds[i]? = some d → ∃ u, xs[i]? = some u ∧ RepV K mp H d u
  | [], _, _, _, _, e => by simp at e
  | d :: ds, _, 0, _, h, e => by
    unfold RepVs at h
    obtain ⟨u, us, rfl, r, q⟩ := h
    simp at e; subst e; exact ⟨u, rfl, r⟩
  | d :: ds, _, i + 1, _, h, e => by
    unfold RepVs at h
    obtain ⟨u, us, rfl, r, q⟩ := h
    simpa using repvs_get (i := i) q (by simpa using e)
theorem repvs_append : ∀ {ds es : List Val} {xs ys : List V}, RepVs K mp H ds xs → RepVs K mp H es ys → RepVs K mp H (ds ++ es) (xs ++ ys)
  | [], _, _, _, h, g => by unfold RepVs at h; subst h; simpa using g
  | d :: ds, _, _, _, h, g => by
    unfold RepVs at h
    obtain ⟨u, us, rfl, r, q⟩ := h
    show RepVs K mp H (d :: (ds ++ _)) (u :: (us ++ _))
    unfold RepVs
    exact ⟨u, _, rfl, r, repvs_append q g⟩
theorem repvs_take : ∀ {ds : List Val} {xs : List V} (n : Nat), RepVs K mp H ds xs → RepVs K mp H (ds.take n) (xs.take n)
  | [], _, n, h => by unfold RepVs at h; subst h; simp [RepVs]
  | d :: ds, _, 0, h => by simp [RepVs]
  | d :: ds, _, n + 1, h => by
    unfold RepVs at h
    obtain ⟨u, us, rfl, r, q⟩ := h
    simp only [List.take_succ_cons]
    unfold RepVs
    exact ⟨u, _, rfl, r, repvs_take n q⟩
theorem repvs_drop : ∀ {ds : List Val} {xs : List V} (n : Nat), RepVs K mp H ds xs → RepVs K mp H (ds.drop n) (xs.drop n)
  | [], _, n, h => by unfold RepVs at h; subst h; simp [RepVs]
  | d :: ds, _, 0, h => by simpa using h
  | d :: ds, _, n + 1, h => by
    unfold RepVs at h
    obtain ⟨u, us, rfl, r, q⟩ := h
    simpa using repvs_drop n q
theorem repvs_set : ∀ {ds : List Val} {xs : List V} (n : Nat) {d : Val} {u : V}, RepVs K mp H ds xs → RepV K mp H d u → RepVs K mp H (ds.set n d) (xs.set n u)
  | [], _, n, _, _, h, g => by unfold RepVs at h; subst h; simp [RepVs]
  | d :: ds, _, 0, _, _, h, g => by
    unfold RepVs at h
    obtain ⟨u, us, rfl, r, q⟩ := h
    simp only [List.set_cons_zero]
    unfold RepVs
    exact ⟨_, _, rfl, g, q⟩
  | d :: ds, _, n + 1, _, _, h, g => by
    unfold RepVs at h
    obtain ⟨u, us, rfl, r, q⟩ := h
    simp only [List.set_cons_succ]
    unfold RepVs
    exact ⟨_, _, rfl, r, repvs_set n q g⟩
theorem repvs_nil {xs : List V} : RepVs K mp H [] xs ↔ xs = [] := by simp [RepVs]
theorem repvs_cons {d : Val} {ds : List Val} {xs : List V} : RepVs K mp H (d :: ds) xs ↔ ∃ u us, xs = u :: us ∧ RepV K mp H d u ∧ RepVs K mp H ds us := by simp [RepVs]
theorem repvs_empty {ds : List Val} {xs : List V} (h : RepVs K mp H ds xs) : ds = [] ↔ xs = [] := by
  have := repvs_len h
  cases ds <;> cases xs <;> simp_all
theorem repvs_rep : ∀ (n : Nat) {ds : List Val} {xs : List V}, RepVs K mp H ds xs → RepVs K mp H (List.replicate n ds).flatten (List.replicate n xs).flatten
  | 0, _, _, _ => by simp [RepVs]
  | n + 1, _, _, h => by
    simp only [List.replicate_succ, List.flatten_cons]
    exact repvs_append h (repvs_rep n h)
end

/-! ### what a value is -/
def listOf (st : Store) : Val → Option (List Val)
  | .lst xs => some xs
  | .fzl xs => some xs
  | .brw xs => some xs
  | .ref n => match st[n]? with
    | some (.lst xs) => some xs
    | _ => none
  | _ => none
/-- a list that is not frozen -/
def listT (st : Store) : Val → Option (List Val)
  | .lst xs => some xs
  | .brw xs => some xs
  | .ref n => match st[n]? with
    | some (.lst xs) => some xs
    | _ => none
  | _ => none
def tupOf : Val → Option (List Val)
  | .tup xs => some xs
  | _ => none
def seqOf (st : Store) (d : Val) : Option (List Val) := match d with
  | .tup xs => some xs
  | d => listOf st d
section
variable {K : PySem.W.Frag} {mp mp' : Mp} {H H' : Hp} {st : Store}
theorem listOf_rep (s : RelS K mp H st) {d : Val} {u : V} {ds : List Val} (r : RepV K mp H d u) (h : listOf st d = some ds) : ∃ a xs, u = .ref a ∧ SqL K H a xs ∧ RepVs K mp H ds xs := by
  cases d with
  | lst xs =>
    obtain rfl : xs = ds := Option.some.inj h
    unfold RepV at r
    obtain ⟨a, xs, e, q, z⟩ := r
    exact ⟨a, xs, e, .inl (.inl q.1), z⟩
  | fzl xs =>
    obtain rfl : xs = ds := Option.some.inj h
    unfold RepV at r
    obtain ⟨a, xs, e, q, z⟩ := r
    exact ⟨a, xs, e, q.sq, z⟩
  | brw xs =>
    obtain rfl : xs = ds := Option.some.inj h
    unfold RepV at r
    obtain ⟨a, xs, e, q, z⟩ := r
    exact ⟨a, xs, e, .inl (.inl q.1), z⟩
  | ref n =>
    unfold RepV at r
    obtain ⟨a, e, q⟩ := r
    unfold listOf at h
    simp only at h
    split at h
    · rename_i xs hx
      obtain rfl : xs = ds := Option.some.inj h
      obtain ⟨ys, e1, e2⟩ := s.obj n a _ q hx
      exact ⟨a, ys, e, .inl (.inl e1), e2⟩
    · cases h
  | _ => cases h
theorem listT_rep (s : RelS K mp H st) {d : Val} {u : V} {ds : List Val} (r : RepV K mp H d u) (h : listT st d = some ds) : ∃ a xs, u = .ref a ∧ H a = some (.lst xs) ∧ RepVs K mp H ds xs := by
  cases d with
  | lst xs =>
    obtain rfl : xs = ds := Option.some.inj h
    unfold RepV at r
    obtain ⟨a, xs, e, q, z⟩ := r
    exact ⟨a, xs, e, q.1, z⟩
  | brw xs =>
    obtain rfl : xs = ds := Option.some.inj h
    unfold RepV at r
    obtain ⟨a, xs, e, q, z⟩ := r
    exact ⟨a, xs, e, q.1, z⟩
  | ref n =>
    unfold RepV at r
    obtain ⟨a, e, q⟩ := r
    unfold listT at h
    simp only at h
    split at h
    · rename_i xs hx
      obtain rfl : xs = ds := Option.some.inj h
      obtain ⟨ys, e1, e2⟩ := s.obj n a _ q hx
      exact ⟨a, ys, e, e1, e2⟩
    · cases h
  | _ => cases h
theorem tupOf_rep {d : Val} {u : V} {ds : List Val} (r : RepV K mp H d u) (h : tupOf d = some ds) : ∃ a xs, u = .ref a ∧ SqT K H a xs ∧ RepVs K mp H ds xs := by
  cases d with
  | tup xs =>
    obtain rfl : xs = ds := Option.some.inj h
    unfold RepV at r
    obtain ⟨a, xs, e, q, z⟩ := r
    exact ⟨a, xs, e, q.sq, z⟩
  | _ => cases h
theorem seqOf_rep (s : RelS K mp H st) {d : Val} {u : V} {ds : List Val} (r : RepV K mp H d u) (h : seqOf st d = some ds) : ∃ a xs, u = .ref a ∧ (SqL K H a xs ∨ SqT K H a xs) ∧ RepVs K mp H ds xs := by
  by_cases c : ∃ ds, d = .tup ds
  · obtain ⟨es, rfl⟩ := c
    obtain ⟨a, xs, e, q, z⟩ := tupOf_rep r (show tupOf (.tup es) = some ds from h)
    exact ⟨a, xs, e, .inr q, z⟩
  · have h2 : listOf st d = some ds := by
      cases d with
      | tup es => exact absurd ⟨es, rfl⟩ c
      | _ => exact h
    obtain ⟨a, xs, e, q, z⟩ := listOf_rep s r h2
    exact ⟨a, xs, e, .inl q, z⟩
theorem rep_tup {ds : List Val} {a : Addr} {xs : List V} (e : H a = some (.tup xs)) (n : mp.free a) (r : RepVs K mp H ds xs) : RepV K mp H (.tup ds) (.ref a) := by
  unfold RepV
  exact ⟨a, xs, rfl, .inl ⟨.inl e, n⟩, r⟩
theorem rep_lst {ds : List Val} {a : Addr} {xs : List V} (e : H a = some (.lst xs)) (n : mp.free a) (r : RepVs K mp H ds xs) : RepV K mp H (.lst ds) (.ref a) := by
  unfold RepV
  exact ⟨a, xs, rfl, ⟨e, n⟩, r⟩
theorem new_tup (s : RelS K mp H st) {ds : List Val} {p : Addr} {xs : List V} (np : H p = none) (r : RepVs K mp H ds xs) : RepV K mp (upd H p (.tup xs)) (.tup ds) (.ref p) :=
  rep_tup upd_same (s.notin np) ((le_new np).reps r)
theorem new_lst (s : RelS K mp H st) {ds : List Val} {p : Addr} {xs : List V} (np : H p = none) (r : RepVs K mp H ds xs) : RepV K mp (upd H p (.lst xs)) (.lst ds) (.ref p) :=
  rep_lst upd_same (s.notin np) ((le_new np).reps r)
end
/-- a value at once -/
theorem Post.out {K : PySem.W.Frag} {W : WX} {σ : L2.St} {mp : Mp} {H : Hp} {st : Store} {d : Val} {u : V} {Q : V → Hp → Prop} (q : Post K W σ (RV K) mp H (.ok d st) Q) (s : RelS K mp H st) (r : RepV K mp H d u) : Q u H := q mp H u .refl s r
theorem Post.outT {K : PySem.W.Frag} {W : WX} {σ : L2.St} {mp : Mp} {H : Hp} {st : Store} {ds : List Val} {xs : List V} {Q : V → Hp → Prop} (q : Post K W σ (RV K) mp H (.ok (.tup ds) st) Q) (s : RelS K mp H st) (r : RepVs K mp H ds xs) {p : Addr} (np : H p = none) : Q (.ref p) (upd H p (.tup xs)) := q mp _ _ (le_new np) (s.new np) (new_tup s np r)
theorem Post.outL {K : PySem.W.Frag} {W : WX} {σ : L2.St} {mp : Mp} {H : Hp} {st : Store} {ds : List Val} {xs : List V} {Q : V → Hp → Prop} (q : Post K W σ (RV K) mp H (.ok (.lst ds) st) Q) (s : RelS K mp H st) (r : RepVs K mp H ds xs) {p : Addr} (np : H p = none) : Q (.ref p) (upd H p (.lst xs)) := q mp _ _ (le_new np) (s.new np) (new_lst s np r)

/-! ### names, constants, displays -/
def mVar (i : Nat) (env : MEnv) (st : Store) : R Val := match env[i]? with
  | some (some d) => .ok d st
  | _ => .stuck
def mC (d : Val) (_ : MEnv) (st : Store) : R Val := .ok d st
theorem relE_get {K : PySem.W.Frag} {mp : Mp} {H : Hp} : ∀ {env : MEnv} {σ : L2.St} {i : Nat} {d : Val}, RelE K mp H env σ → env[i]? = some (some d) → ∃ u, σ[i]? = some (some u) ∧ RepV K mp H d u
  | [], _, _, _, _, e => by simp at e
  | e :: es, _, 0, d, h, q => by
    unfold RelE at h
    obtain ⟨u, us, rfl, r, z⟩ := h
    simp at q; subst q
    cases u with
    | none => exact absurd r (fun z => z)
    | some u => exact ⟨u, rfl, r⟩
  | e :: es, _, i + 1, d, h, q => by
    unfold RelE at h
    obtain ⟨u, us, rfl, r, z⟩ := h
    simpa using relE_get (i := i) z (by simpa using q)
theorem relE_set {K : PySem.W.Frag} {mp : Mp} {H : Hp} : ∀ {env : MEnv} {σ : L2.St} {i : Nat} {d : Option Val} {u : Option V}, RelE K mp H env σ → RelO K mp H d u → RelE K mp H (env.set i d) (σ.set i u)
  | [], _, _, _, _, h, e => by unfold RelE at h; subst h; simp [RelE]
  | e :: es, _, 0, d, _, h, q => by
    unfold RelE at h
    obtain ⟨u, us, rfl, r, z⟩ := h
    simp only [List.set_cons_zero]
    unfold RelE
    exact ⟨_, _, rfl, q, z⟩
  | e :: es, _, i + 1, d, _, h, q => by
    unfold RelE at h
    obtain ⟨u, us, rfl, r, z⟩ := h
    simp only [List.set_cons_succ]
    unfold RelE
    exact ⟨_, _, rfl, r, relE_set (i := i) z q⟩
theorem relE_set_none {K : PySem.W.Frag} {mp : Mp} {H : Hp} : ∀ {env : MEnv} {σ : L2.St} {i : Nat}, RelE K mp H env σ → RelE K mp H (env.set i none) σ
  | [], _, _, h => by simpa using h
  | e :: es, _, 0, h => by
    unfold RelE at h
    obtain ⟨u, us, rfl, r, z⟩ := h
    simp only [List.set_cons_zero]
    unfold RelE
    exact ⟨_, _, rfl, trivial, z⟩
  | e :: es, _, i + 1, h => by
    unfold RelE at h
    obtain ⟨u, us, rfl, r, z⟩ := h
    simp only [List.set_cons_succ]
    unfold RelE
    exact ⟨_, _, rfl, r, relE_set_none (i := i) z⟩
section
variable {X : Cx} {W : WX} {pos p2 : Pos}
theorem me_var {i : Nat} {x : Str} (hN : X.N[i]? = some x) (hv : Vis X.env.scope x) (hd : (x == ("__debug__" : Str)) = false := by decide) (hcd : (x == ("__classdict__" : Str)) = false := by decide) : ME X W (.Name x pos) (mVar i) := by
  refine ⟨⟨_, pe_var hN hv hd hcd, fun σ H Q mp env st rs re hp => ?_⟩⟩
  unfold mVar at hp
  split at hp
  · rename_i d e
    obtain ⟨u, e1, r⟩ := relE_get re e
    exact ⟨u, e1, hp.out rs r⟩
  · exact hp.elim
theorem me_c {e : Expr} {d : Val} {v : V} (h : PE X e (tC v)) (r : ∀ mp H, RepV X.K mp H d v) : ME X W e (mC d) :=
  ⟨⟨_, h, fun σ H Q mp env st rs re hp => hp.out rs (r mp H)⟩⟩
theorem me_int {i j} : ME X W (.Constant (.int i) j pos) (mC (.int i)) := me_c pe_int fun _ _ => by simp [RepV]
theorem me_bl {i j} : ME X W (.Constant (.bool i) j pos) (mC (.bl i)) := me_c pe_bl fun _ _ => by simp [RepV]
theorem me_str {i j} : ME X W (.Constant (.str i) j pos) (mC (.str i)) := me_c pe_str fun _ _ => by simp [RepV]
theorem me_non {j} : ME X W (.Constant .none j pos) (mC .non) := me_c pe_non fun _ _ => by simp [RepV]
def mNil (_ : MEnv) (st : Store) : R (List Val) := .ok [] st
def mCons (m : MEnv → Store → R Val) (ms : MEnv → Store → R (List Val)) (env : MEnv) (st : Store) : R (List Val) := (m env st).bind fun d st => (ms env st).bind fun ds st => .ok (d :: ds) st
theorem ma_nil : MA X W [] mNil := ⟨⟨_, pa_nil, fun σ H Q mp env st rs re hp => hp mp H [] .refl rs (by simp [RVs, RepVs])⟩⟩
theorem ma_cons {e : Expr} {es : List Expr} {m ms} (h : ME X W e m) (hs : MA X W es ms) (hst : starEach (e :: es) X.env = (false, eval e X.env) :: starEach es X.env := by rfl) : MA X W (e :: es) (mCons m ms) := by
  obtain ⟨t, p, h⟩ := h.ex
  obtain ⟨ts, ps, hs⟩ := hs.ex
  refine ⟨⟨_, pa_cons p ps hst, fun σ H Q mp env st rs re hp => ?_⟩⟩
  refine h σ H _ mp env st rs re (Post.of_bind hp fun mp1 H1 d st1 u e l s r q => ?_)
  refine hs σ H1 _ mp1 env st1 s (l.relE re) (Post.of_bind q fun mp2 H2 ds st2 us e2 l2 s2 r2 q2 => ?_)
  exact q2 mp2 H2 _ .refl s2 (by show RepVs _ _ _ _ _; unfold RepVs; exact ⟨u, us, rfl, l2.rep r, r2⟩)
def kTupD (ds : List Val) (st : Store) : R Val := if ds.length ≤ line then .ok (.tup ds) st else .stuck
def mTup (ms : MEnv → Store → R (List Val)) (env : MEnv) (st : Store) : R Val := (ms env st).bind kTupD
theorem me_tup {es : List Expr} {x1} {ms} (h : MA X W es ms) : ME X W (.Tuple es x1 pos) (mTup ms) := by
  obtain ⟨t, p, h⟩ := h.ex
  refine ⟨⟨_, pe_tup p, fun σ H Q mp env st rs re hp => ?_⟩⟩
  refine h σ H _ mp env st rs re (Post.of_bind hp fun mp1 H1 ds st1 us e l s r q => ?_)
  unfold kTupD at q
  split at q
  · rename_i c
    exact ⟨by rw [line_eq, ← repvs_len r]; exact c, fun p np => q.outT s r np⟩
  · exact q.elim
end

/-! ### new lists -/
/-- a new list at p, as a value and as an object of the store -/
structure NewL (K : PySem.W.Frag) (mp : Mp) (H : Hp) (mp' : Mp) (H' : Hp) (st : Store) (ds : List Val) (p : Addr) : Prop where
  le : Le mp H mp' H'
  rs : RelS K mp' H' st
  rv : RepV K mp' H' (.lst ds) (.ref p)
  le2 : Le mp H (mp'.add p) H'
  rs2 : RelS K (mp'.add p) H' (st ++ [.lst ds])
theorem Mp.add_at (m : Mp) (p : Addr) : (m.add p).own[m.own.length]? = some p := by
  unfold Mp.add
  simp
theorem le_add {mp : Mp} {H : Hp} {p : Addr} {o : HO} (np : H p = none) : Le mp H (mp.add p) (upd H p o) := by
  refine ⟨rfl, rfl, ⟨[p], rfl, fun a h => ?_⟩, (le_new (mp := mp) np).keep, (le_new (mp := mp) np).dom⟩
  obtain rfl : a = p := by simpa using h
  exact np
/-- what is behind the laying of an object -/
theorem RelS.place {K : PySem.W.Frag} {mp : Mp} {H : Hp} {st : Store} (s : RelS K mp H st) {p : Addr} {o : HO} {m : MObj} (np : H p = none) (ob : ObjRel K (mp.add p) (upd H p o) p m) : Le mp H (mp.add p) (upd H p o) ∧ RelS K (mp.add p) (upd H p o) (st ++ [m]) := by
  have l : Le mp H (mp.add p) (upd H p o) := by
    refine ⟨rfl, rfl, ⟨[p], rfl, fun a h => ?_⟩, (le_new (mp := mp) np).keep, (le_new (mp := mp) np).dom⟩
    obtain rfl : a = p := by simpa using h
    exact np
  refine ⟨l, ?_, ?_, fun n a x h1 h2 => ?_, fun a h => l.dom a (s.old a h), fun a h => ⟨fun z => ?_, l.dom a (s.sep a h).2⟩⟩
  rotate_left 3
  · rcases List.mem_append.mp z with z | z
    · exact (s.sep a h).1 z
    · obtain rfl : a = p := by simpa using z
      exact (s.sep a h).2 np
  · show (mp.own ++ [p]).Nodup
    rw [List.nodup_append]
    refine ⟨s.nd, by simp, fun a ha b hb => ?_⟩
    obtain rfl : b = p := by simpa using hb
    exact fun e => (s.notin np).1.1 (e ▸ ha)
  · show (mp.own ++ [p]).length = _
    simp [s.len]
  · have h1 : (mp.own ++ [p])[n]? = Option.some a := h1
    by_cases c : n < mp.own.length
    · rw [List.getElem?_append_left c] at h1
      rw [List.getElem?_append_left (by rw [← s.len]; exact c)] at h2
      have hne : H a ≠ none := by
        obtain ⟨u, e⟩ := s.some (List.mem_of_getElem? h1)
        rw [e]; simp
      exact (s.obj n a x h1 h2).le l (upd_ne fun e => hne (by rw [e]; exact np))
    · have hn : n = mp.own.length := by
        have := (List.getElem?_eq_some_iff.mp h1).1
        simp at this
        omega
      subst hn
      obtain rfl : p = a := by
        have := mp.add_at p
        rw [show (mp.add p).own = mp.own ++ [p] from rfl] at this
        exact Option.some.inj (this.symm.trans h1)
      obtain rfl : m = x := by
        rw [s.len] at h2
        simpa using h2
      exact ob
theorem NewL.mk' {K : PySem.W.Frag} {mp mp1 : Mp} {H H1 : Hp} {st : Store} {ds : List Val} {xs : List V} {p : Addr} (l : Le mp H mp1 H1) (s : RelS K mp1 H1 st) (np : H1 p = none) (r : RepVs K mp1 H1 ds xs) : NewL K mp H mp1 (upd H1 p (.lst xs)) st ds p := by
  have l1 : Le mp1 H1 (mp1.add p) (upd H1 p (.lst xs)) := le_add np
  have ob : ObjRel K (mp1.add p) (upd H1 p (.lst xs)) p (.lst ds) := ⟨xs, upd_same, l1.reps r⟩
  obtain ⟨a, b⟩ := s.place np ob
  exact ⟨l.trans (le_new np), s.new np, new_lst s np r, l.trans a, b⟩
def PostN (K : PySem.W.Frag) (W : WX) (σ : L2.St) (mp : Mp) (H : Hp) (r : R (List Val)) (Q : V → Hp → Prop) : Prop := match r with
  | .ok ds st => ∀ mp' H' p, NewL K mp H mp' H' st ds p → Q (.ref p) H'
  | .exc c fs st => ∀ mp' H' d, Le mp H mp' H' → RelS K mp' H' st → ExRep K mp' H' fs d → W (.ref (He.ga K c)) d σ H'
  | .stuck => False
theorem PostN.le {K : PySem.W.Frag} {W : WX} {σ : L2.St} {mp mp1 : Mp} {H H1 : Hp} {r : R (List Val)} {Q : V → Hp → Prop} (h : PostN K W σ mp H r Q) (l : Le mp H mp1 H1) : PostN K W σ mp1 H1 r Q := by
  cases r with
  | ok a st => exact fun mp' H' u z => h mp' H' u ⟨l.trans z.le, z.rs, z.rv, l.trans z.le2, z.rs2⟩
  | exc c fs st => exact fun mp' H' u l' => h mp' H' u (l.trans l')
  | stuck => exact h
theorem PostN.of_bind {α β : Type} {K : PySem.W.Frag} {W : WX} {σ : L2.St} {Ra : RepT α β} {mp : Mp} {H : Hp} {r : R α} {k : α → Store → R (List Val)} {Q : V → Hp → Prop} {Q' : β → Hp → Prop} (h : PostN K W σ mp H (r.bind k) Q)
    (hk : ∀ mp1 H1 a st1 u, r = .ok a st1 → Le mp H mp1 H1 → RelS K mp1 H1 st1 → Ra mp1 H1 a u → PostN K W σ mp1 H1 (k a st1) Q → Q' u H1) : Post K W σ Ra mp H r Q' := by
  cases r with
  | ok a st => exact fun mp' H' u l s r => hk mp' H' a st u rfl l s r (PostN.le (show PostN K W σ mp H (k a st) Q from h) l)
  | exc c fs st => exact h
  | stuck => exact h
theorem PostN.out {K : PySem.W.Frag} {W : WX} {σ : L2.St} {mp : Mp} {H : Hp} {st : Store} {ds : List Val} {xs : List V} {Q : V → Hp → Prop} (q : PostN K W σ mp H (.ok ds st) Q) (s : RelS K mp H st) (r : RepVs K mp H ds xs) {p : Addr} (np : H p = none) : Q (.ref p) (upd H p (.lst xs)) := q mp _ p (.mk' .refl s np r)
structure MN (X : Cx) (W : WX) (e : Expr) (m : MEnv → Store → R (List Val)) : Prop where
  ex : ∃ t, PE X e t ∧ ∀ σ H Q mp env st, RelS X.K mp H st → RelE X.K mp H env σ → PostN X.K W σ mp H (m env st) Q → t σ H Q
/-- the new list as a value -/
def mVal (m : MEnv → Store → R (List Val)) (env : MEnv) (st : Store) : R Val := (m env st).bind fun ds st => .ok (.lst ds) st
/-- .. as an object of the store -/
def mPut (m : MEnv → Store → R (List Val)) (env : MEnv) (st : Store) : R Val := (m env st).bind fun ds st => .ok (.ref st.length) (st ++ [.lst ds])
theorem MN.val {X : Cx} {W : WX} {e : Expr} {m} (h : MN X W e m) : ME X W e (mVal m) := by
  obtain ⟨t, p, h⟩ := h.ex
  refine ⟨⟨t, p, fun σ H Q mp env st rs re hp => h σ H Q mp env st rs re ?_⟩⟩
  unfold mVal at hp
  cases e : m env st with
  | ok ds st1 =>
    rw [e] at hp
    exact fun mp' H' p z => hp mp' H' _ z.le z.rs z.rv
  | exc c fs st1 =>
    rw [e] at hp
    exact hp
  | stuck =>
    rw [e] at hp
    exact hp
theorem MN.put {X : Cx} {W : WX} {e : Expr} {m} (h : MN X W e m) : ME X W e (mPut m) := by
  obtain ⟨t, p, h⟩ := h.ex
  refine ⟨⟨t, p, fun σ H Q mp env st rs re hp => h σ H Q mp env st rs re ?_⟩⟩
  unfold mPut at hp
  cases e : m env st with
  | ok ds st1 =>
    rw [e] at hp
    refine fun mp' H' p z => hp _ H' _ z.le2 z.rs2 ?_
    show RepV X.K _ _ (.ref st1.length) (.ref p)
    unfold RepV
    exact ⟨p, rfl, by rw [← z.rs.len]; exact mp'.add_at p⟩
  | exc c fs st1 =>
    rw [e] at hp
    exact hp
  | stuck =>
    rw [e] at hp
    exact hp
def nLst (ms : MEnv → Store → R (List Val)) (env : MEnv) (st : Store) : R (List Val) := (ms env st).bind fun ds st => if ds.length ≤ line then .ok ds st else .stuck
theorem mn_lst {X : Cx} {W : WX} {pos : Pos} {es : List Expr} {ms} (h : MA X W es ms) : MN X W (.List es pos) (nLst ms) := by
  obtain ⟨t, p, h⟩ := h.ex
  refine ⟨⟨_, pe_lst p, fun σ H Q mp env st rs re hp => ?_⟩⟩
  refine h σ H _ mp env st rs re (PostN.of_bind hp fun mp1 H1 ds st1 us e l s r q => ?_)
  split at q
  · rename_i c
    exact ⟨by rw [line_eq, ← repvs_len r]; exact c, fun p np => q.out s r np⟩
  · exact q.elim

/-! ### operators -/
abbrev F2 := Val → Val → Store → R Val
def OpM (K : PySem.W.Frag) (W : WX) (r : R2) (f : F2) : Prop := ∀ σ mp H st d e u v Q, RelS K mp H st → RepV K mp H d u → RepV K mp H e v → Post K W σ (RV K) mp H (f d e st) Q → r u v H Q
def mBin (f : F2) (ma mb : MEnv → Store → R Val) (env : MEnv) (st : Store) : R Val := (ma env st).bind fun a st => (mb env st).bind fun b st => f a b st
section
variable {X : Cx} {W : WX} {pos : Pos} {a b c : Expr} {ma mb mc : MEnv → Store → R Val}
theorem me_bin {op : Operator} {r : R2} {f : F2} (ho : OpR X (binaryOp op) r) (hf : OpM X.K W r f) (ha : ME X W a ma) (hb : ME X W b mb) : ME X W (.BinOp a op b pos) (mBin f ma mb) := by
  obtain ⟨ta, pa, ha⟩ := ha.ex
  obtain ⟨tb, pb, hb⟩ := hb.ex
  refine ⟨⟨_, pe_op ho pa pb, fun σ H Q mp env st rs re hp => ?_⟩⟩
  refine ha σ H _ mp env st rs re (Post.of_bind hp fun mp1 H1 d st1 u e l s r q => ?_)
  refine hb σ H1 _ mp1 env st1 s (l.relE re) (Post.of_bind q fun mp2 H2 d2 st2 v e2 l2 s2 r2 q2 => ?_)
  exact hf σ mp2 H2 st2 d d2 u v Q s2 (l2.rep r) r2 q2
theorem OpR.or {f : Value → Value → Sem Value} {r r' : R2} (h : OpR X f r) (h' : OpR X f r') : OpR X f (fun x y H Q => r x y H Q ∨ r' x y H Q) := fun pins s σ H x y v u Q I rx ry z =>
  z.elim (h pins s σ H x y v u Q I rx ry) (h' pins s σ H x y v u Q I rx ry)
theorem rep_int {K : PySem.W.Frag} {mp : Mp} {H : Hp} {i : Int} {u : V} (r : RepV K mp H (.int i) u) : u = .int i := by simpa [RepV] using r
theorem rep_bl {K : PySem.W.Frag} {mp : Mp} {H : Hp} {i : Bool} {u : V} (r : RepV K mp H (.bl i) u) : u = .bl i := by simpa [RepV] using r
theorem rep_str {K : PySem.W.Frag} {mp : Mp} {H : Hp} {i : Str} {u : V} (r : RepV K mp H (.str i) u) : u = .str i := by simpa [RepV] using r
theorem rep_i (K : PySem.W.Frag) (mp : Mp) (H : Hp) (i : Int) : RepV K mp H (.int i) (.int i) := by simp [RepV]
theorem rep_b (K : PySem.W.Frag) (mp : Mp) (H : Hp) (i : Bool) : RepV K mp H (.bl i) (.bl i) := by simp [RepV]
theorem rep_s (K : PySem.W.Frag) (mp : Mp) (H : Hp) (i : Str) : RepV K mp H (.str i) (.str i) := by simp [RepV]
end
/-! ### addresses that nothing refers to -/
def Mp.shut (m : Mp) (p : Addr) : Mp := ⟨m.own, m.fb, m.bar ++ [p]⟩
section
variable {K : PySem.W.Frag} {mp mp' : Mp} {H H' : Hp} {p : Addr} {st : Store}
/-- one way of representing implies another, address by address -/
structure Shift (mp : Mp) (H : Hp) (mp' : Mp) (H' : Hp) : Prop where
  at_ : ∀ (n : Nat) (a : Addr), mp.own[n]? = some a → mp'.own[n]? = some a
  lent : ∀ (a : Addr) (o : HO), H a = some o → mp.lent a → H' a = some o ∧ mp'.lent a
  free : ∀ (a : Addr) (o : HO), H a = some o → mp.free a → mp'.free a
mutual
theorem Shift.rep (l : Shift mp H mp' H') : ∀ {d : Val} {u : V}, RepV K mp H d u → RepV K mp' H' d u
  | .non, _, h => h
  | .bl _, _, h => h
  | .int _, _, h => h
  | .str _, _, h => h
  | .fn _, _, h => h
  | .tup ds, _, h => by
    unfold RepV at h ⊢
    obtain ⟨a, xs, e, r, q⟩ := h
    refine ⟨a, xs, e, r.elim (fun z => .inl ?_) .inr, l.reps q⟩
    rcases z.1 with s | ⟨o, s⟩
    · exact ⟨.inl (l.lent a _ s z.2.1).1, l.free a _ s z.2⟩
    · exact ⟨.inr ⟨o, (l.lent a _ s z.2.1).1⟩, l.free a _ s z.2⟩
  | .lst ds, _, h => by
    unfold RepV at h ⊢
    obtain ⟨a, xs, e, r, q⟩ := h
    exact ⟨a, xs, e, ⟨(l.lent a _ r.1 r.2.1).1, l.free a _ r.1 r.2⟩, l.reps q⟩
  | .fzl ds, _, h => by
    unfold RepV at h ⊢
    obtain ⟨a, xs, e, ⟨⟨o, s⟩, n⟩ | z, q⟩ := h
    · exact ⟨a, xs, e, .inl ⟨⟨o, (l.lent a _ s n).1⟩, (l.lent a _ s n).2⟩, l.reps q⟩
    · exact ⟨a, xs, e, .inr z, l.reps q⟩
  | .brw ds, _, h => by
    unfold RepV at h ⊢
    obtain ⟨a, xs, e, r, q⟩ := h
    exact ⟨a, xs, e, l.lent a _ r.1 r.2, l.reps q⟩
  | .rng lo hi, _, h => by
    unfold RepV at h ⊢
    obtain ⟨a, e, q, n⟩ := h
    exact ⟨a, e, (l.lent a _ q n.1).1, l.free a _ q n⟩
  | .dct ds, _, h => by
    unfold RepV at h ⊢
    obtain ⟨a, xs, e, ⟨s, n⟩, q⟩ := h
    rcases s with s | ⟨o, s⟩
    · exact ⟨a, xs, e, ⟨.inl (l.lent a _ s n.1).1, l.free a _ s n⟩, l.repk q⟩
    · exact ⟨a, xs, e, ⟨.inr ⟨o, (l.lent a _ s n.1).1⟩, l.free a _ s n⟩, l.repk q⟩
  | .ref n, _, h => by
    unfold RepV at h ⊢
    obtain ⟨a, e, q⟩ := h
    exact ⟨a, e, l.at_ n a q⟩
theorem Shift.reps (l : Shift mp H mp' H') : ∀ {d : List Val} {u : List V}, RepVs K mp H d u → RepVs K mp' H' d u
  | [], _, h => h
  | d :: ds, _, h => by
    unfold RepVs at h ⊢
    obtain ⟨a, xs, e, r, q⟩ := h
    exact ⟨a, xs, e, l.rep r, l.reps q⟩
theorem Shift.repk (l : Shift mp H mp' H') : ∀ {d : List (Key × Val)} {u : List (Key × V)}, RepK K mp H d u → RepK K mp' H' d u
  | [], _, h => h
  | (k, d) :: ds, _, h => by
    unfold RepK at h ⊢
    obtain ⟨a, xs, e, r, q⟩ := h
    exact ⟨a, xs, e, l.rep r, l.repk q⟩
end
theorem Shift.repf (l : Shift mp H mp' H') : ∀ {d : List (Str × Val)} {u : List (Str × V)}, RepF K mp H d u → RepF K mp' H' d u
  | [], _, h => h
  | (k, d) :: ds, _, h => by
    unfold RepF at h ⊢
    obtain ⟨a, xs, e, r, q⟩ := h
    exact ⟨a, xs, e, l.rep r, l.repf q⟩
theorem Shift.relE (l : Shift mp H mp' H') : ∀ {env : MEnv} {σ : L2.St}, RelE K mp H env σ → RelE K mp' H' env σ
  | [], _, h => h
  | e :: es, _, h => by
    unfold RelE at h ⊢
    obtain ⟨a, xs, e1, r, q⟩ := h
    refine ⟨a, xs, e1, ?_, l.relE q⟩
    cases e with
    | none => trivial
    | some d => cases a with
      | none => exact r
      | some u => exact l.rep (show RepV K mp H d u from r)
theorem Shift.obj (l : Shift mp H mp' H') {a : Addr} (e : H' a = H a) : ∀ {o : MObj}, ObjRel K mp H a o → ObjRel K mp' H' a o
  | .lst _, h => by
    obtain ⟨xs, h1, h2⟩ := h
    exact ⟨xs, by rw [e]; exact h1, l.reps h2⟩
  | .dct _, h => by
    obtain ⟨xs, h1, h2⟩ := h
    exact ⟨xs, by rw [e]; exact h1, l.repk h2⟩
  | .ins _ _, h => by
    obtain ⟨dx, xs, h1, h2⟩ := h
    exact ⟨dx, xs, by rw [e]; exact h1, l.repf h2⟩
  | .dt _, h => by
    obtain ⟨xs, h1, h2, h3⟩ := h
    exact ⟨xs, by rw [e]; exact h1, h2, l.reps h3⟩
theorem shift_shut (np : H p = none) : Shift mp H (mp.shut p) H where
  at_ := fun n a h => h
  lent := fun a o e h => ⟨e, h.1, fun z => by
    rcases List.mem_append.mp z with z | z
    · exact h.2 z
    · obtain rfl : a = p := by simpa using z
      rw [np] at e; cases e⟩
  free := fun a o e h => ⟨⟨h.1.1, fun z => by
    rcases List.mem_append.mp z with z | z
    · exact h.1.2 z
    · obtain rfl : a = p := by simpa using z
      rw [np] at e; cases e⟩, h.2⟩
theorem shift_open : Shift (mp.shut p) H mp H where
  at_ := fun n a h => h
  lent := fun a o e h => ⟨e, h.1, fun z => h.2 (List.mem_append_left _ z)⟩
  free := fun a o e h => ⟨⟨h.1.1, fun z => h.1.2 (List.mem_append_left _ z)⟩, h.2⟩
theorem not_shut {a : Addr} (h : (mp.shut p).lent a) : a ≠ p := fun e => h.2 (by rw [e]; show p ∈ mp.bar ++ [p]; simp)
theorem shift_upd {o : HO} : Shift (mp.shut p) H (mp.shut p) (upd H p o) where
  at_ := fun n a h => h
  lent := fun a o e h => ⟨by rw [upd_ne (not_shut h)]; exact e, h⟩
  free := fun a o e h => h
theorem shift_own : Shift (mp.shut p) H (mp.add p) H where
  at_ := fun n a h => by
    show (mp.own ++ [p])[n]? = some a
    have h : mp.own[n]? = some a := h
    rw [List.getElem?_append_left (List.getElem?_eq_some_iff.mp h).1]; exact h
  lent := fun a o e h => ⟨e, fun z => by
    rcases List.mem_append.mp z with z | z
    · exact h.1 z
    · exact not_shut h (by simpa using z), fun z => h.2 (List.mem_append_left _ z)⟩
  free := fun a o e h => ⟨⟨fun z => by
    rcases List.mem_append.mp z with z | z
    · exact h.1.1 z
    · exact not_shut h.1 (by simpa using z), fun z => h.1.2 (List.mem_append_left _ z)⟩, h.2⟩
theorem RelS.shut (s : RelS K mp H st) {o : HO} (np : H p = none) : RelS K (mp.shut p) (upd H p o) st := by
  have s1 := s.new (o := o) np
  refine ⟨s1.nd, s1.len, fun n a x h1 h2 => ?_, s1.old, fun a h => ?_⟩
  · have hne : a ≠ p := fun e => (s.notin np).1.1 (e ▸ List.mem_of_getElem? h1)
    exact (shift_upd (o := o)).obj (upd_ne hne) ((shift_shut np).obj rfl (s.obj n a x h1 h2))
  · rcases List.mem_append.mp h with h | h
    · exact s1.sep a h
    · obtain rfl : a = p := by simpa using h
      exact ⟨(s.notin np).1.1, by rw [upd_same]; simp⟩
theorem RelS.upd (s : RelS K (mp.shut p) H st) {o : HO} : RelS K (mp.shut p) (upd H p o) st := by
  have dom : ∀ a, H a ≠ none → L2.upd H p o a ≠ none := fun a h => by
    by_cases c : a = p
    · rw [c, upd_same]; simp
    · rw [upd_ne c]; exact h
  have hp : p ∉ mp.own := (s.sep p (by show p ∈ mp.bar ++ [p]; simp)).1
  exact ⟨s.nd, s.len, fun n a x h1 h2 => shift_upd.obj (upd_ne fun e : a = p => hp (by rw [← e]; exact List.mem_of_getElem? h1)) (s.obj n a x h1 h2), fun a h => dom a (s.old a h), fun a h => ⟨(s.sep a h).1, dom a (s.sep a h).2⟩⟩
theorem RelS.open (s : RelS K (mp.shut p) H st) : RelS K mp H st :=
  ⟨s.nd, s.len, fun n a x h1 h2 => shift_open.obj rfl (s.obj n a x h1 h2), s.old, fun a h => s.sep a (List.mem_append_left _ h)⟩
/-- from behind p's making to without p -/
theorem Le.open {H0 : Hp} {mp1 : Mp} {o : HO} (np : H0 p = none) (l : Le (mp.shut p) (upd H0 p o) mp1 H') : ∃ mp2, mp1 = mp2.shut p ∧ Le mp H0 mp2 H' := by
  refine ⟨⟨mp1.own, mp1.fb, mp.bar⟩, ?_, ?_⟩
  · obtain ⟨a, b, c⟩ := mp1
    have := l.bar
    simp only [Mp.shut] at this ⊢
    rw [this]
  · obtain ⟨nw, e, f⟩ := l.ext
    refine ⟨l.fb, rfl, ⟨nw, e, fun a ha => ?_⟩, fun a x ea hn => ?_, fun a ha => ?_⟩
    · have := f a ha
      by_cases c : a = p
      · rw [c]; exact np
      · rwa [upd_ne c] at this
    · have c : a ≠ p := fun z => by rw [z, np] at ea; cases ea
      exact l.keep a x (by rw [upd_ne c]; exact ea) hn
    · have c : a ≠ p := fun z => ha (by rw [z]; exact np)
      exact l.dom a (by rw [upd_ne c]; exact ha)
end
theorem Le.shift {mp mp' : Mp} {H H' : Hp} (l : Le mp H mp' H') : Shift mp H mp' H' where
  at_ := fun n a h => l.at h
  lent := fun a o e h => ⟨l.keep a o e h.1, l.lent e h⟩
  free := fun a o e h => l.free e h
theorem shift_turn {mp mp' : Mp} {H H' : Hp} {p : Addr} (np : H p = none) (l : Le mp H mp' H') : Shift mp H (mp'.shut p) H' := by
  have aux : ∀ a o, H a = some o → mp.lent a → (mp'.shut p).lent a := fun a o e h => by
    have h2 := l.lent e h
    refine ⟨h2.1, fun z => ?_⟩
    rcases List.mem_append.mp z with z | z
    · exact h2.2 z
    · obtain rfl : a = p := by simpa using z
      rw [np] at e; cases e
  exact ⟨fun n a h => l.at h, fun a o e h => ⟨l.keep a o e h.1, aux a o e h⟩, fun a o e h => ⟨aux a o e h.1, (l.free e h).2⟩⟩
/-- one more turn of what changes p alone besides -/
theorem Le.turn {mp mp1 mp2 : Mp} {H H1 H2 : Hp} {p : Addr} {o : HO} (np : H p = none) (l : Le mp H mp1 H1) (l2 : Le (mp1.shut p) H1 (mp2.shut p) H2) : Le mp H mp2 (upd H2 p o) := by
  obtain ⟨nw, e, f⟩ := l.ext
  obtain ⟨nw2, e2, f2⟩ := l2.ext
  have b2 : mp2.bar = mp1.bar := by
    have := l2.bar
    exact List.append_cancel_right this
  refine ⟨l2.fb.trans l.fb, b2.trans l.bar, ⟨nw ++ nw2, ?_, fun a ha => ?_⟩, fun a x ea hn => ?_, fun a ha => ?_⟩
  · show mp2.own = _
    have e2 : mp2.own = mp1.own ++ nw2 := e2
    rw [e2, e, List.append_assoc]
  · rcases List.mem_append.mp ha with h | h
    · exact f a h
    · cases q : H a with
      | none => rfl
      | some x => exact absurd (f2 a h) (l.dom a (by rw [q]; simp))
  · have c : a ≠ p := fun z => by rw [z, np] at ea; cases ea
    rw [upd_ne c]
    exact l2.keep a x (l.keep a x ea hn) (l.notin ea hn)
  · have c : a ≠ p := fun z => ha (by rw [z]; exact np)
    rw [upd_ne c]
    exact l2.dom a (l.dom a ha)
end ML

-- ML3
set_option linter.all false
set_option maxRecDepth 100000
set_option maxHeartbeats 4000000
namespace ML
open PySem PySem.Spec PyProof.Rows L2
def intOf : Val → Option Int
  | .int i => some i
  | _ => none
def strOf : Val → Option Str
  | .str i => some i
  | _ => none
theorem intOf_eq {d : Val} {i : Int} (h : intOf d = some i) : d = .int i := by
  cases d with
  | int j => exact congrArg Val.int (Option.some.inj h)
  | _ => cases h
theorem strOf_eq {d : Val} {i : Str} (h : strOf d = some i) : d = .str i := by
  cases d with
  | str j => exact congrArg Val.str (Option.some.inj h)
  | _ => cases h
theorem tupOf_eq {d : Val} {i : List Val} (h : tupOf d = some i) : d = .tup i := by
  cases d with
  | tup j => exact congrArg Val.tup (Option.some.inj h)
  | _ => cases h
/-! ### arithmetic -/
def fAdd : F2 := fun a b st => match intOf a, intOf b with
  | some i, some j => .ok (.int (i + j)) st
  | _, _ => match strOf a, strOf b with
    | some x, some y => if x.length + y.length ≤ line then .ok (.str (x ++ y)) st else .stuck
    | _, _ => match tupOf a, tupOf b with
      | some x, some y => if x.length + y.length ≤ line then .ok (.tup (x ++ y)) st else .stuck
      | _, _ => match listT st a, listT st b with
        | some x, some y => if x.length + y.length ≤ line then .ok (.lst (x ++ y)) st else .stuck
        | _, _ => .stuck
def fSub : F2 := fun a b st => match intOf a, intOf b with
  | some i, some j => .ok (.int (i - j)) st
  | _, _ => .stuck
def small (i : Int) : Bool := decide (-(2 ^ 64) < i) && decide (i < 2 ^ 64)
def repM (n : Int) (ds : List Val) : List Val := (List.replicate n.toNat ds).flatten
def fMul : F2 := fun a b st => match intOf a, intOf b with
  | some i, some j => if small i || small j then .ok (.int (i * j)) st else .stuck
  | _, _ => match listT st a, intOf b with
    | some x, some k => if k < 2 ^ 20 ∧ -(2 ^ 20) < k ∧ x.length * k.toNat ≤ line then .ok (.lst (repM k x)) st else .stuck
    | _, _ => .stuck
def fDiv : F2 := fun a b st => match intOf a, intOf b with
  | some i, some j => if 0 < j ∧ j < 1073741824 then .ok (.int (i / j)) st else .stuck
  | _, _ => .stuck
def fMod : F2 := fun a b st => match intOf a, intOf b with
  | some i, some j => if 0 < j then .ok (.int (i % j)) st else .stuck
  | _, _ => .stuck
def fPow : F2 := fun a b st => match intOf a, intOf b with
  | some i, some j => if 0 ≤ j ∧ j ≤ 1000 ∧ i.natAbs < 2 ^ 64 then .ok (.int (i ^ j.toNat)) st else .stuck
  | _, _ => .stuck
section
variable {X : Cx} {W : WX} {K : PySem.W.Frag}
abbrev rPl (K : PySem.W.Frag) : R2 := fun x y H Q => (rI0 fun i j => .int (i + j)) x y H Q ∨ (∃ i j, x = .str i ∧ y = .str j ∧ i.length + j.length ≤ sizeLine ∧ Q (.str (i ++ j)) H) ∨ rCatA K x y H Q ∨ rCat x y H Q
theorem o_add : OpR X (binaryOp .Add) (rPl X.K) := OpR.or op_add (OpR.or op_add_str (OpR.or op_catA op_cat))
theorem m_add : OpM K W (rPl K) fAdd := by
  intro σ mp H st d e u v Q s ru rv h
  unfold fAdd at h
  split at h
  · rename_i i j h1 h2
    obtain rfl := intOf_eq h1
    obtain rfl := intOf_eq h2
    exact .inl ⟨i, j, rep_int ru, rep_int rv, h.out s (rep_i ..)⟩
  · split at h
    · rename_i i j h1 h2
      obtain rfl := strOf_eq h1
      obtain rfl := strOf_eq h2
      split at h
      · rename_i c
        exact .inr (.inl ⟨i, j, rep_str ru, rep_str rv, by rw [line_eq]; exact c, h.out s (rep_s ..)⟩)
      · exact h.elim
    · split at h
      · rename_i x y h1 h2
        obtain ⟨a, xs, e1, q1, r1⟩ := tupOf_rep ru h1
        obtain ⟨b, ys, e2, q2, r2⟩ := tupOf_rep rv h2
        obtain rfl := tupOf_eq h1
        obtain rfl := tupOf_eq h2
        subst e1 e2
        split at h
        · rename_i c
          refine .inr (.inr (.inl ⟨a, b, xs, ys, rfl, rfl, q1, q2, by rw [line_eq, ← repvs_len r1, ← repvs_len r2]; exact c, fun e => ?_, fun _ e => ?_, fun _ _ p np => h.outT s (repvs_append r1 r2) np⟩))
          · have : x = [] := (repvs_empty r1).mpr e
            subst this
            exact h.out s (by simpa using rv)
          · have : y = [] := (repvs_empty r2).mpr e
            subst this
            exact h.out s (by simpa using ru)
        · exact h.elim
      · split at h
        · rename_i x y h1 h2
          obtain ⟨a, xs, e1, q1, r1⟩ := listT_rep s ru h1
          obtain ⟨b, ys, e2, q2, r2⟩ := listT_rep s rv h2
          split at h
          · rename_i c
            exact .inr (.inr (.inr ⟨a, b, xs, ys, e1, e2, q1, q2, by rw [line_eq, ← repvs_len r1, ← repvs_len r2]; exact c, fun p np => h.outL s (repvs_append r1 r2) np⟩))
          · exact h.elim
        · exact h.elim
theorem m_sub : OpM K W (rI0 fun i j => .int (i - j)) fSub := by
  intro σ mp H st d e u v Q s ru rv h
  unfold fSub at h
  split at h
  · rename_i i j h1 h2
    obtain rfl := intOf_eq h1
    obtain rfl := intOf_eq h2
    exact ⟨i, j, rep_int ru, rep_int rv, h.out s (rep_i ..)⟩
  · exact h.elim
abbrev rMu : R2 := fun x y H Q => (rI CMul fun i j => .int (i * j)) x y H Q ∨ rRep x y H Q
theorem o_mul : OpR X (binaryOp .Mult) rMu := OpR.or op_mul op_rep
theorem m_mul : OpM K W rMu fMul := by
  intro σ mp H st d e u v Q s ru rv h
  unfold fMul at h
  split at h
  · rename_i i j h1 h2
    obtain rfl := intOf_eq h1
    obtain rfl := intOf_eq h2
    split at h
    · rename_i c
      refine .inl ⟨i, j, rep_int ru, rep_int rv, ?_, h.out s (rep_i ..)⟩
      unfold small at c
      simp only [Bool.or_eq_true, Bool.and_eq_true, decide_eq_true_eq] at c
      exact c
    · exact h.elim
  · split at h
    · rename_i x k h1 h2
      obtain ⟨a, xs, e1, q1, r1⟩ := listT_rep s ru h1
      obtain rfl := intOf_eq h2
      split at h
      · rename_i c
        exact .inr ⟨a, k, xs, e1, rep_int rv, q1, by omega, by omega, by rw [line_eq, ← repvs_len r1]; exact c.2.2, fun p np => h.outL s (repvs_rep _ r1) np⟩
      · exact h.elim
    · exact h.elim
theorem m_div : OpM K W (rI CDiv fun i j => .int (i / j)) fDiv := by
  intro σ mp H st d e u v Q s ru rv h
  unfold fDiv at h
  split at h
  · rename_i i j h1 h2
    obtain rfl := intOf_eq h1
    obtain rfl := intOf_eq h2
    split at h
    · rename_i c
      exact ⟨i, j, rep_int ru, rep_int rv, c, h.out s (rep_i ..)⟩
    · exact h.elim
  · exact h.elim
theorem m_mod : OpM K W (rI (fun _ j => 0 < j) fun i j => .int (i % j)) fMod := by
  intro σ mp H st d e u v Q s ru rv h
  unfold fMod at h
  split at h
  · rename_i i j h1 h2
    obtain rfl := intOf_eq h1
    obtain rfl := intOf_eq h2
    split at h
    · rename_i c
      exact ⟨i, j, rep_int ru, rep_int rv, c, h.out s (rep_i ..)⟩
    · exact h.elim
  · exact h.elim
theorem m_pow : OpM K W (rI CPow fun i j => .int (i ^ j.toNat)) fPow := by
  intro σ mp H st d e u v Q s ru rv h
  unfold fPow at h
  split at h
  · rename_i i j h1 h2
    obtain rfl := intOf_eq h1
    obtain rfl := intOf_eq h2
    split at h
    · rename_i c
      exact ⟨i, j, rep_int ru, rep_int rv, ⟨c.1, by omega, c.2.2⟩, h.out s (rep_i ..)⟩
    · exact h.elim
  · exact h.elim
end
/-! ### comparisons -/
def fCmp (p : Int → Int → Bool) : F2 := fun a b st => match intOf a, intOf b with
  | some i, some j => .ok (.bl (p i j)) st
  | _, _ => .stuck
theorem m_cmp {K : PySem.W.Frag} {W : WX} {p : Int → Int → Bool} : OpM K W (rI0 fun i j => .bl (p i j)) (fCmp p) := by
  intro σ mp H st d e u v Q s ru rv h
  unfold fCmp at h
  split at h
  · rename_i i j h1 h2
    obtain rfl := intOf_eq h1
    obtain rfl := intOf_eq h2
    exact ⟨i, j, rep_int ru, rep_int rv, h.out s (rep_b ..)⟩
  · exact h.elim
mutual
def toD0 : Val → Option PyData
  | .non => some .none
  | .bl b => some (.bool b)
  | .int i => some (.int i)
  | .str x => some (.str x)
  | .tup xs => (toDs xs).map .tuple
  | .lst xs => (toDs xs).map .list
  | .fzl xs => (toDs xs).map .list
  | .brw xs => (toDs xs).map .list
  | _ => none
def toDs : List Val → Option (List PyData)
  | [] => some []
  | d :: ds => match toD0 d, toDs ds with
    | some x, some xs => some (x :: xs)
    | _, _ => none
end
def toD (st : Store) : Val → Option PyData
  | .ref n => match st[n]? with
    | some (.lst xs) => (toDs xs).map .list
    | _ => none
  | d => toD0 d
mutual
def shp : Nat → PyData → Bool
  | _, .none => true
  | _, .bool _ => true
  | _, .int _ => true
  | _, .str x => PyData.strOk x
  | 0, _ => false
  | n + 1, .list xs => shps n xs
  | n + 1, .tuple xs => shps n xs
  | _, .dict _ => false
def shps : Nat → List PyData → Bool
  | _, [] => true
  | n, x :: xs => shp n x && shps n xs
end
mutual
theorem shp_ok : ∀ {n : Nat} {d : PyData}, shp n d = true → d.canLay0 = true ∧ d.depth ≤ n
  | _, .none, _ => ⟨rfl, Nat.zero_le _⟩
  | _, .bool _, _ => ⟨rfl, Nat.zero_le _⟩
  | _, .int _, _ => ⟨rfl, Nat.zero_le _⟩
  | _, .str x, h => ⟨by show PyData.strOk x = true; simpa [shp] using h, Nat.zero_le _⟩
  | 0, .list _, h => by simp [shp] at h
  | 0, .tuple _, h => by simp [shp] at h
  | n + 1, .list xs, h => by
    have := shps_ok (n := n) (d := xs) (by simpa [shp] using h)
    exact ⟨this.1, Nat.succ_le_succ this.2⟩
  | n + 1, .tuple xs, h => by
    have := shps_ok (n := n) (d := xs) (by simpa [shp] using h)
    exact ⟨this.1, Nat.succ_le_succ this.2⟩
  | 0, .dict _, h => by simp [shp] at h
  | n + 1, .dict _, h => by simp [shp] at h
theorem shps_ok : ∀ {n : Nat} {d : List PyData}, shps n d = true → PyData.canLayAll0 d = true ∧ PyData.depthAll d ≤ n
  | _, [], _ => ⟨rfl, Nat.zero_le _⟩
  | n, x :: xs, h => by
    have h2 : shp n x = true ∧ shps n xs = true := by simpa [shps] using h
    have a := shp_ok h2.1
    have b := shps_ok h2.2
    refine ⟨?_, ?_⟩
    · show (x.canLay0 && PyData.canLayAll0 xs) = true
      rw [a.1, b.1]; rfl
    · show max x.depth (PyData.depthAll xs) ≤ n
      exact Nat.max_le.mpr ⟨a.2, b.2⟩
end
theorem shaped_shp {d : PyData} (h : shp 40 d = true) : SeqAt.shaped d = true := by
  have := shp_ok h
  unfold SeqAt.shaped
  rw [this.1, Bool.true_and]
  exact decide_eq_true (by omega)
section
variable {K : PySem.W.Frag} {mp mp' : Mp} {H H' : Hp} {st : Store}
mutual
theorem dp_of : ∀ {d : Val} {u : V} {x : PyData}, RepV K mp H d u → toD0 d = some x → Dp K H u x
  | .non, u, x, r, h => by
    obtain rfl : u = .non := by simpa [RepV] using r
    obtain rfl : PyData.none = x := by simpa [toD0] using h
    exact .non
  | .bl b, u, x, r, h => by
    obtain rfl := rep_bl r
    obtain rfl : PyData.bool b = x := by simpa [toD0] using h
    exact .bl b
  | .int b, u, x, r, h => by
    obtain rfl := rep_int r
    obtain rfl : PyData.int b = x := by simpa [toD0] using h
    exact .int b
  | .str b, u, x, r, h => by
    obtain rfl := rep_str r
    obtain rfl : PyData.str b = x := by simpa [toD0] using h
    exact .str b
  | .tup ds, u, x, r, h => by
    unfold RepV at r
    obtain ⟨a, xs, rfl, q, z⟩ := r
    simp only [toD0, Option.map_eq_some_iff] at h
    obtain ⟨es, h1, rfl⟩ := h
    exact .tup q.sq (dps_of z h1)
  | .lst ds, u, x, r, h => by
    unfold RepV at r
    obtain ⟨a, xs, rfl, q, z⟩ := r
    simp only [toD0, Option.map_eq_some_iff] at h
    obtain ⟨es, h1, rfl⟩ := h
    exact .lst (.inl (.inl q.1)) (dps_of z h1)
  | .fzl ds, u, x, r, h => by
    unfold RepV at r
    obtain ⟨a, xs, rfl, q, z⟩ := r
    simp only [toD0, Option.map_eq_some_iff] at h
    obtain ⟨es, h1, rfl⟩ := h
    exact .lst q.sq (dps_of z h1)
  | .brw ds, u, x, r, h => by
    unfold RepV at r
    obtain ⟨a, xs, rfl, q, z⟩ := r
    simp only [toD0, Option.map_eq_some_iff] at h
    obtain ⟨es, h1, rfl⟩ := h
    exact .lst (.inl (.inl q.1)) (dps_of z h1)
  | .dct _, _, _, _, h => by simp [toD0] at h
  | .rng _ _, _, _, _, h => by simp [toD0] at h
  | .ref _, _, _, _, h => by simp [toD0] at h
  | .fn _, _, _, _, h => by simp [toD0] at h
theorem dps_of : ∀ {d : List Val} {u : List V} {x : List PyData}, RepVs K mp H d u → toDs d = some x → DpAll K H u x
  | [], u, x, r, h => by
    obtain rfl := repvs_nil.mp r
    obtain rfl : [] = x := by simpa [toDs] using h
    exact .nil
  | d :: ds, u, x, r, h => by
    obtain ⟨v, vs, rfl, r1, r2⟩ := repvs_cons.mp r
    unfold toDs at h
    split at h
    · rename_i y ys h1 h2
      obtain rfl := Option.some.inj h
      exact .cons (dp_of r1 h1) (dps_of r2 h2)
    · cases h
end
theorem dp_at (s : RelS K mp H st) {d : Val} {u : V} {x : PyData} (r : RepV K mp H d u) (h : toD st d = some x) : Dp K H u x := by
  by_cases c : ∃ n, d = .ref n
  · obtain ⟨n, rfl⟩ := c
    unfold toD at h
    simp only at h
    split at h
    · rename_i xs hx
      obtain ⟨es, h1, rfl⟩ := Option.map_eq_some_iff.mp h
      unfold RepV at r
      obtain ⟨a, e, q⟩ := r
      obtain ⟨ys, e1, e2⟩ := s.obj n a _ q hx
      subst e
      exact .lst (.inl (.inl e1)) (dps_of e2 h1)
    · cases h
  · have h2 : toD0 d = some x := by
      cases d with
      | ref n => exact absurd ⟨n, rfl⟩ c
      | _ => exact h
    exact dp_of r h2
end
def fEq : F2 := fun a b st => match toD st a, toD st b with
  | some x, some y => if shp 40 x && shp 40 y then .ok (.bl (PyData.eqv x y)) st else .stuck
  | _, _ => .stuck
def fNe : F2 := fun a b st => match toD st a, toD st b with
  | some x, some y => if shp 40 x && shp 40 y then .ok (.bl (!PyData.eqv x y)) st else .stuck
  | _, _ => .stuck
theorem m_eq {K : PySem.W.Frag} {W : WX} : OpM K W (rEqD K) fEq := by
  intro σ mp H st d e u v Q s ru rv h
  unfold fEq at h
  split at h
  · rename_i x y h1 h2
    split at h
    · rename_i c
      simp only [Bool.and_eq_true] at c
      exact ⟨x, y, dp_at s ru h1, dp_at s rv h2, shaped_shp c.1, shaped_shp c.2, h.out s (rep_b ..)⟩
    · exact h.elim
  · exact h.elim
theorem m_ne {K : PySem.W.Frag} {W : WX} : OpM K W (rNeD K) fNe := by
  intro σ mp H st d e u v Q s ru rv h
  unfold fNe at h
  split at h
  · rename_i x y h1 h2
    split at h
    · rename_i c
      simp only [Bool.and_eq_true] at c
      exact ⟨x, y, dp_at s ru h1, dp_at s rv h2, shaped_shp c.1, shaped_shp c.2, h.out s (rep_b ..)⟩
    · exact h.elim
  · exact h.elim
/-- flat values -/
def fl : Val → Option V
  | .non => some .non
  | .bl b => some (.bl b)
  | .int i => some (.int i)
  | .str x => some (.str x)
  | _ => none
def fls : List Val → Option (List V)
  | [] => some []
  | d :: ds => match fl d, fls ds with
    | some x, some xs => some (x :: xs)
    | _, _ => none
theorem fl_rep {K : PySem.W.Frag} {mp : Mp} {H : Hp} {d : Val} {u v : V} (r : RepV K mp H d u) (h : fl d = some v) : u = v ∧ flatV v = true := by
  cases d with
  | non => obtain rfl : V.non = v := Option.some.inj h; exact ⟨by simpa [RepV] using r, rfl⟩
  | bl b => obtain rfl : V.bl b = v := Option.some.inj h; exact ⟨rep_bl r, rfl⟩
  | int b => obtain rfl : V.int b = v := Option.some.inj h; exact ⟨rep_int r, rfl⟩
  | str b => obtain rfl : V.str b = v := Option.some.inj h; exact ⟨rep_str r, rfl⟩
  | _ => cases h
theorem fls_rep {K : PySem.W.Frag} {mp : Mp} {H : Hp} : ∀ {d : List Val} {u v : List V}, RepVs K mp H d u → fls d = some v → u = v ∧ v.all flatV = true
  | [], u, v, r, h => by
    obtain rfl := repvs_nil.mp r
    obtain rfl : [] = v := by simpa [fls] using h
    exact ⟨rfl, rfl⟩
  | d :: ds, u, v, r, h => by
    obtain ⟨y, ys, rfl, r1, r2⟩ := repvs_cons.mp r
    unfold fls at h
    split at h
    · rename_i z zs h1 h2
      obtain rfl := Option.some.inj h
      obtain ⟨rfl, a⟩ := fl_rep r1 h1
      obtain ⟨rfl, b⟩ := fls_rep r2 h2
      exact ⟨rfl, by rw [List.all_cons, a, b]; rfl⟩
    · cases h
def rngOf : Val → Option (Int × Int)
  | .rng a b => some (a, b)
  | _ => none
/-- in (neg: not in): a list or tuple of flat things; a range -/
def tupB : Val → Bool
  | .tup _ => true
  | _ => false
def fIn : F2 := fun a b st => cond (tupB a) (match toD st a, toD st b with
  | some x, some (.list ds) => if shp 40 x && shp 40 (.list ds) then .ok (.bl (ds.any fun z => PyData.eqv z x)) st else .stuck
  | _, _ => .stuck) (match rngOf b with
  | some (lo, hi) => (match intOf a with
    | some i => .ok (.bl (decide (lo ≤ i ∧ i < hi))) st
    | none => .stuck)
  | none => match seqOf st b with
    | some ys => (match fl a, fls ys with
      | some x, some zs => .ok (.bl (inV x zs)) st
      | _, _ => .stuck)
    | none => .stuck)
def fNotIn : F2 := fun a b st => cond (tupB a) (match toD st a, toD st b with
  | some x, some (.list ds) => if shp 40 x && shp 40 (.list ds) then .ok (.bl (!ds.any fun z => PyData.eqv z x)) st else .stuck
  | _, _ => .stuck) (match rngOf b with
  | some (lo, hi) => (match intOf a with
    | some i => .ok (.bl (!decide (lo ≤ i ∧ i < hi))) st
    | none => .stuck)
  | none => match seqOf st b with
    | some ys => (match fl a, fls ys with
      | some x, some zs => .ok (.bl (!inV x zs)) st
      | _, _ => .stuck)
    | none => .stuck)
section
variable {X : Cx} {W : WX} {K : PySem.W.Frag}
abbrev rInA (K : PySem.W.Frag) : R2 := fun x y H Q => (∃ i a lo hi, x = V.int i ∧ y = V.ref a ∧ H a = some (.rng lo hi) ∧ Q (.bl (decide (lo ≤ i ∧ i < hi))) H) ∨ rIn K false x y H Q ∨ rInD K x y H Q
theorem o_in (hu : X.A.units + 65 < cLine) : OpR X (compareOp .In) (rInA X.K) := OpR.or op_in_rng (OpR.or op_in_seq (op_inD hu))
theorem m_in : OpM K W (rInA K) fIn := by
  intro σ mp H st d e u v Q s ru rv h
  unfold fIn at h
  cases ht : tupB d with
  | true =>
    rw [ht, cond_true] at h
    split at h
    · rename_i x ds h1 h2
      split at h
      · rename_i c
        simp only [Bool.and_eq_true] at c
        exact .inr (.inr ⟨x, ds, dp_at s ru h1, dp_at s rv h2, shaped_shp c.1, shaped_shp c.2, h.out s (rep_b ..)⟩)
      · exact h.elim
    · exact h.elim
  | false =>
  rw [ht, cond_false] at h
  split at h
  · rename_i lo hi h1
    cases e with
    | rng a b =>
      obtain ⟨rfl, rfl⟩ : a = lo ∧ b = hi := by simpa [rngOf] using h1
      split at h
      · rename_i i h2
        obtain rfl := intOf_eq h2
        unfold RepV at rv
        obtain ⟨p, e1, e2, _⟩ := rv
        exact .inl ⟨i, p, _, _, rep_int ru, e1, e2, h.out s (rep_b ..)⟩
      · exact h.elim
    | _ => simp [rngOf] at h1
  · split at h
    · rename_i ys h1
      split at h
      · rename_i x zs h2 h3
        obtain ⟨a, xs, e1, q, r⟩ := seqOf_rep s rv h1
        obtain ⟨rfl, fx⟩ := fl_rep ru h2
        obtain ⟨rfl, fz⟩ := fls_rep r h3
        exact .inr (.inl ⟨a, xs, e1, q, fx, fz, h.out s (rep_b ..)⟩)
      · exact h.elim
    · exact h.elim
/-- not in a range -/
theorem op_nin_rng : OpR X (compareOp .NotIn) (fun c d H Q => ∃ n r lo up, c = V.int n ∧ d = V.ref r ∧ H r = some (.rng lo up) ∧ Q (.bl (!decide (lo ≤ n ∧ n < up))) H) := by
  intro pn st σ H c d vc vd Q inv rc rd ⟨n, r, lo, up, e1, e2, hr, hQ⟩
  subst e1 e2
  obtain ⟨w, rfl⟩ := rc
  obtain rfl : vd = Value.ref r := rd
  obtain ⟨z1, z2, z3, hg⟩ := inv.hok r _ hr
  show wpAny _ _ (do return Value.bool (!(← contains (.ref r) (.int n w)))) _ _ st
  refine wpAny_bind (wpAny_contains_slot (T := "range") ⟨_, hg, rfl⟩ F.slot_range_contains ?_)
  refine call_meets F.slot_range_contains ⟨_, hg, rfl⟩ F.entry_range_contains (F.args_range_contains_2 _ _) (q_contains r lo up n z1 z2 z3 w) ⟨hg, ?_⟩
  refine wpAny_truthy_bool (wpAny_pure ⟨.bl _, H, inv, rfl, ?_⟩)
  rw [place1]
  exact hQ
abbrev rNinA (K : PySem.W.Frag) : R2 := fun c d H Q => (∃ n r lo up, c = V.int n ∧ d = V.ref r ∧ H r = some (.rng lo up) ∧ Q (.bl (!decide (lo ≤ n ∧ n < up))) H) ∨ rIn K true c d H Q ∨ rNotInD K c d H Q
theorem o_notIn (hu : X.A.units + 65 < cLine) : OpR X (compareOp .NotIn) (rNinA X.K) := OpR.or op_nin_rng (OpR.or op_notIn_seq (op_notInD hu))
theorem m_notIn : OpM K W (rNinA K) fNotIn := by
  intro σ mp H st d e u v Q s ru rv h
  unfold fNotIn at h
  cases ht : tupB d with
  | true =>
    rw [ht, cond_true] at h
    split at h
    · rename_i x ds h1 h2
      split at h
      · rename_i c
        simp only [Bool.and_eq_true] at c
        exact .inr (.inr ⟨x, ds, dp_at s ru h1, dp_at s rv h2, shaped_shp c.1, shaped_shp c.2, h.out s (rep_b ..)⟩)
      · exact h.elim
    · exact h.elim
  | false =>
  rw [ht, cond_false] at h
  split at h
  · rename_i lo hi h1
    cases e with
    | rng a b =>
      obtain ⟨rfl, rfl⟩ : a = lo ∧ b = hi := by simpa [rngOf] using h1
      split at h
      · rename_i i h2
        obtain rfl := intOf_eq h2
        unfold RepV at rv
        obtain ⟨p, e1, e2, _⟩ := rv
        exact .inl ⟨i, p, _, _, rep_int ru, e1, e2, h.out s (rep_b ..)⟩
      · exact h.elim
    | _ => simp [rngOf] at h1
  · split at h
    · rename_i ys h1
      split at h
      · rename_i x zs h2 h3
        obtain ⟨a, xs, e1, q, r⟩ := seqOf_rep s rv h1
        obtain ⟨rfl, fx⟩ := fl_rep ru h2
        obtain ⟨rfl, fz⟩ := fls_rep r h3
        exact .inr (.inl ⟨a, xs, e1, q, fx, fz, h.out s (rep_b ..)⟩)
      · exact h.elim
    · exact h.elim
def isNon : Val → Bool
  | .non => true
  | _ => false
def fIsN : F2 := fun a b st => if isNon b then .ok (.bl (isNon a)) st else .stuck
def fNotN : F2 := fun a b st => if isNon b then .ok (.bl (!isNon a)) st else .stuck
theorem isNon_rep {mp : Mp} {H : Hp} {d : Val} {u : V} (r : RepV K mp H d u) : decide (u = .non) = isNon d := by
  cases d <;> simp only [RepV] at r <;> (try (obtain ⟨_, r, _⟩ := r)) <;> (try (obtain ⟨_, r, _⟩ := r)) <;> simp_all [isNon]
theorem isNon_eq {mp : Mp} {H : Hp} {d : Val} {u : V} (r : RepV K mp H d u) (h : isNon d = true) : u = .non := by
  have := isNon_rep r
  rw [h] at this
  exact of_decide_eq_true this
theorem m_isN : OpM K W (fun x y H Q => y = .non ∧ Q (.bl (decide (x = .non))) H) fIsN := by
  intro σ mp H st d e u v Q s ru rv h
  unfold fIsN at h
  split at h
  · rename_i c
    exact ⟨isNon_eq rv c, by rw [isNon_rep ru]; exact h.out s (rep_b ..)⟩
  · exact h.elim
theorem m_notN : OpM K W (fun x y H Q => y = .non ∧ Q (.bl (!decide (x = .non))) H) fNotN := by
  intro σ mp H st d e u v Q s ru rv h
  unfold fNotN at h
  split at h
  · rename_i c
    exact ⟨isNon_eq rv c, by rw [isNon_rep ru]; exact h.out s (rep_b ..)⟩
  · exact h.elim
end
end ML

-- ML4
set_option linter.all false
set_option maxRecDepth 100000
set_option maxHeartbeats 4000000
namespace ML
open PySem PySem.Spec PyProof.Rows L2
/-! ### comparisons and tests as syntax -/
def blOf : Val → Option Bool
  | .bl b => some b
  | _ => none
theorem blOf_eq {d : Val} {i : Bool} (h : blOf d = some i) : d = .bl i := by
  cases d with
  | bl j => exact congrArg Val.bl (Option.some.inj h)
  | _ => cases h
def kB {α : Type} (k : Bool → Store → R α) (d : Val) (st : Store) : R α := match blOf d with
  | some b => k b st
  | none => .stuck
/-- a value as a test -/
def mTest (m : MEnv → Store → R Val) (env : MEnv) (st : Store) : R Bool := (m env st).bind (kB fun b st => .ok b st)
def mChain (f g : F2) (ma mb mc : MEnv → Store → R Val) (env : MEnv) (st : Store) : R Val := (ma env st).bind fun a st => (mb env st).bind fun b st => (f a b st).bind (kB fun k st =>
  if k = true then (mc env st).bind fun c st => g b c st else .ok (.bl false) st)
section
variable {X : Cx} {W : WX} {pos : Pos} {a b c : Expr} {ma mb mc : MEnv → Store → R Val} {na nb : MEnv → Store → R Bool}
theorem kB_ok {α β : Type} {K : PySem.W.Frag} {σ : L2.St} {Rp : RepT α β} {mp : Mp} {H : Hp} {st : Store} {k : Bool → Store → R α} {d : Val} {u : V} {Q : β → Hp → Prop} (h : Post K W σ Rp mp H (kB k d st) Q) (r : RepV K mp H d u) : ∃ b, u = .bl b ∧ Post K W σ Rp mp H (k b st) Q := by
  unfold kB at h
  split at h
  · rename_i b e
    obtain rfl := blOf_eq e
    exact ⟨b, rep_bl r, h⟩
  · exact h.elim
theorem me_cmp {op : CmpOp} {r : R2} {f : F2} (ho : OpR X (compareOp op) r) (hf : OpM X.K W r f) (ha : ME X W a ma) (hb : ME X W b mb) (hm : behindInMarks op b = false) : ME X W (.Compare a [op] [b] pos) (mBin f ma mb) := by
  obtain ⟨ta, pa, ha⟩ := ha.ex
  obtain ⟨tb, pb, hb⟩ := hb.ex
  refine ⟨⟨_, pe_cmpR ho pa pb hm, fun σ H Q mp env st rs re hp => ?_⟩⟩
  refine ha σ H _ mp env st rs re (Post.of_bind hp fun mp1 H1 d st1 u e l s r q => ?_)
  refine hb σ H1 _ mp1 env st1 s (l.relE re) (Post.of_bind q fun mp2 H2 d2 st2 v e2 l2 s2 r2 q2 => ?_)
  exact hf σ mp2 H2 st2 d d2 u v Q s2 (l2.rep r) r2 q2
theorem Post.test {K : PySem.W.Frag} {σ : L2.St} {mp : Mp} {H : Hp} {r : R Val} {Q : Bool → Hp → Prop} (h : Post K W σ RB mp H (r.bind (kB fun b st => .ok b st)) Q) : Post K W σ (RV K) mp H r (fun x H' => ∃ k, x = .bl k ∧ Q k H') :=
  Post.of_bind h fun mp1 H1 d st1 u e l s r q => by
    obtain ⟨b, e, q⟩ := kB_ok q r
    exact ⟨b, e, q mp1 H1 b .refl s rfl⟩
theorem mt_cmp {op : CmpOp} {r : R2} {f : F2} (ho : OpR X (compareOp op) r) (hf : OpM X.K W r f) (ha : ME X W a ma) (hb : ME X W b mb) (hm : behindInMarks op b = false) : MT X W (.Compare a [op] [b] pos) (mTest (mBin f ma mb)) := by
  obtain ⟨ta, pa, ha⟩ := ha.ex
  obtain ⟨tb, pb, hb⟩ := hb.ex
  refine ⟨⟨_, pt_cmpR ho pa pb hm, fun σ H Q mp env st rs re hp => ?_⟩⟩
  have hp2 := Post.test hp
  refine ha σ H _ mp env st rs re (Post.of_bind hp2 fun mp1 H1 d st1 u e l s r q => ?_)
  refine hb σ H1 _ mp1 env st1 s (l.relE re) (Post.of_bind q fun mp2 H2 d2 st2 v e2 l2 s2 r2 q2 => ?_)
  exact hf σ mp2 H2 st2 d d2 u v _ s2 (l2.rep r) r2 q2
theorem chain_rd {K : PySem.W.Frag} {r r' : R2} {f g : F2} {ta tb tc : TE} (hf : OpM K W r f) (hg : OpM K W r' g)
    (ha : ∀ σ H Q mp env st, RelS K mp H st → RelE K mp H env σ → Post K W σ (RV K) mp H (ma env st) Q → ta σ H Q)
    (hb : ∀ σ H Q mp env st, RelS K mp H st → RelE K mp H env σ → Post K W σ (RV K) mp H (mb env st) Q → tb σ H Q)
    (hc : ∀ σ H Q mp env st, RelS K mp H st → RelE K mp H env σ → Post K W σ (RV K) mp H (mc env st) Q → tc σ H Q)
    (σ : L2.St) (H : Hp) (Q : VK) (mp : Mp) (env : MEnv) (st : Store) (rs : RelS K mp H st) (re : RelE K mp H env σ) (hp : Post K W σ (RV K) mp H (mChain f g ma mb mc env st) Q) : tChain r r' ta tb tc σ H Q := by
  refine ha σ H _ mp env st rs re (Post.of_bind hp fun mp1 H1 d st1 u e l s r q => ?_)
  refine hb σ H1 _ mp1 env st1 s (l.relE re) (Post.of_bind q fun mp2 H2 d2 st2 v e2 l2 s2 r2 q2 => ?_)
  refine hf σ mp2 H2 st2 d d2 u v _ s2 (l2.rep r) r2 (Post.of_bind q2 fun mp3 H3 d3 st3 w e3 l3 s3 r3 q3 => ?_)
  obtain ⟨k, e, q3⟩ := kB_ok q3 r3
  refine ⟨k, e, ?_⟩
  cases k with
  | true =>
    rw [if_pos rfl] at q3 ⊢
    refine hc σ H3 _ mp3 env st3 s3 (l3.relE (l2.relE (l.relE re))) (Post.of_bind q3 fun mp4 H4 d4 st4 w4 e4 l4 s4 r4 q4 => ?_)
    exact hg σ mp4 H4 st4 d2 d4 v w4 Q s4 (l4.rep (l3.rep r2)) r4 q4
  | false =>
    rw [if_neg (by decide)] at q3 ⊢
    exact q3.out s3 (rep_b ..)
theorem me_chain {op op' : CmpOp} {r r' : R2} {f g : F2} (ho : OpR X (compareOp op) r) (ho' : OpR X (compareOp op') r') (hf : OpM X.K W r f) (hg : OpM X.K W r' g) (ha : ME X W a ma) (hb : ME X W b mb) (hc : ME X W c mc)
    (hm : lastMarks [op, op'] [b, c] = false := by with_unfolding_all rfl) : ME X W (.Compare a [op, op'] [b, c] pos) (mChain f g ma mb mc) := by
  obtain ⟨ta, pa, ha⟩ := ha.ex
  obtain ⟨tb, pb, hb⟩ := hb.ex
  obtain ⟨tc, pc, hc⟩ := hc.ex
  exact ⟨⟨_, pe_chain ho ho' pa pb pc hm, chain_rd hf hg ha hb hc⟩⟩
theorem mt_chain {op op' : CmpOp} {r r' : R2} {f g : F2} (ho : OpR X (compareOp op) r) (ho' : OpR X (compareOp op') r') (hf : OpM X.K W r f) (hg : OpM X.K W r' g) (ha : ME X W a ma) (hb : ME X W b mb) (hc : ME X W c mc)
    (hm : lastMarks [op, op'] [b, c] = false := by with_unfolding_all rfl) : MT X W (.Compare a [op, op'] [b, c] pos) (mTest (mChain f g ma mb mc)) := by
  obtain ⟨ta, pa, ha⟩ := ha.ex
  obtain ⟨tb, pb, hb⟩ := hb.ex
  obtain ⟨tc, pc, hc⟩ := hc.ex
  exact ⟨⟨_, pt_chain ho ho' pa pb pc hm, fun σ H Q mp env st rs re hp => chain_rd hf hg ha hb hc σ H _ mp env st rs re (Post.test hp)⟩⟩
/-! ### truth -/
def truM (st : Store) : Val → Option Bool
  | .non => some false
  | .bl b => some b
  | .int i => some (i != 0)
  | .tup xs => some (!xs.isEmpty)
  | d => (listOf st d).map fun xs => !xs.isEmpty
theorem truM_rep {K : PySem.W.Frag} {mp : Mp} {H : Hp} {st : Store} (s : RelS K mp H st) {d : Val} {u : V} {k : Bool} (r : RepV K mp H d u) (h : truM st d = some k) : TruV K u H k := by
  have emp : ∀ {ds : List Val} {xs : List V}, RepVs K mp H ds xs → (!ds.isEmpty) = !xs.isEmpty := fun {ds xs} z => by
    have := repvs_len z
    cases ds <;> cases xs <;> simp_all
  have lst : ∀ {ds : List Val}, listOf st d = some ds → (!ds.isEmpty) = k → TruV K u H k := fun {ds} e z => by
    obtain ⟨a, xs, rfl, q, w⟩ := listOf_rep s r e
    exact .inl ⟨xs, q, by rw [← z]; exact emp w⟩
  cases d with
  | non =>
    obtain rfl : u = .non := by simpa [RepV] using r
    exact (Option.some.inj h).symm
  | bl b =>
    obtain rfl := rep_bl r
    exact (Option.some.inj h).symm
  | int b =>
    obtain rfl := rep_int r
    exact (Option.some.inj h).symm
  | tup xs =>
    obtain ⟨a, ys, rfl, q, w⟩ := tupOf_rep (ds := xs) r rfl
    exact .inr (.inl ⟨ys, q, by rw [← Option.some.inj h]; exact emp w⟩)
  | lst xs =>
    have h2 : (listOf st (.lst xs)).map (fun xs => !xs.isEmpty) = some k := h
    obtain ⟨ds, e1, e2⟩ := Option.map_eq_some_iff.mp h2
    exact lst e1 e2
  | fzl xs =>
    have h2 : (listOf st (.fzl xs)).map (fun xs => !xs.isEmpty) = some k := h
    obtain ⟨ds, e1, e2⟩ := Option.map_eq_some_iff.mp h2
    exact lst e1 e2
  | brw xs =>
    have h2 : (listOf st (.brw xs)).map (fun xs => !xs.isEmpty) = some k := h
    obtain ⟨ds, e1, e2⟩ := Option.map_eq_some_iff.mp h2
    exact lst e1 e2
  | ref n =>
    have h2 : (listOf st (.ref n)).map (fun xs => !xs.isEmpty) = some k := h
    obtain ⟨ds, e1, e2⟩ := Option.map_eq_some_iff.mp h2
    exact lst e1 e2
  | _ => cases h
def kTru (d : Val) (st : Store) : R Bool := match truM st d with
  | some k => .ok k st
  | none => .stuck
def mTru (m : MEnv → Store → R Val) (env : MEnv) (st : Store) : R Bool := (m env st).bind kTru
theorem mt_truth (ha : ME X W a ma) (he : ∀ whole, isTrue a X.env whole = (do let v ← whole; standAt a.pos; holding [v] (truthy v)) := by intro _; rfl) : MT X W a (mTru ma) := by
  obtain ⟨ta, pa, ha⟩ := ha.ex
  refine ⟨⟨_, pt_truth pa he, fun σ H Q mp env st rs re hp => ?_⟩⟩
  refine ha σ H _ mp env st rs re (Post.of_bind hp fun mp1 H1 d st1 u e l s r q => ?_)
  unfold kTru at q
  split at q
  · rename_i k e
    exact ⟨k, truM_rep s r e, q mp1 H1 k .refl s rfl⟩
  · exact q.elim
/-! ### and, or, not -/
def mNotT (m : MEnv → Store → R Bool) (env : MEnv) (st : Store) : R Bool := (m env st).bind fun b st => .ok (!b) st
def mAndT (m n : MEnv → Store → R Bool) (env : MEnv) (st : Store) : R Bool := (m env st).bind fun b st => if b = true then n env st else .ok false st
def mOrT (m n : MEnv → Store → R Bool) (env : MEnv) (st : Store) : R Bool := (m env st).bind fun b st => if b = true then .ok true st else n env st
theorem mt_not (h : MT X W a na) : MT X W (.UnaryOp .Not a pos) (mNotT na) := by
  obtain ⟨t, p, h⟩ := h.ex
  refine ⟨⟨_, pt_not p, fun σ H Q mp env st rs re hp => ?_⟩⟩
  refine h σ H _ mp env st rs re (Post.of_bind hp fun mp1 H1 d st1 u e l s r q => ?_)
  obtain rfl : d = u := r
  exact q mp1 H1 (!d) .refl s rfl
theorem MW.mt (h : MW X W a na) : MT X W a na := by
  obtain ⟨t, p, h⟩ := h.ex
  exact ⟨⟨t, p.pt, h⟩⟩
theorem mw_one_and (h : MT X W a na) : MW X W (.BoolOp .And [a] pos) na := by
  obtain ⟨t, p, h⟩ := h.ex
  exact ⟨⟨t, pw_and1 p, h⟩⟩
theorem mw_one_or (h : MT X W a na) : MW X W (.BoolOp .Or [a] pos) na := by
  obtain ⟨t, p, h⟩ := h.ex
  exact ⟨⟨t, pw_or1 p, h⟩⟩
theorem mw_and {rest : List Expr} (h : MT X W a na) (h2 : MW X W (.BoolOp .And (b :: rest) pos) nb) : MW X W (.BoolOp .And (a :: b :: rest) pos) (mAndT na nb) := by
  obtain ⟨t, p, h⟩ := h.ex
  obtain ⟨t2, p2, h2⟩ := h2.ex
  refine ⟨⟨_, pw_and p p2, fun σ H Q mp env st rs re hp => ?_⟩⟩
  refine h σ H _ mp env st rs re (Post.of_bind hp fun mp1 H1 d st1 u e l s r q => ?_)
  obtain rfl : d = u := r
  cases d with
  | true => exact h2 σ H1 _ mp1 env st1 s (l.relE re) q
  | false => exact q mp1 H1 false .refl s rfl
theorem mw_or {rest : List Expr} (h : MT X W a na) (h2 : MW X W (.BoolOp .Or (b :: rest) pos) nb) : MW X W (.BoolOp .Or (a :: b :: rest) pos) (mOrT na nb) := by
  obtain ⟨t, p, h⟩ := h.ex
  obtain ⟨t2, p2, h2⟩ := h2.ex
  refine ⟨⟨_, pw_or p p2, fun σ H Q mp env st rs re hp => ?_⟩⟩
  refine h σ H _ mp env st rs re (Post.of_bind hp fun mp1 H1 d st1 u e l s r q => ?_)
  obtain rfl : d = u := r
  cases d with
  | true => exact q mp1 H1 true .refl s rfl
  | false => exact h2 σ H1 _ mp1 env st1 s (l.relE re) q
/-- as values, by truth -/
def mAndV (m n : MEnv → Store → R Val) (env : MEnv) (st : Store) : R Val := (m env st).bind fun d st => match truM st d with
  | some true => n env st
  | some false => .ok d st
  | none => .stuck
def mOrV (m n : MEnv → Store → R Val) (env : MEnv) (st : Store) : R Val := (m env st).bind fun d st => match truM st d with
  | some true => .ok d st
  | some false => n env st
  | none => .stuck
def mNotV (m : MEnv → Store → R Val) (env : MEnv) (st : Store) : R Val := (m env st).bind fun d st => match truM st d with
  | some k => .ok (.bl (!k)) st
  | none => .stuck
theorem me_one {op} (h : ME X W a ma) : ME X W (.BoolOp op [a] pos) ma := by
  obtain ⟨t, p, h⟩ := h.ex
  exact ⟨⟨t, pe_one p, h⟩⟩
theorem me_and {rest : List Expr} (h : ME X W a ma) (h2 : ME X W (.BoolOp .And (b :: rest) pos) mb) : ME X W (.BoolOp .And (a :: b :: rest) pos) (mAndV ma mb) := by
  obtain ⟨t, p, h⟩ := h.ex
  obtain ⟨t2, p2, h2⟩ := h2.ex
  refine ⟨⟨_, pe_andT p p2, fun σ H Q mp env st rs re hp => ?_⟩⟩
  refine h σ H _ mp env st rs re (Post.of_bind hp fun mp1 H1 d st1 u e l s r q => ?_)
  split at q
  · rename_i e
    exact ⟨true, truM_rep s r e, by rw [if_pos rfl]; exact h2 σ H1 _ mp1 env st1 s (l.relE re) q⟩
  · rename_i e
    exact ⟨false, truM_rep s r e, by rw [if_neg (by decide)]; exact q.out s r⟩
  · exact q.elim
theorem me_or {rest : List Expr} (h : ME X W a ma) (h2 : ME X W (.BoolOp .Or (b :: rest) pos) mb) : ME X W (.BoolOp .Or (a :: b :: rest) pos) (mOrV ma mb) := by
  obtain ⟨t, p, h⟩ := h.ex
  obtain ⟨t2, p2, h2⟩ := h2.ex
  refine ⟨⟨_, pe_orT p p2, fun σ H Q mp env st rs re hp => ?_⟩⟩
  refine h σ H _ mp env st rs re (Post.of_bind hp fun mp1 H1 d st1 u e l s r q => ?_)
  split at q
  · rename_i e
    exact ⟨true, truM_rep s r e, by rw [if_pos rfl]; exact q.out s r⟩
  · rename_i e
    exact ⟨false, truM_rep s r e, by rw [if_neg (by decide)]; exact h2 σ H1 _ mp1 env st1 s (l.relE re) q⟩
  · exact q.elim
theorem me_not (h : ME X W a ma) : ME X W (.UnaryOp .Not a pos) (mNotV ma) := by
  obtain ⟨t, p, h⟩ := h.ex
  refine ⟨⟨_, pe_notT p, fun σ H Q mp env st rs re hp => ?_⟩⟩
  refine h σ H _ mp env st rs re (Post.of_bind hp fun mp1 H1 d st1 u e l s r q => ?_)
  split at q
  · rename_i k e
    exact ⟨k, truM_rep s r e, q.out s (rep_b ..)⟩
  · exact q.elim
/-! ### the conditional, minus -/
def mIfE (n : MEnv → Store → R Bool) (ma mb : MEnv → Store → R Val) (env : MEnv) (st : Store) : R Val := (n env st).bind fun k st => if k = true then ma env st else mb env st
theorem me_ifExp (hc : MT X W c na) (ha : ME X W a ma) (hb : ME X W b mb) : ME X W (.IfExp c a b pos) (mIfE na ma mb) := by
  obtain ⟨t, p, h⟩ := hc.ex
  obtain ⟨ta, pa, ha⟩ := ha.ex
  obtain ⟨tb, pb, hb⟩ := hb.ex
  refine ⟨⟨_, pe_ifExp p pa pb, fun σ H Q mp env st rs re hp => ?_⟩⟩
  refine h σ H _ mp env st rs re (Post.of_bind hp fun mp1 H1 d st1 u e l s r q => ?_)
  obtain rfl : d = u := r
  cases d with
  | true => exact ha σ H1 _ mp1 env st1 s (l.relE re) q
  | false => exact hb σ H1 _ mp1 env st1 s (l.relE re) q
def mNeg (m : MEnv → Store → R Val) (env : MEnv) (st : Store) : R Val := (m env st).bind fun d st => match intOf d with
  | some i => .ok (.int (-i)) st
  | none => .stuck
theorem me_neg (h : ME X W a ma) : ME X W (.UnaryOp .USub a pos) (mNeg ma) := by
  obtain ⟨t, p, h⟩ := h.ex
  refine ⟨⟨_, pe_un un_neg p, fun σ H Q mp env st rs re hp => ?_⟩⟩
  refine h σ H _ mp env st rs re (Post.of_bind hp fun mp1 H1 d st1 u e l s r q => ?_)
  split at q
  · rename_i i e
    obtain rfl := intOf_eq e
    exact ⟨i, rep_int r, q.out s (rep_i ..)⟩
  · exact q.elim
/-! ### subscripts, slices -/
def fIx : F2 := fun a b st => match intOf b with
  | some i => (match seqOf st a with
    | some ds => (match atI ds i with
      | some d => .ok d st
      | none => .stuck)
    | none => match strOf a with
      | some x => (match atI x.cps.toList i with
        | some c => if x.length ≤ line then .ok (.str ⟨#[c]⟩) st else .stuck
        | none => .stuck)
      | none => .stuck)
  | none => .stuck
theorem atI_rep {K : PySem.W.Frag} {mp : Mp} {H : Hp} {ds : List Val} {xs : List V} {i : Int} {d : Val} (r : RepVs K mp H ds xs) (h : atI ds i = some d) : ∃ u, atI xs i = some u ∧ RepV K mp H d u := by
  unfold atI at h ⊢
  rw [repvs_len r] at h
  obtain ⟨j, h1, h2⟩ := Option.bind_eq_some_iff.mp h
  obtain ⟨u, e1, e2⟩ := repvs_get r h2
  exact ⟨u, by rw [h1]; exact e1, e2⟩
theorem m_ix {K : PySem.W.Frag} : OpM K W (rIx K) fIx := by
  intro σ mp H st d e u v Q s ru rv h
  unfold fIx at h
  split at h
  · rename_i i h1
    obtain rfl := intOf_eq h1
    split at h
    · rename_i ds h2
      split at h
      · rename_i x h3
        obtain ⟨p, xs, e1, q, r⟩ := seqOf_rep s ru h2
        obtain ⟨w, e2, r2⟩ := atI_rep r h3
        rcases q with q | q
        · exact .inl ⟨p, xs, i, w, e1, rep_int rv, q, e2, h.out s r2⟩
        · exact .inr (.inl ⟨p, xs, i, w, e1, rep_int rv, q, e2, h.out s r2⟩)
      · exact h.elim
    · split at h
      · rename_i x h2
        obtain rfl := strOf_eq h2
        split at h
        · rename_i c h3
          split at h
          · rename_i hl
            exact .inr (.inr ⟨x, i, c, rep_str ru, rep_int rv, by rw [line_eq]; exact hl, h3, h.out s (rep_s ..)⟩)
          · exact h.elim
        · exact h.elim
      · exact h.elim
  · exact h.elim
theorem me_ix (ha : ME X W a ma) (hb : ME X W b mb) (hs : PlainIx b := by exact fun _ _ => rfl) : ME X W (.Subscript a b pos) (mBin fIx ma mb) := by
  obtain ⟨ta, pa, ha⟩ := ha.ex
  obtain ⟨tb, pb, hb⟩ := hb.ex
  refine ⟨⟨_, pe_ix ix_seq pa pb hs, fun σ H Q mp env st rs re hp => ?_⟩⟩
  refine ha σ H _ mp env st rs re (Post.of_bind hp fun mp1 H1 d st1 u e l s r q => ?_)
  refine hb σ H1 _ mp1 env st1 s (l.relE re) (Post.of_bind q fun mp2 H2 d2 st2 v e2 l2 s2 r2 q2 => ?_)
  exact m_ix σ mp2 H2 st2 d d2 u v Q s2 (l2.rep r) r2 q2
abbrev ROI : RepT (Option Int) (Option Int) := fun _ _ a b => a = b
structure MO (X : Cx) (W : WX) (e : Option Expr) (m : MEnv → Store → R (Option Int)) : Prop where
  ex : ∃ t, PO X e t ∧ ∀ σ H Q mp env st, RelS X.K mp H st → RelE X.K mp H env σ → Post X.K W σ ROI mp H (m env st) Q → t σ H Q
def mNoPart (_ : MEnv) (st : Store) : R (Option Int) := .ok none st
def mPart (m : MEnv → Store → R Val) (env : MEnv) (st : Store) : R (Option Int) := (m env st).bind fun d st => match intOf d with
  | some i => .ok (some i) st
  | none => .stuck
theorem mo_none : MO X W none mNoPart := ⟨⟨_, po_none, fun σ H Q mp env st rs re hp => hp mp H none .refl rs rfl⟩⟩
theorem mo_some (h : ME X W a ma) : MO X W (some a) (mPart ma) := by
  obtain ⟨t, p, h⟩ := h.ex
  refine ⟨⟨_, po_some p, fun σ H Q mp env st rs re hp => ?_⟩⟩
  refine h σ H _ mp env st rs re (Post.of_bind hp fun mp1 H1 d st1 u e l s r q => ?_)
  split at q
  · rename_i i e
    obtain rfl := intOf_eq e
    exact ⟨i, rep_int r, q mp1 H1 _ .refl s rfl⟩
  · exact q.elim
def cutM (xs : List Val) (lo hi : Option Int) : List Val := (xs.drop (HT.sIx xs.length 0 lo)).take (HT.sIx xs.length xs.length hi - HT.sIx xs.length 0 lo)
def kSl (d : Val) (lo hi : Option Int) (st : Store) : R Val := match tupOf d with
  | some ds => .ok (.tup (cutM ds lo hi)) st
  | none => match listOf st d with
    | some ds => .ok (.lst (cutM ds lo hi)) st
    | none => match strOf d with
      | some x => if x.length ≤ line then .ok (.str (cutS x lo hi)) st else .stuck
      | none => .stuck
def mSl (m : MEnv → Store → R Val) (ml mh : MEnv → Store → R (Option Int)) (env : MEnv) (st : Store) : R Val := (m env st).bind fun d st => (ml env st).bind fun lo st => (mh env st).bind fun hi st => kSl d lo hi st
theorem cut_rep {K : PySem.W.Frag} {mp : Mp} {H : Hp} {ds : List Val} {xs : List V} {lo hi : Option Int} (r : RepVs K mp H ds xs) : RepVs K mp H (cutM ds lo hi) (cutV xs lo hi) := by
  unfold cutM cutV
  rw [repvs_len r]
  exact repvs_take _ (repvs_drop _ r)
theorem cut_whole {xs : List Val} {lo hi : Option Int} (h : HT.sIx xs.length 0 lo = 0 ∧ HT.sIx xs.length xs.length hi = xs.length) : cutM xs lo hi = xs := by
  unfold cutM
  rw [h.1, h.2]
  simp
theorem me_sl {lo hi : Option Expr} {p2 : Pos} {ml mh} (ha : ME X W a ma) (hl : MO X W lo ml) (hh : MO X W hi mh) : ME X W (.Subscript a (.Slice lo hi none p2) pos) (mSl ma ml mh) := by
  obtain ⟨ta, pa, ha⟩ := ha.ex
  obtain ⟨tl, pl, hl⟩ := hl.ex
  obtain ⟨th, ph, hh⟩ := hh.ex
  refine ⟨⟨_, pe_slice (sl_tupA.or (sl_list.or sl_str)) pa pl ph, fun σ H Q mp env st rs re hp => ?_⟩⟩
  refine ha σ H _ mp env st rs re (Post.of_bind hp fun mp1 H1 d st1 u e l s r q => ?_)
  refine hl σ H1 _ mp1 env st1 s (l.relE re) (Post.of_bind q fun mp2 H2 d2 st2 v e2 l2 s2 r2 q2 => ?_)
  refine hh σ H2 _ mp2 env st2 s2 (l2.relE (l.relE re)) (Post.of_bind q2 fun mp3 H3 d3 st3 w e3 l3 s3 r3 q3 => ?_)
  obtain rfl : d2 = v := r2
  obtain rfl : d3 = w := r3
  have r := l3.rep (l2.rep r)
  unfold kSl at q3
  split at q3
  · rename_i ds h1
    obtain ⟨b, xs, e1, z, rr⟩ := tupOf_rep r h1
    obtain rfl := tupOf_eq h1
    refine .inl ⟨b, xs, e1, z, fun hw => ?_, fun _ p np => q3.outT s3 (cut_rep rr) np⟩
    have := repvs_len rr
    rw [cut_whole (by rw [this]; exact hw)] at q3
    exact q3.out s3 (by rw [← e1]; exact r)
  · split at q3
    · rename_i ds h1
      obtain ⟨b, xs, e1, z, rr⟩ := listOf_rep s3 r h1
      exact .inr (.inl ⟨b, xs, e1, z, fun p np => q3.outL s3 (cut_rep rr) np⟩)
    · split at q3
      · rename_i x h1
        obtain rfl := strOf_eq h1
        split at q3
        · rename_i c
          exact .inr (.inr ⟨x, rep_str r, by rw [line_eq]; exact c, q3.out s3 (rep_s ..)⟩)
        · exact q3.elim
      · exact q3.elim
end
end ML

-- ML5s
set_option linter.all false
set_option maxRecDepth 100000
set_option maxHeartbeats 4000000
/-! ML5s: sorted of a tuple of whole numbers. -/
namespace ML
open PySem PySem.Spec PyProof.Rows L2
section
variable {P : Program} {w : World} {A : Around} {E : Value → Shared → Prop} {s : Shared} {p : Addr} {vs : List Value}
/-- the heap with the list that collects vs -/
abbrev colH (h : Heap) (vs : List Value) : Heap := (h.push (seqObj "list" #[] 0)).update h.objs.size (Obj.mapSeq (· ++ vs.toArray))
theorem collect_tup {Q : List Value → Shared → Prop} (ht : s.heap.IsTuple p vs.toArray) (hz : vs.length ≤ sizeLine) (h : Q vs { s with heap := colH s.heap vs }) : wpAny (model P w) A (collect (.ref p)) Q E s := by
  obtain ⟨o, ho, hc, n, hd⟩ := ht
  have old : (s.heap.push (seqObj "list" #[] 0)).get? p = some o := Heap.get?_push_of_some _ ho
  have new : (s.heap.push (seqObj "list" #[] 0)).get? s.heap.objs.size = some (seqObj "list" #[] 0) := Heap.get?_push_size _ rfl
  unfold collect
  refine wpAny_bind (wpAny_runValue (codeAny_builtin entry_proto_collect' ?_))
  show wpAny _ _ (newList [] >>= fun l => again (.builtin "list.__iadd__" ⟨[l, .ref p], []⟩)) _ _ s
  refine wpAny_bind (wpAny_newList ?_)
  refine wpAny_pure ⟨Code.quiet_builtin _ (by decide +kernel), codeAny_builtin entry_list_iadd' ?_⟩
  show wpAny _ _ (Builtin.List.listExtendWith (.ref s.heap.objs.size) (.ref p) (.ref s.heap.objs.size)) _ _ _
  unfold Builtin.List.listExtendWith
  refine wpAny_bind (wpAny_typeOf (T := "tuple") ⟨o, old, hc⟩ ?_)
  have e1 : (Value.type "tuple" == Value.type "tuple") = true := by rfl
  rw [if_pos (by rw [e1]; simp)]
  refine wpAny_bind (listItems_at old hd (wpAny_bind (listItems_at new rfl ?_)))
  rw [if_neg (by simp)]
  refine wpAny_bind (listUpdate_at new rfl ?_ (Nat.zero_le _) ?_)
  · refine wpAny_pure (wpAny_bind (wpAny_load (get?_update_seq new _) ?_))
    show wpAny _ _ (pure ((#[] : Array Value) ++ vs.toArray).toList) Q E _
    have e2 : ((#[] : Array Value) ++ vs.toArray).toList = vs := by simp
    rw [e2]
    exact wpAny_pure h
  · show (#[] ++ vs.toArray).size ≤ sizeLine + 1
    rw [Array.size_append, List.size_toArray]
    exact Nat.le_succ_of_le (by simpa using hz)
theorem colH_size (h : Heap) : (colH h vs).objs.size = h.objs.size + 1 := by
  show ((h.push (seqObj "list" #[] 0)).update h.objs.size _).objs.size = _
  rw [Heap.size_update, size_push']
theorem colH_old {h : Heap} {b : Addr} {o : Obj} (q : h.get? b = some o) : (colH h vs).get? b = some o := by
  show ((h.push (seqObj "list" #[] 0)).update h.objs.size _).get? b = _
  rw [Heap.get?_update_ne _ _ _ _ (Nat.ne_of_lt (Heap.lt_size q))]
  exact Heap.get?_push_of_some _ q
theorem sorted_tup {ltv : Value → Value → Bool} {Q : Value → Shared → Prop} (O : SrtO.Swo ltv) (ht : s.heap.IsTuple p vs.toArray) (hz : vs.length ≤ sizeLine)
    (hS : 2 ≤ vs.length → ∀ (h1 : Heap) (a : Addr), SrtO.SortableO P w A.in1.in1 { s with heap := h1 } a vs ltv)
    (h : ∀ out : List Value, SrtO.Srtd ltv out → SrtO.Stb ltv out vs → Q (.ref (s.heap.objs.size + 1)) { s with heap := sortedAll s.heap vs out.toArray }) :
    wpAny (model P w) A (call (.builtin "sorted") [.ref p]) Q E s := by
  have hL : ((colH s.heap vs).push (seqObj "list" vs.toArray 0)).get? (s.heap.objs.size + 1) = some (seqObj "list" vs.toArray 0) := by
    rw [← colH_size (vs := vs)]
    exact Heap.get?_push_size _ rfl
  refine Calls.call_function_entry kind_sorted plain_sorted entry_sorted (args_sorted1 _) ?_
  unfold Builtin.«sorted»
  refine wpAny_bind (m := checkCount "sorted" 1 1 _) (wpAny_pure (wpAny_bind (collect_tup ht hz (wpAny_bind (wpAny_newList ?_ hz)))))
  show wpAny _ _ _ _ _ { s with heap := (colH s.heap vs).push (seqObj "list" vs.toArray 0) }
  rw [show ({ s with heap := colH s.heap vs } : Shared).heap.objs.size = s.heap.objs.size + 1 from colH_size _]
  refine wpAny_bind (wpAny_holding (wpAny_call_entry slot_list_sort ⟨_, hL, rfl⟩ entry_list_sort ?_ (args_list_sort _)))
  refine SrtO.list_sort_ord O hL hz (fun h2 => hS h2 _ _) fun out k1 k2 => ⟨_, rfl, ?_⟩
  exact wpAny_pure ⟨_, rfl, h out k1 k2⟩
end
abbrev rSortedT (K : PySem.W.Frag) : List V → Hp → VK → Prop := fun vs H Q => ∃ (a : Addr) (ns : List Int), vs = [V.ref a] ∧ SqT K H a (ns.map V.int) ∧
  ∀ (ns' : List Int) (p : Addr), ns'.Perm ns → ns'.Pairwise (· ≤ ·) → H p = none → Q (.ref p) (upd H p (.lst (ns'.map V.int)))
theorem cr_sortedT {X : Cx} : CallR X (.builtin "sorted") (rSortedT X.K) := by
  intro pins s σ H vs us Q I r h
  obtain ⟨a, ns, rfl, hs, q⟩ := h
  obtain ⟨its, rv, pl, hz⟩ := I.tuple hs
  rw [Vals.ref1 r]
  have hi := rv.ints
  have hz2 : its.length ≤ sizeLine := by
    rw [← rv.length]
    exact hz
  refine sorted_tup SrtO.swo_int pl hz2 (fun h2 h1 b => SrtO.ints_sortable hi h2) fun out h1 h2 => ?_
  obtain ⟨k1, k2, k3⟩ := SrtO.ints_out hi h1 h2
  obtain ⟨ep, e⟩ := PyProof.Rows.sortedAll_at s.heap its out.toArray
  have hl : ((out.map SrtO.iv).map V.int).length ≤ sizeLine := by
    rw [List.length_map, k2.length_eq, ← List.length_map (f := V.int)]
    exact hz
  refine ⟨.ref _, upd H (s.heap.objs.size + 1) (.lst ((out.map SrtO.iv).map V.int)), ?_, rfl, q _ _ k2 k3 (I.hok.fresh (Nat.le_succ _))⟩
  exact I.laid (t' := s.toks) (fun _ _ => PyProof.Rows.sortedAll_old) (Nat.le_succ _) ⟨hl, out, ep, vals_of_ints k1, e⟩
end ML

-- ML5
set_option linter.all false
set_option maxRecDepth 100000
set_option maxHeartbeats 4000000
namespace ML
open PySem PySem.Spec PyProof.Rows L2
/-! ### calls of builtins -/
abbrev FN := List Val → Store → R Val
def CallM (K : PySem.W.Frag) (W : WX) (r : List V → Hp → VK → Prop) (f : FN) : Prop := ∀ σ mp H st ds us Q, RelS K mp H st → RepVs K mp H ds us → Post K W σ (RV K) mp H (f ds st) Q → r us H Q
def CallN (K : PySem.W.Frag) (W : WX) (r : List V → Hp → VK → Prop) (f : List Val → Store → R (List Val)) : Prop := ∀ σ mp H st ds us Q, RelS K mp H st → RepVs K mp H ds us → PostN K W σ mp H (f ds st) Q → r us H Q
def mCall (f : FN) (ms : MEnv → Store → R (List Val)) (env : MEnv) (st : Store) : R Val := (ms env st).bind f
def nCall (f : List Val → Store → R (List Val)) (ms : MEnv → Store → R (List Val)) (env : MEnv) (st : Store) : R (List Val) := (ms env st).bind f
section
variable {X : Cx} {W : WX} {pos p : Pos} {a b c e : Expr} {es : List Expr} {ms : MEnv → Store → R (List Val)} {x : Str} {id T : String} {r r' : List V → Hp → VK → Prop}
theorem CallR.or {f : Value} (h : CallR X f r) (h' : CallR X f r') : CallR X f (fun xs H Q => r xs H Q ∨ r' xs H Q) := fun pins s σ H xs us Q I rx z => z.elim (h pins s σ H xs us Q I rx) (h' pins s σ H xs us Q I rx)
theorem me_callB {f : FN} (hc : CallR X (.builtin id) r) (hf : CallM X.K W r f) (hg : Gl X x) (hm : X.mg x = none) (hv : bootBuiltins x = some (.builtin id)) (ha : MA X W (e :: es) ms) (hn : x ≠ "__name__" := by decide) (hdb : (x == ("__debug__" : Str)) = false := by decide)
    (he : starEach (e :: es) X.env = (false, eval e X.env) :: starEach es X.env := by rfl) (hpl : (backTo pos (starEach es X.env)).any (·.1) = false := by rfl) : ME X W (.Call (.Name x p) (e :: es) [] pos) (mCall f ms) := by
  obtain ⟨t, pa, h⟩ := ha.ex
  refine ⟨⟨_, pe_callB hc hg hm hv pa hn hdb he hpl, fun σ H Q mp env st rs re hp => ?_⟩⟩
  exact h σ H _ mp env st rs re (Post.of_bind hp fun mp1 H1 ds st1 us _ l s rr q => hf σ mp1 H1 st1 ds us Q s rr q)
theorem me_callTy {f : FN} (hc : CallR X (.type T) r) (hf : CallM X.K W r f) (hg : Gl X x) (hm : X.mg x = none) (hv : bootBuiltins x = some (.type T)) (ha : MA X W (e :: es) ms) (hn : x ≠ "__name__" := by decide) (hdb : (x == ("__debug__" : Str)) = false := by decide)
    (he : starEach (e :: es) X.env = (false, eval e X.env) :: starEach es X.env := by rfl) (hpl : (backTo pos (starEach es X.env)).any (·.1) = false := by rfl) : ME X W (.Call (.Name x p) (e :: es) [] pos) (mCall f ms) := by
  obtain ⟨t, pa, h⟩ := ha.ex
  refine ⟨⟨_, pe_callTy hc hg hm hv pa hn hdb he hpl, fun σ H Q mp env st rs re hp => ?_⟩⟩
  exact h σ H _ mp env st rs re (Post.of_bind hp fun mp1 H1 ds st1 us _ l s rr q => hf σ mp1 H1 st1 ds us Q s rr q)
theorem mn_callB {f} (hc : CallR X (.builtin id) r) (hf : CallN X.K W r f) (hg : Gl X x) (hm : X.mg x = none) (hv : bootBuiltins x = some (.builtin id)) (ha : MA X W (e :: es) ms) (hn : x ≠ "__name__" := by decide) (hdb : (x == ("__debug__" : Str)) = false := by decide)
    (he : starEach (e :: es) X.env = (false, eval e X.env) :: starEach es X.env := by rfl) (hpl : (backTo pos (starEach es X.env)).any (·.1) = false := by rfl) : MN X W (.Call (.Name x p) (e :: es) [] pos) (nCall f ms) := by
  obtain ⟨t, pa, h⟩ := ha.ex
  refine ⟨⟨_, pe_callB hc hg hm hv pa hn hdb he hpl, fun σ H Q mp env st rs re hp => ?_⟩⟩
  exact h σ H _ mp env st rs re (PostN.of_bind hp fun mp1 H1 ds st1 us _ l s rr q => hf σ mp1 H1 st1 ds us Q s rr q)
theorem mn_callTy {f} (hc : CallR X (.type T) r) (hf : CallN X.K W r f) (hg : Gl X x) (hm : X.mg x = none) (hv : bootBuiltins x = some (.type T)) (ha : MA X W (e :: es) ms) (hn : x ≠ "__name__" := by decide) (hdb : (x == ("__debug__" : Str)) = false := by decide)
    (he : starEach (e :: es) X.env = (false, eval e X.env) :: starEach es X.env := by rfl) (hpl : (backTo pos (starEach es X.env)).any (·.1) = false := by rfl) : MN X W (.Call (.Name x p) (e :: es) [] pos) (nCall f ms) := by
  obtain ⟨t, pa, h⟩ := ha.ex
  refine ⟨⟨_, pe_callTy hc hg hm hv pa hn hdb he hpl, fun σ H Q mp env st rs re hp => ?_⟩⟩
  exact h σ H _ mp env st rs re (PostN.of_bind hp fun mp1 H1 ds st1 us _ l s rr q => hf σ mp1 H1 st1 ds us Q s rr q)
end
def one (f : Val → Store → R Val) : FN := fun ds st => match ds with
  | [d] => f d st
  | _ => .stuck
def two (f : Val → Val → Store → R Val) : FN := fun ds st => match ds with
  | [d, e] => f d e st
  | _ => .stuck
section
variable {K : PySem.W.Frag} {W : WX}
theorem CallM.one {r : List V → Hp → VK → Prop} {f : Val → Store → R Val} (h : ∀ σ mp H st d u Q, RelS K mp H st → RepV K mp H d u → Post K W σ (RV K) mp H (f d st) Q → r [u] H Q) : CallM K W r (one f) := by
  intro σ mp H st ds us Q s rr q
  unfold ML.one at q
  split at q
  · obtain ⟨u, v, rfl, r1, r2⟩ := repvs_cons.mp rr
    obtain rfl := repvs_nil.mp r2
    exact h σ mp H st _ u Q s r1 q
  · exact q.elim
theorem CallM.two {r : List V → Hp → VK → Prop} {f : Val → Val → Store → R Val} (h : ∀ σ mp H st d e u v Q, RelS K mp H st → RepV K mp H d u → RepV K mp H e v → Post K W σ (RV K) mp H (f d e st) Q → r [u, v] H Q) : CallM K W r (two f) := by
  intro σ mp H st ds us Q s rr q
  unfold ML.two at q
  split at q
  · obtain ⟨u, v, rfl, r1, r2⟩ := repvs_cons.mp rr
    obtain ⟨u2, v2, rfl, r3, r4⟩ := repvs_cons.mp r2
    obtain rfl := repvs_nil.mp r4
    exact h σ mp H st _ _ u u2 Q s r1 r3 q
  · exact q.elim
def nOne (f : Val → Store → R (List Val)) : List Val → Store → R (List Val) := fun ds st => match ds with
  | [d] => f d st
  | _ => .stuck
theorem CallN.one {r : List V → Hp → VK → Prop} {f : Val → Store → R (List Val)} (h : ∀ σ mp H st d u Q, RelS K mp H st → RepV K mp H d u → PostN K W σ mp H (f d st) Q → r [u] H Q) : CallN K W r (nOne f) := by
  intro σ mp H st ds us Q s rr q
  unfold nOne at q
  split at q
  · obtain ⟨u, v, rfl, r1, r2⟩ := repvs_cons.mp rr
    obtain rfl := repvs_nil.mp r2
    exact h σ mp H st _ u Q s r1 q
  · exact q.elim
/-! len -/
def fLen (d : Val) (st : Store) : R Val := match seqOf st d with
  | some ds => .ok (.int ds.length) st
  | none => match strOf d with
    | some x => if x.length ≤ line then .ok (.int x.length) st else .stuck
    | none => .stuck
theorem o_len {X : Cx} : CallR X (.builtin "len") (fun xs H Q => (∃ p ys, xs = [.ref p] ∧ (SqL X.K H p ys ∨ SqT X.K H p ys) ∧ Q (.int ys.length) H) ∨ ∃ z, xs = [.str z] ∧ z.length ≤ sizeLine ∧ Q (.int z.length) H) := CallR.or call_len_seq call_len_str
theorem m_len : CallM K W (fun xs H Q => (∃ p ys, xs = [.ref p] ∧ (SqL K H p ys ∨ SqT K H p ys) ∧ Q (.int ys.length) H) ∨ ∃ z, xs = [.str z] ∧ z.length ≤ sizeLine ∧ Q (.int z.length) H) (one fLen) := .one fun σ mp H st d u Q s r q => by
  unfold fLen at q
  split at q
  · rename_i ds h1
    obtain ⟨a, xs, e1, z, rr⟩ := seqOf_rep s r h1
    exact .inl ⟨a, xs, by rw [e1], z, by rw [← repvs_len rr]; exact q.out s (rep_i ..)⟩
  · split at q
    · rename_i x h1
      obtain rfl := strOf_eq h1
      split at q
      · rename_i c
        exact .inr ⟨x, by rw [rep_str r], by rw [line_eq]; exact c, q.out s (rep_i ..)⟩
      · exact q.elim
    · exact q.elim
/-! int, str, ord -/
def fInt (d : Val) (st : Store) : R Val := match intOf d with
  | some i => .ok (.int i) st
  | none => match blOf d with
    | some k => .ok (.int (if k then 1 else 0)) st
    | none => match strOf d with
      | some x => (match PySem.intText? x with
        | some n => if x.length ≤ 640 then .ok (.int n) st else .stuck
        | none => .stuck)
      | none => .stuck
abbrev rInt : List V → Hp → VK → Prop := fun xs H Q => ((∃ i, xs = [V.int i] ∧ Q (.int i) H) ∨ ∃ k, xs = [V.bl k] ∧ Q (.int (if k then 1 else 0)) H) ∨ ∃ a n, xs = [V.str a] ∧ PySem.intText? a = some n ∧ a.length ≤ 640 ∧ Q (.int n) H
theorem o_int {X : Cx} : CallR X (.type "int") rInt := CallR.or call_int1 call_int_str
theorem m_int : CallM K W rInt (one fInt) := .one fun σ mp H st d u Q s r q => by
  unfold fInt at q
  split at q
  · rename_i i h1
    obtain rfl := intOf_eq h1
    exact .inl (.inl ⟨i, by rw [rep_int r], q.out s (rep_i ..)⟩)
  · split at q
    · rename_i k h1
      obtain rfl := blOf_eq h1
      exact .inl (.inr ⟨k, by rw [rep_bl r], q.out s (rep_i ..)⟩)
    · split at q
      · rename_i x h1
        obtain rfl := strOf_eq h1
        split at q
        · rename_i n h2
          split at q
          · rename_i c
            exact .inr ⟨x, n, by rw [rep_str r], h2, c, q.out s (rep_i ..)⟩
          · exact q.elim
        · exact q.elim
      · exact q.elim
def fStr (d : Val) (st : Store) : R Val := match intOf d with
  | some i => if i.natAbs.log2 < 1920 then .ok (.str (toString i)) st else .stuck
  | none => .stuck
theorem m_str : CallM K W (fun xs H Q => ∃ i : Int, xs = [V.int i] ∧ i.natAbs.log2 < 1920 ∧ Q (.str (toString i)) H) (one fStr) := .one fun σ mp H st d u Q s r q => by
  unfold fStr at q
  split at q
  · rename_i i h1
    obtain rfl := intOf_eq h1
    split at q
    · rename_i c
      exact ⟨i, by rw [rep_int r], c, q.out s (rep_s ..)⟩
    · exact q.elim
  · exact q.elim
def fOrd (d : Val) (st : Store) : R Val := match strOf d with
  | some x => if x.length = 1 then .ok (.int (x.cps.getD 0 0 : Nat)) st else .stuck
  | none => .stuck
theorem m_ord : CallM K W (fun xs H Q => ∃ x, xs = [V.str x] ∧ x.length = 1 ∧ Q (.int (x.cps.getD 0 0 : Nat)) H) (one fOrd) := .one fun σ mp H st d u Q s r q => by
  unfold fOrd at q
  split at q
  · rename_i x h1
    obtain rfl := strOf_eq h1
    split at q
    · rename_i c
      exact ⟨x, by rw [rep_str r], c, q.out s (rep_i ..)⟩
    · exact q.elim
  · exact q.elim
/-! tuple, list -/
def fTuple (d : Val) (st : Store) : R Val := match seqOf st d with
  | some ds => .ok (.tup ds) st
  | none => .stuck
theorem m_tuple : CallM K W (fun xs H Q => ∃ p ys, xs = [V.ref p] ∧ ((SqL K H p ys ∧ ∀ l, H l = none → Q (.ref l) (upd H l (.tup ys))) ∨ (SqT K H p ys ∧ Q (.ref p) H))) (one fTuple) := .one fun σ mp H st d u Q s r q => by
  unfold fTuple at q
  split at q
  · rename_i ds h1
    by_cases c : ∃ es, d = .tup es
    · obtain ⟨es, rfl⟩ := c
      obtain rfl : es = ds := Option.some.inj h1
      obtain ⟨a, xs, e, z, rr⟩ := tupOf_rep (ds := es) r rfl
      exact ⟨a, xs, by rw [e], .inr ⟨z, by rw [← e]; exact q.out s r⟩⟩
    · have h2 : listOf st d = some ds := by
        cases d with
        | tup es => exact absurd ⟨es, rfl⟩ c
        | _ => exact h1
      obtain ⟨a, xs, e, z, rr⟩ := listOf_rep s r h2
      exact ⟨a, xs, by rw [e], .inl ⟨z, fun l nl => q.outT s rr nl⟩⟩
  · exact q.elim
def nList (d : Val) (st : Store) : R (List Val) := match seqOf st d with
  | some ds => .ok ds st
  | none => .stuck
theorem m_list : CallN K W (fun xs H Q => ∃ p ys, xs = [V.ref p] ∧ (SqL K H p ys ∨ SqT K H p ys) ∧ ∀ l, H l = none → Q (.ref l) (upd H l (.lst ys))) (nOne nList) := .one fun σ mp H st d u Q s r q => by
  unfold nList at q
  split at q
  · rename_i ds h1
    obtain ⟨a, xs, e, z, rr⟩ := seqOf_rep s r h1
    exact ⟨a, xs, by rw [e], z, fun l nl => q.out s rr nl⟩
  · exact q.elim
/-! min, max of two; range -/
def fMax2 (d e : Val) (st : Store) : R Val := match intOf d, intOf e with
  | some i, some j => .ok (.int (if j > i then j else i)) st
  | _, _ => .stuck
def fMin2 (d e : Val) (st : Store) : R Val := match intOf d, intOf e with
  | some i, some j => .ok (.int (if j < i then j else i)) st
  | _, _ => .stuck
theorem m_max2 : CallM K W (fun xs H Q => ∃ i j, xs = [V.int i, V.int j] ∧ Q (.int (if j > i then j else i)) H) (two fMax2) := .two fun σ mp H st d e u v Q s r r2 q => by
  unfold fMax2 at q
  split at q
  · rename_i i j h1 h2
    obtain rfl := intOf_eq h1
    obtain rfl := intOf_eq h2
    exact ⟨i, j, by rw [rep_int r, rep_int r2], q.out s (rep_i ..)⟩
  · exact q.elim
theorem m_min2 : CallM K W (fun xs H Q => ∃ i j, xs = [V.int i, V.int j] ∧ Q (.int (if j < i then j else i)) H) (two fMin2) := .two fun σ mp H st d e u v Q s r r2 q => by
  unfold fMin2 at q
  split at q
  · rename_i i j h1 h2
    obtain rfl := intOf_eq h1
    obtain rfl := intOf_eq h2
    exact ⟨i, j, by rw [rep_int r, rep_int r2], q.out s (rep_i ..)⟩
  · exact q.elim
theorem cr_range1 {X : Cx} : CallR X (.type "range") (fun vs H Q => ∃ j, vs = [V.int j] ∧ ∀ p, H p = none → Q (.ref p) (upd H p (.rng 0 j))) := by
  intro pins s σ H vs us Q I r h
  obtain ⟨j, rfl, q⟩ := h
  obtain ⟨u1, rfl, rj⟩ := vals1 r
  obtain ⟨t, rfl⟩ := rj
  refine call_range_1 ⟨.ref s.heap.objs.size, upd H s.heap.objs.size (.rng 0 j), I.laid (t' := s.toks + 2) (fun b o e => Heap.get?_push_of_some _ e) (Nat.le_refl _) ?_, rfl, q _ (I.hok.fresh (Nat.le_refl _))⟩
  exact ⟨_, _, _, Heap.get?_push_size _ rfl⟩
theorem new_rng {mp : Mp} {H : Hp} {st : Store} (s : RelS K mp H st) {p : Addr} {lo hi : Int} (np : H p = none) : RepV K mp (upd H p (.rng lo hi)) (.rng lo hi) (.ref p) := by
  unfold RepV
  exact ⟨p, rfl, upd_same, s.notin np⟩
def fRng1 (d : Val) (st : Store) : R Val := match intOf d with
  | some i => .ok (.rng 0 i) st
  | _ => .stuck
def fRng2 (d e : Val) (st : Store) : R Val := match intOf d, intOf e with
  | some i, some j => .ok (.rng i j) st
  | _, _ => .stuck
theorem m_rng1 : CallM K W (fun vs H Q => ∃ j, vs = [V.int j] ∧ ∀ p, H p = none → Q (.ref p) (upd H p (.rng 0 j))) (one fRng1) := .one fun σ mp H st d u Q s r q => by
  unfold fRng1 at q
  split at q
  · rename_i i h1
    obtain rfl := intOf_eq h1
    exact ⟨i, by rw [rep_int r], fun p np => q mp _ _ (le_new np) (s.new np) (new_rng s np)⟩
  · exact q.elim
theorem m_rng2 : CallM K W (fun vs H Q => ∃ i j, vs = [V.int i, V.int j] ∧ ∀ p, H p = none → Q (.ref p) (upd H p (.rng i j))) (two fRng2) := .two fun σ mp H st d e u v Q s r r2 q => by
  unfold fRng2 at q
  split at q
  · rename_i i j h1 h2
    obtain rfl := intOf_eq h1
    obtain rfl := intOf_eq h2
    exact ⟨i, j, by rw [rep_int r, rep_int r2], fun p np => q mp _ _ (le_new np) (s.new np) (new_rng s np)⟩
  · exact q.elim
/-! lists of whole numbers -/
def intsL : List Val → Option (List Int)
  | [] => some []
  | d :: ds => match intOf d, intsL ds with
    | some i, some is => some (i :: is)
    | _, _ => none
theorem ints_rep {mp : Mp} {H : Hp} : ∀ {ds : List Val} {xs : List V} {ns : List Int}, RepVs K mp H ds xs → intsL ds = some ns → xs = ns.map V.int
  | [], _, _, r, h => by
    obtain rfl := repvs_nil.mp r
    obtain rfl := Option.some.inj h
    rfl
  | d :: ds, _, _, r, h => by
    obtain ⟨u, us, rfl, r1, r2⟩ := repvs_cons.mp r
    unfold intsL at h
    split at h
    · rename_i i is h1 h2
      obtain rfl := Option.some.inj h
      obtain rfl := intOf_eq h1
      rw [rep_int r1, ints_rep r2 h2]
      rfl
    · cases h
theorem ints_map : ∀ ns : List Int, intsL (ns.map Val.int) = some ns
  | [] => rfl
  | n :: ns => by
    show (match intOf (Val.int n), intsL (ns.map Val.int) with
      | some i, some is => some (i :: is)
      | _, _ => none) = _
    rw [ints_map ns]
    rfl
theorem repvs_ints {mp : Mp} {H : Hp} : ∀ ns : List Int, RepVs K mp H (ns.map Val.int) (ns.map V.int)
  | [] => by simp [RepVs]
  | n :: ns => repvs_cons.mpr ⟨_, _, rfl, rep_i .., repvs_ints ns⟩
def insI (x : Int) : List Int → List Int
  | [] => [x]
  | y :: ys => if x ≤ y then x :: y :: ys else y :: insI x ys
def sortI : List Int → List Int
  | [] => []
  | x :: xs => insI x (sortI xs)
theorem insI_perm (x : Int) : ∀ l : List Int, (insI x l).Perm (x :: l)
  | [] => .refl _
  | y :: ys => by
    unfold insI
    split
    · exact .refl _
    · exact ((insI_perm x ys).cons y).trans (.swap x y ys)
theorem sortI_perm : ∀ l : List Int, (sortI l).Perm l
  | [] => .refl _
  | x :: xs => (insI_perm x _).trans ((sortI_perm xs).cons x)
theorem insI_sorted (x : Int) : ∀ l : List Int, l.Pairwise (· ≤ ·) → (insI x l).Pairwise (· ≤ ·)
  | [], _ => by simp [insI]
  | y :: ys, h => by
    have h1 := List.pairwise_cons.mp h
    unfold insI
    split
    · rename_i c
      refine List.pairwise_cons.mpr ⟨fun z hz => ?_, h⟩
      rcases List.mem_cons.mp hz with rfl | hz
      · exact c
      · have := h1.1 z hz
        omega
    · rename_i c
      refine List.pairwise_cons.mpr ⟨fun z hz => ?_, insI_sorted x ys h1.2⟩
      rcases List.mem_cons.mp ((insI_perm x ys).mem_iff.mp hz) with rfl | hz
      · omega
      · exact h1.1 z hz
theorem sortI_sorted : ∀ l : List Int, (sortI l).Pairwise (· ≤ ·)
  | [] => .nil
  | x :: xs => insI_sorted x _ (sortI_sorted xs)
def nSorted (d : Val) (st : Store) : R (List Val) := match seqOf st d with
  | some ds => (match intsL ds with
    | some ns => .ok ((sortI ns).map Val.int) st
    | none => .stuck)
  | none => .stuck
abbrev rSorted2 (K : PySem.W.Frag) : List V → Hp → VK → Prop := fun xs H Q => rSortedI K xs H Q ∨ rSortedT K xs H Q
theorem o_sorted {X : Cx} : CallR X (.builtin "sorted") (rSorted2 X.K) := CallR.or cr_sortedI cr_sortedT
theorem m_sorted : CallN K W (rSorted2 K) (nOne nSorted) := .one fun σ mp H st d u Q s r q => by
  unfold nSorted at q
  split at q
  · rename_i ds h1
    split at q
    · rename_i ns h2
      obtain ⟨a, xs, e, z, rr⟩ := seqOf_rep s r h1
      have e2 := ints_rep rr h2
      subst e2
      have fin : ∀ (ns' : List Int) (p : Addr), ns'.Perm ns → ns'.Pairwise (· ≤ ·) → H p = none → Q (.ref p) (upd H p (.lst (ns'.map V.int))) := fun ns' p hp hs np => by
        have e3 : ns' = sortI ns := PySem.W.ksm_same (hp.trans (sortI_perm ns).symm) hs (sortI_sorted ns)
        rw [e3]
        exact q.out s (repvs_ints _) np
      rw [e]
      exact z.elim (fun z => .inl ⟨a, ns, rfl, z, fin⟩) (fun z => .inr ⟨a, ns, rfl, z, fin⟩)
    · exact q.elim
  · exact q.elim
def fSum (d : Val) (st : Store) : R Val := match listOf st d with
  | some ds => (match intsL ds with
    | some ns => .ok (.int ns.sum) st
    | none => .stuck)
  | none => .stuck
theorem m_sum : CallM K W (rSum K) (one fSum) := .one fun σ mp H st d u Q s r q => by
  unfold fSum at q
  split at q
  · rename_i ds h1
    split at q
    · rename_i ns h2
      obtain ⟨a, xs, e, z, rr⟩ := listOf_rep s r h1
      have e2 := ints_rep rr h2
      exact ⟨a, ns, by rw [e], (by rw [← e2]; exact z), q.out s (rep_i ..)⟩
    · exact q.elim
  · exact q.elim
def maxL : Int → List Int → Int
  | m, [] => m
  | m, x :: xs => maxL (if m < x then x else m) xs
def minL : Int → List Int → Int
  | m, [] => m
  | m, x :: xs => minL (if x < m then x else m) xs
theorem maxL_ge : ∀ (m : Int) (xs : List Int), m ≤ maxL m xs ∧ (∀ y ∈ xs, y ≤ maxL m xs) ∧ (maxL m xs = m ∨ maxL m xs ∈ xs)
  | m, [] => ⟨Int.le_refl _, by simp, .inl rfl⟩
  | m, x :: xs => by
    unfold maxL
    by_cases h : m < x
    · rw [if_pos h]
      obtain ⟨a, b, c⟩ := maxL_ge x xs
      refine ⟨by omega, fun y hy => ?_, ?_⟩
      · rcases List.mem_cons.mp hy with rfl | hy
        · exact a
        · exact b y hy
      · rcases c with c | c
        · right; rw [c]; exact List.mem_cons_self
        · exact .inr (List.mem_cons_of_mem _ c)
    · rw [if_neg h]
      obtain ⟨a, b, c⟩ := maxL_ge m xs
      refine ⟨a, fun y hy => ?_, ?_⟩
      · rcases List.mem_cons.mp hy with rfl | hy
        · omega
        · exact b y hy
      · rcases c with c | c
        · exact .inl c
        · exact .inr (List.mem_cons_of_mem _ c)
theorem minL_le : ∀ (m : Int) (xs : List Int), minL m xs ≤ m ∧ (∀ y ∈ xs, minL m xs ≤ y) ∧ (minL m xs = m ∨ minL m xs ∈ xs)
  | m, [] => ⟨Int.le_refl _, by simp, .inl rfl⟩
  | m, x :: xs => by
    unfold minL
    by_cases h : x < m
    · rw [if_pos h]
      obtain ⟨a, b, c⟩ := minL_le x xs
      refine ⟨by omega, fun y hy => ?_, ?_⟩
      · rcases List.mem_cons.mp hy with rfl | hy
        · exact a
        · exact b y hy
      · rcases c with c | c
        · right; rw [c]; exact List.mem_cons_self
        · exact .inr (List.mem_cons_of_mem _ c)
    · rw [if_neg h]
      obtain ⟨a, b, c⟩ := minL_le m xs
      refine ⟨a, fun y hy => ?_, ?_⟩
      · rcases List.mem_cons.mp hy with rfl | hy
        · omega
        · exact b y hy
      · rcases c with c | c
        · exact .inl c
        · exact .inr (List.mem_cons_of_mem _ c)
def fMax1 (d : Val) (st : Store) : R Val := match listOf st d with
  | some ds => (match intsL ds with
    | some (n :: ns) => .ok (.int (maxL n ns)) st
    | _ => .stuck)
  | none => .stuck
def fMin1 (d : Val) (st : Store) : R Val := match listOf st d with
  | some ds => (match intsL ds with
    | some (n :: ns) => .ok (.int (minL n ns)) st
    | _ => .stuck)
  | none => .stuck
theorem m_max1 : CallM K W (rMax K) (one fMax1) := .one fun σ mp H st d u Q s r q => by
  unfold fMax1 at q
  split at q
  · rename_i ds h1
    split at q
    · rename_i n ns h2
      obtain ⟨a, xs, e, z, rr⟩ := listOf_rep s r h1
      have e2 := ints_rep rr h2
      refine ⟨a, n :: ns, by rw [e], (by rw [← e2]; exact z), by simp, fun m hm hle => ?_⟩
      obtain ⟨b1, b2, b3⟩ := maxL_ge n ns
      have l1 := hle (maxL n ns) (by rcases b3 with b | b <;> simp [b])
      have l2 : m ≤ maxL n ns := by
        rcases List.mem_cons.mp hm with rfl | h
        · exact b1
        · exact b2 m h
      rw [show m = maxL n ns by omega]
      exact q.out s (rep_i ..)
    · exact q.elim
  · exact q.elim
theorem m_min1 : CallM K W (rMin K) (one fMin1) := .one fun σ mp H st d u Q s r q => by
  unfold fMin1 at q
  split at q
  · rename_i ds h1
    split at q
    · rename_i n ns h2
      obtain ⟨a, xs, e, z, rr⟩ := listOf_rep s r h1
      have e2 := ints_rep rr h2
      refine ⟨a, n :: ns, by rw [e], (by rw [← e2]; exact z), by simp, fun m hm hle => ?_⟩
      obtain ⟨b1, b2, b3⟩ := minL_le n ns
      have l1 := hle (minL n ns) (by rcases b3 with b | b <;> simp [b])
      have l2 : minL n ns ≤ m := by
        rcases List.mem_cons.mp hm with rfl | h
        · exact b1
        · exact b2 m h
      rw [show m = minL n ns by omega]
      exact q.out s (rep_i ..)
    · exact q.elim
  · exact q.elim
end
end ML

-- ML6
set_option linter.all false
set_option maxRecDepth 100000
set_option maxHeartbeats 4000000
namespace ML
open PySem PySem.Spec PyProof.Rows L2
/-! ### statements -/
abbrev MM := MEnv → Store → S
def sSeq (m n : MM) : MM := fun env st => match m env st with
  | .nx e s => n e s
  | r => r
def sPass : MM := fun env st => .nx env st
def sSet (i : Nat) (m : MEnv → Store → R Val) : MM := fun env st => (m env st).bindS env fun d st => .nx (env.set i (some d)) st
def sDrop (m : MEnv → Store → R Val) : MM := fun env st => (m env st).bindS env fun _ st => .nx env st
def sRet (m : MEnv → Store → R Val) : MM := fun env st => (m env st).bindS env fun d st => .rt d st
def sRetN : MM := fun _ st => .rt .non st
def sIf (c : MEnv → Store → R Bool) (m n : MM) : MM := fun env st => (c env st).bindS env fun k st => if k = true then m env st else n env st
def sBrk : MM := fun env st => .bk env st
def sCnt : MM := fun env st => .ct env st
section
variable {X : Cx} {W : WX} {pos p2 : Pos} {s0 : Stmt} {e : Expr} {m n : MM} {me : MEnv → Store → R Val} {mc : MEnv → Store → R Bool}
theorem mss_nil : MSs X W [] sPass := ⟨⟨_, pss_nil, fun D σ H mp env st rs re hp => hp mp H σ .refl rs re⟩⟩
theorem mss_one (h : MS X W s0 m) : MSs X W [s0] m := by
  obtain ⟨t, p, h⟩ := h.ex
  exact ⟨⟨t, pss_one p, h⟩⟩
theorem mss_cons {rest : List Stmt} (h : MS X W s0 m) (h2 : MSs X W rest n) : MSs X W (s0 :: rest) (sSeq m n) := by
  obtain ⟨t, p, h⟩ := h.ex
  obtain ⟨t2, p2, h2⟩ := h2.ex
  refine ⟨⟨_, pss_cons p p2, fun D σ H mp env st rs re hp => ?_⟩⟩
  refine h _ σ H mp env st rs re ?_
  unfold sSeq at hp
  cases q : m env st with
  | nx e s =>
    rw [q] at hp
    exact fun mp' H' σ' l s' e' => h2 D σ' H' mp' e s s' e' (PostS.le hp l)
  | bk e s =>
    rw [q] at hp
    exact hp
  | ct e s =>
    rw [q] at hp
    exact hp
  | rt v s =>
    rw [q] at hp
    exact hp
  | exc c f e s =>
    rw [q] at hp
    exact hp
  | stuck =>
    rw [q] at hp
    exact hp
theorem ms_pass : MS X W (.Pass pos) sPass := ⟨⟨_, ps_pass, fun D σ H mp env st rs re hp => hp mp H σ .refl rs re⟩⟩
theorem ms_break : MS X W (.Break pos) sBrk := ⟨⟨_, ps_break, fun D σ H mp env st rs re hp => hp mp H σ .refl rs re⟩⟩
theorem ms_continue : MS X W (.Continue pos) sCnt := ⟨⟨_, ps_continue, fun D σ H mp env st rs re hp => hp mp H σ .refl rs re⟩⟩
theorem ms_set {i : Nat} {x : Str} (hN : X.N.Nodup) (hi : X.N[i]? = some x) (hx : Loc X.env.scope x) (he : ME X W e me) (hs : swapsWith e (some (.Name x p2)) pos.line X.env = pure false := by rfl) (hf : X.fn x = true ∨ X.env.scope.names.lookup x = some .local := by first | exact .inl rfl | exact .inr rfl | assumption) : MS X W (.Assign [.Name x p2] e pos) (sSet i me) := by
  obtain ⟨t, p, h⟩ := he.ex
  refine ⟨⟨_, ps_set hN hi hx p hs hf, fun D σ H mp env st rs re hp => ?_⟩⟩
  exact h σ H _ mp env st rs re (PostS.of_bind re hp fun mp1 H1 d st1 u e l s r re1 q => q mp1 H1 _ .refl s (relE_set re1 (show RelO X.K mp1 H1 (some d) (some u) from r)))
theorem ms_expr (he : ME X W e me) (hs : swapsWith e none pos.line X.env = pure false := by rfl) : MS X W (.Expr e pos) (sDrop me) := by
  obtain ⟨t, p, h⟩ := he.ex
  refine ⟨⟨_, ps_expr p hs, fun D σ H mp env st rs re hp => ?_⟩⟩
  exact h σ H _ mp env st rs re (PostS.of_bind re hp fun mp1 H1 d st1 u e l s r re1 q => q mp1 H1 _ .refl s re1)
theorem ms_doc {x j p} : MS X W (.Expr (.Constant (.str x) j p) pos) sPass := ⟨⟨_, ps_doc, fun D σ H mp env st rs re hp => hp mp H σ .refl rs re⟩⟩
theorem ms_ret (he : ME X W e me) : MS X W (.Return (some e) pos) (sRet me) := by
  obtain ⟨t, p, h⟩ := he.ex
  refine ⟨⟨_, ps_ret p, fun D σ H mp env st rs re hp => ?_⟩⟩
  exact h σ H _ mp env st rs re (PostS.of_bind re hp fun mp1 H1 d st1 u e l s r re1 q => q mp1 H1 _ .refl s r)
theorem ms_retN : MS X W (.Return none pos) sRetN := ⟨⟨_, ps_retN, fun D σ H mp env st rs re hp => hp mp H .non .refl rs (by simp [RepV])⟩⟩
theorem ms_if {c : Expr} {a b : List Stmt} (hc : MT X W c mc) (ha : MSs X W a m) (hb : MSs X W b n) : MS X W (.If c a b pos) (sIf mc m n) := by
  obtain ⟨t, p, h⟩ := hc.ex
  obtain ⟨ta, pa, ha⟩ := ha.ex
  obtain ⟨tb, pb, hb⟩ := hb.ex
  refine ⟨⟨_, ps_if p pa pb, fun D σ H mp env st rs re hp => ?_⟩⟩
  refine h σ H _ mp env st rs re (PostS.of_bind re hp fun mp1 H1 k st1 u e l s r re1 q => ?_)
  obtain rfl : k = u := r
  cases k with
  | true => exact ha D σ H1 mp1 env st1 s re1 q
  | false => exact hb D σ H1 mp1 env st1 s re1 q
end
/-! ### targets of names -/
abbrev GM := Val → MEnv → Option MEnv
/-- the two agree but at vs -/
def Agree (vs : List Nat) (σ σ' : L2.St) : Prop := σ'.length = σ.length ∧ ∀ j, j ∉ vs → σ'[j]? = σ[j]?
structure MG (X : Cx) (tg : Expr) (g : GM) (vs : List Nat) : Prop where
  ex : ∃ t, PG X tg t ∧ ∀ d u σ H mp env env' (Q : L2.St → Hp → Prop), RepV X.K mp H d u → RelE X.K mp H env σ → g d env = some env' → (∀ σ', Agree vs σ σ' → RelE X.K mp H env' σ' → Q σ' H) → t u σ H Q
abbrev GMs := List Val → MEnv → Option MEnv
structure MGs (X : Cx) (tg : List Expr) (g : GMs) (vs : List Nat) : Prop where
  ex : ∃ t, PGs X tg t ∧ ∀ d u σ H mp env env' (Q : L2.St → Hp → Prop), RepVs X.K mp H d u → RelE X.K mp H env σ → g d env = some env' → (∀ σ', Agree vs σ σ' → RelE X.K mp H env' σ' → Q σ' H) → t u σ H Q
def gN (i : Nat) : GM := fun d env => some (env.set i (some d))
def gsNil : GMs := fun ds env => match ds with
  | [] => some env
  | _ => none
def gsCons (g : GM) (gs : GMs) : GMs := fun ds env => match ds with
  | d :: r => (g d env).bind fun env => gs r env
  | _ => none
def gT (n : Nat) (gs : GMs) : GM := fun d env => match tupOf d with
  | some ds => if ds.length = n then gs ds env else none
  | none => none
section
variable {X : Cx} {W : WX} {pos p2 : Pos}
theorem mg_name {i : Nat} {x : Str} (hN : X.N.Nodup) (hi : X.N[i]? = some x) (hx : Loc X.env.scope x) (hf : X.fn x = true ∨ X.env.scope.names.lookup x = some .local := by first | exact .inl rfl | exact .inr rfl | assumption) : MG X (.Name x pos) (gN i) [i] := by
  refine ⟨⟨_, pg_name hN hi hx hf, fun d u σ H mp env env' Q r re h q => ?_⟩⟩
  obtain rfl : env.set i (some d) = env' := Option.some.inj h
  refine q _ ⟨by simp, fun j hj => ?_⟩ (relE_set re (show RelO X.K mp H (some d) (some u) from r))
  rw [List.getElem?_set_ne]
  exact fun z => hj (by simp [z])
theorem mgs_nil : MGs X [] gsNil [] := by
  refine ⟨⟨_, pgs_nil, fun d u σ H mp env env' Q r re h q => ?_⟩⟩
  cases d with
  | nil =>
    obtain rfl := repvs_nil.mp r
    obtain rfl : env = env' := Option.some.inj h
    exact ⟨rfl, q σ ⟨rfl, fun _ _ => rfl⟩ re⟩
  | cons _ _ => cases h
theorem mgs_cons {e : Expr} {es : List Expr} {g : GM} {gs : GMs} {vs ws : List Nat} (h : MG X e g vs) (h2 : MGs X es gs ws) (hp : ∀ {t u}, PG X e t → PGs X es u → PGs X (e :: es) (gCons t u) := by exact fun a b => pgs_cons a b) : MGs X (e :: es) (gsCons g gs) (vs ++ ws) := by
  obtain ⟨t, p, h⟩ := h.ex
  obtain ⟨t2, p2, h2⟩ := h2.ex
  refine ⟨⟨_, hp p p2, fun d u σ H mp env env' Q r re z q => ?_⟩⟩
  cases d with
  | nil => cases z
  | cons d ds =>
    obtain ⟨v, vs, rfl, r1, r2⟩ := repvs_cons.mp r
    obtain ⟨env1, z1, z2⟩ := Option.bind_eq_some_iff.mp (show (g d env).bind (fun env => gs ds env) = some env' from z)
    refine ⟨v, _, rfl, h d v σ H mp env env1 _ r1 re z1 fun σ' ag re' => h2 ds _ σ' H mp env1 env' Q r2 re' z2 fun σ2 ag2 re2 => q σ2 ⟨ag2.1.trans ag.1, fun j hj => ?_⟩ re2⟩
    rw [List.mem_append, not_or] at hj
    exact (ag2.2 j hj.2).trans (ag.2 j hj.1)
theorem mg_tup {es : List Expr} {k : Nat} {gs : GMs} {n : Nat} {vs : List Nat} (hc : X.calm = true) (h : MGs X es gs vs) (hn : (assignEach es X.env).length = n := by rfl) (hst : (assignEach es X.env).findIdx? (·.1) = none := by rfl) : MG X (.Tuple es k pos) (gT n gs) vs := by
  obtain ⟨t, p, h⟩ := h.ex
  refine ⟨⟨_, pg_tup hc p hn hst, fun d u σ H mp env env' Q r re z q => ?_⟩⟩
  unfold gT at z
  split at z
  · rename_i ds h1
    split at z
    · rename_i c
      obtain ⟨a, xs, e, sq, rr⟩ := tupOf_rep r h1
      exact ⟨a, xs, e, sq, by rw [← repvs_len rr]; exact c, h ds xs σ H mp env env' Q rr re z q⟩
    · cases z
  · cases z
def sTgt (g : GM) (m : MEnv → Store → R Val) : MM := fun env st => (m env st).bindS env fun d st => match g d env with
  | some env' => .nx env' st
  | none => .stuck
theorem ms_asg {tg e : Expr} {g : GM} {vs : List Nat} {me : MEnv → Store → R Val} (he : ME X W e me) (hg : MG X tg g vs) (hs : swapsWithSole [tg] e pos.line X.env = pure false := by rfl) (hw : swappedStores [tg] e X.env = pure none := by rfl)
    (h1 : (assignEach [tg] X.env).map (·.2) = [assign tg X.env] := by rfl) : MS X W (.Assign [tg] e pos) (sTgt g me) := by
  obtain ⟨t, p, h⟩ := he.ex
  obtain ⟨t2, p2, h2⟩ := hg.ex
  refine ⟨⟨_, ps_asg p p2 hs hw h1, fun D σ H mp env st rs re hp => ?_⟩⟩
  refine h σ H _ mp env st rs re (PostS.of_bind re hp fun mp1 H1 d st1 u e l s r re1 q => ?_)
  split at q
  · rename_i env' z
    exact h2 d u σ H1 mp1 env env' _ r re1 z fun σ' _ re' => q mp1 H1 σ' .refl s re'
  · exact q.elim
end

/-! ### iterables -/
def enumV : Nat → List Val → List Val
  | _, [] => []
  | k, d :: ds => .tup [.int k, d] :: enumV (k + 1) ds
theorem enumV_len : ∀ (k : Nat) (ds : List Val), (enumV k ds).length = ds.length
  | _, [] => rfl
  | k, d :: ds => by
    unfold enumV
    rw [List.length_cons, List.length_cons, enumV_len]
theorem enumV_get : ∀ (k : Nat) (ds : List Val) (i : Nat), (enumV k ds)[i]? = (ds[i]?).map fun d => .tup [.int ((k + i : Nat) : Int), d]
  | _, [], i => by simp [enumV]
  | k, d :: ds, 0 => by simp [enumV]
  | k, d :: ds, i + 1 => by
    unfold enumV
    rw [List.getElem?_cons_succ, List.getElem?_cons_succ, enumV_get (k + 1) ds i]
    congr 1
    funext d
    rw [show k + 1 + i = k + (i + 1) by omega]
/-- what is walked: values; the list at n of the store as it stands; that list, numbered -/
inductive Src where
  | vals (ds : List Val) | live (n : Nat) (len : Nat) | liveE (n : Nat) (len : Nat)
def ItemOk (K : PySem.W.Frag) (J : It) (mp : Mp) (H : Hp) (st : Store) (ds : List Val) (i : Nat) : Prop :=
  (∀ d, ds[i]? = some d → J.go i H ∧ ∀ x H', J.yld i H x H' → Le mp H mp H' ∧ RelS K mp H' st ∧ RepV K mp H' d x) ∧ (ds.length ≤ i → J.stop i H)
def SrcOk (K : PySem.W.Frag) (J : It) (mp : Mp) (H : Hp) : Src → Prop
  | .vals ds => ∀ mp' H' st, Shift mp H mp' H' → RelS K mp' H' st → ∀ i, ItemOk K J mp' H' st ds i
  | .live n _ => ∀ mp' H' st ds, Shift mp H mp' H' → RelS K mp' H' st → st[n]? = some (.lst ds) → ∀ i, ItemOk K J mp' H' st ds i
  | .liveE n _ => ∀ mp' H' st ds, Shift mp H mp' H' → RelS K mp' H' st → st[n]? = some (.lst ds) → ∀ i, ItemOk K J mp' H' st (enumV 0 ds) i
def PostI (K : PySem.W.Frag) (W : WX) (σ : L2.St) (mp : Mp) (H : Hp) (r : R Src) (Q : It → Hp → Prop) : Prop := match r with
  | .ok s st => ∀ mp' H' J, Le mp H mp' H' → RelS K mp' H' st → SrcOk K J mp' H' s → Q J H'
  | .exc c fs st => ∀ mp' H' d, Le mp H mp' H' → RelS K mp' H' st → ExRep K mp' H' fs d → W (.ref (He.ga K c)) d σ H'
  | .stuck => False
theorem PostI.le {K : PySem.W.Frag} {W : WX} {σ : L2.St} {mp mp1 : Mp} {H H1 : Hp} {r : R Src} {Q : It → Hp → Prop} (h : PostI K W σ mp H r Q) (l : Le mp H mp1 H1) : PostI K W σ mp1 H1 r Q := by
  cases r with
  | ok a st => exact fun mp' H' u l' => h mp' H' u (l.trans l')
  | exc c fs st => exact fun mp' H' u l' => h mp' H' u (l.trans l')
  | stuck => exact h
theorem PostI.of_bind {α β : Type} {K : PySem.W.Frag} {W : WX} {σ : L2.St} {Ra : RepT α β} {mp : Mp} {H : Hp} {r : R α} {k : α → Store → R Src} {Q : It → Hp → Prop} {Q' : β → Hp → Prop} (h : PostI K W σ mp H (r.bind k) Q)
    (hk : ∀ mp1 H1 a st1 u, r = .ok a st1 → Le mp H mp1 H1 → RelS K mp1 H1 st1 → Ra mp1 H1 a u → PostI K W σ mp1 H1 (k a st1) Q → Q' u H1) : Post K W σ Ra mp H r Q' := by
  cases r with
  | ok a st => exact fun mp' H' u l s r => hk mp' H' a st u rfl l s r (PostI.le (show PostI K W σ mp H (k a st) Q from h) l)
  | exc c fs st => exact h
  | stuck => exact h
structure MI (X : Cx) (W : WX) (tg iter : Expr) (m : MEnv → Store → R Src) : Prop where
  ex : ∃ t, PI X tg iter t ∧ ∀ σ H Q mp env st, RelS X.K mp H st → RelE X.K mp H env σ → PostI X.K W σ mp H (m env st) Q → t σ H Q
/-- a list, a tuple, a text, whichever it is -/
def iAny (K : PySem.W.Frag) (tl : TE) : TI := fun σ H R => tl σ H fun x H1 => (∃ a, x = .ref a ∧ (∃ xs, SqL K H1 a xs) ∧ R (Itl K a) H1) ∨ (∃ a, x = .ref a ∧ (∃ xs, SqT K H1 a xs) ∧ R (Itt K a) H1) ∨ (∃ z, x = .str z ∧ R (Its z) H1) ∨
  ∃ a lo hi, x = .ref a ∧ H1 a = some (.rng lo hi) ∧ (-(2 ^ 62) ≤ lo ∧ lo < 2 ^ 62 ∧ -(2 ^ 62) ≤ hi ∧ hi < 2 ^ 62) ∧ R (Itr lo (hi - lo).toNat) H1
/-- a range that stands, walked -/
theorem rng_it {X : Cx} {tg : Expr} {pins : List (Addr × Obj)} {σ : L2.St} {H : Hp} {s : Shared} {R : It → Hp → Prop} {E : Value → Shared → Prop} {a : Addr} {lo hi : Int} (I : Inv X pins σ H s) (ha : H a = some (.rng lo hi)) (h : -(2 ^ 62) ≤ lo ∧ lo < 2 ^ 62 ∧ -(2 ^ 62) ≤ hi ∧ hi < 2 ^ 62)
    (q : R (Itr lo (hi - lo).toNat) H) : wpAny (model X.prog X.w) X.A (pyIter (.ref a)) (PIE X pins σ tg R) E s := by
  obtain ⟨t, u, v, e⟩ : ∃ t u v, s.heap.get? a = some { cls := .type "range", data := .fields #[.int lo t, .int hi u, .int 1 v] } := I.hok a _ ha
  refine wpAny_pyIter_range e (small_one h.1 h.2.1 h.2.2.1 h.2.2.2) (pi_one (tk := s.toks) I _ (turn_range _ lo (hi - lo).toNat) ?_ q)
  have e1 : lo + ((0 : Nat) : Int) * 1 = lo := by simp
  have e2 : (((hi - lo).toNat : Nat) : Int) - ((0 : Nat) : Int) = Builtin.Range.rangeSize lo hi 1 := by
    rw [rangeSize_one]
    split <;> omega
  show IsRangeIter _ _ (lo + ((0 : Nat) : Int) * 1) ((((hi - lo).toNat : Nat) : Int) - ((0 : Nat) : Int)) 1
  rw [e1, e2]
  exact Heap.get?_push_size _ rfl
section
variable {X : Cx} {W : WX} {tg l : Expr}
theorem pi_any {tl : TE} (hl : PE X l tl) : PI X tg l (iAny X.K tl) := by
  refine ⟨fun pins s σ H R I h => thn (hl.run pins s σ H _ I h) fun v s1 ⟨x, H1, I1, r1, q1⟩ => ?_⟩
  rcases q1 with ⟨a, rfl, ⟨xs, hq⟩, q⟩ | ⟨a, rfl, ⟨xs, hq⟩, q⟩ | ⟨z, rfl, q⟩ | ⟨a, lo, hi, rfl, ha, hb, q⟩
  · obtain rfl : v = .ref a := r1
    obtain ⟨its, rv, p, _⟩ := I1.list hq
    exact wpAny_pyIter_list p.isList (pi_one (tk := s1.toks) I1 _ (turn_list a _) ⟨_, Heap.get?_push_size _ rfl, rfl, rfl⟩ q)
  · obtain rfl : v = .ref a := r1
    obtain ⟨its, rv, p, _⟩ := I1.tuple hq
    exact wpAny_pyIter_tuple (items := its.toArray) p (pi_one (tk := s1.toks) I1 _ (turn_tuple a _) ⟨_, Heap.get?_push_size _ rfl, rfl, rfl⟩ q)
  · obtain ⟨t, rfl⟩ := r1
    by_cases c : z.cps.all (· < 128) = true
    · exact wpAny_pyIter_ascii c (pi_one (tk := s1.toks) I1 _ (turn_str _ z t "str_ascii_iterator" (.inl rfl)) ⟨_, Heap.get?_push_size _ rfl, rfl, rfl⟩ q)
    · exact wpAny_pyIter_wide (by simpa using c) (pi_one (tk := s1.toks) I1 _ (turn_str _ z t "str_iterator" (.inr rfl)) ⟨_, Heap.get?_push_size _ rfl, rfl, rfl⟩ q)
  · obtain rfl : v = .ref a := r1
    exact rng_it I1 ha hb q
def rngL (lo : Int) (n : Nat) : List Val := (List.range n).map fun k => .int (lo + (k : Nat))
def signs (x : Str) : List Val := x.cps.toList.map fun c => .str ⟨#[c]⟩
def kSrc (d : Val) (st : Store) : R Src := match d with
  | .ref n => (match st[n]? with
    | some (.lst ds) => .ok (.live n ds.length) st
    | _ => .stuck)
  | .str x => .ok (.vals (signs x)) st
  | .rng lo hi => if -(2 ^ 60) ≤ lo ∧ lo < 2 ^ 60 ∧ -(2 ^ 60) ≤ hi ∧ hi < 2 ^ 60 then .ok (.vals (rngL lo (hi - lo).toNat)) st else .stuck
  | d => match seqOf st d with
    | some ds => .ok (.vals ds) st
    | none => .stuck
def mSrc (m : MEnv → Store → R Val) (env : MEnv) (st : Store) : R Src := (m env st).bind kSrc
theorem listOf_ref {st : Store} {n : Nat} {ds : List Val} (h : st[n]? = some (.lst ds)) : listOf st (.ref n) = some ds := by
  unfold listOf
  simp only [h]
theorem item_l {K : PySem.W.Frag} {mp : Mp} {H : Hp} {st : Store} {a : Addr} {ds : List Val} {xs : List V} (s : RelS K mp H st) (h : SqL K H a xs) (r : RepVs K mp H ds xs) (i : Nat) : ItemOk K (Itl K a) mp H st ds i := by
  refine ⟨fun d e => ?_, fun hi => ⟨xs, h, by rw [← repvs_len r]; exact hi⟩⟩
  obtain ⟨u, e1, r1⟩ := repvs_get r e
  refine ⟨⟨xs, u, h, e1⟩, fun x H' y => ?_⟩
  obtain ⟨rfl, y⟩ := y
  have := (y xs h).symm.trans e1
  obtain rfl := Option.some.inj this
  exact ⟨.refl, s, r1⟩
theorem item_t {K : PySem.W.Frag} {mp : Mp} {H : Hp} {st : Store} {a : Addr} {ds : List Val} {xs : List V} (s : RelS K mp H st) (h : SqT K H a xs) (r : RepVs K mp H ds xs) (i : Nat) : ItemOk K (Itt K a) mp H st ds i := by
  refine ⟨fun d e => ?_, fun hi => ⟨xs, h, by rw [← repvs_len r]; exact hi⟩⟩
  obtain ⟨u, e1, r1⟩ := repvs_get r e
  refine ⟨⟨xs, u, h, e1⟩, fun x H' y => ?_⟩
  obtain ⟨rfl, y⟩ := y
  have := (y xs h).symm.trans e1
  obtain rfl := Option.some.inj this
  exact ⟨.refl, s, r1⟩
theorem item_r {K : PySem.W.Frag} {mp : Mp} {H : Hp} {st : Store} {lo : Int} {n : Nat} (s : RelS K mp H st) (i : Nat) : ItemOk K (Itr lo n) mp H st ((List.range n).map fun k => .int (lo + (k : Nat))) i := by
  refine ⟨fun d e => ?_, fun hi => show n ≤ i by simpa using hi⟩
  have hi : i < n := by
    have := (List.getElem?_eq_some_iff.mp e).1
    simpa using this
  rw [List.getElem?_map, List.getElem?_range hi] at e
  obtain rfl : Val.int (lo + (i : Nat)) = d := by simpa using e
  refine ⟨hi, fun x H' y => ?_⟩
  obtain ⟨rfl, rfl⟩ := y
  exact ⟨.refl, s, rep_i ..⟩
theorem item_s {K : PySem.W.Frag} {mp : Mp} {H : Hp} {st : Store} {z : Str} (s : RelS K mp H st) (i : Nat) : ItemOk K (Its z) mp H st (signs z) i := by
  refine ⟨fun d e => ?_, fun hi => show z.cps.size ≤ i by simpa [signs] using hi⟩
  unfold signs at e
  rw [List.getElem?_map] at e
  obtain ⟨c, e1, rfl⟩ := Option.map_eq_some_iff.mp e
  have e2 : z.cps[i]? = some c := by simpa using e1
  refine ⟨(Array.getElem?_eq_some_iff.mp e2).1, fun x H' y => ?_⟩
  obtain ⟨rfl, c', e3, rfl⟩ := y
  obtain rfl := Option.some.inj (e3.symm.trans e2)
  exact ⟨.refl, s, rep_s ..⟩
theorem mi_any {me : MEnv → Store → R Val} (h : ME X W l me) : MI X W tg l (mSrc me) := by
  obtain ⟨t, p, h⟩ := h.ex
  refine ⟨⟨_, pi_any p, fun σ H Q mp env st rs re hp => ?_⟩⟩
  refine h σ H _ mp env st rs re (PostI.of_bind hp fun mp1 H1 d st1 u e l s r q => ?_)
  have list : ∀ (ds : List Val), (∀ n, d ≠ .ref n) → listOf st1 d = some ds → PostI X.K W σ mp1 H1 (.ok (.vals ds) st1) Q → ∃ a, u = .ref a ∧ (∃ xs, SqL X.K H1 a xs) ∧ Q (Itl X.K a) H1 := fun ds nr h1 q => by
    obtain ⟨a, xs, e, z, rr⟩ := listOf_rep s r h1
    refine ⟨a, e, ⟨xs, z⟩, q mp1 H1 _ .refl s fun mp' H' st' l' s' i => ?_⟩
    have r' := l'.rep r
    have h1' : listOf st' d = some ds := by
      cases d with
      | ref n => exact absurd rfl (nr n)
      | _ => exact h1
    obtain ⟨a', xs', e', z', rr'⟩ := listOf_rep s' r' h1'
    obtain rfl : a = a' := by
      rw [e] at e'
      exact V.ref.inj e'
    exact item_l s' z' rr' i
  unfold kSrc at q
  cases d with
  | ref n =>
    simp only at q
    split at q
    · rename_i ds hs
      obtain ⟨a, xs, e, z, rr⟩ := listOf_rep (ds := ds) s r (listOf_ref hs)
      refine .inl ⟨a, e, ⟨xs, z⟩, q mp1 H1 _ .refl s fun mp' H' st' ds' l' s' hs' i => ?_⟩
      obtain ⟨a', xs', e', z', rr'⟩ := listOf_rep (ds := ds') s' (l'.rep r) (listOf_ref hs')
      obtain rfl : a = a' := by
        rw [e] at e'
        exact V.ref.inj e'
      exact item_l s' z' rr' i
    · exact q.elim
  | str x =>
    exact .inr (.inr (.inl ⟨x, rep_str r, q mp1 H1 _ .refl s fun mp' H' st' l' s' i => item_s s' i⟩))
  | rng lo hi =>
    simp only at q
    split at q
    · rename_i c
      unfold RepV at r
      obtain ⟨a, e, e2, _⟩ := r
      exact .inr (.inr (.inr ⟨a, lo, hi, e, e2, ⟨by omega, by omega, by omega, by omega⟩, q mp1 H1 _ .refl s fun mp' H' st' l' s' i => item_r s' i⟩))
    · exact q.elim
  | tup ds =>
    obtain ⟨a, xs, e, z, rr⟩ := tupOf_rep (ds := ds) r rfl
    refine .inr (.inl ⟨a, e, ⟨xs, z⟩, q mp1 H1 _ .refl s fun mp' H' st' l' s' i => ?_⟩)
    obtain ⟨a', xs', e', z', rr'⟩ := tupOf_rep (ds := ds) (l'.rep r) rfl
    obtain rfl : a = a' := by
      rw [e] at e'
      exact V.ref.inj e'
    exact item_t s' z' rr' i
  | lst ds => exact .inl (list ds (fun _ e => nomatch e) rfl q)
  | fzl ds => exact .inl (list ds (fun _ e => nomatch e) rfl q)
  | brw ds => exact .inl (list ds (fun _ e => nomatch e) rfl q)
  | _ => exact q.elim
/-! range in a for -/
def kR1 (ds : List Val) (st : Store) : R Src := match ds with
  | [.int j] => if -(2 ^ 60) ≤ j ∧ j < 2 ^ 60 then .ok (.vals (rngL 0 j.toNat)) st else .stuck
  | _ => .stuck
def kR2 (ds : List Val) (st : Store) : R Src := match ds with
  | [.int i, .int j] => if (-(2 ^ 60) ≤ i ∧ i < 2 ^ 60) ∧ -(2 ^ 60) ≤ j ∧ j < 2 ^ 60 then .ok (.vals (rngL i (j - i).toNat)) st else .stuck
  | _ => .stuck
def mIt (k : List Val → Store → R Src) (ms : MEnv → Store → R (List Val)) (env : MEnv) (st : Store) : R Src := (ms env st).bind k
theorem mi_range1 {a : Expr} {ms} {p pos : Pos} (hg : Gl X "range") (hm : X.mg "range" = none) (ha : MA X W [a] ms) (hs : starEach [a] X.env = [(false, eval a X.env)] := by rfl) : MI X W tg (.Call (.Name "range" p) [a] [] pos) (mIt kR1 ms) := by
  obtain ⟨t, pa, h⟩ := ha.ex
  refine ⟨⟨_, pi_range1 hg hm pa hs, fun σ H Q mp env st rs re hp => ?_⟩⟩
  refine h σ H _ mp env st rs re (PostI.of_bind hp fun mp1 H1 ds st1 us _ l s rr q => ?_)
  unfold kR1 at q
  split at q
  · rename_i j _
    obtain ⟨u, v, rfl, r1, r2⟩ := repvs_cons.mp rr
    obtain rfl := repvs_nil.mp r2
    split at q
    · rename_i c
      exact ⟨j, by rw [rep_int r1], by omega, by omega, q mp1 H1 _ .refl s fun mp' H' st' l' s' i => item_r s' i⟩
    · exact q.elim
  · exact q.elim
theorem mi_range2 {a b : Expr} {ms} {p pos : Pos} (hg : Gl X "range") (hm : X.mg "range" = none) (ha : MA X W [a, b] ms) (hs : starEach [a, b] X.env = [(false, eval a X.env), (false, eval b X.env)] := by rfl) (hs2 : starEach [b] X.env = [(false, eval b X.env)] := by rfl) : MI X W tg (.Call (.Name "range" p) [a, b] [] pos) (mIt kR2 ms) := by
  obtain ⟨t, pa, h⟩ := ha.ex
  refine ⟨⟨_, pi_range2 hg hm pa hs hs2, fun σ H Q mp env st rs re hp => ?_⟩⟩
  refine h σ H _ mp env st rs re (PostI.of_bind hp fun mp1 H1 ds st1 us _ l s rr q => ?_)
  unfold kR2 at q
  split at q
  · rename_i i j _
    obtain ⟨u, v, rfl, r1, r2⟩ := repvs_cons.mp rr
    obtain ⟨u2, v2, rfl, r3, r4⟩ := repvs_cons.mp r2
    obtain rfl := repvs_nil.mp r4
    split at q
    · rename_i c
      exact ⟨i, j, by rw [rep_int r1, rep_int r3], ⟨by omega, by omega, by omega, by omega⟩, q mp1 H1 _ .refl s fun mp' H' st' l' s' i => item_r s' i⟩
    · exact q.elim
  · exact q.elim
end
end ML

-- ML7
set_option linter.all false
set_option maxRecDepth 100000
set_option maxHeartbeats 4000000
namespace ML
open PySem PySem.Spec PyProof.Rows L2
/-! ### for -/
def loopV (g : GM) (b : MM) : List Val → MM
  | [], env, st => .nx env st
  | d :: ds, env, st => match g d env with
    | none => .stuck
    | some e1 => match b e1 st with
      | .nx e s => loopV g b ds e s
      | .ct e s => loopV g b ds e s
      | .bk e s => .nx e s
      | r => r
def liveAt (st : Store) (n : Nat) : Option (List Val) := match st[n]? with
  | some (.lst ds) => some ds
  | _ => none
def loopL (g : GM) (b : MM) (n : Nat) : Nat → Nat → MM
  | 0, i, env, st => match liveAt st n with
    | some ds => if ds.length ≤ i then .nx env st else .stuck
    | none => .stuck
  | k + 1, i, env, st => match liveAt st n with
    | some ds => (match ds[i]? with
      | some d => (match g d env with
        | none => .stuck
        | some e1 => match b e1 st with
          | .nx e s => loopL g b n k (i + 1) e s
          | .ct e s => loopL g b n k (i + 1) e s
          | .bk e s => .nx e s
          | r => r)
      | none => .nx env st)
    | none => .stuck
def loopE (g : GM) (b : MM) (n : Nat) : Nat → Nat → MM
  | 0, i, env, st => match liveAt st n with
    | some ds => if ds.length ≤ i then .nx env st else .stuck
    | none => .stuck
  | k + 1, i, env, st => match liveAt st n with
    | some ds => (match ds[i]? with
      | some d => (match g (.tup [.int (i : Nat), d]) env with
        | none => .stuck
        | some e1 => match b e1 st with
          | .nx e s => loopE g b n k (i + 1) e s
          | .ct e s => loopE g b n k (i + 1) e s
          | .bk e s => .nx e s
          | r => r)
      | none => .nx env st)
    | none => .stuck
def runSrc (g : GM) (b : MM) : Src → MM
  | .vals ds => loopV g b ds
  | .live n len => loopL g b n len 0
  | .liveE n len => loopE g b n len 0
def sFor (mi : MEnv → Store → R Src) (g : GM) (b : MM) : MM := fun env st => (mi env st).bindS env fun s st => runSrc g b s env st
theorem PostS.of_bindI {K : PySem.W.Frag} {W : WX} {σ : L2.St} {mp : Mp} {H : Hp} {env : MEnv} {r : R Src} {k : Src → Store → S} {D : Ends} {Q' : It → Hp → Prop} (he : RelE K mp H env σ) (h : PostS K W mp H (r.bindS env k) D)
    (hk : ∀ mp1 H1 a st1 J, r = .ok a st1 → Le mp H mp1 H1 → RelS K mp1 H1 st1 → SrcOk K J mp1 H1 a → RelE K mp1 H1 env σ → PostS K W mp1 H1 (k a st1) D → Q' J H1) : PostI K W σ mp H r Q' := by
  cases r with
  | ok a st => exact fun mp' H' u l s r => hk mp' H' a st u rfl l s r (l.relE he) (PostS.le (show PostS K W mp H (k a st) D from h) l)
  | exc c fs st => exact fun mp' H' d l s x => h mp' H' d σ l s (l.relE he) x
  | stuck => exact h
section
variable {X : Cx} {W : WX} {pos : Pos}
/-- what a body's outcome is worth when the loop goes on by k -/
theorem PostS.body {K : PySem.W.Frag} {mp : Mp} {H : Hp} {D : Ends} {r : S} {k : MM} {N : L2.St → Hp → Prop}
    (h : PostS K W mp H (match r with
      | .nx e s => k e s
      | .ct e s => k e s
      | .bk e s => .nx e s
      | r => r) D) (hN : ∀ mp' H' e s σ', Le mp H mp' H' → RelS K mp' H' s → RelE K mp' H' e σ' → PostS K W mp' H' (k e s) D → N σ' H') : PostS K W mp H r { D with nx := N, ct := N, bk := D.nx } := by
  cases r with
  | nx e s => exact fun mp' H' σ' l rs re => hN mp' H' e s σ' l rs re (PostS.le h l)
  | ct e s => exact fun mp' H' σ' l rs re => hN mp' H' e s σ' l rs re (PostS.le h l)
  | bk e s => exact h
  | rt v s => exact h
  | exc c f e s => exact h
  | stuck => exact h
theorem ms_for {tg iter : Expr} {body : List Stmt} {mi : MEnv → Store → R Src} {g : GM} {vs : List Nat} {mb : MM} (hp : PassesOwn (model X.prog X.w) X.A X.env X.xe) (hc : X.calm = true) (hi : MI X W tg iter mi) (hg : MG X tg g vs) (hb : MSs X W body mb)
    (hs : ∀ x, foldedSetIterable iter X.env x = pure x := by intro _; rfl) : MS X W (.For tg iter body [] pos) (sFor mi g mb) := by
  obtain ⟨ti, pi, hi⟩ := hi.ex
  obtain ⟨tg', pg, hg⟩ := hg.ex
  obtain ⟨tb, pb, hb⟩ := hb.ex
  refine ⟨⟨_, ps_for hp hc pi pg pb hs, fun D σ H mp env st rs re hq => ?_⟩⟩
  refine hi σ H _ mp env st rs re (PostS.of_bindI re hq fun mp1 H1 src st1 J _ l1 rs1 so re1 q => ?_)
  cases src with
  | vals ds =>
    refine ⟨fun i m σ H => ∃ mp' env' st', m = ds.length - i ∧ i ≤ ds.length ∧ Le mp1 H1 mp' H ∧ RelS X.K mp' H st' ∧ RelE X.K mp' H env' σ ∧ PostS X.K W mp' H (loopV g mb (ds.drop i) env' st') D,
      ⟨_, mp1, env, st1, rfl, Nat.zero_le _, .refl, rs1, re1, by simpa [runSrc] using q⟩, ?_⟩
    rintro i m σ2 H2 ⟨mp2, env2, st2, rfl, hle, l2, rs2, re2, q2⟩
    have it := so mp2 H2 st2 l2.shift rs2 i
    by_cases hlt : i < ds.length
    · obtain ⟨go, yl⟩ := it.1 ds[i] (List.getElem?_eq_getElem hlt)
      rw [List.drop_eq_getElem_cons hlt] at q2
      unfold loopV at q2
      refine .inr ⟨go, fun σ H => ∃ mp' env' st', i + 1 ≤ ds.length ∧ Le mp1 H1 mp' H ∧ RelS X.K mp' H st' ∧ RelE X.K mp' H env' σ ∧ PostS X.K W mp' H (loopV g mb (ds.drop (i + 1)) env' st') D, fun σ' H' ⟨mp', env', st', a, b, c, d, e⟩ => ⟨ds.length - (i + 1), by omega, mp', env', st', rfl, a, b, c, d, e⟩, fun x H3 y => ?_⟩
      obtain ⟨l3, rs3, rv⟩ := yl x H3 y
      split at q2
      · exact q2.elim
      · rename_i e1 hg1
        refine hg _ _ _ _ mp2 env2 e1 _ rv (l3.relE re2) hg1 fun σ' _ re' => ?_
        exact hb _ σ' H3 mp2 e1 st2 rs3 re' (PostS.body (PostS.le q2 l3) fun mp' H' e s σ'' l rs re q => ⟨mp', e, s, by omega, l2.trans (l3.trans l), rs, re, q⟩)
    · refine .inl ⟨it.2 (by omega), ?_⟩
      rw [List.drop_of_length_le (by omega)] at q2
      exact q2 mp2 H2 σ2 .refl rs2 re2
  | live n len =>
    refine ⟨fun i m σ H => ∃ mp' env' st', i + m = len ∧ Le mp1 H1 mp' H ∧ RelS X.K mp' H st' ∧ RelE X.K mp' H env' σ ∧ PostS X.K W mp' H (loopL g mb n m i env' st') D,
      ⟨len, mp1, env, st1, by omega, .refl, rs1, re1, by simpa [runSrc] using q⟩, ?_⟩
    rintro i m σ2 H2 ⟨mp2, env2, st2, hm, l2, rs2, re2, q2⟩
    have live : ∀ {ds}, liveAt st2 n = some ds → st2[n]? = some (.lst ds) := fun {ds} h => by
      unfold liveAt at h
      split at h
      · rename_i xs hx
        obtain rfl := Option.some.inj h
        exact hx
      · cases h
    cases m with
    | zero =>
      unfold loopL at q2
      split at q2
      · rename_i ds hd
        split at q2
        · rename_i c
          exact .inl ⟨(so mp2 H2 st2 ds l2.shift rs2 (live hd) i).2 c, q2 mp2 H2 σ2 .refl rs2 re2⟩
        · exact q2.elim
      · exact q2.elim
    | succ m =>
      unfold loopL at q2
      split at q2
      · rename_i ds hd
        have it := so mp2 H2 st2 ds l2.shift rs2 (live hd) i
        split at q2
        · rename_i d hdi
          obtain ⟨go, yl⟩ := it.1 d hdi
          refine .inr ⟨go, fun σ H => ∃ mp' env' st', Le mp1 H1 mp' H ∧ RelS X.K mp' H st' ∧ RelE X.K mp' H env' σ ∧ PostS X.K W mp' H (loopL g mb n m (i + 1) env' st') D, fun σ' H' ⟨mp', env', st', b, c, d, e⟩ => ⟨m, by omega, mp', env', st', by omega, b, c, d, e⟩, fun x H3 y => ?_⟩
          obtain ⟨l3, rs3, rv⟩ := yl x H3 y
          split at q2
          · exact q2.elim
          · rename_i e1 hg1
            refine hg _ _ _ _ mp2 env2 e1 _ rv (l3.relE re2) hg1 fun σ' _ re' => ?_
            exact hb _ σ' H3 mp2 e1 st2 rs3 re' (PostS.body (PostS.le q2 l3) fun mp' H' e s σ'' l rs re q => ⟨mp', e, s, l2.trans (l3.trans l), rs, re, q⟩)
        · rename_i hdi
          exact .inl ⟨it.2 (List.getElem?_eq_none_iff.mp hdi), q2 mp2 H2 σ2 .refl rs2 re2⟩
      · exact q2.elim
  | liveE n len =>
    refine ⟨fun i m σ H => ∃ mp' env' st', i + m = len ∧ Le mp1 H1 mp' H ∧ RelS X.K mp' H st' ∧ RelE X.K mp' H env' σ ∧ PostS X.K W mp' H (loopE g mb n m i env' st') D,
      ⟨len, mp1, env, st1, by omega, .refl, rs1, re1, by simpa [runSrc] using q⟩, ?_⟩
    rintro i m σ2 H2 ⟨mp2, env2, st2, hm, l2, rs2, re2, q2⟩
    have live : ∀ {ds}, liveAt st2 n = some ds → st2[n]? = some (.lst ds) := fun {ds} h => by
      unfold liveAt at h
      split at h
      · rename_i xs hx
        obtain rfl := Option.some.inj h
        exact hx
      · cases h
    cases m with
    | zero =>
      unfold loopE at q2
      split at q2
      · rename_i ds hd
        split at q2
        · rename_i c
          exact .inl ⟨(so mp2 H2 st2 ds l2.shift rs2 (live hd) i).2 (by rw [enumV_len]; exact c), q2 mp2 H2 σ2 .refl rs2 re2⟩
        · exact q2.elim
      · exact q2.elim
    | succ m =>
      unfold loopE at q2
      split at q2
      · rename_i ds hd
        have it := so mp2 H2 st2 ds l2.shift rs2 (live hd) i
        split at q2
        · rename_i d hdi
          obtain ⟨go, yl⟩ := it.1 _ (by rw [enumV_get, hdi, Nat.zero_add]; rfl)
          refine .inr ⟨go, fun σ H => ∃ mp' env' st', Le mp1 H1 mp' H ∧ RelS X.K mp' H st' ∧ RelE X.K mp' H env' σ ∧ PostS X.K W mp' H (loopE g mb n m (i + 1) env' st') D, fun σ' H' ⟨mp', env', st', b, c, d, e⟩ => ⟨m, by omega, mp', env', st', by omega, b, c, d, e⟩, fun x H3 y => ?_⟩
          obtain ⟨l3, rs3, rv⟩ := yl x H3 y
          split at q2
          · exact q2.elim
          · rename_i e1 hg1
            refine hg _ _ _ _ mp2 env2 e1 _ rv (l3.relE re2) hg1 fun σ' _ re' => ?_
            exact hb _ σ' H3 mp2 e1 st2 rs3 re' (PostS.body (PostS.le q2 l3) fun mp' H' e s σ'' l rs re q => ⟨mp', e, s, l2.trans (l3.trans l), rs, re, q⟩)
        · rename_i hdi
          exact .inl ⟨it.2 (by rw [enumV_len]; exact List.getElem?_eq_none_iff.mp hdi), q2 mp2 H2 σ2 .refl rs2 re2⟩
      · exact q2.elim
/-! ### while -/
def loopW (c : MEnv → Store → R Bool) (b : MM) : Nat → MM
  | 0, _, _ => .stuck
  | k + 1, env, st => (c env st).bindS env fun t st => if t = true then (match b env st with
      | .nx e s => loopW c b k e s
      | .ct e s => loopW c b k e s
      | .bk e s => .nx e s
      | r => r) else .nx env st
def sWhile (fuel : Nat) (c : MEnv → Store → R Bool) (b : MM) : MM := loopW c b fuel
theorem ms_while {c : Expr} {body : List Stmt} {mc : MEnv → Store → R Bool} {mb : MM} (fuel : Nat) (hp : PassesOwn (model X.prog X.w) X.A X.env X.xe) (hc : MT X W c mc) (hb : MSs X W body mb) : MS X W (.While c body [] pos) (sWhile fuel mc mb) := by
  obtain ⟨tc, pc, hc⟩ := hc.ex
  obtain ⟨tb, pb, hb⟩ := hb.ex
  refine ⟨⟨_, ps_while hp pc pb, fun D σ H mp env st rs re hq => ?_⟩⟩
  refine ⟨fun m σ H => ∃ mp' env' st', RelS X.K mp' H st' ∧ RelE X.K mp' H env' σ ∧ PostS X.K W mp' H (loopW mc mb m env' st') D, ⟨fuel, mp, env, st, rs, re, hq⟩, ?_⟩
  rintro m σ2 H2 ⟨mp2, env2, st2, rs2, re2, q2⟩
  cases m with
  | zero => exact q2.elim
  | succ m =>
    unfold loopW at q2
    refine hc σ2 H2 _ mp2 env2 st2 rs2 re2 (PostS.of_bind re2 q2 fun mp3 H3 t st3 u e l s r re3 q => ?_)
    obtain rfl : t = u := r
    cases t with
    | false =>
      exact q mp3 H3 σ2 .refl s re3
    | true =>
      refine ⟨fun σ H => ∃ mp' env' st', RelS X.K mp' H st' ∧ RelE X.K mp' H env' σ ∧ PostS X.K W mp' H (loopW mc mb m env' st') D, fun σ' H' h => ⟨m, by omega, h⟩, ?_⟩
      exact hb _ σ2 H3 mp3 env2 st3 s re3 (PostS.body q fun mp' H' e s σ'' l rs re q => ⟨mp', e, s, rs, re, q⟩)
end
end ML

-- ML8
set_option linter.all false
set_option maxRecDepth 100000
set_option maxHeartbeats 4000000
namespace ML
open PySem PySem.Spec PyProof.Rows L2
/-! ### one reading for each -/
def cE (K : PySem.W.Frag) (W : WX) (m : MEnv → Store → R Val) : TE := fun σ H Q => ∃ mp env st, RelS K mp H st ∧ RelE K mp H env σ ∧ Post K W σ (RV K) mp H (m env st) Q
def cT (K : PySem.W.Frag) (W : WX) (m : MEnv → Store → R Bool) : TT := fun σ H Q => ∃ mp env st, RelS K mp H st ∧ RelE K mp H env σ ∧ Post K W σ RB mp H (m env st) Q
def cG (K : PySem.W.Frag) (g : GM) (vs : List Nat) : TG := fun u σ H Q => ∃ mp d env env', RepV K mp H d u ∧ RelE K mp H env σ ∧ g d env = some env' ∧ ∀ σ', Agree vs σ σ' → RelE K mp H env' σ' → Q σ' H
section
variable {X : Cx} {W : WX} {pos : Pos}
theorem ME.canon {e : Expr} {m} (h : ME X W e m) : PE X e (cE X.K W m) := by
  obtain ⟨t, p, h⟩ := h.ex
  exact ⟨fun pins s σ H Q I ⟨mp, env, st, a, b, c⟩ => p.run pins s σ H Q I (h σ H Q mp env st a b c)⟩
theorem MT.canon {e : Expr} {m} (h : MT X W e m) : PT X e (cT X.K W m) := by
  obtain ⟨t, p, h⟩ := h.ex
  exact ⟨fun pins s σ H Q I ⟨mp, env, st, a, b, c⟩ => p.run pins s σ H Q I (h σ H Q mp env st a b c)⟩
theorem MG.canon {e : Expr} {g vs} (h : MG X e g vs) : PG X e (cG X.K g vs) := by
  obtain ⟨t, p, h⟩ := h.ex
  exact ⟨fun pins s σ H v u Q I r ⟨mp, d, env, env', a, b, c, e⟩ => p.run pins s σ H v u Q I r (h d v σ H mp env env' Q a b c e)⟩
end
/-! ### list comprehensions -/
abbrev W0 : WX := fun _ _ _ _ => False
def noX {α : Type} (r : R α) : R α := match r with
  | .ok a st => .ok a st
  | _ => .stuck
@[simp] theorem noX_ok {α : Type} (a : α) (st : Store) : noX (.ok a st) = .ok a st := rfl
def wipeM (env : MEnv) : List Nat → MEnv
  | [] => env
  | v :: vs => (wipeM env vs).set v none
def compV (g : GM) (tt : MEnv → Store → R Bool) (te : MEnv → Store → R Val) (env : MEnv) : List Val → Store → R (List Val)
  | [], st => .ok [] st
  | d :: ds, st => match g d env with
    | none => .stuck
    | some e1 => (noX (tt e1 st)).bind fun k st => if k = true then (noX (te e1 st)).bind fun y st => (compV g tt te env ds st).bind fun ys st => .ok (y :: ys) st else compV g tt te env ds st
def compL (g : GM) (tt : MEnv → Store → R Bool) (te : MEnv → Store → R Val) (env : MEnv) (n : Nat) : Nat → Nat → Store → R (List Val)
  | 0, i, st => match liveAt st n with
    | some ds => if ds.length ≤ i then .ok [] st else .stuck
    | none => .stuck
  | k + 1, i, st => match liveAt st n with
    | some ds => (match ds[i]? with
      | some d => (match g d env with
        | none => .stuck
        | some e1 => (noX (tt e1 st)).bind fun c st => if c = true then (noX (te e1 st)).bind fun y st => (compL g tt te env n k (i + 1) st).bind fun ys st => .ok (y :: ys) st else compL g tt te env n k (i + 1) st)
      | none => .ok [] st)
    | none => .stuck
def compS (g : GM) (tt : MEnv → Store → R Bool) (te : MEnv → Store → R Val) (env : MEnv) : Src → Store → R (List Val)
  | .vals ds, st => if ds.length ≤ line then compV g tt te env ds st else .stuck
  | .live n len, st => if len ≤ line then compL g tt te env n len 0 st else .stuck
  | .liveE _ _, _ => .stuck
def nLc (mi : MEnv → Store → R Src) (g : GM) (tt : MEnv → Store → R Bool) (te : MEnv → Store → R Val) (vs : List Nat) (env : MEnv) (st : Store) : R (List Val) := (mi env st).bind (compS g tt te (wipeM env vs))
def tYesM (_ : MEnv) (st : Store) : R Bool := .ok true st
theorem relE_wipe {K : PySem.W.Frag} {mp : Mp} {H : Hp} {env : MEnv} {σ : L2.St} (h : RelE K mp H env σ) : ∀ vs : List Nat, RelE K mp H (wipeM env vs) (wipe σ vs)
  | [] => h
  | v :: vs => relE_set (relE_wipe h vs) (show RelO K mp H none none from trivial)
theorem wipe_at (σ : L2.St) (j : Nat) : ∀ vs : List Nat, (wipe σ vs)[j]? = if j ∈ vs ∧ j < σ.length then some none else σ[j]?
  | [] => by simp [wipe]
  | v :: vs => by
    unfold wipe
    by_cases h : v = j
    · subst h
      rw [List.getElem?_set_self']
      by_cases c : v < σ.length
      · rw [if_pos ⟨List.mem_cons_self, c⟩]
        have hv : v < (wipe σ vs).length := by rw [wipe_length]; exact c
        rw [List.getElem?_eq_getElem hv]
        rfl
      · rw [if_neg fun z => c z.2]
        have h1 : (wipe σ vs)[v]? = none := List.getElem?_eq_none_iff.mpr (by rw [wipe_length]; omega)
        have h2 : σ[v]? = none := List.getElem?_eq_none_iff.mpr (by omega)
        rw [h1, h2]; rfl
    · rw [List.getElem?_set_ne h, wipe_at σ j vs]
      have : (j ∈ v :: vs) ↔ j ∈ vs := by simp [Ne.symm h]
      simp only [this]
theorem agree_wipe {σ σ' : L2.St} {vs ws : List Nat} (a : Agree ws σ σ') (h : ∀ j ∈ ws, j ∈ vs) : wipe σ' vs = wipe σ vs := by
  apply List.ext_getElem?
  intro j
  rw [wipe_at, wipe_at, a.1]
  by_cases c : j ∈ vs ∧ j < σ.length
  · rw [if_pos c, if_pos c]
  · rw [if_neg c, if_neg c]
    by_cases d : j ∈ ws
    · have hl : σ.length ≤ j := by
        have := h j d
        by_cases e : j < σ.length
        · exact absurd ⟨this, e⟩ c
        · omega
      rw [List.getElem?_eq_none_iff.mpr hl, List.getElem?_eq_none_iff.mpr (by rw [a.1]; exact hl)]
    · exact a.2 j d
theorem wipe_wipe {σ : L2.St} {vs : List Nat} : wipe (wipe σ vs) vs = wipe σ vs := by
  apply List.ext_getElem?
  intro j
  rw [wipe_at, wipe_length, wipe_at]
  by_cases c : j ∈ vs ∧ j < σ.length <;> simp [c]
theorem PostN.bindI {K : PySem.W.Frag} {σ : L2.St} {mp : Mp} {H : Hp} {r : R Src} {k : Src → Store → R (List Val)} {W : WX} {Q : V → Hp → Prop} {Q' : It → Hp → Prop} (h : PostN K W σ mp H (r.bind k) Q)
    (hk : ∀ mp1 H1 a st1 J, r = .ok a st1 → Le mp H mp1 H1 → RelS K mp1 H1 st1 → SrcOk K J mp1 H1 a → PostN K W σ mp1 H1 (k a st1) Q → Q' J H1) : PostI K W σ mp H r Q' := by
  cases r with
  | ok a st => exact fun mp' H' u l s r => hk mp' H' a st u rfl l s r (PostN.le (show PostN K W σ mp H (k a st) Q from h) l)
  | exc c fs st => exact h
  | stuck => exact h
/-- a step within: what it gives stands behind the base -/
theorem PostN.inner {α β : Type} {K : PySem.W.Frag} {W : WX} {σ σ2 : L2.St} {Ra : RepT α β} {mp mpX : Mp} {H HX : Hp} {r : R α} {k : α → Store → R (List Val)} {Q : V → Hp → Prop} {Q' : β → Hp → Prop} (h : PostN K W σ mp H ((noX r).bind k) Q)
    (hk : ∀ mp1 H1 a st1 u, r = .ok a st1 → Le mpX HX mp1 H1 → RelS K mp1 H1 st1 → Ra mp1 H1 a u → PostN K W σ mp H (k a st1) Q → Q' u H1) : Post K W0 σ2 Ra mpX HX r Q' := by
  cases r with
  | ok a st => exact fun mp' H' u l s r => hk mp' H' a st u rfl l s r h
  | exc c fs st => exact (show False from h).elim
  | stuck => exact h
theorem R.bind_assoc {α γ δ : Type} (r : R α) (k : α → Store → R γ) (k' : γ → Store → R δ) : (r.bind k).bind k' = r.bind fun a st => (k a st).bind k' := by
  cases r <;> rfl
theorem R.bind_id {α : Type} (r : R α) : (r.bind fun a st => .ok a st) = r := by
  cases r <;> rfl
theorem NewL.fin {K : PySem.W.Frag} {mp mp2 : Mp} {H H2 : Hp} {p : Addr} {st0 st : Store} {ds : List Val} {xs : List V} (s0 : RelS K mp H st0) (np : H p = none) (l : Le mp H mp2 H2) (s : RelS K (mp2.shut p) H2 st) (e : H2 p = some (.lst xs)) (r : RepVs K (mp2.shut p) H2 ds xs) : NewL K mp H mp2 H2 st ds p := by
  have hp : p ∉ mp2.own := (s.sep p (by show p ∈ mp2.bar ++ [p]; simp)).1
  have hb : p ∉ mp2.bar := fun z => (s0.sep p (by rw [← l.bar]; exact z)).2 np
  have hf : p ∉ mp2.fb := fun z => s0.old p (by rw [← l.fb]; exact z) np
  refine ⟨l, s.open, rep_lst e ⟨⟨hp, hb⟩, hf⟩ (shift_open.reps r), ?_, ?_⟩
  · obtain ⟨nw, e1, f1⟩ := l.ext
    refine ⟨l.fb, l.bar, ⟨nw ++ [p], ?_, fun a ha => ?_⟩, l.keep, l.dom⟩
    · show mp2.own ++ [p] = _
      rw [e1, List.append_assoc]
    · rcases List.mem_append.mp ha with h | h
      · exact f1 a h
      · obtain rfl : a = p := by simpa using h
        exact np
  · refine ⟨?_, ?_, fun n a x h1 h2 => ?_, s.old, fun a h => ⟨fun z => ?_, (s.sep a (List.mem_append_left _ h)).2⟩⟩
    · show (mp2.own ++ [p]).Nodup
      rw [List.nodup_append]
      refine ⟨s.nd, by simp, fun a ha b hb2 => ?_⟩
      obtain rfl : b = p := by simpa using hb2
      exact fun e => hp (by rw [← e]; exact ha)
    · show (mp2.own ++ [p]).length = _
      have := s.len
      simp only [Mp.shut] at this
      simp [this]
    · have h1 : (mp2.own ++ [p])[n]? = some a := h1
      have hl : mp2.own.length = st.length := s.len
      by_cases c : n < mp2.own.length
      · rw [List.getElem?_append_left c] at h1
        rw [List.getElem?_append_left (by rw [← hl]; exact c)] at h2
        exact shift_own.obj rfl (s.obj n a x h1 h2)
      · have hn : n = mp2.own.length := by
          have := (List.getElem?_eq_some_iff.mp h1).1
          simp at this
          omega
        subst hn
        have ha : p = a := by simpa using h1
        subst ha
        have hx : MObj.lst ds = x := by
          rw [hl] at h2
          simpa using h2
        subst hx
        exact ⟨xs, e, shift_own.reps r⟩
    · rcases List.mem_append.mp z with z | z
      · exact (s.sep a (List.mem_append_left _ h)).1 z
      · obtain rfl : a = p := by simpa using z
        exact hb h
section
variable {X : Cx} {W : WX} {pos : Pos}
theorem lc_rd {K : PySem.W.Frag} {ti : TI} {mi : MEnv → Store → R Src} {g : GM} {ws vs : List Nat} {tt : MEnv → Store → R Bool} {te : MEnv → Store → R Val} (hws : ∀ j ∈ ws, j ∈ vs)
    (hi : ∀ σ H Q mp env st, RelS K mp H st → RelE K mp H env σ → PostI K W σ mp H (mi env st) Q → ti σ H Q) (σ : L2.St) (H : Hp) (Q : VK) (mp : Mp) (env : MEnv) (st : Store) (rs : RelS K mp H st) (re : RelE K mp H env σ)
    (hp : PostN K W σ mp H (nLc mi g tt te vs env st) Q) : tLc ti (cG K g ws) (cT K W0 tt) (cE K W0 te) vs σ H Q := by
  refine hi σ H _ mp env st rs re (PostN.bindI hp fun mp1 H1 src st1 J _ l1 rs1 so q => ?_)
  intro D nD
  cases src with
  | liveE n len => exact False.elim q
  | live n len =>
    have q : PostN K W σ mp1 H1 (if len ≤ line then compL g tt te (wipeM env vs) n len 0 st1 else .stuck) Q := q
    by_cases hlen : len ≤ line
    · rw [if_pos hlen] at q
      have re1 := relE_wipe (l1.relE re) vs
      refine ⟨fun i m H2 => ∃ mp2 st2 accV acc, i + m = len ∧ Le mp1 H1 mp2 H2 ∧ RelS K (mp2.shut D) H2 st2 ∧ RelE K (mp2.shut D) H2 (wipeM env vs) (wipe σ vs) ∧ H2 D = some (.lst acc) ∧ RepVs K (mp2.shut D) H2 accV acc ∧ accV.length ≤ i ∧
          PostN K W σ mp1 H1 ((compL g tt te (wipeM env vs) n m i st2).bind fun ys st => .ok (accV ++ ys) st) Q,
        ⟨_, mp1, st1, [], [], Nat.zero_add _, le_new nD, rs1.shut nD, (shift_upd (o := .lst [])).relE ((shift_shut nD).relE re1), upd_same, by simp [RepVs], Nat.le_refl _, by simpa [R.bind_id] using q⟩, ?_⟩
      rintro i m H2 ⟨mp2, st2, accV, acc, hm, l2, rs2, re2, eD, ra, hal, q2⟩
      have live : ∀ {ds}, liveAt st2 n = some ds → st2[n]? = some (.lst ds) := fun {ds} h => by
        unfold liveAt at h
        split at h
        · rename_i xs hx
          obtain rfl := Option.some.inj h
          exact hx
        · cases h
      cases m with
      | zero =>
        unfold compL at q2
        split at q2
        · rename_i ds hd
          split at q2
          · rename_i c
            refine .inl ⟨(so (mp2.shut D) H2 st2 ds (shift_turn nD l2) rs2 (live hd) i).2 c, ?_⟩
            have q3 : PostN K W σ mp1 H1 (.ok accV st2) Q := by simpa using q2
            exact q3 mp2 H2 D (NewL.fin rs1 nD l2 rs2 eD ra)
          · exact q2.elim
        · exact q2.elim
      | succ m =>
        unfold compL at q2
        split at q2
        · rename_i ds hd
          have it := so (mp2.shut D) H2 st2 ds (shift_turn nD l2) rs2 (live hd) i
          split at q2
          · rename_i d hdi
            obtain ⟨go, yl⟩ := it.1 d hdi
            refine .inr ⟨go, fun H3 => ∃ mp2 st2 accV acc, Le mp1 H1 mp2 H3 ∧ RelS K (mp2.shut D) H3 st2 ∧ RelE K (mp2.shut D) H3 (wipeM env vs) (wipe σ vs) ∧ H3 D = some (.lst acc) ∧ RepVs K (mp2.shut D) H3 accV acc ∧ accV.length ≤ i + 1 ∧
                PostN K W σ mp1 H1 ((compL g tt te (wipeM env vs) n m (i + 1) st2).bind fun ys st => .ok (accV ++ ys) st) Q,
              fun H' ⟨a1, a2, a3, a4, a5⟩ => ⟨m, by omega, a1, a2, a3, a4, by omega, a5⟩, fun x H3 y => ?_⟩
            obtain ⟨l3, rs3, rv⟩ := yl x H3 y
            have dD : D ∉ (mp2.shut D).own := (rs2.sep D (by show D ∈ mp2.bar ++ [D]; simp)).1
            split at q2
            · exact q2.elim
            · rename_i e1 hg1
              refine ⟨mp2.shut D, _, _, e1, rv, l3.relE re2, hg1, fun σ2 ag re3 => ⟨(agree_wipe ag hws).trans wipe_wipe, ?_⟩⟩
              rw [R.bind_assoc] at q2
              refine ⟨mp2.shut D, e1, st2, rs3, re3, PostN.inner q2 fun mp4 H4 k st4 u _ l4 rs4 r4 q4 => ?_⟩
              obtain rfl : k = u := r4
              -- what stands behind the test, the element
              have back : ∀ {mp' : Mp} {H' : Hp}, Le (mp2.shut D) H2 mp' H' → ∃ mp5 : Mp, mp' = mp5.shut D := fun {mp' H'} l => by
                refine ⟨⟨mp'.own, mp'.fb, mp2.bar⟩, ?_⟩
                obtain ⟨a, b, c⟩ := mp'
                have := l.bar
                simp only [Mp.shut] at this ⊢
                rw [this]
              have l34 := l3.trans l4
              obtain ⟨mp5, rfl⟩ := back l34
              cases k with
              | false =>
                have e4 : H4 D = some (.lst acc) := l34.keep D _ eD dD
                refine ⟨mp5, st4, accV, acc, ?_, rs4, l34.relE re2, e4, l34.reps ra, by omega, q4⟩
                have := Le.turn (o := .lst acc) nD l2 l34
                have eq : upd H4 D (.lst acc) = H4 := by
                  funext b
                  by_cases c : b = D
                  · rw [c, upd_same, e4]
                  · rw [upd_ne c]
                rwa [eq] at this
              | true =>
                rw [if_pos rfl] at q4 ⊢
                rw [R.bind_assoc] at q4
                refine ⟨mp5.shut D, e1, st4, rs4, l4.relE re3, PostN.inner q4 fun mp6 H6 y st6 w _ l6 rs6 r6 q6 => ?_⟩
                have l36 := l34.trans l6
                obtain ⟨mp7, rfl⟩ := back l36
                have e6 : H6 D = some (.lst acc) := l36.keep D _ eD dD
                have hla : acc.length = accV.length := (repvs_len ra).symm
                refine ⟨acc, e6, by rw [line_eq]; omega, mp7, st6, accV ++ [y], acc ++ [w], Le.turn nD l2 l36, rs6.upd, shift_upd.relE (l36.relE re2), upd_same, shift_upd.reps (repvs_append (l36.reps ra) (repvs_cons.mpr ⟨w, [], rfl, r6, repvs_nil.mpr rfl⟩)), by simp; omega, ?_⟩
                have : (fun (ys : List Val) (st : Store) => (R.ok (accV ++ [y] ++ ys) st : R (List Val))) = fun ys st => .ok (accV ++ (y :: ys)) st := by
                  funext ys st
                  simp
                rw [this]
                rw [R.bind_assoc] at q6
                exact q6
          · refine .inl ⟨it.2 (List.getElem?_eq_none_iff.mp (by assumption)), ?_⟩
            have q3 : PostN K W σ mp1 H1 (.ok accV st2) Q := by simpa using q2
            exact q3 mp2 H2 D (NewL.fin rs1 nD l2 rs2 eD ra)
        · exact q2.elim
    · rw [if_neg hlen] at q
      exact q.elim
  | vals ds =>
    have q : PostN K W σ mp1 H1 (if ds.length ≤ line then compV g tt te (wipeM env vs) ds st1 else .stuck) Q := q
    by_cases hlen : ds.length ≤ line
    · rw [if_pos hlen] at q
      have re1 := relE_wipe (l1.relE re) vs
      refine ⟨fun i m H2 => ∃ mp2 st2 accV acc, m = ds.length - i ∧ i ≤ ds.length ∧ Le mp1 H1 mp2 H2 ∧ RelS K (mp2.shut D) H2 st2 ∧ RelE K (mp2.shut D) H2 (wipeM env vs) (wipe σ vs) ∧ H2 D = some (.lst acc) ∧ RepVs K (mp2.shut D) H2 accV acc ∧ accV.length ≤ i ∧
          PostN K W σ mp1 H1 ((compV g tt te (wipeM env vs) (ds.drop i) st2).bind fun ys st => .ok (accV ++ ys) st) Q,
        ⟨_, mp1, st1, [], [], rfl, Nat.zero_le _, le_new nD, rs1.shut nD, (shift_upd (o := .lst [])).relE ((shift_shut nD).relE re1), upd_same, by simp [RepVs], Nat.le_refl _, by simpa [R.bind_id] using q⟩, ?_⟩
      rintro i m H2 ⟨mp2, st2, accV, acc, rfl, hle, l2, rs2, re2, eD, ra, hal, q2⟩
      have it := so (mp2.shut D) H2 st2 (shift_turn nD l2) rs2 i
      by_cases hlt : i < ds.length
      · obtain ⟨go, yl⟩ := it.1 ds[i] (List.getElem?_eq_getElem hlt)
        rw [List.drop_eq_getElem_cons hlt] at q2
        unfold compV at q2
        refine .inr ⟨go, fun H3 => ∃ mp2 st2 accV acc, i + 1 ≤ ds.length ∧ Le mp1 H1 mp2 H3 ∧ RelS K (mp2.shut D) H3 st2 ∧ RelE K (mp2.shut D) H3 (wipeM env vs) (wipe σ vs) ∧ H3 D = some (.lst acc) ∧ RepVs K (mp2.shut D) H3 accV acc ∧ accV.length ≤ i + 1 ∧
            PostN K W σ mp1 H1 ((compV g tt te (wipeM env vs) (ds.drop (i + 1)) st2).bind fun ys st => .ok (accV ++ ys) st) Q,
          fun H' ⟨a1, a2, a3, a4, a5, a6⟩ => ⟨ds.length - (i + 1), by omega, a1, a2, a3, a4, rfl, a5, a6⟩, fun x H3 y => ?_⟩
        obtain ⟨l3, rs3, rv⟩ := yl x H3 y
        have dD : D ∉ (mp2.shut D).own := (rs2.sep D (by show D ∈ mp2.bar ++ [D]; simp)).1
        split at q2
        · exact q2.elim
        · rename_i e1 hg1
          refine ⟨mp2.shut D, _, _, e1, rv, l3.relE re2, hg1, fun σ2 ag re3 => ⟨(agree_wipe ag hws).trans wipe_wipe, ?_⟩⟩
          rw [R.bind_assoc] at q2
          refine ⟨mp2.shut D, e1, st2, rs3, re3, PostN.inner q2 fun mp4 H4 k st4 u _ l4 rs4 r4 q4 => ?_⟩
          obtain rfl : k = u := r4
          -- what stands behind the test, the element
          have back : ∀ {mp' : Mp} {H' : Hp}, Le (mp2.shut D) H2 mp' H' → ∃ mp5 : Mp, mp' = mp5.shut D := fun {mp' H'} l => by
            refine ⟨⟨mp'.own, mp'.fb, mp2.bar⟩, ?_⟩
            obtain ⟨a, b, c⟩ := mp'
            have := l.bar
            simp only [Mp.shut] at this ⊢
            rw [this]
          have l34 := l3.trans l4
          obtain ⟨mp5, rfl⟩ := back l34
          cases k with
          | false =>
            have e4 : H4 D = some (.lst acc) := l34.keep D _ eD dD
            refine ⟨mp5, st4, accV, acc, by omega, ?_, rs4, l34.relE re2, e4, l34.reps ra, by omega, q4⟩
            have := Le.turn (o := .lst acc) nD l2 l34
            have eq : upd H4 D (.lst acc) = H4 := by
              funext b
              by_cases c : b = D
              · rw [c, upd_same, e4]
              · rw [upd_ne c]
            rwa [eq] at this
          | true =>
            rw [if_pos rfl] at q4 ⊢
            rw [R.bind_assoc] at q4
            refine ⟨mp5.shut D, e1, st4, rs4, l4.relE re3, PostN.inner q4 fun mp6 H6 y st6 w _ l6 rs6 r6 q6 => ?_⟩
            have l36 := l34.trans l6
            obtain ⟨mp7, rfl⟩ := back l36
            have e6 : H6 D = some (.lst acc) := l36.keep D _ eD dD
            have hla : acc.length = accV.length := (repvs_len ra).symm
            refine ⟨acc, e6, by rw [line_eq]; omega, mp7, st6, accV ++ [y], acc ++ [w], by omega, Le.turn nD l2 l36, rs6.upd, shift_upd.relE (l36.relE re2), upd_same, shift_upd.reps (repvs_append (l36.reps ra) (repvs_cons.mpr ⟨w, [], rfl, r6, repvs_nil.mpr rfl⟩)), by simp; omega, ?_⟩
            have : (fun (ys : List Val) (st : Store) => (R.ok (accV ++ [y] ++ ys) st : R (List Val))) = fun ys st => .ok (accV ++ (y :: ys)) st := by
              funext ys st
              simp
            rw [this]
            rw [R.bind_assoc] at q6
            exact q6
      · refine .inl ⟨it.2 (by omega), ?_⟩
        rw [List.drop_of_length_le (by omega)] at q2
        have q3 : PostN K W σ mp1 H1 (.ok accV st2) Q := by simpa [compV] using q2
        exact q3 mp2 H2 D (NewL.fin rs1 nD l2 rs2 eD ra)
    · rw [if_neg hlen] at q
      exact q.elim
theorem mn_lc {elt tg iter : Expr} {ifs : List Expr} {scope : Scope} {own : List (Str × Nat)} {mi : MEnv → Store → R Src} {g : GM} {ws : List Nat} {tt : MEnv → Store → R Bool} {te : MEnv → Store → R Val} (hc : X.calm = true) (hN : X.N.Nodup) (hi : MI X W tg iter mi) (ok : BlkOk X.N X.env.scope scope own)
    (hg : ∀ (s : Shared) (H : Hp) (C : Addr) (cl : List (Str × Addr)) (fp : List Addr), MG (X.blk s H scope (compEnvC scope cl C X.env) fp) tg g ws) (ht : ∀ (s : Shared) (H : Hp) (C : Addr) (cl : List (Str × Addr)) (fp : List Addr), PTs (X.blk s H scope (compEnvC scope cl C X.env) fp) ifs (cT X.K W0 tt))
    (he : ∀ (s : Shared) (H : Hp) (C : Addr) (cl : List (Str × Addr)) (fp : List Addr), ME (X.blk s H scope (compEnvC scope cl C X.env) fp) W0 elt te) (hws : ∀ j ∈ ws, j ∈ own.map (·.2)) (hs : ∀ x, foldedSetIterable iter X.env x = pure x := by intro _; rfl) :
    MN X W (.ListComp elt [⟨tg, iter, ifs, 0⟩] scope pos) (nLc mi g tt te (own.map (·.2))) := by
  obtain ⟨ti, pi, hi⟩ := hi.ex
  exact ⟨⟨_, pe_lc hc hN pi ok (g := cG X.K g ws) (te := cE X.K W0 te) (fun s H C cl fp => (hg s H C cl fp).canon) ht (fun s H C cl fp => (he s H C cl fp).canon) hs, lc_rd hws hi⟩⟩
theorem mpt_nil : PTs X [] (cT X.K W0 tYesM) :=
  ⟨fun pins s σ H Q I ⟨mp, env, st, rs, re, q⟩ => pts_nil.run pins s σ H Q I (q mp H true .refl rs rfl)⟩
theorem mpt_one {c : Expr} {tt : MEnv → Store → R Bool} (h : MT X W0 c tt) : PTs X [c] (cT X.K W0 tt) := pts_one h.canon
/-- name = [..] -/
theorem ms_setLc {i : Nat} {y : Str} {py : Pos} {elt tg iter : Expr} {ifs : List Expr} {scope : Scope} {own : List (Str × Nat)} {p2 spos : Pos} {mi : MEnv → Store → R Src} {g : GM} {ws : List Nat} {tt : MEnv → Store → R Bool} {te : MEnv → Store → R Val} (hc : X.calm = true) (hN : X.N.Nodup) (hy : X.N[i]? = some y) (hyl : X.env.scope.names.lookup y = some .local)
    (hsw : swapsWith (.ListComp elt [⟨tg, iter, ifs, 0⟩] scope p2) (some (.Name y py)) spos.line X.env = pure true) (hi : MI X W tg iter mi) (ok : BlkOk X.N X.env.scope scope own)
    (hg : ∀ (s : Shared) (H : Hp) (C : Addr) (cl : List (Str × Addr)) (fp : List Addr), MG (X.blk s H scope (compEnvC scope cl C X.env) fp) tg g ws) (ht : ∀ (s : Shared) (H : Hp) (C : Addr) (cl : List (Str × Addr)) (fp : List Addr), PTs (X.blk s H scope (compEnvC scope cl C X.env) fp) ifs (cT X.K W0 tt))
    (he : ∀ (s : Shared) (H : Hp) (C : Addr) (cl : List (Str × Addr)) (fp : List Addr), ME (X.blk s H scope (compEnvC scope cl C X.env) fp) W0 elt te) (hws : ∀ j ∈ ws, j ∈ own.map (·.2)) (hs : ∀ x, foldedSetIterable iter X.env x = pure x := by intro _; rfl) :
    MS X W (.Assign [.Name y py] (.ListComp elt [⟨tg, iter, ifs, 0⟩] scope p2) spos) (sSet i (mVal (nLc mi g tt te (own.map (·.2))))) := by
  obtain ⟨ti, pi, hi⟩ := hi.ex
  refine ⟨⟨_, ps_setLc hc hN hy hyl hsw pi ok (g := cG X.K g ws) (te := cE X.K W0 te) (fun s H C cl fp => (hg s H C cl fp).canon) ht (fun s H C cl fp => (he s H C cl fp).canon) hs, fun D σ H mp env st rs re hp => ?_⟩⟩
  refine lc_rd hws hi σ H _ mp env st rs re ?_
  unfold sSet mVal at hp
  cases e : nLc mi g tt te (own.map (·.2)) env st with
  | ok ds st1 =>
    rw [e] at hp
    exact fun mp' H' p z => hp mp' H' _ z.le z.rs (relE_set (z.le.relE re) (show RelO X.K mp' H' (some (.lst ds)) (some (.ref p)) from z.rv))
  | exc c fs st1 =>
    rw [e] at hp
    exact fun mp' H' d l s x => hp mp' H' d σ l s (l.relE re) x
  | stuck =>
    rw [e] at hp
    exact hp
end
end ML

-- ML9
set_option linter.all false
set_option maxRecDepth 100000
set_option maxHeartbeats 4000000
namespace ML
open PySem PySem.Spec PyProof.Rows L2
/-! ### a def's promise: a function of its arguments' values -/
mutual
/-- nothing of any store in it -/
def nr : Val → Bool
  | .ref _ => false
  | .tup xs => nrs xs
  | .lst xs => nrs xs
  | .fzl xs => nrs xs
  | .brw xs => nrs xs
  | .dct kvs => nrk kvs
  | _ => true
def nrs : List Val → Bool
  | [] => true
  | d :: ds => nr d && nrs ds
def nrk : List (Key × Val) → Bool
  | [] => true
  | (_, d) :: ds => nr d && nrk ds
end
mutual
/-- .. nor anything lent -/
def cl : Val → Bool
  | .ref _ => false
  | .fzl _ => false
  | .brw _ => false
  | .tup xs => cls xs
  | .lst xs => cls xs
  | .dct kvs => clk kvs
  | _ => true
def cls : List Val → Bool
  | [] => true
  | d :: ds => cl d && cls ds
def clk : List (Key × Val) → Bool
  | [] => true
  | (_, d) :: ds => cl d && clk ds
end
def Mp.lone (fb : List Addr) : Mp := ⟨[], fb, []⟩
/-- all that a caller bars -/
def Mp.all (m : Mp) : List Addr := m.fb ++ m.own ++ m.bar
section
variable {K : PySem.W.Frag} {mp : Mp} {H : Hp} {st : Store}
theorem lone_lent (fb : List Addr) (a : Addr) : (Mp.lone fb).lent a := ⟨by simp [Mp.lone], by simp [Mp.lone]⟩
theorem all_free {a : Addr} (h : mp.free a) : (Mp.lone mp.all).free a := ⟨lone_lent _ a, fun z => by
  have z : a ∈ mp.fb ++ mp.own ++ mp.bar := z
  rcases List.mem_append.mp z with z | z
  · rcases List.mem_append.mp z with z | z
    · exact h.2 z
    · exact h.1.1 z
  · exact h.1.2 z⟩
theorem free_all {a : Addr} (h : (Mp.lone mp.all).free a) : mp.free a := by
  have h2 : a ∉ mp.fb ++ mp.own ++ mp.bar := h.2
  simp only [List.mem_append, not_or] at h2
  exact ⟨⟨h2.1.2, h2.2⟩, h2.1.1⟩
mutual
theorem rep_in : ∀ {d : Val} {u : V}, nr d = true → RepV K mp H d u → RepV K (.lone mp.all) H d u
  | .non, _, _, h => h
  | .bl _, _, _, h => h
  | .int _, _, _, h => h
  | .str _, _, _, h => h
  | .fn _, _, _, h => h
  | .ref _, _, n, _ => by simp [nr] at n
  | .tup ds, _, n, h => by
    unfold RepV at h ⊢
    obtain ⟨a, xs, e, r, q⟩ := h
    exact ⟨a, xs, e, r.elim (fun z => .inl ⟨z.1, all_free z.2⟩) .inr, reps_in (by simpa [nr] using n) q⟩
  | .lst ds, _, n, h => by
    unfold RepV at h ⊢
    obtain ⟨a, xs, e, r, q⟩ := h
    exact ⟨a, xs, e, ⟨r.1, all_free r.2⟩, reps_in (by simpa [nr] using n) q⟩
  | .fzl ds, _, n, h => by
    unfold RepV at h ⊢
    obtain ⟨a, xs, e, r, q⟩ := h
    exact ⟨a, xs, e, r.elim (fun z => .inl ⟨z.1, lone_lent _ _⟩) .inr, reps_in (by simpa [nr] using n) q⟩
  | .brw ds, _, n, h => by
    unfold RepV at h ⊢
    obtain ⟨a, xs, e, r, q⟩ := h
    exact ⟨a, xs, e, ⟨r.1, lone_lent _ _⟩, reps_in (by simpa [nr] using n) q⟩
  | .rng lo hi, _, _, h => by
    unfold RepV at h ⊢
    obtain ⟨a, e, q, n⟩ := h
    exact ⟨a, e, q, all_free n⟩
  | .dct ds, _, n, h => by
    unfold RepV at h ⊢
    obtain ⟨a, xs, e, r, q⟩ := h
    exact ⟨a, xs, e, ⟨r.1, all_free r.2⟩, repk_in (by simpa [nr] using n) q⟩
theorem reps_in : ∀ {d : List Val} {u : List V}, nrs d = true → RepVs K mp H d u → RepVs K (.lone mp.all) H d u
  | [], _, _, h => h
  | d :: ds, _, n, h => by
    have n2 : nr d = true ∧ nrs ds = true := by simpa [nrs] using n
    unfold RepVs at h ⊢
    obtain ⟨a, xs, e, r, q⟩ := h
    exact ⟨a, xs, e, rep_in n2.1 r, reps_in n2.2 q⟩
theorem repk_in : ∀ {d : List (Key × Val)} {u : List (Key × V)}, nrk d = true → RepK K mp H d u → RepK K (.lone mp.all) H d u
  | [], _, _, h => h
  | (k, d) :: ds, _, n, h => by
    have n2 : nr d = true ∧ nrk ds = true := by simpa [nrk] using n
    unfold RepK at h ⊢
    obtain ⟨a, xs, e, r, q⟩ := h
    exact ⟨a, xs, e, rep_in n2.1 r, repk_in n2.2 q⟩
end
mutual
/-- what is closed depends on the free alone -/
theorem rep_cl {mp' : Mp} (f : ∀ a, mp.free a → mp'.free a) : ∀ {d : Val} {u : V}, cl d = true → RepV K mp H d u → RepV K mp' H d u
  | .non, _, _, h => h
  | .bl _, _, _, h => h
  | .int _, _, _, h => h
  | .str _, _, _, h => h
  | .fn _, _, _, h => h
  | .ref _, _, n, _ => by simp [cl] at n
  | .fzl _, _, n, _ => by simp [cl] at n
  | .brw _, _, n, _ => by simp [cl] at n
  | .tup ds, _, n, h => by
    unfold RepV at h ⊢
    obtain ⟨a, xs, e, r, q⟩ := h
    exact ⟨a, xs, e, r.elim (fun z => .inl ⟨z.1, f _ z.2⟩) .inr, reps_cl f (by simpa [cl] using n) q⟩
  | .lst ds, _, n, h => by
    unfold RepV at h ⊢
    obtain ⟨a, xs, e, r, q⟩ := h
    exact ⟨a, xs, e, ⟨r.1, f _ r.2⟩, reps_cl f (by simpa [cl] using n) q⟩
  | .rng lo hi, _, _, h => by
    unfold RepV at h ⊢
    obtain ⟨a, e, q, n⟩ := h
    exact ⟨a, e, q, f _ n⟩
  | .dct ds, _, n, h => by
    unfold RepV at h ⊢
    obtain ⟨a, xs, e, r, q⟩ := h
    exact ⟨a, xs, e, ⟨r.1, f _ r.2⟩, repk_cl f (by simpa [cl] using n) q⟩
theorem reps_cl {mp' : Mp} (f : ∀ a, mp.free a → mp'.free a) : ∀ {d : List Val} {u : List V}, cls d = true → RepVs K mp H d u → RepVs K mp' H d u
  | [], _, _, h => h
  | d :: ds, _, n, h => by
    have n2 : cl d = true ∧ cls ds = true := by simpa [cls] using n
    unfold RepVs at h ⊢
    obtain ⟨a, xs, e, r, q⟩ := h
    exact ⟨a, xs, e, rep_cl f n2.1 r, reps_cl f n2.2 q⟩
theorem repk_cl {mp' : Mp} (f : ∀ a, mp.free a → mp'.free a) : ∀ {d : List (Key × Val)} {u : List (Key × V)}, clk d = true → RepK K mp H d u → RepK K mp' H d u
  | [], _, _, h => h
  | (k, d) :: ds, _, n, h => by
    have n2 : cl d = true ∧ clk ds = true := by simpa [clk] using n
    unfold RepK at h ⊢
    obtain ⟨a, xs, e, r, q⟩ := h
    exact ⟨a, xs, e, rep_cl f n2.1 r, repk_cl f n2.2 q⟩
end
mutual
/-- lists of the store as they are now, within data -/
def deepV (st : Store) : Val → Option Val
  | .ref n => (match liveAt st n with
    | some xs => if nrs xs = true then some (.brw xs) else none
    | none => none)
  | .tup ds => (deepVs st ds).map .tup
  | .lst ds => (deepVs st ds).map .lst
  | .fzl ds => (deepVs st ds).map .fzl
  | .brw ds => (deepVs st ds).map .brw
  | .non => some .non
  | .bl b => some (.bl b)
  | .int i => some (.int i)
  | .str x => some (.str x)
  | _ => none
def deepVs (st : Store) : List Val → Option (List Val)
  | [] => some []
  | d :: ds => (match deepV st d, deepVs st ds with
    | some x, some xs => some (x :: xs)
    | _, _ => none)
end
mutual
theorem rep_deep (s : RelS K mp H st) : ∀ {d d' : Val} {u : V}, RepV K mp H d u → deepV st d = some d' → RepV K (.lone mp.all) H d' u
  | .non, _, _, r, h => by obtain rfl := Option.some.inj h; exact rep_in rfl r
  | .bl _, _, _, r, h => by obtain rfl := Option.some.inj h; exact rep_in rfl r
  | .int _, _, _, r, h => by obtain rfl := Option.some.inj h; exact rep_in rfl r
  | .str _, _, _, r, h => by obtain rfl := Option.some.inj h; exact rep_in rfl r
  | .fn _, _, _, _, h => by cases h
  | .rng _ _, _, _, _, h => by cases h
  | .dct _, _, _, _, h => by cases h
  | .ref n, _, _, r, h => by
    unfold deepV at h
    split at h
    · rename_i xs hx
      split at h
      · rename_i hn
        obtain rfl := Option.some.inj h
        unfold RepV at r
        obtain ⟨a, e, q⟩ := r
        unfold liveAt at hx
        split at hx
        · rename_i ys hy
          obtain rfl := Option.some.inj hx
          obtain ⟨zs, e1, e2⟩ := s.obj n a _ q hy
          unfold RepV
          exact ⟨a, zs, e, ⟨e1, lone_lent _ _⟩, reps_in hn e2⟩
        · cases hx
      · cases h
    · cases h
  | .tup ds, _, _, r, h => by
    unfold deepV at h
    obtain ⟨es, h1, rfl⟩ := Option.map_eq_some_iff.mp h
    unfold RepV at r ⊢
    obtain ⟨a, xs, e, r, q⟩ := r
    exact ⟨a, xs, e, r.elim (fun z => .inl ⟨z.1, all_free z.2⟩) .inr, reps_deep s q h1⟩
  | .lst ds, _, _, r, h => by
    unfold deepV at h
    obtain ⟨es, h1, rfl⟩ := Option.map_eq_some_iff.mp h
    unfold RepV at r ⊢
    obtain ⟨a, xs, e, r, q⟩ := r
    exact ⟨a, xs, e, ⟨r.1, all_free r.2⟩, reps_deep s q h1⟩
  | .fzl ds, _, _, r, h => by
    unfold deepV at h
    obtain ⟨es, h1, rfl⟩ := Option.map_eq_some_iff.mp h
    unfold RepV at r ⊢
    obtain ⟨a, xs, e, r, q⟩ := r
    exact ⟨a, xs, e, r.elim (fun z => .inl ⟨z.1, lone_lent _ _⟩) .inr, reps_deep s q h1⟩
  | .brw ds, _, _, r, h => by
    unfold deepV at h
    obtain ⟨es, h1, rfl⟩ := Option.map_eq_some_iff.mp h
    unfold RepV at r ⊢
    obtain ⟨a, xs, e, r, q⟩ := r
    exact ⟨a, xs, e, ⟨r.1, lone_lent _ _⟩, reps_deep s q h1⟩
theorem reps_deep (s : RelS K mp H st) : ∀ {d d' : List Val} {u : List V}, RepVs K mp H d u → deepVs st d = some d' → RepVs K (.lone mp.all) H d' u
  | [], _, _, r, h => by
    unfold deepVs at h
    obtain rfl := Option.some.inj h
    unfold RepVs at r ⊢
    exact r
  | d :: ds, _, _, r, h => by
    unfold deepVs at h
    unfold RepVs at r
    obtain ⟨u, us, rfl, r1, r2⟩ := r
    split at h
    · rename_i x xs h1 h2
      obtain rfl := Option.some.inj h
      unfold RepVs
      exact ⟨u, us, rfl, rep_deep s r1 h1, reps_deep s r2 h2⟩
    · cases h
end
/-- what is handed to a def that changes nothing of the caller's -/
def argV (st : Store) (d : Val) : Option Val := if nr d = true then some d else deepV st d
def argVs (st : Store) : List Val → Option (List Val)
  | [] => some []
  | d :: ds => match argV st d, argVs st ds with
    | some x, some xs => some (x :: xs)
    | _, _ => none
theorem rep_arg (s : RelS K mp H st) {d d' : Val} {u : V} (r : RepV K mp H d u) (h : argV st d = some d') : RepV K (.lone mp.all) H d' u := by
  unfold argV at h
  split at h
  · rename_i hn
    obtain rfl := Option.some.inj h
    exact rep_in hn r
  · exact rep_deep s r h
theorem rep_args (s : RelS K mp H st) : ∀ {d d' : List Val} {u : List V}, RepVs K mp H d u → argVs st d = some d' → RepVs K (.lone mp.all) H d' u
  | [], _, _, r, h => by
    obtain rfl := Option.some.inj h
    obtain rfl := repvs_nil.mp r
    exact repvs_nil.mpr rfl
  | d :: ds, _, _, r, h => by
    obtain ⟨u, us, rfl, r1, r2⟩ := repvs_cons.mp r
    unfold argVs at h
    split at h
    · rename_i x xs h1 h2
      obtain rfl := Option.some.inj h
      exact repvs_cons.mpr ⟨u, us, rfl, rep_arg s r1 h1, rep_args s r2 h2⟩
    · cases h
end
/-- exceptions' fields that are closed -/
def clf : Option (List (Str × Val)) → Bool
  | none => true
  | some fs => fs.all fun p => cl p.2
mutual
/-- what is handed back: lists of the store as values -/
def closeV (st : Store) : Val → Option Val
  | .ref n => (match liveAt st n with
    | some xs => if cls xs = true then some (.lst xs) else none
    | none => none)
  | .tup ds => (closeVs st ds).map .tup
  | .lst ds => (closeVs st ds).map .lst
  | .non => some .non
  | .bl b => some (.bl b)
  | .int i => some (.int i)
  | .str x => some (.str x)
  | _ => none
def closeVs (st : Store) : List Val → Option (List Val)
  | [] => some []
  | d :: ds => (match closeV st d, closeVs st ds with
    | some x, some xs => some (x :: xs)
    | _, _ => none)
end
mutual
theorem close_cl {st : Store} : ∀ {v w : Val}, closeV st v = some w → cl w = true
  | .non, _, h => by obtain rfl := Option.some.inj h; rfl
  | .bl _, _, h => by obtain rfl := Option.some.inj h; rfl
  | .int _, _, h => by obtain rfl := Option.some.inj h; rfl
  | .str _, _, h => by obtain rfl := Option.some.inj h; rfl
  | .fn _, _, h => by cases h
  | .rng _ _, _, h => by cases h
  | .dct _, _, h => by cases h
  | .fzl _, _, h => by cases h
  | .brw _, _, h => by cases h
  | .ref n, _, h => by
    unfold closeV at h
    split at h
    · split at h
      · rename_i c
        obtain rfl := Option.some.inj h
        simpa [cl] using c
      · cases h
    · cases h
  | .tup ds, _, h => by
    unfold closeV at h
    obtain ⟨es, h1, rfl⟩ := Option.map_eq_some_iff.mp h
    simpa [cl] using closes_cl h1
  | .lst ds, _, h => by
    unfold closeV at h
    obtain ⟨es, h1, rfl⟩ := Option.map_eq_some_iff.mp h
    simpa [cl] using closes_cl h1
theorem closes_cl {st : Store} : ∀ {v w : List Val}, closeVs st v = some w → cls w = true
  | [], _, h => by
    unfold closeVs at h
    obtain rfl := Option.some.inj h
    rfl
  | d :: ds, _, h => by
    unfold closeVs at h
    split at h
    · rename_i x xs h1 h2
      obtain rfl := Option.some.inj h
      simp [cls, close_cl h1, closes_cl h2]
    · cases h
end
def finC : Option Val → R Val
  | some w => .ok w []
  | none => .stuck
def fin (r : S) : R Val := match r with
  | .rt v st => if cl v = true then .ok v [] else finC (closeV st v)
  | .nx _ _ => .ok .non []
  | .exc c fs _ _ => if clf fs = true then .exc c fs [] else .stuck
  | _ => .stuck
abbrev PF := List Val → R Val
def PostP (K : PySem.W.Frag) (fb : List Addr) (H : Hp) (r : R Val) (Q : VK) (E : XK) : Prop := match r with
  | .ok d _ => ∀ H' u, (∀ a o, H a = some o → H' a = some o) → RepV K (.lone fb) H' d u → Q u H'
  | .exc c fs _ => ∀ H' d, (∀ a o, H a = some o → H' a = some o) → ExRep K (.lone fb) H' fs d → E (.ref (He.ga K c)) d H'
  | .stuck => False
def spP (K : PySem.W.Frag) (n : Nat) (pf : PF) : Sp := fun vs H Q E => vs.length = n ∧ ∃ fb ds, (∀ a ∈ fb, H a ≠ none) ∧ RepVs K (.lone fb) H ds vs ∧ PostP K fb H (pf ds) Q E
def startM (N : Nat) (ds : List Val) : MEnv := ds.map some ++ List.replicate (N - ds.length) none
def runP (N : Nat) (mb : MM) : PF := fun ds => fin (mb (startM N ds) [])
section
variable {K : PySem.W.Frag} {mp : Mp} {H : Hp} {st : Store}
theorem relE_some : ∀ {ds : List Val} {vs : List V} {n : Nat}, RepVs K mp H ds vs → RelE K mp H (ds.map some ++ List.replicate n none) (vs.map some ++ List.replicate n none)
  | [], vs, n, r => by
    obtain rfl := repvs_nil.mp r
    simp only [List.map_nil, List.nil_append]
    induction n with
    | zero => simp [RelE]
    | succ n ih =>
      simp only [List.replicate_succ]
      unfold RelE
      exact ⟨none, _, rfl, trivial, ih⟩
  | d :: ds, vs, n, r => by
    obtain ⟨u, us, rfl, r1, r2⟩ := repvs_cons.mp r
    show RelE K mp H (some d :: (ds.map some ++ List.replicate n none)) (some u :: (us.map some ++ List.replicate n none))
    unfold RelE
    exact ⟨some u, _, rfl, r1, relE_some r2⟩
theorem start_rel {N : List Str} {ds : List Val} {vs : List V} (r : RepVs K mp H ds vs) : RelE K mp H (startM N.length ds) (L2.start N vs) := by
  unfold startM L2.start
  rw [repvs_len r]
  exact relE_some r
mutual
theorem close_rep {fb : List Addr} {H : Hp} (h0 : ∀ a ∈ fb, H a ≠ none) {mp' : Mp} {H' : Hp} {s : Store} (l : Le (.lone fb) H mp' H') (rs : RelS K mp' H' s) : ∀ {v w : Val} {u : V}, RepV K mp' H' v u → closeV s v = some w → RepV K (.lone fb) H' w u
  | .non, _, _, r, h => by obtain rfl := Option.some.inj h; unfold RepV at r ⊢; exact r
  | .bl _, _, _, r, h => by obtain rfl := Option.some.inj h; unfold RepV at r ⊢; exact r
  | .int _, _, _, r, h => by obtain rfl := Option.some.inj h; unfold RepV at r ⊢; exact r
  | .str _, _, _, r, h => by obtain rfl := Option.some.inj h; unfold RepV at r ⊢; exact r
  | .fn _, _, _, _, h => by cases h
  | .rng _ _, _, _, _, h => by cases h
  | .dct _, _, _, _, h => by cases h
  | .fzl _, _, _, _, h => by cases h
  | .brw _, _, _, _, h => by cases h
  | .ref n, _, _, rv, h => by
    have fr : ∀ a, mp'.free a → (Mp.lone fb).free a := fun a f => ⟨lone_lent _ _, by
      have := f.2
      rw [l.fb] at this
      exact this⟩
    unfold closeV at h
    split at h
    · rename_i xs hx
      split at h
      · rename_i cx
        obtain rfl := Option.some.inj h
        unfold RepV at rv
        obtain ⟨a, e, q⟩ := rv
        unfold liveAt at hx
        split at hx
        · rename_i ys hy
          obtain rfl := Option.some.inj hx
          obtain ⟨zs, e1, e2⟩ := rs.obj n a _ q hy
          subst e
          refine rep_lst e1 ⟨lone_lent _ _, fun z => ?_⟩ (reps_cl fr cx e2)
          obtain ⟨nw, en, fn⟩ := l.ext
          have hin : a ∈ nw := by
            have := List.mem_of_getElem? q
            rw [en] at this
            simpa [Mp.lone] using this
          exact h0 a z (fn a hin)
        · cases hx
      · cases h
    · cases h
  | .tup ds, _, _, r, h => by
    have fr : ∀ a, mp'.free a → (Mp.lone fb).free a := fun a f => ⟨lone_lent _ _, by
      have := f.2
      rw [l.fb] at this
      exact this⟩
    unfold closeV at h
    obtain ⟨es, h1, rfl⟩ := Option.map_eq_some_iff.mp h
    unfold RepV at r ⊢
    obtain ⟨a, xs, e, r, q⟩ := r
    exact ⟨a, xs, e, r.elim (fun z => .inl ⟨z.1, fr _ z.2⟩) .inr, closes_rep h0 l rs q h1⟩
  | .lst ds, _, _, r, h => by
    have fr : ∀ a, mp'.free a → (Mp.lone fb).free a := fun a f => ⟨lone_lent _ _, by
      have := f.2
      rw [l.fb] at this
      exact this⟩
    unfold closeV at h
    obtain ⟨es, h1, rfl⟩ := Option.map_eq_some_iff.mp h
    unfold RepV at r ⊢
    obtain ⟨a, xs, e, r, q⟩ := r
    exact ⟨a, xs, e, ⟨r.1, fr _ r.2⟩, closes_rep h0 l rs q h1⟩
theorem closes_rep {fb : List Addr} {H : Hp} (h0 : ∀ a ∈ fb, H a ≠ none) {mp' : Mp} {H' : Hp} {s : Store} (l : Le (.lone fb) H mp' H') (rs : RelS K mp' H' s) : ∀ {v w : List Val} {u : List V}, RepVs K mp' H' v u → closeVs s v = some w → RepVs K (.lone fb) H' w u
  | [], _, _, r, h => by
    unfold closeVs at h
    obtain rfl := Option.some.inj h
    unfold RepVs at r ⊢
    exact r
  | d :: ds, _, _, r, h => by
    unfold closeVs at h
    unfold RepVs at r
    obtain ⟨u, us, rfl, r1, r2⟩ := r
    split at h
    · rename_i x xs h1 h2
      obtain rfl := Option.some.inj h
      unfold RepVs
      exact ⟨u, us, rfl, close_rep h0 l rs r1 h1, closes_rep h0 l rs r2 h2⟩
    · cases h
end
/-- the end of a body -/
theorem fin_ok {fb : List Addr} {H : Hp} {r : S} {Q : VK} {E : XK} (h0 : ∀ a ∈ fb, H a ≠ none) (h : PostP K fb H (fin r) Q E) : PostS K (fun c d _ H => E c d H) (.lone fb) H r { nx := fun _ H' => Q .non H', rt := Q } := by
  have keep : ∀ {mp' : Mp} {H' : Hp}, Le (.lone fb) H mp' H' → ∀ a o, H a = some o → H' a = some o := fun l a o e => l.keep a o e (by simp [Mp.lone])
  have fr : ∀ {mp' : Mp} {H' : Hp}, Le (.lone fb) H mp' H' → ∀ a, mp'.free a → (Mp.lone fb).free a := fun l a f => ⟨lone_lent _ _, by
    have := f.2
    rw [l.fb] at this
    exact this⟩
  cases r with
  | nx e s => exact fun mp' H' σ l rs re => h H' .non (keep l) (by simp [RepV])
  | bk e s => exact h.elim
  | ct e s => exact h.elim
  | stuck => exact h.elim
  | exc c fs e s =>
    have h : PostP K fb H (if clf fs = true then .exc c fs [] else .stuck) Q E := h
    by_cases cf : clf fs = true
    · rw [if_pos cf] at h
      refine fun mp' H' d σ l rs re x => h H' d (keep l) ?_
      cases fs with
      | none => exact x
      | some fs =>
        obtain ⟨a, xs, e1, e2, e3, e4⟩ := x
        refine ⟨a, xs, e1, fr l a e2, e3, ?_⟩
        have : ∀ {fs : List (Str × Val)} {xs : List (Str × V)}, (fs.all fun p => cl p.2) = true → RepF K mp' H' fs xs → RepF K (.lone fb) H' fs xs := by
          intro fs
          induction fs with
          | nil => exact fun _ h => h
          | cons p fs ih =>
            intro xs c h
            rw [List.all_cons, Bool.and_eq_true] at c
            unfold RepF at h ⊢
            obtain ⟨u, us, e, r, q⟩ := h
            exact ⟨u, us, e, rep_cl (fr l) c.1 r, ih c.2 q⟩
        exact this cf e4
    · rw [if_neg cf] at h
      exact h.elim
  | rt v s =>
    refine fun mp' H' u l rs rv => ?_
    have h : PostP K fb H (if cl v = true then .ok v [] else finC (closeV s v)) Q E := h
    by_cases cv : cl v = true
    · rw [if_pos cv] at h
      exact h H' u (keep l) (rep_cl (fr l) cv rv)
    · rw [if_neg cv] at h
      cases e : closeV s v with
      | none =>
        rw [e] at h
        exact h.elim
      | some w =>
        rw [e] at h
        exact h H' u (keep l) (close_rep h0 l rs rv e)
end
end ML

-- ML10
set_option linter.all false
set_option maxRecDepth 100000
set_option maxHeartbeats 4000000
namespace ML
open PySem PySem.Spec PyProof.Rows L2
/-! ### defs and their calls -/
theorem cl_fin {r : S} {d : Val} {st : Store} (h : fin r = .ok d st) : cl d = true := by
  cases r with
  | nx e s =>
    have h : (R.ok .non [] : R Val) = .ok d st := h
    injection h with h1 h2
    rw [← h1]; rfl
  | bk e s => cases h
  | ct e s => cases h
  | stuck => cases h
  | exc c f e s =>
    have h : (if clf f = true then (R.exc c f [] : R Val) else .stuck) = .ok d st := h
    split at h <;> cases h
  | rt v s =>
    have h : (if cl v = true then (R.ok v [] : R Val) else finC (closeV s v)) = .ok d st := h
    split at h
    · rename_i c
      injection h with h1 h2
      rw [← h1]; exact c
    · cases e : closeV s v with
      | none => rw [e] at h; cases h
      | some w =>
        rw [e] at h
        injection h with h1 h2
        rw [← h1]
        exact close_cl e
theorem clf_fin {r : S} {c : Str} {fs : Option (List (Str × Val))} {st : Store} (h : fin r = .exc c fs st) : clf fs = true := by
  cases r with
  | nx e s => cases h
  | bk e s => cases h
  | ct e s => cases h
  | stuck => cases h
  | exc c' f e s =>
    have h : (if clf f = true then (R.exc c' f [] : R Val) else .stuck) = .exc c fs st := h
    split at h
    · rename_i cc
      injection h with h1 h2 h3
      rw [← h2]; exact cc
    · cases h
  | rt v s =>
    have h : (if cl v = true then (R.ok v [] : R Val) else finC (closeV s v)) = .exc c fs st := h
    split at h
    · cases h
    · cases e : closeV s v <;> rw [e] at h <;> cases h
structure Closed (pf : PF) : Prop where
  ok : ∀ ds d st, pf ds = .ok d st → cl d = true
  ex : ∀ ds c fs st, pf ds = .exc c fs st → clf fs = true
theorem closed_run (N : Nat) (mb : MM) : Closed (runP N mb) := ⟨fun _ _ _ h => cl_fin h, fun _ _ _ _ h => clf_fin h⟩
section
variable {P : Program} {w : World} {K : PySem.W.Frag} {mg : Str → Option Value} {base : Heap}
theorem rels_lone {H : Hp} {fb : List Addr} (h : ∀ a ∈ fb, H a ≠ none) : RelS K (.lone fb) H [] :=
  ⟨by simp [Mp.lone], rfl, fun n a o h1 _ => by simp [Mp.lone] at h1, h, fun a h => by simp [Mp.lone] at h⟩
/-- THE RULE for a def that changes nothing of its caller's -/
theorem fnP {x qual : Str} {st : Stmt} {dvs : List V} {kws : List (Str × V)} {f : Addr} {fd : FuncData} {N ps : List Str} {k : Nat} {mb : MM} (F : FunD K x qual (defArgs st) (defBody st) (defScope st) dvs kws f fd) (S : FnScope N ps (defScope st))
    (hb : ∀ (cdv : Value) (A : Around) (outer : List Env) (s : Shared) (H : Hp) (E : XK), Room k (A.deeper (envOfC qual (defScope st) s.heap.objs.size f cdv)) → MSs (cxOf (L2.CX P w) P w K mg base N qual (defScope st) f cdv A outer s H E) (fun c d _ H => E c d H) (defBody st) mb) :
    FnOk P w K mg base (L2.CX P w) (k + 1) f fd ps (spP K ps.length (runP N.length mb)) := by
  refine F.ok S (fun vs H Q E h => h.1) (fun cdv A outer s H vs Q E hr h => ?_)
  obtain ⟨hl, fb, ds, h0, r, q⟩ := h
  obtain ⟨t, p, hb⟩ := (hb cdv A outer s H E hr).ex
  exact ⟨t, p, hb _ _ H (.lone fb) (startM N.length ds) [] (rels_lone h0) (start_rel r) (fin_ok h0 q)⟩
end
/-- what comes back -/
def backP (r : R Val) (st : Store) : R Val := match r with
  | .ok d _ => .ok d st
  | .exc c fs _ => .exc c fs st
  | .stuck => .stuck
def kCall (n : Nat) (pf : PF) (ds : List Val) (st : Store) : R Val := if ds.length = n then (match argVs st ds with
  | some as => backP (pf as) st
  | none => .stuck) else .stuck
def mCallP (n : Nat) (pf : PF) (ms : MEnv → Store → R (List Val)) (env : MEnv) (st : Store) : R Val := (ms env st).bind (kCall n pf)
theorem kCall_rd {K : PySem.W.Frag} {W : WX} {σ : L2.St} {mp : Mp} {H : Hp} {st : Store} {n : Nat} {pf : PF} {ds : List Val} {us : List V} {Q : VK} (hc : Closed pf) (s : RelS K mp H st) (r : RepVs K mp H ds us) (q : Post K W σ (RV K) mp H (kCall n pf ds st) Q) : spP K n pf us H Q (WE W σ) := by
  unfold kCall at q
  split at q
  · rename_i hl
    split at q
    · rename_i as ha
      refine ⟨by rw [← repvs_len r]; exact hl, mp.all, as, fun a h => ?_, rep_args s r ha, ?_⟩
      · have h : a ∈ mp.fb ++ mp.own ++ mp.bar := h
        rcases List.mem_append.mp h with h | h
        · rcases List.mem_append.mp h with h | h
          · exact s.old a h
          · obtain ⟨o, e⟩ := s.some h
            rw [e]; simp
        · exact (s.sep a h).2
      · have le : ∀ {H' : Hp}, (∀ a o, H a = some o → H' a = some o) → Le mp H mp H' := fun k => ⟨rfl, rfl, ⟨[], by simp, fun _ h => by cases h⟩, fun a o e _ => k a o e, fun a h => by
          cases e : H a with
          | none => exact absurd e h
          | some o => rw [k a o e]; simp⟩
        have stay : ∀ {H' : Hp}, (∀ a o, H a = some o → H' a = some o) → RelS K mp H' st := fun k => s.stay (le k) fun a h => by
          obtain ⟨o, e⟩ := s.some h
          rw [e, k a o e]
        unfold PostP
        cases e : pf as with
        | ok d st' =>
          rw [e] at q
          exact fun H' u k rv => q mp H' u (le k) (stay k) (rep_cl (fun a => free_all) (hc.ok _ _ _ e) rv)
        | exc c fs st' =>
          rw [e] at q
          refine fun H' d k x => q mp H' d (le k) (stay k) ?_
          have cf := hc.ex _ _ _ _ e
          cases fs with
          | none => exact x
          | some fs =>
            obtain ⟨a, xs, e1, e2, e3, e4⟩ := x
            refine ⟨a, xs, e1, free_all e2, e3, ?_⟩
            have : ∀ {fs : List (Str × Val)} {xs : List (Str × V)}, (fs.all fun p => cl p.2) = true → RepF K (.lone mp.all) H' fs xs → RepF K mp H' fs xs := by
              intro fs
              induction fs with
              | nil => exact fun _ h => h
              | cons p fs ih =>
                intro xs c h
                rw [List.all_cons, Bool.and_eq_true] at c
                unfold RepF at h ⊢
                obtain ⟨u, us, e, r, q⟩ := h
                exact ⟨u, us, e, rep_cl (fun a => free_all) c.1 r, ih c.2 q⟩
            exact this cf e4
        | stuck =>
          rw [e] at q
          exact q
    · exact q.elim
  · exact q.elim
section
variable {X : Cx} {W : WX} {pos p : Pos} {e : Expr} {es : List Expr} {ms : MEnv → Store → R (List Val)} {x : Str} {k n : Nat} {f : Addr} {fd : FuncData} {ps : List Str} {pf : PF}
theorem me_call (hc : Closed pf) (F : FnOk X.prog X.w X.K X.mg X.base (L2.CX X.prog X.w) k f fd ps (spP X.K n pf)) (hr : Room k X.A) (hg : Gl X x) (hm : X.mg x = some (.ref f)) (hk : PySem.W.keepIn X.K (.ref f) = true) (hb : Binds X.K fd ps []) (tk : Takes X W) (ha : MA X W (e :: es) ms)
    (hdb : (x == ("__debug__" : Str)) = false := by decide) (he : starEach (e :: es) X.env = (false, eval e X.env) :: starEach es X.env := by rfl) (hpl : (backTo pos (starEach es X.env)).any (·.1) = false := by rfl) : ME X W (.Call (.Name x p) (e :: es) [] pos) (mCallP n pf ms) := by
  obtain ⟨t, pa, h⟩ := ha.ex
  refine ⟨⟨_, pe_callS F hr hg hm hk hb (fun σ => passAt tk σ) pa hdb he hpl, fun σ H Q mp env st rs re hp => ?_⟩⟩
  exact h σ H _ mp env st rs re (Post.of_bind hp fun mp1 H1 ds st1 us _ l s rr q => kCall_rd hc s rr q)
end
/-! ### the store's lists changed -/
section
variable {K : PySem.W.Frag} {mp : Mp} {H : Hp} {st : Store}
theorem RelS.change (s : RelS K mp H st) {n : Nat} {a : Addr} {o : MObj} {u v : HO} (h1 : mp.own[n]? = Option.some a) (hu : H a = Option.some v) (h3 : ∀ {H'}, Le mp H mp H' → H' a = Option.some u → ObjRel K mp H' a o) : Le mp H mp (L2.upd H a u) ∧ RelS K mp (L2.upd H a u) (st.set n o) := by
  have ha : a ∈ mp.own := List.mem_of_getElem? h1
  have dom : ∀ b, H b ≠ none → L2.upd H a u b ≠ none := fun b h => by
    by_cases c : b = a
    · rw [c, upd_same]; simp
    · rw [upd_ne c]; exact h
  have l : Le mp H mp (L2.upd H a u) := ⟨rfl, rfl, ⟨[], by simp, fun _ h => by cases h⟩, fun b w e hb => by
    rw [upd_ne fun z => hb (by rw [z]; exact ha)]; exact e, dom⟩
  refine ⟨l, s.nd, by rw [List.length_set]; exact s.len, fun m b x h4 h5 => ?_, fun b h => dom b (s.old b h), fun b h => ⟨(s.sep b h).1, dom b (s.sep b h).2⟩⟩
  by_cases c : m = n
  · subst c
    obtain rfl : a = b := Option.some.inj (h1.symm.trans h4)
    have hm : m < st.length := by rw [← s.len]; exact (List.getElem?_eq_some_iff.mp h1).1
    rw [List.getElem?_set_self hm] at h5
    obtain rfl := Option.some.inj h5
    exact h3 l upd_same
  · rw [List.getElem?_set_ne (Ne.symm c)] at h5
    have hne : b ≠ a := fun z => by
      subst z
      have i1 := (List.getElem?_eq_some_iff.mp h1)
      have i2 := (List.getElem?_eq_some_iff.mp h4)
      exact c ((List.getElem_inj s.nd).mp (i2.2.trans i1.2.symm))
    exact (s.obj m b x h4 h5).le l (upd_ne hne)
theorem ref_at (s : RelS K mp H st) {n : Nat} {u : V} {ds : List Val} (r : RepV K mp H (.ref n) u) (h : liveAt st n = some ds) : ∃ a xs, u = .ref a ∧ mp.own[n]? = some a ∧ H a = some (.lst xs) ∧ RepVs K mp H ds xs := by
  unfold RepV at r
  obtain ⟨a, e, q⟩ := r
  unfold liveAt at h
  split at h
  · rename_i ys hy
    obtain rfl := Option.some.inj h
    obtain ⟨xs, e1, e2⟩ := s.obj n a _ q hy
    exact ⟨a, xs, e, q, e1, e2⟩
  · cases h
end
def refOf : Val → Option Nat
  | .ref n => some n
  | _ => none
theorem refOf_eq {d : Val} {i : Nat} (h : refOf d = some i) : d = .ref i := by
  cases d with
  | ref j => exact congrArg Val.ref (Option.some.inj h)
  | _ => cases h
/-- a method of a list, by its values -/
def mMeth (f : Val → List Val → Store → R Val) (mo : MEnv → Store → R Val) (ms : MEnv → Store → R (List Val)) (env : MEnv) (st : Store) : R Val := (mo env st).bind fun d st => match listOf st d with
  | some _ => (ms env st).bind fun ds st => f d ds st
  | none => .stuck
def MethM (K : PySem.W.Frag) (W : WX) (r : V → List V → Hp → VK → Prop) (f : Val → List Val → Store → R Val) : Prop := ∀ σ mp H st d u ds us Q, RelS K mp H st → RepV K mp H d u → RepVs K mp H ds us → Post K W σ (RV K) mp H (f d ds st) Q → r u us H Q
section
variable {X : Cx} {W : WX} {apos cpos : Pos} {o e : Expr} {es : List Expr} {mo : MEnv → Store → R Val} {ms : MEnv → Store → R (List Val)} {name : Str} {id : String} {r : V → List V → Hp → VK → Prop} {f : Val → List Val → Store → R Val}
theorem me_bmL (slot : Slot "list" name id) (hty : typeOf (.builtin id) = pure (.type "method_descriptor")) (hm : MtR X id r) (hf : MethM X.K W r f) (ho : ME X W o mo) (ha : MA X W (e :: es) ms)
    (hbase : attributeBase o name X.env (eval o X.env) = eval o X.env := by rfl)
    (hfew : ((backTo cpos (starEach (e :: es) X.env)).all (fun x => !x.1) && (backToKw cpos (keywordEach [] X.env)).all (fun x => x.1.isSome)
      && decide ((e :: es).length + ([] : List Keyword).length + (if ([] : List Keyword).isEmpty then 0 else 1) < 30)) = true := by rfl)
    (hline : (apos.endLine == cpos.line) = true := by rfl) (hs : starEach (e :: es) X.env = (false, eval e X.env) :: starEach es X.env := by rfl) (hplain : (backTo cpos (starEach es X.env)).any (·.1) = false := by rfl) :
    ME X W (.Call (.Attribute o name apos) (e :: es) [] cpos) (mMeth f mo ms) := by
  obtain ⟨to, po, ho⟩ := ho.ex
  obtain ⟨t, pa, h⟩ := ha.ex
  refine ⟨⟨_, pe_bm PySem.F.plainAttrs_list slot hty hm po pa hbase hfew hline hs hplain, fun σ H Q mp env st rs re hp => ?_⟩⟩
  refine ho σ H _ mp env st rs re (Post.of_bind hp fun mp1 H1 d st1 u _ l s rr q => ?_)
  split at q
  · rename_i ds0 hl0
    obtain ⟨a, xs, e1, sq, _⟩ := listOf_rep s rr hl0
    refine ⟨by rw [e1]; exact .inl ⟨rfl, xs, sq⟩, ?_⟩
    exact h σ H1 _ mp1 env st1 s (l.relE re) (Post.of_bind q fun mp2 H2 ds st2 us _ l2 s2 r2 q2 => hf σ mp2 H2 st2 d u ds us Q s2 (l2.rep rr) r2 q2)
  · exact q.elim
def fAppend (d : Val) (ds : List Val) (st : Store) : R Val := match refOf d, ds with
  | some n, [x] => (match liveAt st n with
    | some xs => if xs.length < line then .ok .non (st.set n (.lst (xs ++ [x]))) else .stuck
    | none => .stuck)
  | _, _ => .stuck
theorem m_append {K : PySem.W.Frag} : MethM K W rAppend fAppend := by
  intro σ mp H st d u ds us Q s rd rs q
  unfold fAppend at q
  split at q
  · rename_i n x h1
    obtain rfl := refOf_eq h1
    obtain ⟨v, vs, rfl, r1, r2⟩ := repvs_cons.mp rs
    obtain rfl := repvs_nil.mp r2
    split at q
    · rename_i xs hx
      split at q
      · rename_i c
        obtain ⟨a, ys, rfl, ha, hH, rr⟩ := ref_at s rd hx
        refine ⟨a, ys, v, rfl, rfl, hH, by rw [line_eq, ← repvs_len rr]; exact c, ?_⟩
        obtain ⟨l, s2⟩ := s.change (o := .lst (xs ++ [x])) (u := .lst (ys ++ [v])) ha hH fun {H'} l e => ⟨_, e, repvs_append (l.reps rr) (repvs_cons.mpr ⟨v, [], rfl, l.rep r1, repvs_nil.mpr rfl⟩)⟩
        exact q mp _ _ l s2 (by simp [RepV])
      · exact q.elim
    · exact q.elim
  · exact q.elim
theorem me_append (ho : ME X W o mo) (ha : MA X W (e :: es) ms)
    (hbase : attributeBase o "append" X.env (eval o X.env) = eval o X.env := by rfl)
    (hfew : ((backTo cpos (starEach (e :: es) X.env)).all (fun x => !x.1) && (backToKw cpos (keywordEach [] X.env)).all (fun x => x.1.isSome)
      && decide ((e :: es).length + ([] : List Keyword).length + (if ([] : List Keyword).isEmpty then 0 else 1) < 30)) = true := by rfl)
    (hline : (apos.endLine == cpos.line) = true := by rfl) (hs : starEach (e :: es) X.env = (false, eval e X.env) :: starEach es X.env := by rfl) (hplain : (backTo cpos (starEach es X.env)).any (·.1) = false := by rfl) :
    ME X W (.Call (.Attribute o "append" apos) (e :: es) [] cpos) (mMeth fAppend mo ms) :=
  me_bmL PySem.F.slot_list_append PySem.F.type_list_append mt_append m_append ho ha hbase hfew hline hs hplain
end
/-! ### dicts of the written part with texts for keys -/
def lookT (tab : List (Str × Val)) (k : Str) : Option Val := (tab.find? fun p => decide (p.1 = k)).map (·.2)
structure TabOk (X : Cx) (a : Addr) (tab : List (Str × Val)) : Prop where
  at_ : ∀ k d, lookT tab k = some d → ∃ v, KDct X.K X.w a k v ∧ ∀ mp H, RepV X.K mp H d v
def mTab (tab : List (Str × Val)) (m : MEnv → Store → R Val) (env : MEnv) (st : Store) : R Val := (m env st).bind fun d st => match strOf d with
  | some k => (match lookT tab k with
    | some d => .ok d st
    | none => .stuck)
  | none => .stuck
theorem me_tab {X : Cx} {W : WX} {x : Str} {a : Addr} {tab : List (Str × Val)} {b : Expr} {p pos : Pos} {mb : MEnv → Store → R Val} (hg : Gl X x) (hm : X.mg x = some (.ref a)) (T : TabOk X a tab) (hb : ME X W b mb) (hs : PlainIx b := by exact fun _ _ => rfl) (hd : (x == ("__debug__" : Str)) = false := by decide) : ME X W (.Subscript (.Name x p) b pos) (mTab tab mb) := by
  obtain ⟨t, pb, h⟩ := hb.ex
  refine ⟨⟨_, pe_ix ix_kdict (pe_glob (v := .ref a) hg hm rfl hd) pb hs, fun σ H Q mp env st rs re hp => ?_⟩⟩
  refine h σ H _ mp env st rs re (Post.of_bind hp fun mp1 H1 d st1 u _ l s rr q => ?_)
  split at q
  · rename_i k h1
    obtain rfl := strOf_eq h1
    split at q
    · rename_i d' h2
      obtain ⟨v, kd, rv⟩ := T.at_ k d' h2
      exact ⟨a, k, v, rfl, rep_str rr, kd, q.out s (rv _ _)⟩
    · exact q.elim
  · exact q.elim
/-! ### the law -/
theorem law_sp {K : PySem.W.Frag} {pf : PF} {n : Nat} (h : ∀ ns : List Int, ns.length ≤ n → pf [.fzl (ns.map Val.int)] = .ok (.bl true) []) (H : Hp) (a : Addr) (ns : List Int) (hl : ns.length ≤ n) (ho : Only H) (hS : SqL K H a (ns.map V.int)) : spP K 1 pf [.ref a] H (fun v _ => v = .bl true) fun _ _ _ => False := by
  refine ⟨rfl, [], [.fzl (ns.map Val.int)], (fun _ h => by cases h), repvs_cons.mpr ⟨.ref a, [], rfl, ?_, repvs_nil.mpr rfl⟩, ?_⟩
  · unfold RepV
    refine ⟨a, ns.map V.int, rfl, ?_, repvs_ints ns⟩
    rcases hS with (e | ⟨o, e⟩) | z
    · rcases ho a with h | ⟨o, xs, h⟩ <;> rw [h] at e <;> cases e
    · exact .inl ⟨⟨o, e⟩, lone_lent _ _⟩
    · exact .inr z
  · rw [h ns hl]
    exact fun H' u _ r => rep_bl r
end ML

-- ML11
set_option linter.all false
set_option maxRecDepth 100000
set_option maxHeartbeats 4000000
namespace ML
open PySem PySem.Spec PyProof.Rows L2
/-! ### dicts -/
def keyOf : Val → Option Key
  | .int i => some (.inl i)
  | .str x => some (.inr x)
  | _ => none
def dctOf (st : Store) : Val → Option (List (Key × Val))
  | .dct kvs => some kvs
  | .ref n => match st[n]? with
    | some (.dct kvs) => some kvs
    | _ => none
  | _ => none
def lookM (kvs : List (Key × Val)) (k : Key) : Option Val := (kvs.find? fun p => decide (p.1 = k)).map (·.2)
def putM (kvs : List (Key × Val)) (k : Key) (d : Val) : List (Key × Val) :=
  if (kvs.any fun kv => decide (kv.1 = k)) = true then kvs.map (fun kv => if kv.1 = k then (kv.1, d) else kv) else kvs ++ [(k, d)]
section
variable {K : PySem.W.Frag} {mp : Mp} {H : Hp} {st : Store}
theorem key_rep {d : Val} {u : V} {k : Key} (r : RepV K mp H d u) (h : keyOf d = some k) : u = kV k := by
  cases d with
  | int i =>
    obtain rfl := Option.some.inj h
    exact rep_int r
  | str i =>
    obtain rfl := Option.some.inj h
    exact rep_str r
  | _ => cases h
theorem dct_rep (s : RelS K mp H st) {d : Val} {u : V} {kvs : List (Key × Val)} (r : RepV K mp H d u) (h : dctOf st d = some kvs) : ∃ a xs, u = .ref a ∧ Rd H a (.dK xs) ∧ RepK K mp H kvs xs := by
  cases d with
  | dct kv =>
    obtain rfl := Option.some.inj h
    unfold RepV at r
    obtain ⟨a, xs, e, q, z⟩ := r
    exact ⟨a, xs, e, q.1, z⟩
  | ref n =>
    unfold RepV at r
    obtain ⟨a, e, q⟩ := r
    unfold dctOf at h
    simp only at h
    split at h
    · rename_i kv hx
      obtain rfl := Option.some.inj h
      obtain ⟨ys, e1, e2⟩ := s.obj n a _ q hx
      exact ⟨a, ys, e, .inl e1, e2⟩
    · cases h
  | _ => cases h
theorem look_rep : ∀ {kvs : List (Key × Val)} {xs : List (Key × V)} (k : Key), RepK K mp H kvs xs → (∀ d, lookM kvs k = some d → ∃ u, valV xs k = some u ∧ RepV K mp H d u) ∧ (lookM kvs k = none → valV xs k = none)
  | [], xs, k, r => by
    unfold RepK at r
    subst r
    exact ⟨(fun d h => by cases h), fun _ => rfl⟩
  | (k', d') :: kvs, xs, k, r => by
    unfold RepK at r
    obtain ⟨u, us, rfl, r1, r2⟩ := r
    obtain ⟨i1, i2⟩ := look_rep k r2
    by_cases c : k' = k
    · subst c
      refine ⟨fun d h => ⟨u, valV_pos rfl, ?_⟩, fun h => ?_⟩
      · have : lookM ((k', d') :: kvs) k' = some d' := by simp [lookM]
        obtain rfl := Option.some.inj (this.symm.trans h)
        exact r1
      · have : lookM ((k', d') :: kvs) k' = some d' := by simp [lookM]
        rw [this] at h; cases h
    · have e : lookM ((k', d') :: kvs) k = lookM kvs k := by simp [lookM, List.find?_cons, c]
      rw [e]
      exact ⟨fun d h => by rw [valV_neg (p := (k', u)) c]; exact i1 d h, fun h => by rw [valV_neg (p := (k', u)) c]; exact i2 h⟩
theorem repk_len : ∀ {kvs : List (Key × Val)} {xs : List (Key × V)}, RepK K mp H kvs xs → kvs.length = xs.length
  | [], xs, r => by
    unfold RepK at r
    subst r; rfl
  | (k', d') :: kvs, xs, r => by
    unfold RepK at r
    obtain ⟨u, us, rfl, r1, r2⟩ := r
    simp [repk_len r2]
theorem repk_append : ∀ {kvs ws : List (Key × Val)} {xs ys : List (Key × V)}, RepK K mp H kvs xs → RepK K mp H ws ys → RepK K mp H (kvs ++ ws) (xs ++ ys)
  | [], ws, xs, ys, r, q => by
    unfold RepK at r
    subst r; exact q
  | (k', d') :: kvs, ws, xs, ys, r, q => by
    unfold RepK at r
    obtain ⟨u, us, rfl, r1, r2⟩ := r
    show RepK K mp H ((k', d') :: (kvs ++ ws)) ((k', u) :: (us ++ ys))
    unfold RepK
    exact ⟨u, _, rfl, r1, repk_append r2 q⟩
theorem repk_any : ∀ {kvs : List (Key × Val)} {xs : List (Key × V)} (k : Key), RepK K mp H kvs xs → (kvs.any fun kv => decide (kv.1 = k)) = (xs.any fun kv => decide (kv.1 = k))
  | [], xs, k, r => by
    unfold RepK at r
    subst r; rfl
  | (k', d') :: kvs, xs, k, r => by
    unfold RepK at r
    obtain ⟨u, us, rfl, r1, r2⟩ := r
    simp only [List.any_cons, repk_any k r2]
theorem repk_map {k : Key} {d : Val} {v : V} (rv : RepV K mp H d v) : ∀ {kvs : List (Key × Val)} {xs : List (Key × V)}, RepK K mp H kvs xs → RepK K mp H (kvs.map fun kv => if kv.1 = k then (kv.1, d) else kv) (xs.map fun kv => if kv.1 = k then (kv.1, v) else kv)
  | [], xs, r => by
    unfold RepK at r
    subst r; simp [RepK]
  | (k', d') :: kvs, xs, r => by
    unfold RepK at r
    obtain ⟨u, us, rfl, r1, r2⟩ := r
    have ih := repk_map (k := k) rv r2
    simp only [List.map_cons]
    by_cases c : k' = k
    · rw [if_pos c, if_pos c]
      unfold RepK
      exact ⟨v, _, rfl, rv, ih⟩
    · rw [if_neg c, if_neg c]
      unfold RepK
      exact ⟨u, _, rfl, r1, ih⟩
theorem put_rep {kvs : List (Key × Val)} {xs : List (Key × V)} {k : Key} {d : Val} {v : V} (r : RepK K mp H kvs xs) (rv : RepV K mp H d v) : RepK K mp H (putM kvs k d) (putK xs k v) := by
  unfold putM putK
  rw [repk_any k r]
  split
  · exact repk_map rv r
  · refine repk_append r ?_
    unfold RepK
    exact ⟨v, [], rfl, rv, by simp [RepK]⟩
end
/-! d[k], any sequence's item too -/
def fIxA : F2 := fun a b st => match dctOf st a with
  | some kvs => (match keyOf b with
    | some k => (match lookM kvs k with
      | some d => .ok d st
      | none => .stuck)
    | none => .stuck)
  | none => fIx a b st
abbrev rIxA (K : PySem.W.Frag) : R2 := fun x y H Q => (∃ a v, x = V.ref a ∧ DGet H a y (some v) ∧ Q v H) ∨ rIx K x y H Q
section
variable {X : Cx} {W : WX} {pos : Pos} {a b c o : Expr} {ma mb mc : MEnv → Store → R Val}
theorem ix_dct (hu : X.A.units + 1 < cLine) : IxR X (fun x y H Q => ∃ a v, x = V.ref a ∧ DGet H a y (some v) ∧ Q v H) := by
  intro value slice pins s σ H x y v u Q I rx ry h hs
  obtain ⟨a, w, rfl, g, q⟩ := h
  obtain rfl : v = Value.ref a := rx
  exact tail_any (dict_typeIs I g) PySem.F.slot_dict_getitem.lookup (d_getItem hu I g ry fun w' s3 I3 rw' => ⟨w, H, I3, rw', q⟩) hs
theorem m_ixA {K : PySem.W.Frag} : OpM K W (rIxA K) fIxA := by
  intro σ mp H st d e u v Q s ru rv h
  unfold fIxA at h
  split at h
  · rename_i kvs h1
    split at h
    · rename_i k h2
      split at h
      · rename_i x h3
        obtain ⟨a, xs, rfl, rd, rk⟩ := dct_rep s ru h1
        obtain rfl := key_rep rv h2
        obtain ⟨w, e1, r1⟩ := (look_rep k rk).1 x h3
        exact .inl ⟨a, w, rfl, .inl ⟨xs, k, rd, rfl, e1.symm⟩, h.out s r1⟩
      · exact h.elim
    · exact h.elim
  · exact .inr (m_ix σ mp H st d e u v Q s ru rv h)
theorem me_ixA (hu : X.A.units + 1 < cLine) (ha : ME X W a ma) (hb : ME X W b mb) (hs : PlainIx b := by exact fun _ _ => rfl) : ME X W (.Subscript a b pos) (mBin fIxA ma mb) := by
  obtain ⟨ta, pa, ha⟩ := ha.ex
  obtain ⟨tb, pb, hb⟩ := hb.ex
  refine ⟨⟨_, pe_ix (IxR.or (ix_dct hu) ix_seq) pa pb hs, fun σ H Q mp env st rs re hp => ?_⟩⟩
  refine ha σ H _ mp env st rs re (Post.of_bind hp fun mp1 H1 d st1 u e l s r q => ?_)
  refine hb σ H1 _ mp1 env st1 s (l.relE re) (Post.of_bind q fun mp2 H2 d2 st2 v e2 l2 s2 r2 q2 => ?_)
  exact m_ixA σ mp2 H2 st2 d d2 u v Q s2 (l2.rep r) r2 q2
/-! k in d -/
def fInD (neg : Bool) : F2 := fun a b st => match dctOf st b, keyOf a with
  | some kvs, some k => .ok (.bl (if neg then !(lookM kvs k).isSome else (lookM kvs k).isSome)) st
  | _, _ => .stuck
theorem inD_rd {K : PySem.W.Frag} {mp : Mp} {H : Hp} {st : Store} {d e : Val} {u v : V} {neg : Bool} {σ : L2.St} {Q : VK} (s : RelS K mp H st) (ru : RepV K mp H d u) (rv : RepV K mp H e v) (h : Post K W σ (RV K) mp H (fInD neg d e st) Q) : ∃ a o, v = .ref a ∧ DGet H a u o ∧ Q (.bl (if neg then !o.isSome else o.isSome)) H := by
  unfold fInD at h
  split at h
  · rename_i kvs k h1 h2
    obtain ⟨a, xs, rfl, rd, rk⟩ := dct_rep s rv h1
    obtain rfl := key_rep ru h2
    have i := look_rep k rk
    have e : (lookM kvs k).isSome = (valV xs k).isSome := by
      cases q : lookM kvs k with
      | none => rw [i.2 q]; rfl
      | some x =>
        obtain ⟨w, e1, _⟩ := i.1 x q
        rw [e1]; rfl
    rw [e] at h
    exact ⟨a, valV xs k, rfl, .inl ⟨xs, k, rd, rfl, rfl⟩, h.out s (rep_b ..)⟩
  · exact h.elim
theorem me_inD (hu : X.A.units + 1 < cLine) (ha : ME X W a ma) (hb : ME X W b mb) (hm : behindInMarks .In b = false := by rfl) : ME X W (.Compare a [.In] [b] pos) (mBin (fInD false) ma mb) := by
  obtain ⟨ta, pa, ha⟩ := ha.ex
  obtain ⟨tb, pb, hb⟩ := hb.ex
  refine ⟨⟨_, pe_cmp (pc_din hu pa pb) hm, fun σ H Q mp env st rs re hp => ?_⟩⟩
  refine ha σ H _ mp env st rs re (Post.of_bind hp fun mp1 H1 d st1 u e l s r q => ?_)
  refine hb σ H1 _ mp1 env st1 s (l.relE re) (Post.of_bind q fun mp2 H2 d2 st2 v e2 l2 s2 r2 q2 => ?_)
  exact inD_rd s2 (l2.rep r) r2 q2
theorem me_notInD (hu : X.A.units + 1 < cLine) (ha : ME X W a ma) (hb : ME X W b mb) (hm : behindInMarks .NotIn b = false := by rfl) : ME X W (.Compare a [.NotIn] [b] pos) (mBin (fInD true) ma mb) := by
  obtain ⟨ta, pa, ha⟩ := ha.ex
  obtain ⟨tb, pb, hb⟩ := hb.ex
  refine ⟨⟨_, pe_cmp (pc_dnotin hu pa pb) hm, fun σ H Q mp env st rs re hp => ?_⟩⟩
  refine ha σ H _ mp env st rs re (Post.of_bind hp fun mp1 H1 d st1 u e l s r q => ?_)
  refine hb σ H1 _ mp1 env st1 s (l.relE re) (Post.of_bind q fun mp2 H2 d2 st2 v e2 l2 s2 r2 q2 => ?_)
  exact inD_rd s2 (l2.rep r) r2 q2
theorem ME.test {e : Expr} {m} (h : ME X W e m) (he : ∀ whole, isTrue e X.env whole = (do let v ← whole; standAt e.pos; holding [v] (truthy v)) := by intro _; rfl) : MT X W e (mTest m) := by
  obtain ⟨t, p, h⟩ := h.ex
  exact ⟨⟨_, pt_val p he, fun σ H Q mp env st rs re hp => h σ H _ mp env st rs re (Post.test hp)⟩⟩
theorem mt_inD (hu : X.A.units + 1 < cLine) (ha : ME X W a ma) (hb : ME X W b mb) (hm : behindInMarks .In b = false := by rfl) : MT X W (.Compare a [.In] [b] pos) (mTest (mBin (fInD false) ma mb)) := by
  obtain ⟨ta, pa, ha⟩ := ha.ex
  obtain ⟨tb, pb, hb⟩ := hb.ex
  refine ⟨⟨_, pt_cmp (pc_din hu pa pb) hm, fun σ H Q mp env st rs re hp => ?_⟩⟩
  have hp2 := Post.test hp
  refine ha σ H _ mp env st rs re (Post.of_bind hp2 fun mp1 H1 d st1 u e l s r q => ?_)
  refine hb σ H1 _ mp1 env st1 s (l.relE re) (Post.of_bind q fun mp2 H2 d2 st2 v e2 l2 s2 r2 q2 => ?_)
  exact inD_rd s2 (l2.rep r) r2 q2
theorem mt_notInD (hu : X.A.units + 1 < cLine) (ha : ME X W a ma) (hb : ME X W b mb) (hm : behindInMarks .NotIn b = false := by rfl) : MT X W (.Compare a [.NotIn] [b] pos) (mTest (mBin (fInD true) ma mb)) := by
  obtain ⟨ta, pa, ha⟩ := ha.ex
  obtain ⟨tb, pb, hb⟩ := hb.ex
  refine ⟨⟨_, pt_cmp (pc_dnotin hu pa pb) hm, fun σ H Q mp env st rs re hp => ?_⟩⟩
  have hp2 := Post.test hp
  refine ha σ H _ mp env st rs re (Post.of_bind hp2 fun mp1 H1 d st1 u e l s r q => ?_)
  refine hb σ H1 _ mp1 env st1 s (l.relE re) (Post.of_bind q fun mp2 H2 d2 st2 v e2 l2 s2 r2 q2 => ?_)
  exact inD_rd s2 (l2.rep r) r2 q2
/-! d[k] = v -/
def sPutD (mo mk mv : MEnv → Store → R Val) : MM := fun env st => (mv env st).bindS env fun d st => (mo env st).bindS env fun o st => (mk env st).bindS env fun k st => match refOf o, dctOf st o, keyOf k with
  | some n, some kvs, some k => if kvs.length < line then .nx env (st.set n (.dct (putM kvs k d))) else .stuck
  | _, _, _ => .stuck
theorem ms_putD {p2 : Pos} (hu : X.A.units + 1 < cLine) (ho : ME X W o ma) (hk : ME X W a mb) (hv : ME X W b mc) (hs : swapsWith b (some (.Subscript o a p2)) pos.line X.env = pure false := by rfl) : MS X W (.Assign [.Subscript o a p2] b pos) (sPutD ma mb mc) := by
  obtain ⟨to, po, ho⟩ := ho.ex
  obtain ⟨tk, pk, hk⟩ := hk.ex
  obtain ⟨tv, pv, hv⟩ := hv.ex
  refine ⟨⟨_, ps_dput hu po pk pv hs, fun D σ H mp env st rs re hp => ?_⟩⟩
  refine hv σ H _ mp env st rs re (PostS.of_bind re hp fun mp1 H1 d st1 u e l s r re1 q => ?_)
  refine ho σ H1 _ mp1 env st1 s re1 (PostS.of_bind re1 q fun mp2 H2 x st2 v e2 l2 s2 r2 re2 q2 => ?_)
  refine hk σ H2 _ mp2 env st2 s2 re2 (PostS.of_bind re2 q2 fun mp3 H3 y st3 w e3 l3 s3 r3 re3 q3 => ?_)
  split at q3
  · rename_i n kvs k h1 h2 h3
    obtain rfl := refOf_eq h1
    obtain rfl := key_rep r3 h3
    split at q3
    · rename_i c
      have rr := l3.rep r2
      unfold RepV at rr
      obtain ⟨a', e4, q4⟩ := rr
      have h5 : st3[n]? = some (.dct kvs) := by
        unfold dctOf at h2
        simp only at h2
        split at h2
        · rename_i kv hx
          obtain rfl := Option.some.inj h2
          exact hx
        · cases h2
      obtain ⟨xs, e5, e6⟩ := s3.obj n a' _ q4 h5
      have rd := l3.rep (l2.rep r)
      obtain ⟨l4, s4⟩ := s3.change (o := .dct (putM kvs k d)) (u := .dK (putK xs k u)) q4 e5 fun {H'} l e => ⟨_, e, put_rep (l.repk e6) (l.rep rd)⟩
      exact ⟨a', _, e4, .inl ⟨xs, k, e5, rfl, by rw [line_eq, ← repk_len e6]; exact c, rfl⟩, q3 mp3 _ σ l4 s4 (l4.relE re3)⟩
    · exact q3.elim
  · exact q3.elim
/-! {} -/
def mDct0 (_ : MEnv) (st : Store) : R Val := .ok (.ref st.length) (st ++ [.dct []])
theorem me_dct0 : ME X W (.Dict [] [] pos) mDct0 := by
  refine ⟨⟨_, pe_dnewK, fun σ H Q mp env st rs re hp p np => ?_⟩⟩
  obtain ⟨l, s⟩ := rs.place (o := .dK []) (m := .dct []) np ⟨[], upd_same, by simp [RepK]⟩
  refine hp (mp.add p) _ _ l s ?_
  show RepV X.K _ _ (.ref st.length) (.ref p)
  unfold RepV
  exact ⟨p, rfl, by rw [← rs.len]; exact mp.add_at p⟩
/-! {k: v, ..} -/
abbrev RKV (K : PySem.W.Frag) : RepT (List (Key × Val)) (List (V × V)) := fun mp H d ps => ∃ kvs : List (Key × V), ps = kvs.map (fun kv => (kV kv.1, kv.2)) ∧ RepK K mp H d kvs
structure MPs (X : Cx) (W : WX) (pos : Pos) (ks : List (Option Expr)) (vs : List Expr) (m : MEnv → Store → R (List (Key × Val))) : Prop where
  ex : ∃ t, PPs X pos ks vs t ∧ ∀ σ H Q mp env st, RelS X.K mp H st → RelE X.K mp H env σ → Post X.K W σ (RKV X.K) mp H (m env st) Q → tPairs t σ H Q
def mPs0 (_ : MEnv) (st : Store) : R (List (Key × Val)) := .ok [] st
def mPs1 (mk mv : MEnv → Store → R Val) (mr : MEnv → Store → R (List (Key × Val))) (env : MEnv) (st : Store) : R (List (Key × Val)) := (mk env st).bind fun k st => (mv env st).bind fun v st => (mr env st).bind fun r st => match keyOf k with
  | some k => .ok ((k, v) :: r) st
  | none => .stuck
theorem mps_nil : MPs X W pos [] [] mPs0 := ⟨⟨_, pps_nil, fun σ H Q mp env st rs re hp => hp mp H [] .refl rs ⟨[], rfl, by simp [RepK]⟩⟩⟩
theorem mps_cons {ks : List (Option Expr)} {vs : List Expr} {mr} (ha : ME X W a ma) (hb : ME X W b mb) (hr : MPs X W pos ks vs mr) : MPs X W pos (some a :: ks) (b :: vs) (mPs1 ma mb mr) := by
  obtain ⟨ta, pa, ha⟩ := ha.ex
  obtain ⟨tb, pb, hb⟩ := hb.ex
  obtain ⟨tr, pr, hr⟩ := hr.ex
  refine ⟨⟨_, pps_cons pa pb pr, fun σ H Q mp env st rs re hp => ?_⟩⟩
  refine ha σ H _ mp env st rs re (Post.of_bind hp fun mp1 H1 d st1 u e l s r q => ?_)
  refine hb σ H1 _ mp1 env st1 s (l.relE re) (Post.of_bind q fun mp2 H2 d2 st2 v e2 l2 s2 r2 q2 => ?_)
  refine hr σ H2 _ mp2 env st2 s2 (l2.relE (l.relE re)) (Post.of_bind q2 fun mp3 H3 d3 st3 w e3 l3 s3 r3 q3 => ?_)
  obtain ⟨kvs, rfl, rk⟩ := r3
  split at q3
  · rename_i k h1
    obtain rfl := key_rep (l3.rep (l2.rep r)) h1
    exact q3 mp3 H3 _ .refl s3 ⟨(k, v) :: kvs, rfl, by unfold RepK; exact ⟨v, kvs, rfl, l3.rep r2, rk⟩⟩
  · exact q3.elim
def mergeM (kvs : List (Key × Val)) : List (Key × Val) := kvs.foldl (fun acc kv => putM acc kv.1 kv.2) []
theorem merge_rep {K : PySem.W.Frag} {mp : Mp} {H : Hp} : ∀ {kvs : List (Key × Val)} {xs : List (Key × V)} {acc : List (Key × Val)} {ys : List (Key × V)}, RepK K mp H kvs xs → RepK K mp H acc ys → RepK K mp H (kvs.foldl (fun acc kv => putM acc kv.1 kv.2) acc) (mergeK ys xs)
  | [], xs, acc, ys, r, q => by
    unfold RepK at r
    subst r; exact q
  | (k', d') :: kvs, xs, acc, ys, r, q => by
    unfold RepK at r
    obtain ⟨u, us, rfl, r1, r2⟩ := r
    exact merge_rep (acc := putM acc k' d') (ys := putK ys k' u) r2 (put_rep q r1)
def mDct (m : MEnv → Store → R (List (Key × Val))) (env : MEnv) (st : Store) : R Val := (noX (m env st)).bind fun kvs st => if kvs.length ≤ 15 then .ok (.dct (mergeM kvs)) st else .stuck
theorem me_dct {ks : List (Option Expr)} {vs : List Expr} {m} (h : MPs X W0 pos ks vs m) (hall : ks.all (·.isSome) = true := by rfl) (hl : ks.length = vs.length := by rfl) (h0 : ks ≠ [] := by exact fun z => nomatch z) (h15 : ks.length ≤ 15 := by decide) : ME X W (.Dict ks vs pos) (mDct m) := by
  obtain ⟨t, p, h⟩ := h.ex
  refine ⟨⟨_, pe_disp p hall hl h0 h15, fun σ H Q mp env st rs re hp D nD => ?_⟩⟩
  unfold mDct at hp
  refine h σ _ _ (mp.shut D) env st (rs.shut nD) ((shift_upd (o := .dK [])).relE ((shift_shut nD).relE re)) ?_
  cases e : m env st with
  | exc c fs st1 =>
    rw [e] at hp
    exact hp.elim
  | stuck =>
    rw [e] at hp
    exact hp.elim
  | ok kvs st1 =>
    rw [e] at hp
    have hp : Post X.K W σ (RV X.K) mp H (if kvs.length ≤ 15 then .ok (.dct (mergeM kvs)) st1 else .stuck) Q := hp
    split at hp
    · rename_i c
      rintro mp1 H1 _ l s ⟨xs, rfl, rk⟩
      have eD : H1 D = some (.dK []) := l.keep D _ upd_same (fun z => (rs.notin nD).1.1 z)
      obtain ⟨mp2, rfl, l2⟩ := l.open nD
      refine ⟨eD, xs, rfl, by rw [← repk_len rk]; exact c, ?_⟩
      have hb : D ∉ mp2.bar := fun z => (rs.sep D (by rw [← l2.bar]; exact z)).2 nD
      have hf : D ∉ mp2.fb := fun z => rs.old D (by rw [← l2.fb]; exact z) nD
      have ho : D ∉ mp2.own := (s.sep D (by show D ∈ mp2.bar ++ [D]; simp)).1
      have l3 : Le mp H mp2 (upd H1 D (.dK (mergeK [] xs))) := by
        have := Le.turn (o := .dK (mergeK [] xs)) (mp := mp) (mp1 := mp) (mp2 := mp2) (H1 := upd H D (.dK [])) nD (le_new nD) l
        exact this
      refine hp mp2 _ _ l3 (s.upd).open ?_
      unfold RepV
      exact ⟨D, _, rfl, ⟨.inl upd_same, ⟨⟨ho, hb⟩, hf⟩⟩, shift_open.repk (shift_upd.repk (merge_rep rk (by simp [RepK])))⟩
    · exact hp.elim
/-! texts joined -/
def strsL : List Val → Option (List Str)
  | [] => some []
  | d :: ds => match strOf d, strsL ds with
    | some i, some is => some (i :: is)
    | _, _ => none
theorem strs_rep {K : PySem.W.Frag} {mp : Mp} {H : Hp} : ∀ {ds : List Val} {xs : List V} {ns : List Str}, RepVs K mp H ds xs → strsL ds = some ns → xs = ns.map V.str
  | [], _, _, r, h => by
    obtain rfl := repvs_nil.mp r
    obtain rfl := Option.some.inj h
    rfl
  | d :: ds, _, _, r, h => by
    obtain ⟨u, us, rfl, r1, r2⟩ := repvs_cons.mp r
    unfold strsL at h
    split at h
    · rename_i i is h1 h2
      obtain rfl := Option.some.inj h
      obtain rfl := strOf_eq h1
      rw [rep_str r1, strs_rep r2 h2]
      rfl
    · cases h
def mJoin (mo me : MEnv → Store → R Val) (env : MEnv) (st : Store) : R Val := (mo env st).bind fun d st => match strOf d with
  | some x => (me env st).bind fun e st => (match seqOf st e with
    | some ds => (match strsL ds with
      | some ys => if (ys.map (·.length)).sum + ys.length * x.length ≤ line then .ok (.str (Txt.join x ys)) st else .stuck
      | none => .stuck)
    | none => .stuck)
  | none => .stuck
theorem me_join {apos : Pos} (ho : ME X W o ma) (he : ME X W a mb) (hs : starEach [a] X.env = [(false, eval a X.env)] := by rfl) (hbase : attributeBase o "join" X.env (eval o X.env) = eval o X.env := by rfl) (hline : (apos.endLine == pos.line) = true := by rfl) : ME X W (.Call (.Attribute o "join" apos) [a] [] pos) (mJoin ma mb) := by
  obtain ⟨to, po, ho⟩ := ho.ex
  obtain ⟨te, pe, he⟩ := he.ex
  refine ⟨⟨_, pe_join po pe hs hbase hline, fun σ H Q mp env st rs re hp => ?_⟩⟩
  refine ho σ H _ mp env st rs re (Post.of_bind hp fun mp1 H1 d st1 u e l s r q => ?_)
  split at q
  · rename_i x h1
    obtain rfl := strOf_eq h1
    refine ⟨by rw [rep_str r]; exact ⟨x, rfl⟩, ?_⟩
    refine he σ H1 _ mp1 env st1 s (l.relE re) (Post.of_bind q fun mp2 H2 d2 st2 v e2 l2 s2 r2 q2 => ?_)
    split at q2
    · rename_i ds h2
      split at q2
      · rename_i ys h3
        split at q2
        · rename_i c
          obtain ⟨p, xs, rfl, sq, rr⟩ := seqOf_rep s2 r2 h2
          obtain rfl := strs_rep rr h3
          exact ⟨x, p, ys, rep_str r, rfl, sq, c, q2.out s2 (rep_s ..)⟩
        · exact q2.elim
      · exact q2.elim
    · exact q2.elim
  · exact q.elim
end
end ML

-- ML12
set_option linter.all false
set_option maxRecDepth 100000
set_option maxHeartbeats 4000000
namespace ML
open PySem PySem.Spec PyProof.Rows L2
/-! ### a def of the top, for whoever calls it -/
structure Cal (P : Program) (w : World) (K : PySem.W.Frag) (mg : Str → Option Value) (base : Heap) (k : Nat) (x : Str) (ps : List Str) (pf : PF) : Prop where
  ex : ∃ f fd, mg x = some (.ref f) ∧ PySem.W.keepIn K (.ref f) = true ∧ Binds K fd ps [] ∧ FnOk P w K mg base (L2.CX P w) k f fd ps (spP K ps.length pf)
  cl : Closed pf
/-- a def as it stands -/
abbrev FnS (K : PySem.W.Frag) (x : Str) (st : Stmt) (f : Addr) (fd : FuncData) : Prop := FunD K x x (defArgs st) (defBody st) (defScope st) [] [] f fd
section
variable {P : Program} {w : World} {K : PySem.W.Frag} {mg : Str → Option Value} {base : Heap}
theorem cal {x : Str} {st : Stmt} {f : Addr} {N ps : List Str} {k : Nat} {mb : MM} (F : ∃ fd, FnS K x st f fd) (gl : mg x = some (.ref f)) (S : FnScope N ps (defScope st))
    (hbi : ∀ (kV doc pm : Value) (an : Option Addr) (cdv ct : Value) (us : List Value), us.length = ps.length → bindArgs (PySem.W.fnOf x x (defArgs st) (defBody st) (defScope st) .none kV doc pm an cdv ct) ⟨us, []⟩ = pure (ps.zip us))
    (hb : ∀ (cdv : Value) (A : Around) (outer : List Env) (s : Shared) (H : Hp) (E : XK), Room k (A.deeper (envOfC x (defScope st) s.heap.objs.size f cdv)) → MSs (cxOf (L2.CX P w) P w K mg base N x (defScope st) f cdv A outer s H E) (fun c d _ H => E c d H) (defBody st) mb) :
    Cal P w K mg base (k + 1) x ps (runP N.length mb) := by
  obtain ⟨fd, F⟩ := F
  exact ⟨⟨f, fd, gl, F.kp, F.bindsN hbi, fnP F S hb⟩, closed_run _ _⟩
end
section
variable {X : Cx} {W : WX} {pos p : Pos} {e : Expr} {es : List Expr} {ms : MEnv → Store → R (List Val)} {x : Str} {k : Nat} {ps : List Str} {pf : PF}
theorem me_callC {n : Nat} (C : Cal X.prog X.w X.K X.mg X.base k x ps pf) (hr : Room k X.A) (hg : Gl X x) (tk : Takes X W) (ha : MA X W (e :: es) ms) (hn : ps.length = n := by rfl)
    (hdb : (x == ("__debug__" : Str)) = false := by decide) (he : starEach (e :: es) X.env = (false, eval e X.env) :: starEach es X.env := by rfl) (hpl : (backTo pos (starEach es X.env)).any (·.1) = false := by rfl) : ME X W (.Call (.Name x p) (e :: es) [] pos) (mCallP n pf ms) := by
  cases hn
  obtain ⟨⟨f, fd, h1, h2, h3, F⟩, cl⟩ := C
  exact me_call cl F hr hg h1 h2 h3 tk ha hdb he hpl
end
/-! ### constants of the top -/
mutual
def relW (K : PySem.W.Frag) : Val → Value → Bool
  | .non, .none => true
  | .bl b, .bool c => b == c
  | .int i, .int j _ => decide (i = j)
  | .str x, .str y _ => decide (x = y)
  | .tup ds, .ref a => (match K.lookup a with
    | some ⟨.type c, none, .seq its _, _⟩ => decide (c = "tuple") && (decide (its.size ≤ sizeLine) && relWs K ds its.toList)
    | _ => false)
  | .fn x, .ref a => decide (a = He.ga K x)
  | _, _ => false
def relWs (K : PySem.W.Frag) : List Val → List Value → Bool
  | [], [] => true
  | d :: ds, u :: us => relW K d u && relWs K ds us
  | _, _ => false
end
mutual
theorem relW_ok {K : PySem.W.Frag} : ∀ {d : Val} {u : Value}, relW K d u = true → ∃ v, RelV v u ∧ ∀ mp H, RepV K mp H d v
  | .non, u, h => by
    cases u with
    | none => exact ⟨.non, rfl, fun _ _ => by simp [RepV]⟩
    | _ => simp [relW] at h
  | .bl b, u, h => by
    cases u with
    | bool c =>
      obtain rfl : b = c := by simpa [relW] using h
      exact ⟨.bl b, rfl, fun _ _ => by simp [RepV]⟩
    | _ => simp [relW] at h
  | .int b, u, h => by
    cases u with
    | int c t =>
      obtain rfl : b = c := by simpa [relW] using h
      exact ⟨.int b, ⟨t, rfl⟩, fun _ _ => by simp [RepV]⟩
    | _ => simp [relW] at h
  | .str b, u, h => by
    cases u with
    | str c t =>
      obtain rfl : b = c := by simpa [relW] using h
      exact ⟨.str b, ⟨t, rfl⟩, fun _ _ => by simp [RepV]⟩
    | _ => simp [relW] at h
  | .tup ds, u, h => by
    cases u with
    | ref a =>
      unfold relW at h
      cases q : K.lookup a with
      | none =>
        rw [q] at h
        cases h
      | some o =>
        obtain ⟨oc, od, dt, osl⟩ := o
        rw [q] at h
        cases oc with
        | type c =>
          cases od with
          | some _ => cases dt <;> cases h
          | none =>
            cases dt with
            | seq its n =>
              simp only [Bool.and_eq_true, decide_eq_true_eq] at h
              obtain ⟨rfl, h2, h3⟩ := h
              obtain ⟨vs, r1, r2⟩ := relWs_ok h3
              refine ⟨.ref a, rfl, fun mp H => ?_⟩
              unfold RepV
              exact ⟨a, vs, rfl, .inr ⟨_, its, n, q, rfl, rfl, h2, r1⟩, r2 mp H⟩
            | _ => cases h
        | _ => cases od <;> cases dt <;> cases h
    | _ => simp [relW] at h
  | .lst _, u, h => by cases u <;> simp [relW] at h
  | .fzl _, u, h => by cases u <;> simp [relW] at h
  | .brw _, u, h => by cases u <;> simp [relW] at h
  | .dct _, u, h => by cases u <;> simp [relW] at h
  | .rng _ _, u, h => by cases u <;> simp [relW] at h
  | .ref _, u, h => by cases u <;> simp [relW] at h
  | .fn x, u, h => by
    cases u with
    | ref a =>
      obtain rfl : a = He.ga K x := by simpa [relW] using h
      exact ⟨.ref _, rfl, fun _ _ => by unfold RepV; rfl⟩
    | _ => simp [relW] at h
theorem relWs_ok {K : PySem.W.Frag} : ∀ {ds : List Val} {us : List Value}, relWs K ds us = true → ∃ vs, Vals vs us ∧ ∀ mp H, RepVs K mp H ds vs
  | [], [], _ => ⟨[], .nil, fun _ _ => by simp [RepVs]⟩
  | [], _ :: _, h => by simp [relWs] at h
  | _ :: _, [], h => by simp [relWs] at h
  | d :: ds, u :: us, h => by
    have h2 : relW K d u = true ∧ relWs K ds us = true := by simpa [relWs] using h
    obtain ⟨v, r1, r2⟩ := relW_ok h2.1
    obtain ⟨vs, r3, r4⟩ := relWs_ok h2.2
    exact ⟨v :: vs, .cons r1 r3, fun mp H => repvs_cons.mpr ⟨v, vs, rfl, r2 mp H, r4 mp H⟩⟩
end
/-- the module's name x is the constant d -/
def conW (K : PySem.W.Frag) (x : Str) (d : Val) : Bool := match PySem.W.nsIn K mainGlobals x with
  | some (some u) => relW K d u
  | _ => false
theorem relW_tup {K : PySem.W.Frag} {ds : List Val} {u : Value} (h : relW K (.tup ds) u = true) : ∃ a o, u = .ref a ∧ K.lookup a = some o ∧ o.cls = .type "tuple" ∧ o.dict = none := by
  cases u with
  | ref a =>
    unfold relW at h
    cases q : K.lookup a with
    | none =>
      rw [q] at h
      cases h
    | some o =>
      obtain ⟨oc, od, dt, osl⟩ := o
      rw [q] at h
      cases oc with
      | type c =>
        cases od with
        | some _ => cases dt <;> cases h
        | none =>
          cases dt with
          | seq its n =>
            simp only [Bool.and_eq_true, decide_eq_true_eq] at h
            obtain ⟨rfl, h2, h3⟩ := h
            exact ⟨a, _, rfl, q, rfl, rfl⟩
          | _ => cases h
      | _ => cases od <;> cases dt <;> cases h
  | _ => simp [relW] at h
structure Con1 (K : PySem.W.Frag) (mg : Str → Option Value) (x : Str) (d : Val) : Prop where
  ex : ∃ u v, mg x = some u ∧ RelV v u ∧ ∀ mp H, RepV K mp H d v
  tu : ∀ ds, d = .tup ds → ∃ a o, mg x = some (.ref a) ∧ K.lookup a = some o ∧ o.cls = .type "tuple" ∧ o.dict = none
theorem con_ok {K : PySem.W.Frag} {h : Heap} {mg : Str → Option Value} (X : K.In h) (G : h.Ns mainGlobals mg) {x : Str} {d : Val} (c : conW K x d = true) : Con1 K mg x d := by
  unfold conW at c
  split at c
  · rename_i u e
    obtain ⟨v, r1, r2⟩ := relW_ok c
    refine ⟨⟨u, v, PySem.W.mg_of X G e, r1, r2⟩, fun ds hd => ?_⟩
    subst hd
    obtain ⟨a, o, rfl, q⟩ := relW_tup c
    exact ⟨a, o, PySem.W.mg_of X G e, q⟩
  · cases c
theorem me_con {X : Cx} {W : WX} {x : Str} {d : Val} {pos : Pos} (C : Con1 X.K X.mg x d) (hg : Gl X x) (hd : (x == ("__debug__" : Str)) = false := by decide) : ME X W (.Name x pos) (mC d) := by
  obtain ⟨u, v, e, r, q⟩ := C.ex
  exact me_c (pe_glob hg e r hd) q
/-- the module's name x is a dict with texts for keys -/
abbrev TabD : Type := Str × List (Str × Val)
def tabW (K : PySem.W.Frag) (t : TabD) : Bool := t.2.all fun q => match PySem.W.nsIn K (He.ga K t.1) q.1 with
  | some (some u) => relW K q.2 u
  | _ => false
structure Tab1 (K : PySem.W.Frag) (w : World) (mg : Str → Option Value) (t : TabD) : Prop where
  ex : ∃ a, mg t.1 = some (.ref a) ∧ ∀ k d, lookT t.2 k = some d → ∃ v, KDct K w a k v ∧ ∀ mp H, RepV K mp H d v
theorem me_tabC {X : Cx} {W : WX} {x : Str} {tab : List (Str × Val)} {b : Expr} {p pos : Pos} {mb : MEnv → Store → R Val} (T : Tab1 X.K X.w X.mg (x, tab)) (hg : Gl X x) (hb : ME X W b mb) (hs : PlainIx b := by exact fun _ _ => rfl) (hd : (x == ("__debug__" : Str)) = false := by decide) : ME X W (.Subscript (.Name x p) b pos) (mTab tab mb) := by
  obtain ⟨a, e, h⟩ := T.ex
  exact me_tab hg e ⟨h⟩ hb hs hd
/-! ### the head's look -/
abbrev AlM : Type := He.AlD × Bool × List (Option (List (Option (Str × Int))))
def obsM (fa : List He.Fa) (fn : List He.DefD) (cs : List (Str × Val)) (ts : List TabD) (K : PySem.W.Frag) : AlM := (He.obsD fa fn K, (cs.all fun c => conW K c.1 c.2) && ts.all fun t => tabW K t && He.Fa.ok K (.glo t.1), ts.map fun t => He.dicW K (He.ga K t.1))
def valM (fn : List He.DefD) (ts : List TabD) (w : World) : AlM := (He.valD fn, true, ts.map fun t => some (He.keysIn w.params (t.2.map (·.1))))
def SaysM (fa : List He.Fa) (fn : List He.DefD) (cs : List (Str × Val)) (ts : List TabD) (w : World) (K : PySem.W.Frag) : Prop := obsM fa fn cs ts K = valM fn ts w
def obsMG (fa : List He.Fa) (fn : List He.DefD) (cs : List (Str × Val)) (ts : List TabD) (g : Addr → Option Obj) : AlM := obsM fa fn cs ts (He.frG g (MH.addrs g))
def hookM (fa : List He.Fa) (fn : List He.DefD) (cs : List (Str × Val)) (ts : List TabD) : PySem.W.Hook where
  α := AlM
  obs := fun s => obsMG fa fn cs ts s.heap.get?
  val := fun w => valM fn ts w
  says := fun w h => ∃ K : PySem.W.Frag, K.In h ∧ SaysM fa fn cs ts w K
  of := fun _ _ e => ⟨_, He.frG_in, e⟩
  keeps := fun _ _ _ ⟨K, hK, c⟩ k => ⟨K, PySem.W.Frag.In.keeps hK k, c⟩
theorem obsMG_eq {fa : List He.Fa} {fn : List He.DefD} {cs : List (Str × Val)} {ts : List TabD} {g : Addr → Option Obj} {s : Shared} (h : ∀ a, g a = s.heap.get? a) : obsMG fa fn cs ts g = (hookM fa fn cs ts).obs s := by
  have e : g = s.heap.get? := funext h
  rw [e] <;> rfl
section
variable {fa : List He.Fa} {fn : List He.DefD} {cs : List (Str × Val)} {ts : List TabD} {K : PySem.W.Frag} {w : World}
theorem SaysM.d (c : SaysM fa fn cs ts w K) : He.SaysD fa fn K := congrArg (fun z : AlM => z.1) c
theorem SaysM.b (c : SaysM fa fn cs ts w K) : (cs.all fun c => conW K c.1 c.2) = true ∧ (ts.all fun t => tabW K t && He.Fa.ok K (.glo t.1)) = true := Bool.and_eq_true_iff.mp (congrArg (fun z : AlM => z.2.1) c)
theorem SaysM.con (c : SaysM fa fn cs ts w K) (i : Nat) {x : Str} {d : Val} (h : cs[i]? = some (x, d) := by rfl) : conW K x d = true := List.all_eq_true.mp c.b.1 (x, d) (List.mem_of_getElem? h)
theorem look_mem : ∀ {tab : List (Str × Val)} {k : Str} {d : Val}, lookT tab k = some d → (k, d) ∈ tab
  | [], _, _, h => by cases h
  | (k', d') :: r, k, d, h => by
    by_cases e : k' = k
    · have : lookT ((k', d') :: r) k = some d' := by simp [lookT, e]
      obtain rfl := Option.some.inj (this.symm.trans h)
      rw [← e]; exact List.mem_cons_self
    · have : lookT ((k', d') :: r) k = lookT r k := by simp [lookT, List.find?_cons, e]
      rw [this] at h
      exact List.mem_cons_of_mem _ (look_mem h)
theorem SaysM.tab {h : Heap} {mg : Str → Option Value} (c : SaysM fa fn cs ts w K) (X : K.In h) (G : h.Ns mainGlobals mg) (i : Nat) {t : TabD} (hi : ts[i]? = some t := by rfl) : Tab1 K w mg t := by
  have hb := List.all_eq_true.mp c.b.2 t (List.mem_of_getElem? hi)
  obtain ⟨h1, h2⟩ := Bool.and_eq_true_iff.mp hb
  have e : ts.map (fun t => He.dicW K (He.ga K t.1)) = ts.map fun t => some (He.keysIn w.params (t.2.map (·.1))) := congrArg (fun z : AlM => z.2.2) c
  have e2 : (ts.map fun t => He.dicW K (He.ga K t.1))[i]? = (ts.map fun t => some (He.keysIn w.params (t.2.map (·.1))))[i]? := by rw [e]
  rw [List.getElem?_map, List.getElem?_map, hi] at e2
  obtain ⟨es, n, D⟩ := He.dicW_ok (Option.some.inj e2)
  refine ⟨He.ga K t.1, He.glo_ok X G h2, fun k d hk => ?_⟩
  have h3 := List.all_eq_true.mp h1 (k, d) (look_mem hk)
  simp only at h3
  split at h3
  · rename_i u e4
    obtain ⟨v, r1, r2⟩ := relW_ok h3
    obtain ⟨d1, d2, d3⟩ := D
    exact ⟨v, ⟨es, n, u, d1, d2, e4, r1⟩, r2⟩
  · cases h3
end
end ML

-- ML13
set_option linter.all false
set_option maxRecDepth 100000
/-! The end: a law that its mirror answers is the law of its program. -/
namespace ML
open PySem PySem.Spec PySem.W PySem.Calls PyProof.Rows L2
theorem cx_false {P : Program} {w : World} {o : List Env} {H : Hp} {s s' : Shared} {u : Value} (h : L2.CX P w o H s (fun _ _ _ => False) u s') : False := by
  obtain ⟨_, _, _, _, _, _, _, _, _, _, _, _, f⟩ := h
  exact f
theorem walk_ofW {l : PySem.W.OpenLaw} {n k : Nat} {q : Program} {loose : List Str} {XP : (Str → Option Value) → Heap → Prop} {YP : World → Heap → Prop} {d : DefRec} {x : Str}
    (hn : l.most = some n) (hn2 : n ≤ sizeLine) (hdf : d.params.defaults = []) (hr : Room k callerA)
    (F : ∀ (w : World) (mg : Str → Option Value) (fa : Addr) (h : Heap), YP w h → h.Ns mainGlobals mg → mg d.name = some (.ref fa) →
      ∃ (K : PySem.W.Frag) (fd : FuncData) (sp : Sp), K.In h ∧ (∀ (s : Shared) (u : Value), BindsTo s fd ⟨[u], []⟩ [(x, u)]) ∧
        (∀ (H : Hp) (a : Addr) (ns : List Int), ns.length ≤ n → (∀ z ∈ ns, Builtin.Int.intBits z ≤ 1048576) → Only H → SqL K H a (ns.map V.int) → sp [.ref a] H (fun v _ => v = .bl true) fun _ _ _ => False) ∧
        ∀ base : Heap, K.In base → base.Ns mainGlobals mg → FnOk l.prog w K mg base (L2.CX l.prog w) k fa fd [x] sp) :
    PySem.W.WalkO q loose XP YP l.row.toRowW d [] (fun f vs => PySem.call f vs) := by
  refine Att.attach_callB hn hdf fun w s₀ s₁ mg mb fa o pm cd doc a vs ns G Y ho hd hcd hmg hobj hints hlen hbits hg => ?_
  obtain ⟨K, fd, sp, KX, hb, hsp, hF⟩ := F w mg fa _ Y G.T.g hmg
  exact law_call KX G.T.g G.T.b G.T.builtins G.T.nolimit hg hobj hints (Nat.le_trans hlen hn2) hr hF hb (fun H hO hS => hsp H a ns hlen hbits hO hS) fun H e s' => cx_false
theorem law_spB {K : PySem.W.Frag} {pf : PF} {n : Nat} (h : ∀ ns : List Int, ns.length ≤ n → (∀ z ∈ ns, Builtin.Int.intBits z ≤ 1048576) → pf [.fzl (ns.map Val.int)] = .ok (.bl true) []) (H : Hp) (a : Addr) (ns : List Int) (hl : ns.length ≤ n) (hb : ∀ z ∈ ns, Builtin.Int.intBits z ≤ 1048576) (ho : Only H) (hS : SqL K H a (ns.map V.int)) : spP K 1 pf [.ref a] H (fun v _ => v = .bl true) fun _ _ _ => False := by
  refine ⟨rfl, [], [.fzl (ns.map Val.int)], (fun _ h => by cases h), repvs_cons.mpr ⟨.ref a, [], rfl, ?_, repvs_nil.mpr rfl⟩, ?_⟩
  · unfold RepV
    refine ⟨a, ns.map V.int, rfl, ?_, repvs_ints ns⟩
    rcases hS with (e | ⟨o, e⟩) | z
    · rcases ho a with h | ⟨o, xs, h⟩ <;> rw [h] at e <;> cases e
    · exact .inl ⟨⟨o, e⟩, lone_lent _ _⟩
    · exact .inr z
  · rw [h ns hl hb]
    exact fun H' u _ r => rep_bl r
end ML

-- D0a
set_option linter.all false
set_option maxRecDepth 100000
set_option maxHeartbeats 4000000
namespace L2
open PySem PySem.Spec PyProof.Rows
/-- the same object -/
theorem tuple_mulS (l : Addr) (items : Array Value) (n : Nat) (dd : Option Addr) (sl : Array (Option Value)) (x : Int) (u : Tok) (c0 : (decide (x < -(2 ^ 63)) || decide (x ≥ 2 ^ 63)) = false) (c1 : (items.isEmpty || x == 1) = true) :
    Meets (Builtin.«tuple.__mul__» ⟨[.ref l, .int x u], []⟩) (fun _ R s => s.heap.get? l = some { cls := .type "tuple", dict := dd, data := .seq items n, slots := sl } ∧
      R (.ok (.ret (Value.ref l))) s) :=
  .of_wp fun prog w A R s h => by
    obtain ⟨hp, g, d, tk, os⟩ := s
    obtain ⟨hl, h⟩ := h
    have f1 := AutoSeq1.idx_int
    wp_walk using wpAny_loadPart' hl
    repeat (first
      | (refine wpAny_ite_false (decide_eq_false (by rw [c0]; exact Bool.false_ne_true)) ?_; wp_walk using wpAny_loadPart' hl)
      | (refine wpAny_ite_true (decide_eq_true (by rw [c1])) ?_; wp_walk using wpAny_loadPart' hl))
    exact ⟨_, rfl, h⟩
theorem tuple_mulZ (l : Addr) (items : Array Value) (n : Nat) (dd : Option Addr) (sl : Array (Option Value)) (x : Int) (u : Tok) (c0 : (decide (x < -(2 ^ 63)) || decide (x ≥ 2 ^ 63)) = false) (c1 : (items.isEmpty || x == 1) = false) (c2 : (decide (x ≤ 0) || items.isEmpty) = true) :
    Meets (Builtin.«tuple.__mul__» ⟨[.ref l, .int x u], []⟩) (fun _ R s => s.heap.get? l = some { cls := .type "tuple", dict := dd, data := .seq items n, slots := sl } ∧
      R (.ok (.ret (Value.ref s.heap.objs.size))) { s with heap := s.heap.push { cls := Value.type "tuple", data := Data.seq #[] }, toks := s.toks }) :=
  .of_wp fun prog w A R s h => by
    obtain ⟨hp, g, d, tk, os⟩ := s
    obtain ⟨hl, h⟩ := h
    have f1 := AutoSeq1.idx_int
    wp_walk using wpAny_loadPart' hl
    repeat (first
      | (refine wpAny_ite_false (decide_eq_false (by rw [c0]; exact Bool.false_ne_true)) ?_; wp_walk using wpAny_loadPart' hl)
      | (refine wpAny_ite_false (decide_eq_false (by rw [c1]; exact Bool.false_ne_true)) ?_; wp_walk using wpAny_loadPart' hl)
      | (refine wpAny_ite_true (decide_eq_true (by rw [c2])) ?_; wp_walk using wpAny_loadPart' hl))
    exact ⟨_, rfl, h⟩
def rRepU (K : PySem.W.Frag) : R2 := fun x y H Q => ∃ l k xs, x = .ref l ∧ y = .int k ∧ SqT K H l xs ∧ -(2 ^ 62) < k ∧ k ≤ 1000 ∧ xs.length ≤ 1000 ∧ ((xs = [] ∨ k = 1) → Q (.ref l) H) ∧ (xs ≠ [] → k ≠ 1 → ∀ p, H p = none → Q (.ref p) (upd H p (.tup (List.replicate k.toNat xs).flatten)))
section
variable {X : Cx}
theorem op_repU : OpR X (binaryOp .Mult) (rRepU X.K) := by
  intro pins s σ H x y v u Q I rx ry h
  obtain ⟨l, k, xs, rfl, rfl, hT, h1, h2, hz, q1, q2⟩ := h
  by_cases c : xs ≠ [] ∧ 2 ≤ k
  · exact op_repT pins s σ H _ _ v u Q I rx ry ⟨l, k, xs, rfl, rfl, hT, c.1, c.2, h2, hz, q2 c.1 (by omega)⟩
  cases rx
  obtain ⟨t, rfl⟩ := ry
  obtain ⟨its, r, ⟨⟨cls, dd, data, sl⟩, ho, hc, n, hd⟩, hs⟩ := I.tuple hT
  simp only at hc hd
  subst hc hd
  have hle : its.length = xs.length := r.length.symm
  have c0 : (decide (k < -(2 ^ 63)) || decide (k ≥ 2 ^ 63)) = false := by
    rw [decide_eq_false (by omega), decide_eq_false (by omega)] <;> rfl
  have hi : its.toArray.isEmpty = true ↔ xs = [] := by
    rw [List.isEmpty_toArray, List.isEmpty_iff]
    constructor
    · intro e; rw [e] at hle; exact List.eq_nil_of_length_eq_zero hle.symm
    · intro e; rw [e] at hle; exact List.eq_nil_of_length_eq_zero hle
  by_cases d : xs = [] ∨ k = 1
  · have c1 : (its.toArray.isEmpty || k == 1) = true := by
      rw [Bool.or_eq_true, hi, beq_iff_eq]; exact d
    refine wpAny_binaryOp_repeat_ref (T := "tuple") (U := "int") (by decide) ⟨_, ho, rfl⟩ (fun s' => typeIs_int s' k t) noFill_tuple_mul F.fills_int_mul F.slot_int_rmul repeat_tuple F.slot_int_index.lookup
      (call_meets F.slot_int_rmul (typeIs_int s k t) F.entry_int_rmul (F.args_int_rmul_2 _ _) (int_rmul_tuple k t l its.toArray n dd sl)
        ⟨ho, rfl, ⟨_, ho, rfl⟩, call_meets F.slot_tuple_mul ⟨_, ho, rfl⟩ F.entry_tuple_mul (F.args_tuple_mul_2 _ _) (tuple_mulS l its.toArray n dd sl k t c0 c1) ⟨ho, ?_⟩⟩)
    exact ⟨.ref l, H, I, rfl, q1 d⟩
  · have d1 : xs ≠ [] := fun e => d (.inl e)
    have d2 : k ≠ 1 := fun e => d (.inr e)
    have hk : k ≤ 0 := by
      have : ¬ 2 ≤ k := fun e => c ⟨d1, e⟩
      omega
    have hi2 : its.toArray.isEmpty = false := by
      cases q : its.toArray.isEmpty with
      | true => exact absurd (hi.mp q) d1
      | false => rfl
    have c1 : (its.toArray.isEmpty || k == 1) = false := by
      rw [hi2, Bool.false_or]; exact beq_eq_false_iff_ne.mpr d2
    have c2 : (decide (k ≤ 0) || its.toArray.isEmpty) = true := by
      rw [decide_eq_true hk]; rfl
    refine wpAny_binaryOp_repeat_ref (T := "tuple") (U := "int") (by decide) ⟨_, ho, rfl⟩ (fun s' => typeIs_int s' k t) noFill_tuple_mul F.fills_int_mul F.slot_int_rmul repeat_tuple F.slot_int_index.lookup
      (call_meets F.slot_int_rmul (typeIs_int s k t) F.entry_int_rmul (F.args_int_rmul_2 _ _) (int_rmul_tuple k t l its.toArray n dd sl)
        ⟨ho, rfl, ⟨_, ho, rfl⟩, call_meets F.slot_tuple_mul ⟨_, ho, rfl⟩ F.entry_tuple_mul (F.args_tuple_mul_2 _ _) (tuple_mulZ l its.toArray n dd sl k t c0 c1 c2) ⟨ho, ?_⟩⟩)
    have hk0 : k.toNat = 0 := by omega
    have q := q2 d1 d2 s.heap.objs.size (I.hok.fresh (Nat.le_refl _))
    rw [hk0] at q
    refine ⟨.ref s.heap.objs.size, _, I.laid (t' := s.toks) (o := .tup []) (fun b ob q => Heap.get?_push_of_some _ q) (Nat.le_refl _) ?_, rfl, q⟩
    exact ⟨by decide, [], .nil, IsTup.new _ _⟩
end
end L2

-- D0b
set_option linter.all false
set_option maxRecDepth 100000
set_option maxHeartbeats 4000000
namespace PySem
open Sem (wp)
open AutoSeq1 (wpAny_loadPart')
theorem meets_enumerate_newT (l : Addr) (items : Array Value) (n : Nat) (dct : Option Addr) (sl : Array (Option Value)) :
    Meets (Builtin.«enumerate.__new__» ⟨[.type "enumerate", .ref l], []⟩) (fun _ R s => s.heap.get? l = some { cls := .type "tuple", dict := dct, data := .seq items n, slots := sl } ∧
      R (.ok (.ret (.ref (s.heap.push { cls := .type "tuple_iterator", data := .fields #[.ref l, .int 0 0] }).objs.size)))
        { s with heap := (s.heap.push { cls := .type "tuple_iterator", data := .fields #[.ref l, .int 0 0] }).push { cls := .type "enumerate", data := .fields #[.none, .bool false, .ref s.heap.objs.size, rawInt 0, .none, .none] } }) :=
  .of_wp fun prog w A R s h => by
    obtain ⟨hp, g, d, tk, os⟩ := s; obtain ⟨hl, h⟩ := h
    have hsub := sub_enumerate
    have hL : Heap.IsTuple (Shared.heap ⟨hp, g, d, tk, os⟩) l items := ⟨_, hl, rfl, n, rfl⟩
    wp_walk using wpAny_loadPart' hl
    refine wpAny_stack_any fun st => wpAny_pure ?_
    split
    · rename_i c _ _ _ _ _
      cases (c == Value.type "enumerate")
      · wp_walk using wpAny_loadPart' hl, wpAny_pyIter_tuple hL
        exact ⟨_, rfl, h⟩
      · wp_walk using wpAny_loadPart' hl, wpAny_pyIter_tuple hL
        exact ⟨_, rfl, h⟩
    · wp_walk using wpAny_loadPart' hl, wpAny_pyIter_tuple hL
      exact ⟨_, rfl, h⟩
section
variable {prog : Program} {w : World} {A : Around} {E : Value → Shared → Prop} {s : Shared}
theorem call_enumerate_tuple {l : Addr} {items : Array Value} {Q : Value → Shared → Prop} (hL : s.heap.IsTuple l items)
    (h : ∀ h', IsEnum h' (s.heap.objs.size + 1) s.heap.objs.size 0 .none → h'.IsTupleIter s.heap.objs.size l 0 → h'.objs.size = s.heap.objs.size + 2 →
      (∀ b o, s.heap.get? b = some o → h'.get? b = some o) → Q (.ref (s.heap.objs.size + 1)) { s with heap := h' }) :
    wpAny (model prog w) A (call (.type "enumerate") [.ref l]) Q E s := by
  obtain ⟨⟨c, dct, dt, sl⟩, hl, hc, n, hd⟩ := hL
  replace hc : c = .type "tuple" := hc
  replace hd : dt = .seq items n := hd
  subst hc hd
  refine callType_new F.called_enumerate (by decide) (F.typeCall_enumerate_1 _) (F.newCall_enumerate_1 _) (fun obj => F.args_object_init_2 obj _) F.entry_enumerate_new
    (meets_enumerate_newT l items n dct sl) ⟨hl, ?_⟩
  have hz : (s.heap.push { cls := .type "tuple_iterator", data := .fields #[.ref l, .int 0 0] }).objs.size = s.heap.objs.size + 1 := Heap.size_push ..
  show _ ∧ _
  rw [hz]
  have he : IsEnum ((s.heap.push { cls := .type "tuple_iterator", data := .fields #[.ref l, .int 0 0] }).push
      { cls := .type "enumerate", data := .fields #[.none, .bool false, .ref s.heap.objs.size, rawInt 0, .none, .none] }) (s.heap.objs.size + 1) s.heap.objs.size 0 .none := by
    have := Heap.get?_push_size (s.heap.push { cls := .type "tuple_iterator", data := .fields #[.ref l, .int 0 0] })
      (o := { cls := .type "enumerate", data := .fields #[.none, .bool false, .ref s.heap.objs.size, rawInt 0, .none, .none] }) rfl
    rw [hz] at this; exact this
  refine ⟨⟨_, he, rfl⟩, h _ he ⟨_, Heap.get?_push_of_some _ (Heap.get?_push_size _ rfl), rfl, rfl⟩ (by rw [Heap.size_push, hz]) fun b o x => Heap.get?_push_of_some _ (Heap.get?_push_of_some _ x)⟩
end
end PySem
namespace L2
open PySem PySem.Spec PyProof.Rows
/-- the tuple at a, each item in a new pair -/
def IteT (K : PySem.W.Frag) (a : Addr) : It :=
  ⟨fun i H => ∃ (xs : List V) (x : V), SqT K H a xs ∧ xs[i]? = some x, fun i H v H' => ∃ T x, v = .ref T ∧ H T = none ∧ H' = upd H T (.tup [.int (i : Nat), x]) ∧ ∀ xs, SqT K H a xs → xs[i]? = some x, fun i H => ∃ xs : List V, SqT K H a xs ∧ xs.length ≤ i⟩
theorem turn_enumT {P : Program} {w : World} {K : PySem.W.Frag} {elts : List Expr} {kk : Nat} {tpos : Pos} (a e it : Addr) :
    Turn P w K (.Tuple elts kk tpos) (IteT K a) [e, it] e (fun i h => (∃ old, IsEnum h e it ((i : Nat) : Int) old) ∧ h.IsTupleIter it a i ∧ e ≠ it) where
  mem := by simp
  obj := fun i h st b hb => by
    obtain ⟨⟨old, he⟩, ⟨o, ho, hc, hd⟩, _⟩ := st
    have e' : b = e ∨ b = it := by simpa using hb
    rcases e' with z | z
    · rw [z]; exact ⟨_, he, fun v q => nomatch q⟩
    · rw [z]; exact ⟨o, ho, fun v q => by rw [hd] at q; cases q⟩
  keep := fun i h h' st k => let ⟨⟨old, he⟩, hi, hne⟩ := st; ⟨⟨old, k e (by simp) _ he⟩, hi.at fun o q => k it (by simp) o q, hne⟩
  item := by
    intro X hP hw hK hc i pins s σ H E I hf st hg
    subst hP hw hK
    obtain ⟨⟨old, he⟩, hit, hne⟩ := st
    obtain ⟨xs, x, hq, hx⟩ := hg
    obtain ⟨its, rv, p, hz⟩ := I.tuple hq
    have p : s.heap.IsTuple a its.toArray := p
    obtain ⟨u, hu, ru⟩ := rv.get hx
    have hel : e < s.heap.objs.size := Heap.lt_size he
    have hil : it < s.heap.objs.size := by obtain ⟨_, q, _⟩ := hit; exact Heap.lt_size q
    have hae : e ≠ a := fun z => by
      obtain ⟨o, ho, hc2, _⟩ := p
      rw [← z] at ho
      have he2 := he
      unfold IsEnum at he2
      rw [he2] at ho
      have h3 := Option.some.inj ho
      rw [← h3] at hc2
      injection hc2 with h4
      exact absurd h4 (by decide)
    have hai : a ≠ it := fun z => by
      obtain ⟨o, ho, hc2, _⟩ := p
      obtain ⟨o2, ho2, hc3, _⟩ := id hit
      rw [z, ho2] at ho
      have h3 := Option.some.inj ho
      rw [← h3, hc3] at hc2
      injection hc2 with h4
      exact absurd h4 (by decide)
    have hlt : i < its.toArray.size := by
      have := (List.getElem?_eq_some_iff.mp hu).1
      simpa using this
    refine wpAny_pyNext_enum_itemD (Draws.tuple (A := X.A.in1) (show X.A.in1.handled = none from I.ok.hd hc) it a hai its.toArray) he ⟨hit, p⟩ hlt hne (by simp [hne, hae]) fun y h' tk hy ho hst hT hsz hk => ?_
    obtain rfl : u = y := by
      have hy : its.toArray[i]? = some y := hy
      have : its[i]? = some y := by simpa using hy
      rw [hu] at this
      exact Option.some.inj this
    refine ⟨_, rfl, wpAny_letOwnedTupleGo_enum (s := { s with heap := h', toks := tk + 1 }) ho fun h'' he' sb => ?_⟩
    have hT2 : h''.get? s.heap.objs.size = some { cls := .type "tuple", data := .seq #[.int i tk, u] } := (sb.2 _ (Nat.ne_of_gt hel)).trans hT
    have new : ObjOk X.prog X.w (upd H s.heap.objs.size (.tup [.int (i : Nat), x])) h'' s.heap.objs.size (.tup [.int (i : Nat), x]) :=
      ⟨by show 2 ≤ sizeLine; decide, [.int i tk, u], .cons ⟨_, rfl⟩ (.cons ru .nil), ⟨_, hT2, rfl, _, rfl⟩⟩
    have I1 : Inv X pins σ (upd H s.heap.objs.size (.tup [.int (i : Nat), x])) { s with heap := h'', toks := tk + 1 } :=
      I.turnedNew (ch := [e, it]) (fun b ob hb q => (sb.2 b (fun z => hb (by simp [z]))).trans (hk b ob (fun z => hb (by simp [z])) (fun z => hb (by simp [z])) q)) hf (Nat.le_refl _) new
    refine ⟨.ref s.heap.objs.size, _, I1, rfl, ⟨_, x, rfl, I.hok.fresh (Nat.le_refl _), rfl, fun ys hy => by rw [I.tuple_inj hy hq]; exact hx⟩, ⟨⟨u, ?_⟩, hst.1.at fun o q => (sb.2 it (Ne.symm hne)).trans q, hne⟩, fun b hb => ?_⟩
    · have e1 : ((i + 1 : Nat) : Int) = (i : Int) + 1 := by omega
      rw [e1]; exact he'
    · have hb' : b < s.heap.objs.size := by
        have e' : b = e ∨ b = it := by simpa using hb
        rcases e' with z | z
        · rw [z]; exact hel
        · rw [z]; exact hil
      rw [upd_ne (Nat.ne_of_lt hb')]
      exact (hf b hb).1
  done := by
    intro X hP hw hK hc i pins s σ H E I hf st hg
    subst hP hw hK
    obtain ⟨⟨old, he⟩, hit, hne⟩ := st
    obtain ⟨xs, hq, hx⟩ := hg
    obtain ⟨its, rv, p, hz⟩ := I.tuple hq
    have p : s.heap.IsTuple a its.toArray := p
    obtain ⟨f0, f1, f2, f3, f4, f5⟩ := hf it (by simp)
    have hl := rv.length
    have hai : a ≠ it := fun z => by
      obtain ⟨o, ho, hc2, _⟩ := p
      obtain ⟨o2, ho2, hc3, _⟩ := id hit
      rw [z, ho2] at ho
      have h3 := Option.some.inj ho
      rw [← h3, hc3] at hc2
      injection hc2 with h4
      exact absurd h4 (by decide)
    have hT : s.TypeIs (.ref e) "enumerate" := ⟨_, he, rfl⟩
    unfold pyNext
    refine wpAny_bind (wpAny_attempt (wpAny_callSpecial?_slot (name := Str.ofString "__next__") hT PySem.F.slot_enumerate_next
      (wpAny_call_entry PySem.F.slot_enumerate_next hT PySem.F.entry_enumerate_next ?_ (PySem.F.args_enumerate_next_1 _))))
    show wpAny _ _ (field (.ref e) 2 >>= _) _ _ _
    refine wpAny_bind (wpAny_field he rfl (x := .ref it) rfl ?_)
    refine wpAny_bind (wpAny_nextOf_tuple_end (show X.A.in1.handled = none from I.ok.hd hc) hit p (by simp; omega) fun h' x he' hx' => ?_)
    obtain ⟨o, ho, hc⟩ := hx'
    refine wpAny_bind (wpAny_isInstance (T := "StopIteration") (b := true) ⟨o, ho, hc⟩ isSubtype_stop ?_)
    exact wpAny_pure ⟨rfl, I.turned (t' := s.toks) (fun b o hb q => he' b o hb q) f0 f1 f3 f4 f5⟩
  self := fun A i s Q E st h => let ⟨⟨_, he⟩, _⟩ := st; wpAny_pyIter_enum he h
end L2

-- D1
set_option linter.all false
set_option maxRecDepth 100000
set_option maxHeartbeats 4000000
/-! D1: shapes of syntax, where the rules ask for them. -/
namespace ML
open PySem PySem.Spec PyProof.Rows L2
def noStar : Expr → Bool
  | .Starred .. => false
  | _ => true
theorem star1 {e : Expr} {es : List Expr} {env : Env} (h : noStar e = true) : starEach (e :: es) env = (false, eval e env) :: starEach es env := by
  cases e <;> first | rfl | cases h
theorem stars_none {pos : Pos} {env : Env} : ∀ {es : List Expr}, es.all noStar = true → (backTo pos (starEach es env)).any (·.1) = false
  | [], _ => rfl
  | e :: es, h => by
    rw [List.all_cons, Bool.and_eq_true] at h
    rw [star1 h.1]
    show (false || (backTo pos (starEach es env)).any (·.1)) = false
    rw [stars_none h.2]; rfl
theorem asg1 {e : Expr} {es : List Expr} {env : Env} (h : noStar e = true) : assignEach (e :: es) env = (false, assign e env) :: assignEach es env := by
  cases e <;> first | rfl | cases h
theorem asg_len {env : Env} : ∀ {es : List Expr}, es.all noStar = true → (assignEach es env).length = es.length
  | [], _ => rfl
  | e :: es, h => by
    rw [List.all_cons, Bool.and_eq_true] at h
    rw [asg1 h.1, List.length_cons, List.length_cons, asg_len h.2]
theorem asg_none {env : Env} : ∀ {es : List Expr}, es.all noStar = true → (assignEach es env).findIdx? (·.1) = none
  | [], _ => rfl
  | e :: es, h => by
    rw [List.all_cons, Bool.and_eq_true] at h
    rw [asg1 h.1, List.findIdx?_cons, asg_none h.2]; rfl
def noComp : Expr → Bool
  | .ListComp .. => false
  | .SetComp .. => false
  | .DictComp .. => false
  | _ => true
theorem swaps_no {e : Expr} {t : Option Expr} {l : Nat} {env : Env} (h : noComp e = true) : swapsWith e t l env = pure false := by
  cases e <;> first | rfl | cases h
theorem swapsS_no {e t : Expr} {l : Nat} {env : Env} (h : noComp e = true) : swapsWithSole [t] e l env = pure false := swaps_no (t := some t) h
def noSet : Expr → Bool
  | .Set .. => false
  | _ => true
theorem folded_no {e : Expr} {env : Env} (h : noSet e = true) : ∀ x, foldedSetIterable e env x = pure x := by
  intro x
  cases e <;> first | rfl | cases h
def noMarks : Expr → Bool
  | .Set .. => false
  | _ => true
theorem marks_no {op : CmpOp} {e : Expr} (h : noSet e = true) : behindInMarks op e = false := by
  cases e <;> first | rfl | cases h
theorem marks2_no {op op' : CmpOp} {b c : Expr} (h : noSet c = true) : lastMarks [op, op'] [b, c] = false := by
  show behindInMarks op' c = false
  exact marks_no h
def plainT : Expr → Bool
  | .UnaryOp .Not _ _ => false
  | .BoolOp .. => false
  | .IfExp .. => false
  | .Compare .. => false
  | _ => true
theorem test_plain {e : Expr} {env : Env} (h : plainT e = true) : ∀ whole, isTrue e env whole = (do let v ← whole; standAt e.pos; holding [v] (truthy v)) := by
  intro whole
  cases e with
  | UnaryOp op x p => cases op <;> first | rfl | cases h
  | _ => first | rfl | cases h
def noCall : Expr → Bool
  | .Call (.Name _ _) [] [] _ => false
  | _ => true
theorem base_plain {e : Expr} {a : Str} {env : Env} (h : noCall e = true) : attributeBase e a env (eval e env) = eval e env := by
  cases e with
  | Call f xs ks p =>
    cases xs with
    | cons x xs => cases f <;> rfl
    | nil =>
      cases ks with
      | cons k ks => cases f <;> rfl
      | nil => cases f <;> first | rfl | cases h
  | _ => rfl
def noTup : Expr → Bool
  | .Tuple .. => false
  | .List .. => false
  | _ => true
theorem stores_no {e t : Expr} {env : Env} (h : noTup e = true) : swappedStores [t] e env = pure none := by
  cases e <;> first | (cases t <;> rfl) | cases h
theorem plainIx {e : Expr} (h : (match e with | .Slice .. => false | _ => true) = true) : PlainIx e := by
  cases e <;> first | (exact fun _ _ => rfl) | cases h
def nd (x : Str) : Bool := !(decide (x.cps[0]? = some 95) && decide (x.cps[1]? = some 95))
theorem nd_ne {x y : Str} (h : nd x = true) (hy : nd y = false) : x ≠ y := fun e => by
  rw [e, hy] at h; cases h
theorem nd_dbg {x : Str} (h : nd x = true) : (x == ("__debug__" : Str)) = false := beq_eq_false_iff_ne.mpr (nd_ne h (by decide +kernel))
theorem nd_cd {x : Str} (h : nd x = true) : (x == ("__classdict__" : Str)) = false := beq_eq_false_iff_ne.mpr (nd_ne h (by decide +kernel))
theorem nd_nm {x : Str} (h : nd x = true) : x ≠ "__name__" := nd_ne h (by decide +kernel)
def visB (sc : Scope) (x : Str) : Bool := match sc.names.lookup x with
  | some .local => true
  | some .cell => true
  | some .free => true
  | _ => false
def locB (sc : Scope) (top : Str → Bool) (x : Str) : Bool := match sc.names.lookup x with
  | some .local => true
  | some .cell => top x
  | _ => false
def glB (sc : Scope) (x : Str) : Bool := match sc.names.lookup x with
  | some .globalImplicit => true
  | _ => false
theorem vis_ok {sc : Scope} {x : Str} (h : visB sc x = true) : Vis sc x := by
  unfold visB at h
  split at h <;> first | exact .inl (by assumption) | exact .inr (.inl (by assumption)) | exact .inr (.inr (by assumption)) | cases h
theorem loc_ok {sc : Scope} {top : Str → Bool} {x : Str} (h : locB sc top x = true) : Loc sc x := by
  unfold locB at h
  split at h <;> first | exact .inl (by assumption) | exact .inr (by assumption) | cases h
theorem loc_or {sc : Scope} {top : Str → Bool} {x : Str} (h : locB sc top x = true) : top x = true ∨ sc.names.lookup x = some .local := by
  unfold locB at h
  split at h <;> first | exact .inr (by assumption) | exact .inl h | cases h
theorem gl_ok {sc : Scope} {x : Str} (h : glB sc x = true) : sc.names.lookup x = some .globalImplicit := by
  unfold glB at h
  split at h <;> first | assumption | cases h
/-- what a comprehension that is assigned is -/
def swB (sc scope : Scope) (y : Str) (a b : Nat) : Bool := (if sc.kind.isAnnotationScope then .function else sc.kind) == .function && sc.names.lookup y == some .local && a == b && !(scope.names.any fun (n, k) => n == y && (k == .local || k == .cell))
theorem sw_eq {elt : Expr} {gs : List Comprehension} {scope : Scope} {pos py : Pos} {y : Str} {l : Nat} {env : Env} : swapsWith (.ListComp elt gs scope pos) (some (.Name y py)) l env = pure (swB env.scope scope y py.line pos.line) := rfl
end ML

-- D1b
set_option linter.all false
set_option maxRecDepth 100000
set_option maxHeartbeats 4000000
/-! D1b: more of the language: tuples times numbers, dicts of the written part, isinstance, pop, extend, stores by index. -/
namespace ML
open PySem PySem.Spec PyProof.Rows L2
/-! ### times -/
def fMulA : F2 := fun a b st => match tupOf a, intOf b with
  | some x, some k => if -(2 ^ 20) < k ∧ k ≤ 1000 ∧ x.length ≤ 1000 then .ok (.tup (repM k x)) st else .stuck
  | _, _ => fMul a b st
section
variable {X : Cx} {W : WX} {K : PySem.W.Frag}
abbrev rMuA (K : PySem.W.Frag) : R2 := fun x y H Q => rMu x y H Q ∨ rRepU K x y H Q
theorem o_mulA : OpR X (binaryOp .Mult) (rMuA X.K) := OpR.or o_mul op_repU
theorem m_mulA : OpM K W (rMuA K) fMulA := by
  intro σ mp H st d e u v Q s ru rv h
  unfold fMulA at h
  split at h
  · rename_i x k h1 h2
    split at h
    · rename_i c
      obtain ⟨a, xs, e1, q, r⟩ := tupOf_rep ru h1
      obtain rfl := tupOf_eq h1
      obtain rfl := intOf_eq h2
      refine .inr ⟨a, k, xs, e1, rep_int rv, q, by omega, c.2.1, by rw [← repvs_len r]; exact c.2.2, fun z => ?_, fun z1 z2 p np => h.outT s (repvs_rep _ r) np⟩
      have e2 : repM k x = x := by
        rcases z with z | z
        · have : x = [] := (repvs_empty r).mpr z
          subst this
          unfold repM
          simp
        · subst z
          unfold repM
          simp
      rw [e2] at h
      exact h.out s (by rw [← e1]; exact ru)
    · exact h.elim
  · exact .inl (m_mul σ mp H st d e u v Q s ru rv h)
end
/-! ### isinstance with a built-in type -/
def tyM (st : Store) : Val → Option String
  | .non => some "NoneType"
  | .bl _ => some "bool"
  | .int _ => some "int"
  | .str _ => some "str"
  | .tup _ => some "tuple"
  | .lst _ => some "list"
  | .fzl _ => some "list"
  | .brw _ => some "list"
  | .dct _ => some "dict"
  | .ref n => (match st[n]? with
    | some (.lst _) => some "list"
    | some (.dct _) => some "dict"
    | _ => none)
  | _ => none
def isT (a b : String) : Option Bool := match a, b with
  | "NoneType", "bool" => some false
  | "bool", "bool" => some true
  | "int", "bool" => some false
  | "str", "bool" => some false
  | "tuple", "bool" => some false
  | "list", "bool" => some false
  | "dict", "bool" => some false
  | "NoneType", "str" => some false
  | "bool", "str" => some false
  | "int", "str" => some false
  | "str", "str" => some true
  | "tuple", "str" => some false
  | "list", "str" => some false
  | "dict", "str" => some false
  | "NoneType", "tuple" => some false
  | "bool", "tuple" => some false
  | "int", "tuple" => some false
  | "str", "tuple" => some false
  | "tuple", "tuple" => some true
  | "list", "tuple" => some false
  | "dict", "tuple" => some false
  | "NoneType", "int" => some false
  | "bool", "int" => some true
  | "int", "int" => some true
  | "str", "int" => some false
  | "tuple", "int" => some false
  | "list", "int" => some false
  | "dict", "int" => some false
  | "NoneType", "list" => some false
  | "bool", "list" => some false
  | "int", "list" => some false
  | "str", "list" => some false
  | "tuple", "list" => some false
  | "list", "list" => some true
  | "dict", "list" => some false
  | _, _ => none
theorem isT_ok {a b : String} {r : Bool} (h : isT a b = some r) : kitB a b = some r := by
  unfold isT at h
  split at h <;> first | (obtain rfl := Option.some.inj h; decide +kernel) | cases h
theorem tyM_ok {K : PySem.W.Frag} {mp : Mp} {H : Hp} {st : Store} (s : RelS K mp H st) {d : Val} {u : V} {t : String} (r : RepV K mp H d u) (h : tyM st d = some t) : TyX K H u (.type t) := by
  have lst : ∀ {ds : List Val}, listOf st d = some ds → TyX K H u (.type "list") := fun {ds} e => by
    obtain ⟨a, xs, rfl, q, _⟩ := listOf_rep s r e
    rcases q with (q | ⟨o, q⟩) | ⟨o, its, n, k, c, _⟩
    · exact .base (.lst q)
    · exact .base (.frz q)
    · exact .kList k c
  cases d with
  | non =>
    obtain rfl : u = .non := by simpa [RepV] using r
    obtain rfl := Option.some.inj h
    exact .base .non
  | bl b =>
    obtain rfl := rep_bl r
    obtain rfl := Option.some.inj h
    exact .base (.bl b)
  | int b =>
    obtain rfl := rep_int r
    obtain rfl := Option.some.inj h
    exact .base (.int b)
  | str b =>
    obtain rfl := rep_str r
    obtain rfl := Option.some.inj h
    exact .base (.str b)
  | tup xs =>
    obtain rfl := Option.some.inj h
    obtain ⟨a, ys, rfl, q, _⟩ := tupOf_rep (ds := xs) r rfl
    rcases q with (q | ⟨o, q⟩) | ⟨o, its, n, k, c, _⟩
    · exact .base (.tup q)
    · exact .fTuple q
    · exact .kTuple k c
  | lst xs =>
    obtain rfl := Option.some.inj h
    exact lst (ds := xs) rfl
  | fzl xs =>
    obtain rfl := Option.some.inj h
    exact lst (ds := xs) rfl
  | brw xs =>
    obtain rfl := Option.some.inj h
    exact lst (ds := xs) rfl
  | dct xs =>
    obtain rfl := Option.some.inj h
    obtain ⟨a, ys, rfl, q, _⟩ := dct_rep (kvs := xs) s r rfl
    rcases q with q | ⟨o, q⟩
    · exact .base (.dK q)
    · exact .fDict q
  | ref n =>
    unfold tyM at h
    simp only at h
    split at h
    · rename_i xs e
      obtain rfl := Option.some.inj h
      exact lst (ds := xs) (listOf_ref e)
    · rename_i xs e
      obtain rfl := Option.some.inj h
      have e2 : dctOf st (.ref n) = some xs := by
        unfold dctOf
        simp only [e]
      obtain ⟨a, ys, rfl, q, _⟩ := dct_rep (kvs := xs) s r e2
      rcases q with q | ⟨o, q⟩
      · exact .base (.dK q)
      · exact .fDict q
    · cases h
  | _ => cases h
def mIsI (t : String) (m : MEnv → Store → R Val) (env : MEnv) (st : Store) : R Val := (m env st).bind fun d st => match tyM st d with
  | some a => (match isT a t with
    | some b => .ok (.bl b) st
    | none => .stuck)
  | none => .stuck
section
variable {X : Cx} {W : WX} {pos p p2 : Pos} {e o a b : Expr} {ma mb mc : MEnv → Store → R Val}
theorem me_isI {t : String} {tn : Str} (hb : bootBuiltins tn = some (.type t)) (hg : Gl X "isinstance") (hm : X.mg "isinstance" = none) (hgt : Gl X tn) (hmt : X.mg tn = none) (hn : nd tn = true) (ha : ME X W e ma) (hs : noStar e = true) : ME X W (.Call (.Name "isinstance" p) [e, .Name tn p2] [] pos) (mIsI t ma) := by
  obtain ⟨ta, pa, ha⟩ := ha.ex
  refine ⟨⟨_, pe_callB call_isi hg hm (by decide +kernel) (pa_cons pa (pa_cons (pe_bltn (v := .ty t) hgt hmt hb rfl (nd_nm hn) (nd_dbg hn)) pa_nil) (star1 hs)) (by decide) (by decide) (star1 hs) (by rfl), fun σ H Q mp env st rs re hp => ?_⟩⟩
  refine ha σ H _ mp env st rs re (Post.of_bind hp fun mp1 H1 d st1 u _ l s r q => ?_)
  split at q
  · rename_i a h1
    split at q
    · rename_i k h2
      exact ⟨u, .ty t, .type a, .type t, k, rfl, .ty t, tyM_ok s r h1, kit_ty (isT_ok h2), q.out s (rep_b ..)⟩
    · exact q.elim
  · exact q.elim
/-! ### pop, extend -/
def fPop (d : Val) (ds : List Val) (st : Store) : R Val := match refOf d, ds with
  | some n, [] => (match liveAt st n with
    | some xs => (match xs[xs.length - 1]? with
      | some x => .ok x (st.set n (.lst xs.dropLast))
      | none => .stuck)
    | none => .stuck)
  | _, _ => .stuck
theorem repvs_dropLast {K : PySem.W.Frag} {mp : Mp} {H : Hp} {ds : List Val} {xs : List V} (h : RepVs K mp H ds xs) : RepVs K mp H ds.dropLast xs.dropLast := by
  rw [List.dropLast_eq_take, List.dropLast_eq_take, repvs_len h]
  exact repvs_take _ h
theorem m_pop {K : PySem.W.Frag} : MethM K W rPop fPop := by
  intro σ mp H st d u ds us Q s rd rs q
  unfold fPop at q
  split at q
  · rename_i n h1
    obtain rfl := refOf_eq h1
    obtain rfl := repvs_nil.mp rs
    split at q
    · rename_i xs hx
      split at q
      · rename_i x h2
        obtain ⟨a, ys, rfl, ha, hH, rr⟩ := ref_at s rd hx
        obtain ⟨v, e1, r1⟩ := repvs_get rr h2
        refine ⟨a, ys, v, rfl, rfl, hH, by rw [← repvs_len rr]; exact e1, ?_⟩
        obtain ⟨l, s2⟩ := s.change (o := .lst xs.dropLast) (u := .lst ys.dropLast) ha hH fun {H'} l e => ⟨_, e, repvs_dropLast (l.reps rr)⟩
        exact q mp _ _ l s2 (l.rep r1)
      · exact q.elim
    · exact q.elim
  · exact q.elim
theorem me_pop (ho : ME X W o ma) (hb : noCall o = true) {apos : Pos} (hline : (apos.endLine == pos.line) = true) : ME X W (.Call (.Attribute o "pop" apos) [] [] pos) (mMeth fPop ma mNil) := by
  obtain ⟨to, po, ho⟩ := ho.ex
  refine ⟨⟨_, pe_bm0 PySem.F.plainAttrs_list PySem.F.slot_list_pop PySem.F.type_list_pop mt_pop po (base_plain hb) hline, fun σ H Q mp env st rs re hp => ?_⟩⟩
  refine ho σ H _ mp env st rs re (Post.of_bind hp fun mp1 H1 d st1 u _ l s rr q => ?_)
  split at q
  · rename_i ds0 hl0
    obtain ⟨a, xs, e1, sq, _⟩ := listOf_rep s rr hl0
    refine ⟨by rw [e1]; exact .inl ⟨rfl, xs, sq⟩, ?_⟩
    exact m_pop σ mp1 H1 st1 d u [] [] Q s rr (repvs_nil.mpr rfl) q
  · exact q.elim
def fExtend (d : Val) (ds : List Val) (st : Store) : R Val := match refOf d, ds with
  | some n, [x] => (match liveAt st n, listT st x with
    | some xs, some ys => if xs.length + ys.length ≤ line then .ok .non (st.set n (.lst (xs ++ ys))) else .stuck
    | _, _ => .stuck)
  | _, _ => .stuck
theorem m_extend {K : PySem.W.Frag} : MethM K W rExtend fExtend := by
  intro σ mp H st d u ds us Q s rd rs q
  unfold fExtend at q
  split at q
  · rename_i n x h1
    obtain rfl := refOf_eq h1
    obtain ⟨v, vs, rfl, r1, r2⟩ := repvs_cons.mp rs
    obtain rfl := repvs_nil.mp r2
    split at q
    · rename_i xs ys hx hy
      split at q
      · rename_i c
        obtain ⟨a, zs, rfl, ha, hH, rr⟩ := ref_at s rd hx
        obtain ⟨b, ws, rfl, hB, rb⟩ := listT_rep s r1 hy
        refine ⟨a, b, zs, ws, rfl, rfl, hH, hB, by rw [line_eq, ← repvs_len rr, ← repvs_len rb]; exact c, ?_⟩
        obtain ⟨l, s2⟩ := s.change (o := .lst (xs ++ ys)) (u := .lst (zs ++ ws)) ha hH fun {H'} l e => ⟨_, e, repvs_append (l.reps rr) (l.reps rb)⟩
        exact q mp _ _ l s2 (by simp [RepV])
      · exact q.elim
    · exact q.elim
  · exact q.elim
theorem few1 {e : Expr} {cpos : Pos} {env : Env} (h : noStar e = true) : ((backTo cpos (starEach [e] env)).all (fun x => !x.1) && (backToKw cpos (keywordEach [] env)).all (fun x => x.1.isSome)
      && decide ([e].length + ([] : List Keyword).length + (if ([] : List Keyword).isEmpty then 0 else 1) < 30)) = true := by
  rw [star1 h]; rfl
theorem me_ext (ho : ME X W o ma) (ha : ME X W e mb) (hb : noCall o = true) (hs : noStar e = true) {apos : Pos} (hline : (apos.endLine == pos.line) = true) : ME X W (.Call (.Attribute o "extend" apos) [e] [] pos) (mMeth fExtend ma (mCons mb mNil)) :=
  me_bmL PySem.F.slot_list_extend PySem.F.type_list_extend mt_extend m_extend ho (ma_cons ha ma_nil (star1 hs)) (base_plain hb) (few1 hs) hline (star1 hs) (by rfl)
theorem me_app (ho : ME X W o ma) (ha : ME X W e mb) (hb : noCall o = true) (hs : noStar e = true) {apos : Pos} (hline : (apos.endLine == pos.line) = true) : ME X W (.Call (.Attribute o "append" apos) [e] [] pos) (mMeth fAppend ma (mCons mb mNil)) :=
  me_bmL PySem.F.slot_list_append PySem.F.type_list_append mt_append m_append ho (ma_cons ha ma_nil (star1 hs)) (base_plain hb) (few1 hs) hline (star1 hs) (by rfl)
/-! ### o[i] = v -/
def setM (o i v : Val) (st : Store) : Option Store := match refOf o with
  | some n => (match st[n]? with
    | some (.lst xs) => (match intOf i with
      | some k => (match ixN xs.length k with
        | some j => some (st.set n (.lst (xs.set j v)))
        | none => none)
      | none => none)
    | some (.dct kvs) => (match keyOf i with
      | some k => if kvs.length < line then some (st.set n (.dct (putM kvs k v))) else none
      | none => none)
    | _ => none)
  | none => none
def sPut (mo mk mv : MEnv → Store → R Val) : MM := fun env st => (mv env st).bindS env fun d st => (mo env st).bindS env fun o st => (mk env st).bindS env fun k st => match setM o k d st with
  | some st => .nx env st
  | none => .stuck
theorem set_any (hu : X.A.units + 1 < cLine) : PSet X (fun o i v H Q => rSetL o i v H Q ∨ rSetD o i v H Q) := by
  intro pins s σ H o i v ov iv u Q I ro ri rv h
  rcases h with h | h
  · exact set_list pins s σ H o i v ov iv u Q I ro ri rv h
  · exact set_dict hu pins s σ H o i v ov iv u Q I ro ri rv h
end
end ML

-- D1c
set_option linter.all false
set_option maxRecDepth 100000
set_option maxHeartbeats 4000000
namespace ML
open PySem PySem.Spec PyProof.Rows L2
def noSlice : Expr → Bool
  | .Slice .. => false
  | _ => true
theorem asgSub {o i : Expr} {pos : Pos} {env : Env} (h : noSlice i = true) : ∀ v, assign (.Subscript o i pos) env v = (do
      let ov ← holding [v] (eval o env)
      let iv ← holding [v, ov] (eval i env)
      standAt pos
      holding [v, ov, iv] (setItem ov iv v)
      release [v, ov, iv] []) := by
  intro v
  cases i <;> first | rfl | cases h
theorem ix_plain {e : Expr} (h : noSlice e = true) : PlainIx e := by
  cases e <;> first | (exact fun _ _ => rfl) | cases h
section
variable {X : Cx} {W : WX} {pos p p2 : Pos} {e o a b : Expr} {ma mb mc : MEnv → Store → R Val}
theorem stores_sub {o a b : Expr} {p : Pos} {env : Env} : swappedStores [.Subscript o a p] b env = pure none := by
  cases b <;> rfl
theorem ms_put (hu : X.A.units + 1 < cLine) (ho : ME X W o ma) (hk : ME X W a mb) (hv : ME X W b mc) (hi : noSlice a = true) (hs : noComp b = true) : MS X W (.Assign [.Subscript o a p2] b pos) (sPut ma mb mc) := by
  obtain ⟨to, po, ho⟩ := ho.ex
  obtain ⟨tk, pk, hk⟩ := hk.ex
  obtain ⟨tv, pv, hv⟩ := hv.ex
  refine ⟨⟨_, ps_asg pv (pg_sub po pk (set_any hu) (asgSub hi)) (swapsS_no hs) stores_sub, fun D σ H mp env st rs re hp => ?_⟩⟩
  refine hv σ H _ mp env st rs re (PostS.of_bind re hp fun mp1 H1 d st1 u e l s r re1 q => ?_)
  refine ho σ H1 _ mp1 env st1 s re1 (PostS.of_bind re1 q fun mp2 H2 x st2 v e2 l2 s2 r2 re2 q2 => ?_)
  refine hk σ H2 _ mp2 env st2 s2 re2 (PostS.of_bind re2 q2 fun mp3 H3 y st3 w e3 l3 s3 r3 re3 q3 => ?_)
  split at q3
  · rename_i st4 hm
    unfold setM at hm
    split at hm
    · rename_i n h1
      obtain rfl := refOf_eq h1
      have rx := l3.rep r2
      unfold RepV at rx
      obtain ⟨ad, ea, hown⟩ := rx
      have rd := l3.rep (l2.rep r)
      split at hm
      · rename_i xs hst
        split at hm
        · rename_i k hk2
          obtain rfl := intOf_eq hk2
          split at hm
          · rename_i j hj
            obtain rfl := Option.some.inj hm
            obtain ⟨ys, e5, e6⟩ := s3.obj n ad _ hown hst
            obtain ⟨l4, s4⟩ := s3.change (o := .lst (xs.set j d)) (u := .lst (ys.set j u)) hown e5 fun {H'} l e => ⟨_, e, repvs_set j (l.reps e6) (l.rep rd)⟩
            exact .inl ⟨ad, ys, k, j, ea, rep_int r3, e5, by rw [← repvs_len e6]; exact hj, q3 mp3 _ σ l4 s4 (l4.relE re3)⟩
          · cases hm
        · cases hm
      · rename_i kvs hst
        split at hm
        · rename_i k hk2
          obtain rfl := key_rep r3 hk2
          split at hm
          · rename_i c
            obtain rfl := Option.some.inj hm
            obtain ⟨xs, e5, e6⟩ := s3.obj n ad _ hown hst
            obtain ⟨l4, s4⟩ := s3.change (o := .dct (putM kvs k d)) (u := .dK (putK xs k u)) hown e5 fun {H'} l e => ⟨_, e, put_rep (l.repk e6) (l.rep rd)⟩
            exact .inr ⟨ad, _, ea, .inl ⟨xs, k, e5, rfl, by rw [line_eq, ← repk_len e6]; exact c, rfl⟩, q3 mp3 _ σ l4 s4 (l4.relE re3)⟩
          · cases hm
        · cases hm
      · cases hm
    · cases hm
  · exact q3.elim
end
/-! ### dicts of the written part: keys that are numbers and texts -/
/-- what is read of such a dict in every heap that has the written part -/
structure KTab (P : Program) (w : World) (K : PySem.W.Frag) (a : Addr) (tab : List (Key × Val)) (f : Key → Option Value) : Prop where
  sys : (a == sysModules) = false
  map : ∀ h : Heap, K.In h → h.MapOf (mixKind P w) a f
  some : ∀ k d, lookM tab k = some d → ∃ u v, f k = some u ∧ RelV v u ∧ ∀ mp H, RepV K mp H d v
  none : ∀ k, lookM tab k = none → f k = none
def mTabK (tab : List (Key × Val)) (m : MEnv → Store → R Val) (env : MEnv) (st : Store) : R Val := (m env st).bind fun d st => match keyOf d with
  | some k => (match lookM tab k with
    | some d => .ok d st
    | none => .stuck)
  | none => .stuck
def mTabIn (neg : Bool) (tab : List (Key × Val)) (m : MEnv → Store → R Val) (env : MEnv) (st : Store) : R Val := (m env st).bind fun d st => match keyOf d with
  | some k => .ok (.bl (if neg then !(lookM tab k).isSome else (lookM tab k).isSome)) st
  | none => .stuck
def mTabGet (tab : List (Key × Val)) (m n : MEnv → Store → R Val) (env : MEnv) (st : Store) : R Val := (m env st).bind fun d st => (n env st).bind fun z st => match keyOf d with
  | some k => (match lookM tab k with
    | some d => .ok d st
    | none => .ok z st)
  | none => .stuck
theorem kV_val {k : Key} {u : Value} (h : RelV (kV k) u) : keyIs k u = true := by
  cases k with
  | inl i =>
    obtain ⟨t, rfl⟩ := h
    exact keyIs_int i t
  | inr x =>
    obtain ⟨t, rfl⟩ := h
    exact keyIs_str x t
section
variable {X : Cx} {W : WX} {pos p p2 : Pos} {e o a b c : Expr} {ma mb mc : MEnv → Store → R Val} {x : Str} {ad : Addr} {tab : List (Key × Val)} {f : Key → Option Value}
abbrev rTab (f : Key → Option Value) (ad : Addr) : R2 := fun x y H Q => ∃ k u v, x = V.ref ad ∧ y = kV k ∧ f k = some u ∧ RelV v u ∧ Q v H
theorem ix_tab (T : KTab X.prog X.w X.K ad tab f) : IxR X (rTab f ad) := by
  intro value slice pins s σ H x y v u Q I rx ry h hs
  obtain ⟨k, u0, r, rfl, rfl, e, ru, q⟩ := h
  obtain rfl : v = Value.ref ad := rx
  have hm := T.map s.heap I.kIn
  exact tail_any hm.typeIs PySem.F.slot_dict_getitem.lookup (wpAny_getItem_of (kV_val ry) hm e ⟨r, H, I.tok _, ru, q⟩) hs
theorem me_tabK (T : KTab X.prog X.w X.K ad tab f) (hg : Gl X x) (hm : X.mg x = some (.ref ad)) (hb : ME X W b mb) (hs : noSlice b = true) (hd : nd x = true) : ME X W (.Subscript (.Name x p) b pos) (mTabK tab mb) := by
  obtain ⟨t, pb, h⟩ := hb.ex
  refine ⟨⟨_, pe_ix (ix_tab T) (pe_glob (v := .ref ad) hg hm rfl (nd_dbg hd)) pb (ix_plain hs), fun σ H Q mp env st rs re hp => ?_⟩⟩
  refine h σ H _ mp env st rs re (Post.of_bind hp fun mp1 H1 d st1 u _ l s rr q => ?_)
  split at q
  · rename_i k h1
    obtain rfl := key_rep rr h1
    split at q
    · rename_i d' h2
      obtain ⟨u, v, e1, e2, e3⟩ := T.some k d' h2
      exact ⟨k, u, v, rfl, rfl, e1, e2, q.out s (e3 _ _)⟩
    · exact q.elim
  · exact q.elim
theorem tab_isSome (T : KTab X.prog X.w X.K ad tab f) (k : Key) : (f k).isSome = (lookM tab k).isSome := by
  cases e : lookM tab k with
  | none => rw [T.none k e]; rfl
  | some d =>
    obtain ⟨u, v, e1, _⟩ := T.some k d e
    rw [e1]; rfl
abbrev rTabIn (f : Key → Option Value) (ad : Addr) (neg : Bool) : R2 := fun x y H Q => ∃ k, x = kV k ∧ y = V.ref ad ∧ Q (.bl (if neg then !(f k).isSome else (f k).isSome)) H
theorem op_tabIn (T : KTab X.prog X.w X.K ad tab f) : OpR X (compareOp .In) (rTabIn f ad false) := by
  intro pins s σ H x y v u Q I rx ry h
  obtain ⟨k, rfl, rfl, q⟩ := h
  obtain rfl : u = Value.ref ad := ry
  exact wpAny_in_of (kV_val rx) T.sys (T.map s.heap I.kIn) ⟨.bl _, H, I.tok _, rfl, q⟩
theorem op_tabNotIn (T : KTab X.prog X.w X.K ad tab f) : OpR X (compareOp .NotIn) (rTabIn f ad true) := by
  intro pins s σ H x y v u Q I rx ry h
  obtain ⟨k, rfl, rfl, q⟩ := h
  obtain rfl : u = Value.ref ad := ry
  exact wpAny_notIn_of (kV_val rx) T.sys (T.map s.heap I.kIn) ⟨.bl _, H, I.tok _, rfl, q⟩
theorem tabIn_rd {K : PySem.W.Frag} {mp : Mp} {H : Hp} {st : Store} {d : Val} {u : V} {neg : Bool} {σ : L2.St} {Q : VK} {P : Program} {w : World} (T : KTab P w K ad tab f) (s : RelS K mp H st) (ru : RepV K mp H d u)
    (h : Post K W σ (RV K) mp H (match keyOf d with
      | some k => (.ok (.bl (if neg then !(lookM tab k).isSome else (lookM tab k).isSome)) st : R Val)
      | none => .stuck) Q) : rTabIn f ad neg u (.ref ad) H Q := by
  split at h
  · rename_i k h1
    obtain rfl := key_rep ru h1
    have e : (f k).isSome = (lookM tab k).isSome := by
      cases e : lookM tab k with
      | none => rw [T.none k e]; rfl
      | some d =>
        obtain ⟨u, v, e1, _⟩ := T.some k d e
        rw [e1]; rfl
    exact ⟨k, rfl, rfl, by rw [e]; exact h.out s (rep_b ..)⟩
  · exact h.elim
theorem me_tabIn (T : KTab X.prog X.w X.K ad tab f) (hg : Gl X x) (hm : X.mg x = some (.ref ad)) (ha : ME X W a ma) (hd : nd x = true) : ME X W (.Compare a [.In] [.Name x p] pos) (mTabIn false tab ma) := by
  obtain ⟨t, pa, h⟩ := ha.ex
  refine ⟨⟨_, pe_cmpR (op_tabIn T) pa (pe_glob (v := .ref ad) hg hm rfl (nd_dbg hd)) rfl, fun σ H Q mp env st rs re hp => ?_⟩⟩
  exact h σ H _ mp env st rs re (Post.of_bind hp fun mp1 H1 d st1 u _ l s rr q => tabIn_rd T s rr q)
theorem me_tabNotIn (T : KTab X.prog X.w X.K ad tab f) (hg : Gl X x) (hm : X.mg x = some (.ref ad)) (ha : ME X W a ma) (hd : nd x = true) : ME X W (.Compare a [.NotIn] [.Name x p] pos) (mTabIn true tab ma) := by
  obtain ⟨t, pa, h⟩ := ha.ex
  refine ⟨⟨_, pe_cmpR (op_tabNotIn T) pa (pe_glob (v := .ref ad) hg hm rfl (nd_dbg hd)) rfl, fun σ H Q mp env st rs re hp => ?_⟩⟩
  exact h σ H _ mp env st rs re (Post.of_bind hp fun mp1 H1 d st1 u _ l s rr q => tabIn_rd T s rr q)
theorem mt_tabIn (T : KTab X.prog X.w X.K ad tab f) (hg : Gl X x) (hm : X.mg x = some (.ref ad)) (ha : ME X W a ma) (hd : nd x = true) : MT X W (.Compare a [.In] [.Name x p] pos) (mTest (mTabIn false tab ma)) := by
  obtain ⟨t, pa, h⟩ := ha.ex
  refine ⟨⟨_, pt_cmpR (op_tabIn T) pa (pe_glob (v := .ref ad) hg hm rfl (nd_dbg hd)) rfl, fun σ H Q mp env st rs re hp => ?_⟩⟩
  exact h σ H _ mp env st rs re (Post.of_bind (Post.test hp) fun mp1 H1 d st1 u _ l s rr q => tabIn_rd T s rr q)
theorem mt_tabNotIn (T : KTab X.prog X.w X.K ad tab f) (hg : Gl X x) (hm : X.mg x = some (.ref ad)) (ha : ME X W a ma) (hd : nd x = true) : MT X W (.Compare a [.NotIn] [.Name x p] pos) (mTest (mTabIn true tab ma)) := by
  obtain ⟨t, pa, h⟩ := ha.ex
  refine ⟨⟨_, pt_cmpR (op_tabNotIn T) pa (pe_glob (v := .ref ad) hg hm rfl (nd_dbg hd)) rfl, fun σ H Q mp env st rs re hp => ?_⟩⟩
  exact h σ H _ mp env st rs re (Post.of_bind (Post.test hp) fun mp1 H1 d st1 u _ l s rr q => tabIn_rd T s rr q)
/-- D.get(a, b) -/
theorem few2 {e e2 : Expr} {cpos : Pos} {env : Env} (h : noStar e = true) (h2 : noStar e2 = true) : ((backTo cpos (starEach [e, e2] env)).all (fun x => !x.1) && (backToKw cpos (keywordEach [] env)).all (fun x => x.1.isSome)
      && decide ([e, e2].length + ([] : List Keyword).length + (if ([] : List Keyword).isEmpty then 0 else 1) < 30)) = true := by
  rw [star1 h, star1 h2]; rfl
theorem me_tabGet (T : KTab X.prog X.w X.K ad tab f) (hg : Gl X x) (hm : X.mg x = some (.ref ad)) (ha : ME X W a ma) (hb : ME X W b mb) (hd : nd x = true) (h1 : noStar a = true) (h2 : noStar b = true) {apos : Pos} (hline : (apos.endLine == pos.line) = true) : ME X W (.Call (.Attribute (.Name x p) "get" apos) [a, b] [] pos) (mTabGet tab ma mb) := by
  obtain ⟨t, pa, h⟩ := ha.ex
  obtain ⟨t2, pb, hb⟩ := hb.ex
  have hpe := pe_glob (X := X) (v := .ref ad) (pos := p) hg hm rfl (nd_dbg hd)
  refine ⟨⟨fun σ H Q => t σ H fun x1 H1 => t2 σ H1 fun x2 H2 => ∃ k, x1 = kV k ∧ (∀ u, f k = some u → ∃ v, RelV v u ∧ Q v H2) ∧ (f k = none → Q x2 H2), ⟨fun pins s σ H Q I hq => ?_⟩, fun σ H Q mp env st rs re hp => ?_⟩⟩
  · refine wpAny_Call_method_late (base_plain (e := .Name x p) rfl) (few2 h1 h2) hline rfl (thn (hpe.run pins s σ H (fun v H1 => v = .ref ad ∧ H1 = H) I ⟨rfl, rfl⟩) fun v s1 ⟨y, H1, I1, r1, e1, e2⟩ => ?_)
    subst e1 e2
    obtain rfl : v = Value.ref ad := r1
    have hmap := T.map s1.heap I1.kIn
    obtain ⟨o, es, ep, ho, ⟨hc, hdd, _⟩, hda, _⟩ := id hmap
    refine ⟨"dict", "dict.get", PySem.F.plainAttrs_dict, PySem.F.slot_dict_get, PySem.F.type_dict_get, hmap.typeIs, fun b e => ?_, ?_⟩
    · cases e
      exact ⟨o, ho, hdd⟩
    have hA := (pa_cons pa (pa_cons pb pa_nil (star1 h2)) (star1 h1)).run pos pins s1 σ H1 _ I1 (show tCons t (tCons t2 tNil) σ H1 (fun xs H' => ∃ x1 x2, xs = [x1, x2] ∧ ∃ k, x1 = kV k ∧ (∀ u, f k = some u → ∃ v, RelV v u ∧ Q v H') ∧ (f k = none → Q x2 H')) from ?_)
    · rw [star1 h1] at hA ⊢
      refine Calls.callWith_builtin (by show (false || (backTo pos (starEach [b] X.env)).any (·.1)) = false; rw [star1 h2]; rfl) (Calls.evalArgs_plain ?_)
      refine thn hA fun us s2 ⟨vs, H2, I2, r2, x1, x2, e, k, e1, q1, q2⟩ => ?_
      subst e e1
      obtain ⟨u1, u2, rfl, ru1, ru2⟩ := Vals.two r2
      have hmap2 := T.map s2.heap I2.kIn
      refine call_meetsIn PySem.F.slot_dict_get hmap2.typeIs PySem.F.entry_dict_get (PySem.F.args_dict_get_3 _ _ _) (meets_dict_get_default (mixKind X.prog X.w) ad (kV_val ru1) T.sys u2) ⟨f, hmap2, ?_⟩
      cases e : f k with
      | none => exact ⟨x2, H2, I2.tok _, ru2, q2 e⟩
      | some u =>
        obtain ⟨v, rv, q⟩ := q1 u e
        exact ⟨v, H2, I2.tok _, rv, q⟩
    · have : (fun (x1 : V) (H1 : Hp) => t2 σ H1 fun x2 H2 => ∃ k, x1 = kV k ∧ (∀ u, f k = some u → ∃ v, RelV v u ∧ Q v H2) ∧ (f k = none → Q x2 H2)) = fun x1 H1 => tCons t2 tNil σ H1 fun xs H2 => ∃ y1 y2, x1 :: xs = [y1, y2] ∧ ∃ k, y1 = kV k ∧ (∀ u, f k = some u → ∃ v, RelV v u ∧ Q v H2) ∧ (f k = none → Q y2 H2) := by
        funext x1 H1
        show t2 σ H1 _ = t2 σ H1 _
        congr 1
        funext x2 H2
        apply propext
        constructor
        · rintro ⟨k, a, b⟩
          exact ⟨x1, x2, rfl, k, a, b⟩
        · rintro ⟨y1, y2, e, k, a, b⟩
          injection e with e1 e2
          injection e2 with e3 e4
          subst e1 e3
          exact ⟨k, a, b⟩
      rw [this] at hq
      exact hq
  · refine h σ H _ mp env st rs re (Post.of_bind hp fun mp1 H1 d st1 u e l s r q => ?_)
    refine hb σ H1 _ mp1 env st1 s (l.relE re) (Post.of_bind q fun mp2 H2 d2 st2 v e2 l2 s2 r2 q2 => ?_)
    split at q2
    · rename_i k h1
      obtain rfl := key_rep (l2.rep r) h1
      refine ⟨k, rfl, fun u e => ?_, fun e => ?_⟩
      · split at q2
        · rename_i d' h2
          obtain ⟨u', v', e1, e3, e4⟩ := T.some k d' h2
          obtain rfl := Option.some.inj (e.symm.trans e1)
          exact ⟨v', e3, q2.out s2 (e4 _ _)⟩
        · rename_i h2
          rw [T.none k h2] at e; cases e
      · split at q2
        · rename_i d' h2
          obtain ⟨u', v', e1, e3, e4⟩ := T.some k d' h2
          rw [e] at e1; cases e1
        · exact q2.out s2 r2
    · exact q2.elim
end
end ML

-- D1d
set_option linter.all false
set_option maxRecDepth 100000
set_option maxHeartbeats 4000000
namespace ML
open PySem PySem.Spec PyProof.Rows L2
/-! ### enumerate -/
def iEnumA (K : PySem.W.Frag) (ta : TA) : TI := fun σ H R => ta σ H fun vs H1 => ∃ a xs, vs = [.ref a] ∧ ((SqL K H1 a xs ∧ R (Ite K a) H1) ∨ (SqT K H1 a xs ∧ R (IteT K a) H1))
theorem pi_enumA {X : Cx} {e : Expr} {ta : TA} {p pos tpos : Pos} {elts : List Expr} {kk : Nat} (hg : Gl X "enumerate") (hm : X.mg "enumerate" = none) (ha : PA X [e] ta) (hs : starEach [e] X.env = [(false, eval e X.env)] := by rfl) :
    PI X (.Tuple elts kk tpos) (.Call (.Name "enumerate" p) [e] [] pos) (iEnumA X.K ta) := by
  refine ⟨fun pins s σ H R I h => ?_⟩
  refine Call_ (ld_blt I hg hm boot_enumerate (PyProof.Rows.callWith_type1 (thn (ha.run pos pins s σ H _ I h) fun us s1 ⟨vs, H1, I1, r1, q1⟩ => ?_) hs rfl))
  obtain ⟨a, xs, ex, hq⟩ := q1
  subst ex
  cases r1 with
  | cons r rr =>
    cases rr
    cases r
    have fp : ∀ b ∈ [s1.heap.objs.size + 1, s1.heap.objs.size], FpOk X pins H1 b := fun b hb => by
      have e' : b = s1.heap.objs.size + 1 ∨ b = s1.heap.objs.size := by simpa using hb
      have hle : s1.heap.objs.size ≤ b := by
        rcases e' with z | z
        · rw [z]; exact Nat.le_add_right _ _
        · rw [z]; exact Nat.le_refl _
      exact I1.fpOk hle (I1.hok.fresh hle)
    rcases hq with ⟨hq, q⟩ | ⟨hq, q⟩
    · obtain ⟨its, rv, p', hz⟩ := I1.list hq
      refine call_enumerate_list p'.isList fun h' he hit hsz hk => wpAny_pyIter_enum he ?_
      have I2 : Inv X pins σ H1 { s1 with heap := h' } := I1.kept (t' := s1.toks) hk
      exact ⟨s1.heap.objs.size + 1, [s1.heap.objs.size + 1, s1.heap.objs.size], _, _, H1, rfl, I2, turn_enum a (s1.heap.objs.size + 1) s1.heap.objs.size, ⟨⟨.none, he⟩, hit, Nat.succ_ne_self _⟩, fp, q⟩
    · obtain ⟨its, rv, p', hz⟩ := I1.tuple hq
      refine call_enumerate_tuple (show s1.heap.IsTuple a its.toArray from p') fun h' he hit hsz hk => wpAny_pyIter_enum he ?_
      have I2 : Inv X pins σ H1 { s1 with heap := h' } := I1.kept (t' := s1.toks) hk
      exact ⟨s1.heap.objs.size + 1, [s1.heap.objs.size + 1, s1.heap.objs.size], _, _, H1, rfl, I2, turn_enumT a (s1.heap.objs.size + 1) s1.heap.objs.size, ⟨⟨.none, he⟩, hit, Nat.succ_ne_self _⟩, fp, q⟩
def kEn (ds : List Val) (st : Store) : R Src := match ds with
  | [.ref n] => (match st[n]? with
    | some (.lst ds) => .ok (.liveE n ds.length) st
    | _ => .stuck)
  | [d] => (match seqOf st d with
    | some ds => .ok (.vals (enumV 0 ds)) st
    | none => .stuck)
  | _ => .stuck
theorem item_en {K : PySem.W.Frag} {mp : Mp} {H : Hp} {st : Store} {a : Addr} {ds : List Val} {xs : List V} (s : RelS K mp H st) (h : SqL K H a xs) (r : RepVs K mp H ds xs) (i : Nat) : ItemOk K (Ite K a) mp H st (enumV 0 ds) i := by
  refine ⟨fun d e => ?_, fun hi => ⟨xs, h, by rw [← repvs_len r]; rw [enumV_len] at hi; exact hi⟩⟩
  rw [enumV_get, Nat.zero_add] at e
  obtain ⟨d', e0, rfl⟩ := Option.map_eq_some_iff.mp e
  obtain ⟨u, e1, r1⟩ := repvs_get r e0
  refine ⟨⟨xs, u, h, e1⟩, fun x H' y => ?_⟩
  obtain ⟨T, z, rfl, nT, rfl, y⟩ := y
  have := (y xs h).symm.trans e1
  obtain rfl := Option.some.inj this
  exact ⟨le_new nT, s.new nT, new_tup s nT (repvs_cons.mpr ⟨_, _, rfl, rep_i .., repvs_cons.mpr ⟨_, _, rfl, r1, repvs_nil.mpr rfl⟩⟩)⟩
theorem item_enT {K : PySem.W.Frag} {mp : Mp} {H : Hp} {st : Store} {a : Addr} {ds : List Val} {xs : List V} (s : RelS K mp H st) (h : SqT K H a xs) (r : RepVs K mp H ds xs) (i : Nat) : ItemOk K (IteT K a) mp H st (enumV 0 ds) i := by
  refine ⟨fun d e => ?_, fun hi => ⟨xs, h, by rw [← repvs_len r]; rw [enumV_len] at hi; exact hi⟩⟩
  rw [enumV_get, Nat.zero_add] at e
  obtain ⟨d', e0, rfl⟩ := Option.map_eq_some_iff.mp e
  obtain ⟨u, e1, r1⟩ := repvs_get r e0
  refine ⟨⟨xs, u, h, e1⟩, fun x H' y => ?_⟩
  obtain ⟨T, z, rfl, nT, rfl, y⟩ := y
  have := (y xs h).symm.trans e1
  obtain rfl := Option.some.inj this
  exact ⟨le_new nT, s.new nT, new_tup s nT (repvs_cons.mpr ⟨_, _, rfl, rep_i .., repvs_cons.mpr ⟨_, _, rfl, r1, repvs_nil.mpr rfl⟩⟩)⟩
section
variable {X : Cx} {W : WX}
theorem mi_en {a : Expr} {ms} {p pos tpos : Pos} {elts : List Expr} {kk : Nat} (hg : Gl X "enumerate") (hm : X.mg "enumerate" = none) (ha : MA X W [a] ms) (hs : starEach [a] X.env = [(false, eval a X.env)] := by rfl) : MI X W (.Tuple elts kk tpos) (.Call (.Name "enumerate" p) [a] [] pos) (mIt kEn ms) := by
  obtain ⟨t, pa, h⟩ := ha.ex
  refine ⟨⟨_, pi_enumA hg hm pa hs, fun σ H Q mp env st rs re hp => ?_⟩⟩
  refine h σ H _ mp env st rs re (PostI.of_bind hp fun mp1 H1 ds st1 us em l s rr q => ?_)
  clear em
  unfold kEn at q
  split at q
  · rename_i n
    split at q
    · rename_i ds hs
      obtain ⟨u, v, rfl, r1, r2⟩ := repvs_cons.mp rr
      obtain rfl := repvs_nil.mp r2
      obtain ⟨a, xs, e, z, rr2⟩ := listOf_rep (ds := ds) s r1 (listOf_ref hs)
      refine ⟨a, xs, by rw [e], .inl ⟨z, q mp1 H1 _ .refl s fun mp' H' st' ds' l' s' hs' i => ?_⟩⟩
      obtain ⟨a', xs', e', z', rr'⟩ := listOf_rep (ds := ds') s' (l'.rep r1) (listOf_ref hs')
      obtain rfl : a = a' := by
        rw [e] at e'
        exact V.ref.inj e'
      exact item_en s' z' rr' i
    · exact q.elim
  · rename_i d hd
    obtain ⟨u, v, rfl, r1, r2⟩ := repvs_cons.mp rr
    obtain rfl := repvs_nil.mp r2
    split at q
    · rename_i es h1
      have nr : ∀ n, d ≠ .ref n := fun n e => hd n (by rw [e])
      by_cases c : ∃ es, d = .tup es
      · obtain ⟨es', rfl⟩ := c
        obtain rfl : es' = es := Option.some.inj h1
        obtain ⟨a, xs, e, z, rr2⟩ := tupOf_rep (ds := es') r1 rfl
        refine ⟨a, xs, by rw [e], .inr ⟨z, q mp1 H1 _ .refl s fun mp' H' st' l' s' i => ?_⟩⟩
        obtain ⟨a', xs', e', z', rr'⟩ := tupOf_rep (ds := es') (l'.rep r1) rfl
        obtain rfl : a = a' := by
          rw [e] at e'
          exact V.ref.inj e'
        exact item_enT s' z' rr' i
      · have h2 : listOf st1 d = some es := by
          cases d with
          | tup es => exact absurd ⟨es, rfl⟩ c
          | _ => exact h1
        obtain ⟨a, xs, e, z, rr2⟩ := listOf_rep s r1 h2
        refine ⟨a, xs, by rw [e], .inl ⟨z, q mp1 H1 _ .refl s fun mp' H' st' l' s' i => ?_⟩⟩
        have h1' : listOf st' d = some es := by
          cases d with
          | ref n => exact absurd rfl (nr n)
          | _ => exact h2
        obtain ⟨a', xs', e', z', rr'⟩ := listOf_rep s' (l'.rep r1) h1'
        obtain rfl : a = a' := by
          rw [e] at e'
          exact V.ref.inj e'
        exact item_en s' z' rr' i
    · exact q.elim
  · exact q.elim
end
end ML

-- D1e
set_option linter.all false
set_option maxRecDepth 100000
set_option maxHeartbeats 4000000
/-! D1e: shifts and masks. -/
namespace ML
open PySem PySem.Spec PyProof.Rows L2
def fShl : F2 := fun a b st => match intOf a, intOf b with
  | some i, some j => if 0 ≤ j ∧ j ≤ 1000 ∧ i.natAbs < 2 ^ 64 then .ok (.int (i * 2 ^ j.toNat)) st else .stuck
  | _, _ => .stuck
def fShr : F2 := fun a b st => match intOf a, intOf b with
  | some i, some j => if 0 ≤ j then .ok (.int (i / 2 ^ j.toNat)) st else .stuck
  | _, _ => .stuck
def fAnd : F2 := fun a b st => match intOf a, intOf b with
  | some i, some j => .ok (.int (Builtin.bitAnd i j)) st
  | _, _ => .stuck
def fOr : F2 := fun a b st => match intOf a, intOf b with
  | some i, some j => .ok (.int (Builtin.bitOr i j)) st
  | _, _ => .stuck
section
variable {K : PySem.W.Frag} {W : WX}
theorem m_shl : OpM K W (rI CPow fun i j => .int (i * 2 ^ j.toNat)) fShl := by
  intro σ mp H st d e u v Q s ru rv h
  unfold fShl at h
  split at h
  · rename_i i j h1 h2
    obtain rfl := intOf_eq h1
    obtain rfl := intOf_eq h2
    split at h
    · rename_i c
      exact ⟨i, j, rep_int ru, rep_int rv, ⟨c.1, by omega, c.2.2⟩, h.out s (rep_i ..)⟩
    · exact h.elim
  · exact h.elim
theorem m_shr : OpM K W (rI (fun _ j => 0 ≤ j) fun i j => .int (i / 2 ^ j.toNat)) fShr := by
  intro σ mp H st d e u v Q s ru rv h
  unfold fShr at h
  split at h
  · rename_i i j h1 h2
    obtain rfl := intOf_eq h1
    obtain rfl := intOf_eq h2
    split at h
    · rename_i c
      exact ⟨i, j, rep_int ru, rep_int rv, c, h.out s (rep_i ..)⟩
    · exact h.elim
  · exact h.elim
theorem m_and : OpM K W (rI0 fun i j => .int (Builtin.bitAnd i j)) fAnd := by
  intro σ mp H st d e u v Q s ru rv h
  unfold fAnd at h
  split at h
  · rename_i i j h1 h2
    obtain rfl := intOf_eq h1
    obtain rfl := intOf_eq h2
    exact ⟨i, j, rep_int ru, rep_int rv, h.out s (rep_i ..)⟩
  · exact h.elim
theorem m_or : OpM K W (rI0 fun i j => .int (Builtin.bitOr i j)) fOr := by
  intro σ mp H st d e u v Q s ru rv h
  unfold fOr at h
  split at h
  · rename_i i j h1 h2
    obtain rfl := intOf_eq h1
    obtain rfl := intOf_eq h2
    exact ⟨i, j, rep_int ru, rep_int rv, h.out s (rep_i ..)⟩
  · exact h.elim
end
/-! ### is None, is True, is False -/
def isBl (q : Bool) : Val → Bool
  | .bl p => p == q
  | _ => false
def fIsC : F2 := fun a b st => match b with
  | .non => .ok (.bl (isNon a)) st
  | .bl q => .ok (.bl (isBl q a)) st
  | _ => .stuck
def fNotC : F2 := fun a b st => match b with
  | .non => .ok (.bl (!isNon a)) st
  | .bl q => .ok (.bl (!isBl q a)) st
  | _ => .stuck
abbrev rIsC : R2 := fun x y H Q => (y = .non ∧ Q (.bl (decide (x = .non))) H) ∨ ∃ b : Bool, y = .bl b ∧ Q (.bl (decide (x = .bl b))) H
abbrev rNotC : R2 := fun x y H Q => (y = .non ∧ Q (.bl (!decide (x = .non))) H) ∨ ∃ b : Bool, y = .bl b ∧ Q (.bl (!decide (x = .bl b))) H
theorem plain_bl {x : V} {v : Value} {b : Bool} (r : RelV x v) : plainIs v (.bool b) = true ∧ (v == Value.bool b) = decide (x = .bl b) := by
  cases x with
  | bl c =>
    cases r
    refine ⟨rfl, ?_⟩
    by_cases e : c = b
    · subst e; simp
    · rw [beq_eq_false_iff_ne.mpr fun z => e (Value.bool.inj z)]
      simp [e]
  | non => cases r; exact ⟨rfl, by simp⟩
  | ref a => cases r; exact ⟨rfl, by simp⟩
  | ty a => cases r; exact ⟨rfl, by simp⟩
  | int i => obtain ⟨t, rfl⟩ := r; exact ⟨rfl, by simp⟩
  | str i => obtain ⟨t, rfl⟩ := r; exact ⟨rfl, by simp⟩
  | byt i => obtain ⟨t, rfl⟩ := r; exact ⟨rfl, by simp⟩
  | flt i => obtain ⟨t, rfl⟩ := r; exact ⟨rfl, by simp⟩
theorem op_isC {X : Cx} : OpR X (compareOp .Is) rIsC := by
  intro pins s σ H x y v u Q I rx ry h
  rcases h with h | ⟨b, rfl, q⟩
  · exact op_isN pins s σ H x y v u Q I rx ry h
  · cases (show u = Value.bool b from ry)
    obtain ⟨h1, h2⟩ := plain_bl (b := b) rx
    exact wpAny_is_plain h1 (by rw [h2]; exact ⟨.bl _, H, I, rfl, q⟩)
theorem op_notC {X : Cx} : OpR X (compareOp .IsNot) rNotC := by
  intro pins s σ H x y v u Q I rx ry h
  rcases h with h | ⟨b, rfl, q⟩
  · exact op_notN pins s σ H x y v u Q I rx ry h
  · cases (show u = Value.bool b from ry)
    obtain ⟨h1, h2⟩ := plain_bl (b := b) rx
    exact wpAny_isNot_plain h1 (by rw [h2]; exact ⟨.bl _, H, I, rfl, q⟩)
section
variable {K : PySem.W.Frag} {W : WX}
theorem isBl_rep {mp : Mp} {H : Hp} {d : Val} {u : V} {b : Bool} (r : RepV K mp H d u) : decide (u = .bl b) = isBl b d := by
  cases d <;> simp only [RepV] at r <;> (try (obtain ⟨_, r, _⟩ := r)) <;> (try (obtain ⟨_, r, _⟩ := r)) <;> simp_all [isBl, Bool.beq_eq_decide_eq]
theorem m_isC : OpM K W rIsC fIsC := by
  intro σ mp H st d e u v Q s ru rv h
  unfold fIsC at h
  split at h
  · exact .inl ⟨by unfold RepV at rv; exact rv, by rw [isNon_rep ru]; exact h.out s (rep_b ..)⟩
  · exact .inr ⟨_, rep_bl rv, by rw [isBl_rep ru]; exact h.out s (rep_b ..)⟩
  · exact h.elim
theorem m_notC : OpM K W rNotC fNotC := by
  intro σ mp H st d e u v Q s ru rv h
  unfold fNotC at h
  split at h
  · exact .inl ⟨by unfold RepV at rv; exact rv, by rw [isNon_rep ru]; exact h.out s (rep_b ..)⟩
  · exact .inr ⟨_, rep_bl rv, by rw [isBl_rep ru]; exact h.out s (rep_b ..)⟩
  · exact h.elim
end
end ML

-- D1f
set_option linter.all false
set_option maxRecDepth 100000
set_option maxHeartbeats 4000000
/-! D1f: own classes: fields, methods, new instances; calls without arguments. -/
namespace ML
open PySem PySem.Spec PyProof.Rows L2
/-! ### the rules, with a wish that may depend on the names' values -/
section
variable {X : Cx} {CX : CXT} {k : Nat} {f C : Addr} {fd : FuncData} {ps : List Str} {sp : Sp} {E : L2.St → XK} {x m : Str} {p pos apos : Pos} {e o : Expr} {es : List Expr} {ta : TE} {t : TA}
def tMethS (C : Addr) (m : Str) (sp : Sp) (E : L2.St → XK) (ta : TE) (t : TA) : TE := fun σ H Q => ta σ H fun x H1 => ∃ a dx fs, x = .ref a ∧ H1 a = some (.ins C dx fs) ∧ fs.lookup m = none ∧
  t σ H1 fun vs H2 => sp (x :: vs) H2 Q (E σ)
def tMakeS (C : Addr) (sp : Sp) (E : L2.St → XK) (t : TA) : TE := fun σ H Q => t σ H fun vs H1 => ∀ x dx, H1 x = none → H1 dx = none → dx ≠ x →
  sp (.ref x :: vs) (upd (upd H1 dx (.own x)) x (.ins C dx [])) (fun v H2 => v = .non ∧ Q (.ref x) H2) (E σ)
theorem meth_form {env : Env} (hb : attributeBase o m env (eval o env) = eval o env) (hf : methodCallForm (es.length + ([] : List Keyword).length) (backTo pos (starEach es env)) (backToKw pos (keywordEach [] env)) = true) (hl : (apos.endLine == pos.line) = true) :
    eval (.Call (.Attribute o m apos) es [] pos) env = (do
      let ov ← eval o env
      standAt apos.atName
      let (f, first) ← holding [ov] (getMethod ov m (do return (← importBound o env).getD true))
      callWith pos f first (backTo pos (starEach es env)) (backToKw pos (keywordEach [] env))) := by
  have hp : methodCallPos true o env apos pos = pure pos := by unfold methodCallPos; simp [hl]
  rw [PySem.arm_eval_Call, hb]
  unfold methodCall
  rw [hf]
  unfold calleeOf
  simp only [hp, if_true, pure_bind]
  all_goals rfl
theorem pe_methS (he : PE X o ta) (c : Cls X.K C) (hm : Meth X.K C m f) (F : FnOk X.prog X.w X.K X.mg X.base CX k f fd ps sp) (hr : Room k X.A) (hb : Binds X.K fd ps []) (hx : ∀ σ, PassesAt CX X σ (E σ)) (ha : PA X (e :: es) t)
    (hst : starEach (e :: es) X.env = (false, eval e X.env) :: starEach es X.env) (hpl : (backTo pos (starEach es X.env)).any (·.1) = false)
    (hbase : attributeBase o m X.env (eval o X.env) = eval o X.env) (hf : methodCallForm ((e :: es).length + ([] : List Keyword).length) (backTo pos (starEach (e :: es) X.env)) (backToKw pos (keywordEach [] X.env)) = true) (hl : (apos.endLine == pos.line) = true) :
    PE X (.Call (.Attribute o m apos) (e :: es) [] pos) (tMethS C m sp E ta t) := by
  refine ⟨fun pins s σ H Q I h => ?_⟩
  refine PySem.W.methodCall_KW (thn (he.run pins s σ H _ I h) fun u s1 ⟨x, H1, I1, rx, a, dx, fs, ex, ea, l, q⟩ => ?_) (meth_form hbase hf hl)
  subst ex
  obtain rfl : u = Value.ref a := rx
  refine getmeth_ok I1 ea c hm l ?_
  refine PySem.W.callWith_K (first := [.ref a]) (h₀ := X.base) I.ok.mod.kin hm.kp (thn (ha.run pos pins s1 σ H1 _ I1 q) fun us s2 ⟨vs, H2, I2, r, q2⟩ => ⟨I2.kIn, ?_⟩) hst hpl
  exact run_fnS (us := .ref a :: us) (vs := .ref a :: vs) F hr hb (hx σ) I2 (.cons rfl r) q2
theorem pe_meth0S (he : PE X o ta) (c : Cls X.K C) (hm : Meth X.K C m f) (F : FnOk X.prog X.w X.K X.mg X.base CX k f fd ps sp) (hr : Room k X.A) (hb : Binds X.K fd ps []) (hx : ∀ σ, PassesAt CX X σ (E σ))
    (hbase : attributeBase o m X.env (eval o X.env) = eval o X.env) (hl : (apos.endLine == pos.line) = true) :
    PE X (.Call (.Attribute o m apos) [] [] pos) (tMethS C m sp E ta tNil) := by
  refine ⟨fun pins s σ H Q I h => ?_⟩
  refine PySem.W.methodCall_KW (thn (he.run pins s σ H _ I h) fun u s1 ⟨x, H1, I1, rx, a, dx, fs, ex, ea, l, q⟩ => ?_) (meth_form hbase rfl hl)
  subst ex
  obtain rfl : u = Value.ref a := rx
  refine getmeth_ok I1 ea c hm l ?_
  exact PySem.W.callWith_K0 (first := [.ref a]) I1.kIn hm.kp (run_fnS (us := [.ref a]) (vs := [.ref a]) F hr hb (hx σ) I1 (.cons rfl .nil) q)
theorem run_makeS {pins : List (Addr × Obj)} {σ : L2.St} {H : Hp} {s : Shared} {Q : VK} {us : List Value} {vs : List V} (M : Mk X.K C f) (F : FnOk X.prog X.w X.K X.mg X.base CX k f fd ps sp) (hr : Room (k + 1) X.A) (hb : Binds X.K fd ps [])
    (hx : PassesAt CX X σ (E σ)) (I : Inv X pins σ H s) (r : Vals vs us)
    (h : ∀ x dx, H x = none → H dx = none → dx ≠ x → sp (.ref x :: vs) (upd (upd H dx (.own x)) x (.ins C dx [])) (fun v H2 => v = .non ∧ Q (.ref x) H2) (E σ)) :
    wpAny (model X.prog X.w) X.A (call (.ref C) us) (EP X pins σ Q) X.xe s := by
  have hq := h (s.heap.objs.size + 1) s.heap.objs.size (I.hok.fresh (Nat.le_succ _)) (I.hok.fresh (Nat.le_refl _)) (Nat.ne_of_lt (Nat.lt_succ_self _))
  have I2 := Inv.made (C := C) I
  have r2 : Vals (V.ref (s.heap.objs.size + 1) :: vs) (Value.ref (s.heap.objs.size + 1) :: us) := .cons rfl r
  have hl : (Value.ref (s.heap.objs.size + 1) :: us).length = ps.length := by
    have e := r2.length
    rw [F.len _ _ _ _ hq] at e
    exact e.symm
  have b := hb ⟨_, _, _, _, _⟩ (Value.ref (s.heap.objs.size + 1) :: us) I2.kIn (by rw [List.append_nil]; exact hl)
  rw [List.append_nil] at b
  refine wpAny_call (make_map (f := f) I.kIn M.makes M.init (beq_iff_eq.mp M.fn) (codeAny_mono (F.run _ X.stack _ _ ⟨Value.ref (s.heap.objs.size + 1) :: us, []⟩ (Value.ref (s.heap.objs.size + 1) :: us) _ _ (E σ) (hr.make C us [])
    (I2.env0.make C us []) b r2 hq) fun r s' hq' => ?_))
  cases r with
  | error e => exact hx pins _ _ e s' I2 hq'
  | ok fl =>
    cases fl with
    | ret u =>
      obtain ⟨v, H', I3, rv, ev, q3⟩ := I2.after hq'
      subst ev
      exact ⟨rv, ⟨V.ref (s.heap.objs.size + 1), H', I3, rfl, q3⟩⟩
    | next => exact False.elim hq'
    | brk => exact False.elim hq'
    | cont => exact False.elim hq'
theorem pe_makeS (M : Mk X.K C f) (F : FnOk X.prog X.w X.K X.mg X.base CX k f fd ps sp) (hr : Room (k + 1) X.A) (hg : Gl X x) (hm : X.mg x = some (.ref C)) (hb : Binds X.K fd ps []) (hx : ∀ σ, PassesAt CX X σ (E σ))
    (ha : PA X (e :: es) t) (hdb : (x == ("__debug__" : Str)) = false) (he : starEach (e :: es) X.env = (false, eval e X.env) :: starEach es X.env) (hpl : (backTo pos (starEach es X.env)).any (·.1) = false) :
    PE X (.Call (.Name x p) (e :: es) [] pos) (tMakeS C sp E t) := by
  refine ⟨fun pins s σ H Q I h => ?_⟩
  refine wpAny_Call_Name_kw (ld_glob I hg hm ?_ hdb)
  refine PySem.W.callWith_K (h₀ := X.base) I.ok.mod.kin M.kp (thn (ha.run pos pins s σ H _ I h) fun us s1 ⟨vs, H1, I1, r, q⟩ => ⟨I1.kIn, ?_⟩) he hpl
  exact run_makeS M F hr hb (hx σ) I1 r q
theorem pe_make0S (M : Mk X.K C f) (F : FnOk X.prog X.w X.K X.mg X.base CX k f fd ps sp) (hr : Room (k + 1) X.A) (hg : Gl X x) (hm : X.mg x = some (.ref C)) (hb : Binds X.K fd ps []) (hx : ∀ σ, PassesAt CX X σ (E σ))
    (hdb : (x == ("__debug__" : Str)) = false) : PE X (.Call (.Name x p) [] [] pos) (tMakeS C sp E tNil) := by
  refine ⟨fun pins s σ H Q I h => ?_⟩
  refine wpAny_Call_Name_kw (ld_glob I hg hm ?_ hdb)
  exact PySem.W.callWith_K0 I.kIn M.kp (run_makeS (us := []) M F hr hb (hx σ) I .nil h)
theorem pe_call0S (F : FnOk X.prog X.w X.K X.mg X.base CX k f fd ps sp) (hr : Room k X.A) (hg : Gl X x) (hm : X.mg x = some (.ref f)) (hk : PySem.W.keepIn X.K (.ref f) = true) (hb : Binds X.K fd ps []) (hx : ∀ σ, PassesAt CX X σ (E σ))
    (hdb : (x == ("__debug__" : Str)) = false) : PE X (.Call (.Name x p) [] [] pos) (tCallS sp E tNil) := by
  refine ⟨fun pins s σ H Q I h => ?_⟩
  refine wpAny_Call_Name_kw (ld_glob I hg hm ?_ hdb)
  exact PySem.W.callWith_K0 I.kIn hk (run_fnS (us := []) (vs := []) F hr hb (hx σ) I .nil h)
end
/-! ### instances in the store -/
def insOf (st : Store) (d : Val) : Option (Str × List (Str × Val)) := match d with
  | .ref n => (match st[n]? with
    | some (.ins C fs) => some (C, fs)
    | _ => none)
  | _ => none
def fget : List (Str × Val) → Str → Option Val
  | [], _ => none
  | (g, x) :: r, f => if g = f then some x else fget r f
def fput (f : Str) (v : Val) : List (Str × Val) → List (Str × Val)
  | [] => [(f, v)]
  | (g, x) :: r => if g = f then (g, v) :: r else (g, x) :: fput f v r
section
variable {K : PySem.W.Frag} {mp : Mp} {H : Hp} {st : Store}
theorem repf_get : ∀ {fs : List (Str × Val)} {xs : List (Str × V)} {f : Str}, RepF K mp H fs xs → (∀ d, fget fs f = some d → ∃ u, xs.lookup f = some u ∧ RepV K mp H d u) ∧ (fget fs f = none → xs.lookup f = none)
  | [], _, f, h => by
    unfold RepF at h
    subst h
    exact ⟨fun d e => (by cases e), fun _ => rfl⟩
  | (g, x) :: r, _, f, h => by
    unfold RepF at h
    obtain ⟨u, us, rfl, r1, r2⟩ := h
    obtain ⟨i1, i2⟩ := repf_get (f := f) r2
    by_cases c : g = f
    · subst c
      refine ⟨fun d e => ⟨u, by simp [List.lookup], ?_⟩, fun e => by simp [fget] at e⟩
      have : x = d := by simpa [fget] using e
      rw [← this]; exact r1
    · have c2 : (f == g) = false := beq_eq_false_iff_ne.mpr fun z => c z.symm
      refine ⟨fun d e => ?_, fun e => ?_⟩
      · obtain ⟨w, w1, w2⟩ := i1 d (by simpa [fget, c] using e)
        exact ⟨w, by rw [List.lookup_cons, c2]; exact w1, w2⟩
      · rw [List.lookup_cons, c2]
        exact i2 (by simpa [fget, c] using e)
theorem repf_put : ∀ {fs : List (Str × Val)} {xs : List (Str × V)} {f : Str} {d : Val} {u : V}, RepF K mp H fs xs → RepV K mp H d u → RepF K mp H (fput f d fs) (putF f u xs)
  | [], _, f, d, u, h, q => by
    unfold RepF at h
    subst h
    show RepF K mp H [(f, d)] [(f, u)]
    unfold RepF
    exact ⟨u, [], rfl, q, rfl⟩
  | (g, x) :: r, _, f, d, u, h, q => by
    unfold RepF at h
    obtain ⟨w, us, rfl, r1, r2⟩ := h
    unfold fput putF
    by_cases c : g = f
    · rw [if_pos c, if_pos c]
      unfold RepF
      exact ⟨u, us, rfl, q, r2⟩
    · rw [if_neg c, if_neg c]
      unfold RepF
      exact ⟨w, _, rfl, r1, repf_put r2 q⟩
theorem repf_len : ∀ {fs : List (Str × Val)} {xs : List (Str × V)}, RepF K mp H fs xs → fs.length = xs.length
  | [], _, h => by unfold RepF at h; subst h; rfl
  | (g, x) :: r, _, h => by
    unfold RepF at h
    obtain ⟨w, us, rfl, r1, r2⟩ := h
    simp [repf_len r2]
theorem insOf_rep (s : RelS K mp H st) {d : Val} {u : V} {C : Str} {fs : List (Str × Val)} (r : RepV K mp H d u) (h : insOf st d = some (C, fs)) :
    ∃ n a dx xs, d = .ref n ∧ u = .ref a ∧ mp.own[n]? = some a ∧ st[n]? = some (.ins C fs) ∧ H a = some (.ins (He.ga K C) dx xs) ∧ RepF K mp H fs xs := by
  cases d with
  | ref n =>
    unfold insOf at h
    simp only at h
    split at h
    · rename_i C' fs' hx
      obtain ⟨rfl, rfl⟩ := Prod.mk.inj (Option.some.inj h)
      unfold RepV at r
      obtain ⟨a, e, q⟩ := r
      obtain ⟨dx, xs, e1, e2⟩ := s.obj n a _ q hx
      exact ⟨n, a, dx, xs, rfl, e, q, hx, e1, e2⟩
    · cases h
  | _ => cases h
end
/-! ### fields -/
def mFld (fo : Str → Str → Bool) (f : Str) (m : MEnv → Store → R Val) (env : MEnv) (st : Store) : R Val := (m env st).bind fun d st => match insOf st d with
  | some (C, fs) => if fo C f = true then (match fget fs f with
    | some v => .ok v st
    | none => .stuck) else .stuck
  | none => .stuck
def sFset (fo : Str → Str → Bool) (f : Str) (mo mv : MEnv → Store → R Val) : MM := fun env st => (mv env st).bindS env fun d st => (mo env st).bindS env fun o st => match insOf st o, refOf o with
  | some (C, fs), some n => if fo C f = true ∧ fs.length < 1000 then .nx env (st.set n (.ins C (fput f d fs))) else .stuck
  | _, _ => .stuck
section
variable {X : Cx} {W : WX} {pos p2 : Pos} {o b : Expr} {mo mv : MEnv → Store → R Val} {fo : Str → Str → Bool} {f : Str}
theorem me_fld (hfo : ∀ C, fo C f = true → Cls X.K (He.ga X.K C) ∧ NoAttr X.K (He.ga X.K C) f) (ho : ME X W o mo) (hb : noCall o = true) : ME X W (.Attribute o f pos) (mFld fo f mo) := by
  obtain ⟨t, p, h⟩ := ho.ex
  refine ⟨⟨_, pe_fld p (base_plain hb), fun σ H Q mp env st rs re hp => ?_⟩⟩
  refine h σ H _ mp env st rs re (Post.of_bind hp fun mp1 H1 d st1 u e l s r q => ?_)
  split at q
  · rename_i C fs hi
    obtain ⟨n, a, dx, xs, rfl, rfl, h1, h2, h3, h4⟩ := insOf_rep s r hi
    split at q
    · rename_i c
      split at q
      · rename_i v hv
        obtain ⟨w, w1, w2⟩ := (repf_get h4).1 v hv
        exact ⟨a, _, dx, xs, w, rfl, h3, (hfo C c).1, (hfo C c).2, w1, q.out s w2⟩
      · exact q.elim
    · exact q.elim
  · exact q.elim
theorem swaps_attr {e o : Expr} {f : Str} {p : Pos} {l : Nat} {env : Env} : swapsWith e (some (.Attribute o f p)) l env = pure false := by
  cases e <;> rfl
theorem ms_fset (hfo : ∀ C, fo C f = true → Cls X.K (He.ga X.K C) ∧ NoAttr X.K (He.ga X.K C) f) (ho : ME X W o mo) (hv : ME X W b mv) : MS X W (.Assign [.Attribute o f p2] b pos) (sFset fo f mo mv) := by
  obtain ⟨to, po, ho⟩ := ho.ex
  obtain ⟨tv, pv, hv⟩ := hv.ex
  refine ⟨⟨_, ps_fld po pv swaps_attr, fun D σ H mp env st rs re hp => ?_⟩⟩
  refine hv σ H _ mp env st rs re (PostS.of_bind re hp fun mp1 H1 d st1 u e l s r re1 q => ?_)
  refine ho σ H1 _ mp1 env st1 s re1 (PostS.of_bind re1 q fun mp2 H2 x st2 v e2 l2 s2 r2 re2 q2 => ?_)
  split at q2
  · rename_i C fs n hi hn
    obtain ⟨n', a, dx, xs, rfl, rfl, h1, h2, h3, h4⟩ := insOf_rep s2 r2 hi
    obtain rfl : n' = n := by
      have := refOf_eq hn
      injection this
    split at q2
    · rename_i c
      have rd := l2.rep r
      obtain ⟨l4, s4⟩ := s2.change (o := .ins C (fput f d fs)) (u := .ins (He.ga X.K C) dx (putF f u xs)) h1 h3 fun {H'} l e => ⟨dx, _, e, repf_put (l.repf h4) (l.rep rd)⟩
      exact ⟨a, _, dx, xs, rfl, h3, (hfo C c.1).1, (hfo C c.1).2, by rw [← repf_len h4]; exact c.2, q2 mp2 _ σ l4 s4 (l4.relE re2)⟩
    · exact q2.elim
  · exact q2.elim
end
/-! ### callees by their address -/
structure CalF (P : Program) (w : World) (K : PySem.W.Frag) (mg : Str → Option Value) (base : Heap) (n : Nat) (fa : Addr) (f : FN) : Prop where
  ex : ∃ (fd : FuncData) (ps : List Str) (sp : Sp), Binds K fd ps [] ∧ FnOk P w K mg base (L2.CX P w) n fa fd ps sp ∧
    ∀ (W : WX) σ mp H st ds us Q, RelS K mp H st → RepVs K mp H ds us → Post K W σ (RV K) mp H (f ds st) Q → sp us H Q (WE W σ)
def mMethC (mf : Str → Str → Option Nat) (cf : Nat → FN) (m : Str) (mo : MEnv → Store → R Val) (ms : MEnv → Store → R (List Val)) (env : MEnv) (st : Store) : R Val := match mo env st with
  | .ok d st1 => (match insOf st1 d with
    | some (C, fs) => (match mf C m, fget fs m with
      | some i, none => (ms env st1).bind fun ds st2 => cf i (d :: ds) st2
      | _, _ => .stuck)
    | none => .stuck)
  | _ => .stuck
def mMake (init : Option FN) (C : Str) (ms : MEnv → Store → R (List Val)) (env : MEnv) (st : Store) : R Val := (ms env st).bind fun ds st => match init with
  | some f => (f (.ref st.length :: ds) (st ++ [.ins C []])).bind fun v st' => (match v with
    | .non => .ok (.ref st.length) st'
    | _ => .stuck)
  | none => .stuck
section
variable {X : Cx} {W : WX} {pos p2 apos : Pos} {o e : Expr} {es : List Expr} {mo : MEnv → Store → R Val} {ms : MEnv → Store → R (List Val)} {mf : Str → Str → Option Nat} {cf : Nat → FN} {m : Str} {n : Nat}
theorem PE.any : PE X e (fun σ H Q => ∃ t, PE X e t ∧ t σ H Q) := ⟨fun pins s σ H Q I ⟨_, p, q⟩ => p.run pins s σ H Q I q⟩
theorem me_any {m : MEnv → Store → R Val} (h : ∀ σ H Q mp env st, RelS X.K mp H st → RelE X.K mp H env σ → Post X.K W σ (RV X.K) mp H (m env st) Q → ∃ t, PE X e t ∧ t σ H Q) : ME X W e m := ⟨⟨_, PE.any, h⟩⟩
theorem me_methC (hmf : ∀ C i, mf C m = some i → Cls X.K (He.ga X.K C) ∧ ∃ fa, Meth X.K (He.ga X.K C) m fa ∧ CalF X.prog X.w X.K X.mg X.base n fa (cf i)) (hr : Room n X.A) (tk : Takes X W) (ho : ME X W o mo) (ha : MA X W (e :: es) ms)
    (hs : (e :: es).all noStar = true) (hb : noCall o = true) (hl : (apos.endLine == pos.line) = true) (hn : (e :: es).length < 30) : ME X W (.Call (.Attribute o m apos) (e :: es) [] pos) (mMethC mf cf m mo ms) := by
  refine me_any fun σ H Q mp env st rs re hp => ?_
  obtain ⟨to, po, ho⟩ := ho.ex
  obtain ⟨t, pa, h⟩ := ha.ex
  have hs' := hs
  rw [List.all_cons, Bool.and_eq_true] at hs
  unfold mMethC at hp
  cases e1 : mo env st with
  | exc c fs st1 => rw [e1] at hp; exact hp.elim
  | stuck => rw [e1] at hp; exact hp.elim
  | ok d st1 =>
    rw [e1] at hp
    simp only at hp
    split at hp
    · rename_i C fs hi
      split at hp
      · rename_i i hm hf
        obtain ⟨c, fa, M, F⟩ := hmf C i hm
        obtain ⟨fd, ps, sp, bi, fk, rule⟩ := F.ex
        refine ⟨_, pe_methS po c M fk hr bi (fun σ => passAt tk σ) pa (star1 hs.1) (stars_none hs.2) (base_plain hb) ?_ hl, ?_⟩
        · unfold methodCallForm
          rw [Bool.and_eq_true, Bool.and_eq_true]
          refine ⟨⟨?_, rfl⟩, ?_⟩
          · have := stars_none (pos := pos) (env := X.env) hs'
            rw [List.all_eq_true]
            rw [List.any_eq_false] at this
            intro x hx
            have := this x hx
            simpa using this
          · show decide ((e :: es).length + 0 + 0 < 30) = true
            exact decide_eq_true hn
        · refine ho σ H _ mp env st rs re ?_
          rw [e1]
          intro mp1 H1 u l s r
          obtain ⟨n1, a, dx, xs, rfl, rfl, h1, h2, h3, h4⟩ := insOf_rep s r hi
          refine ⟨a, dx, xs, rfl, h3, (repf_get h4).2 hf, ?_⟩
          refine h σ H1 _ mp1 env st1 s (l.relE re) (Post.of_bind (Post.le hp l) fun mp2 H2 ds st2 us _ l2 s2 r2 q2 => ?_)
          exact rule W σ mp2 H2 st2 (.ref n1 :: ds) (.ref a :: us) Q s2 (repvs_cons.mpr ⟨_, _, rfl, l2.rep r, r2⟩) q2
      · exact hp.elim
    · exact hp.elim
theorem me_methC0 (hmf : ∀ C i, mf C m = some i → Cls X.K (He.ga X.K C) ∧ ∃ fa, Meth X.K (He.ga X.K C) m fa ∧ CalF X.prog X.w X.K X.mg X.base n fa (cf i)) (hr : Room n X.A) (tk : Takes X W) (ho : ME X W o mo)
    (hb : noCall o = true) (hl : (apos.endLine == pos.line) = true) : ME X W (.Call (.Attribute o m apos) [] [] pos) (mMethC mf cf m mo mNil) := by
  refine me_any fun σ H Q mp env st rs re hp => ?_
  obtain ⟨to, po, ho⟩ := ho.ex
  unfold mMethC at hp
  cases e1 : mo env st with
  | exc c fs st1 => rw [e1] at hp; exact hp.elim
  | stuck => rw [e1] at hp; exact hp.elim
  | ok d st1 =>
    rw [e1] at hp
    simp only at hp
    split at hp
    · rename_i C fs hi
      split at hp
      · rename_i i hm hf
        obtain ⟨c, fa, M, F⟩ := hmf C i hm
        obtain ⟨fd, ps, sp, bi, fk, rule⟩ := F.ex
        refine ⟨_, pe_meth0S po c M fk hr bi (fun σ => passAt tk σ) (base_plain hb) hl, ?_⟩
        refine ho σ H _ mp env st rs re ?_
        rw [e1]
        intro mp1 H1 u l s r
        obtain ⟨n1, a, dx, xs, rfl, rfl, h1, h2, h3, h4⟩ := insOf_rep s r hi
        refine ⟨a, dx, xs, rfl, h3, (repf_get h4).2 hf, ?_⟩
        have q2 : Post X.K W σ (RV X.K) mp H (cf i [.ref n1] st1) Q := hp
        exact rule W σ mp1 H1 st1 [.ref n1] [.ref a] Q s (repvs_cons.mpr ⟨_, _, rfl, r, repvs_nil.mpr rfl⟩) (Post.le q2 l)
      · exact hp.elim
    · exact hp.elim
/-- a new instance -/
theorem make_rd {C : Str} {fa : Addr} {f : FN} {fd : FuncData} {ps : List Str} {sp : Sp} {σ : L2.St} {mp1 : Mp} {H1 : Hp} {st1 : Store} {ds : List Val} {us : List V} {Q : VK}
    (rule : ∀ (W : WX) σ mp H st ds us Q, RelS X.K mp H st → RepVs X.K mp H ds us → Post X.K W σ (RV X.K) mp H (f ds st) Q → sp us H Q (WE W σ)) (s : RelS X.K mp1 H1 st1) (r : RepVs X.K mp1 H1 ds us)
    (q : Post X.K W σ (RV X.K) mp1 H1 ((f (.ref st1.length :: ds) (st1 ++ [.ins C []])).bind fun v st' => (match v with
      | .non => R.ok (.ref st1.length) st'
      | _ => .stuck)) Q) : ∀ x dx, H1 x = none → H1 dx = none → dx ≠ x → sp (.ref x :: us) (upd (upd H1 dx (.own x)) x (.ins (He.ga X.K C) dx [])) (fun v H2 => v = .non ∧ Q (.ref x) H2) (WE W σ) := by
  intro x dx hx hdx hne
  have s1 : RelS X.K mp1 (upd H1 dx (.own x)) st1 := s.new hdx
  have l1 : Le mp1 H1 mp1 (upd H1 dx (.own x)) := le_new hdx
  have hx2 : upd H1 dx (.own x) x = none := by rw [upd_ne (fun e => hne e.symm)]; exact hx
  obtain ⟨l2, s2⟩ := s1.place (o := .ins (He.ga X.K C) dx []) (m := .ins C []) hx2 ⟨dx, [], upd_same, by unfold RepF; rfl⟩
  have l := l1.trans l2
  have rx : RepV X.K (mp1.add x) (upd (upd H1 dx (.own x)) x (.ins (He.ga X.K C) dx [])) (.ref st1.length) (.ref x) := by
    unfold RepV
    exact ⟨x, rfl, by rw [← s.len]; exact mp1.add_at x⟩
  refine rule W σ _ _ _ (.ref st1.length :: ds) (.ref x :: us) _ s2 (repvs_cons.mpr ⟨_, _, rfl, rx, l.reps r⟩) ?_
  refine Post.of_bind (Post.le q l) fun mp3 H3 v st3 u e l3 s3 r3 q3 => ?_
  split at q3
  · refine ⟨by unfold RepV at r3; exact r3, q3.out s3 (l3.rep rx)⟩
  · exact q3.elim
theorem me_make {C : Str} {fa : Addr} {f : FN} (M : Mk X.K (He.ga X.K C) fa) (F : CalF X.prog X.w X.K X.mg X.base n fa f) (hr : Room (n + 1) X.A) (hg : Gl X C) (hm : X.mg C = some (.ref (He.ga X.K C))) (tk : Takes X W) (ha : MA X W (e :: es) ms)
    (hd : ML.nd C = true) (hs : (e :: es).all noStar = true) : ME X W (.Call (.Name C p2) (e :: es) [] pos) (mMake (some f) C ms) := by
  obtain ⟨fd, ps, sp, bi, fk, rule⟩ := F.ex
  obtain ⟨t, pa, h⟩ := ha.ex
  rw [List.all_cons, Bool.and_eq_true] at hs
  refine ⟨⟨_, pe_makeS M fk hr hg hm bi (fun σ => passAt tk σ) pa (nd_dbg hd) (star1 hs.1) (stars_none hs.2), fun σ H Q mp env st rs re hp => ?_⟩⟩
  exact h σ H _ mp env st rs re (Post.of_bind hp fun mp1 H1 ds st1 us _ l s rr q => make_rd (fa := fa) (fd := fd) (ps := ps) rule s rr q)
theorem me_make0 {C : Str} {fa : Addr} {f : FN} (M : Mk X.K (He.ga X.K C) fa) (F : CalF X.prog X.w X.K X.mg X.base n fa f) (hr : Room (n + 1) X.A) (hg : Gl X C) (hm : X.mg C = some (.ref (He.ga X.K C))) (tk : Takes X W)
    (hd : ML.nd C = true) : ME X W (.Call (.Name C p2) [] [] pos) (mMake (some f) C mNil) := by
  obtain ⟨fd, ps, sp, bi, fk, rule⟩ := F.ex
  refine ⟨⟨_, pe_make0S M fk hr hg hm bi (fun σ => passAt tk σ) (nd_dbg hd), fun σ H Q mp env st rs re hp => ?_⟩⟩
  exact make_rd (fa := fa) (fd := fd) (ps := ps) (C := C) (st1 := st) (ds := []) (us := []) rule rs (repvs_nil.mpr rfl) hp
end
/-! ### a sum of lists, for whoever changes it -/
def nCat (ma mb : MEnv → Store → R Val) (env : MEnv) (st : Store) : R (List Val) := (ma env st).bind fun d st => (mb env st).bind fun e st => match listT st d, listT st e with
  | some x, some y => if x.length + y.length ≤ line then .ok (x ++ y) st else .stuck
  | _, _ => .stuck
theorem mn_cat {X : Cx} {W : WX} {pos : Pos} {a b : Expr} {ma mb : MEnv → Store → R Val} (ha : ME X W a ma) (hb : ME X W b mb) : MN X W (.BinOp a .Add b pos) (nCat ma mb) := by
  obtain ⟨ta, pa, ha⟩ := ha.ex
  obtain ⟨tb, pb, hb⟩ := hb.ex
  refine ⟨⟨_, pe_op op_cat pa pb, fun σ H Q mp env st rs re hp => ?_⟩⟩
  refine ha σ H _ mp env st rs re (PostN.of_bind hp fun mp1 H1 d st1 u e l s r q => ?_)
  refine hb σ H1 _ mp1 env st1 s (l.relE re) (PostN.of_bind q fun mp2 H2 d2 st2 v e2 l2 s2 r2 q2 => ?_)
  split at q2
  · rename_i x y h1 h2
    obtain ⟨a, xs, e1, q1, r1⟩ := listT_rep s2 (l2.rep r) h1
    obtain ⟨b, ys, e2, q3, r3⟩ := listT_rep s2 r2 h2
    split at q2
    · rename_i c
      exact ⟨a, b, xs, ys, e1, e2, q1, q3, by rw [line_eq, ← repvs_len r1, ← repvs_len r3]; exact c, fun p np => q2.out s2 (repvs_append r1 r3) np⟩
    · exact q2.elim
  · exact q2.elim
/-! ### what is never reached -/
theorem me_bad {X : Cx} {W : WX} {e : Expr} : ME X W e (fun _ _ => .stuck) := ⟨⟨fun _ _ _ => False, ⟨fun _ _ _ _ _ _ h => h.elim⟩, fun _ _ _ _ _ _ _ _ h => h⟩⟩
theorem ms_bad {X : Cx} {W : WX} {s : Stmt} : MS X W s (fun _ _ => .stuck) := ⟨⟨fun _ _ _ => False, ⟨fun _ _ _ _ _ _ h => h.elim⟩, fun _ _ _ _ _ _ _ _ h => h⟩⟩
end ML

-- Dset
set_option linter.all false
set_option maxRecDepth 100000
set_option maxHeartbeats 4000000
/-! Dset: sorted(set(xs)) of a list of whole numbers. -/
namespace ML
open PySem PySem.Spec PyProof.Rows L2
/-- a set as it is made, without members -/
abbrev set0 (w : World) : Obj := { cls := .type "set", dict := none, data := .set #[] 0 (.fresh 0 0 (!w.params.followText "set-order")) }
section
variable {P : Program} {w : World} {A : Around} {E : Value → Shared → Prop} {s : Shared} {l : Addr} {items : Array Value} {ns : List Int}
/-- what the set's filling by a list brings about -/
def Filled (w : World) (s : Shared) (ns : List Int) (s2 : Shared) : Prop := ∃ h' tk c, s2 = { s with heap := h', toks := tk } ∧ SetR w h' s.heap.objs.size (fun j => decide (j ∈ ns)) c ∧ c ≤ ns.length ∧
  ∀ b o, s.heap.get? b = some o → h'.get? b = some o
theorem fill_list (hh : A.handled = none) (hl : s.heap.IsList l items) (hit : IntsAre items.toList ns) (hb : ns.length + 1 < scanBound) {R : Result → Shared → Prop}
    (hR : ∀ s2, Filled w s ns s2 → R (.ok (.ret .none)) s2) :
    codeAny (model P w) A (.builtin "set.update.loop" ⟨[.ref s.heap.objs.size, .ref (s.heap.push (set0 w)).objs.size], []⟩) R
      { s with heap := (s.heap.push (set0 w)).push { cls := .type "list_iterator", data := .fields #[.ref l, .int 0 0] } } := by
  have z1 : (s.heap.push (set0 w)).objs.size = s.heap.objs.size + 1 := Heap.size_push ..
  have sz : items.size = ns.length := by
    have := IntsAre.length hit
    rwa [Array.length_toList] at this
  have l1 : (s.heap.push (set0 w)).IsList l items := hl.push _
  have lt : l < s.heap.objs.size := by
    obtain ⟨o, e, _⟩ := hl
    exact Heap.lt_size e
  have vals : ∀ (i : Nat) (v : Value), items[i]? = some v → ∃ k t, ns[i]? = some k ∧ v = .int k t := by
    intro i v e
    obtain ⟨t, q⟩ := PyProof.Rows.IntsAre.int_at hit i v (by rw [Array.getElem?_toList]; exact e)
    have hi : i < ns.length := by
      rw [← sz]
      exact (Array.getElem?_eq_some_iff.mp e).1
    refine ⟨ns[i], t, List.getElem?_eq_getElem hi, ?_⟩
    rw [q]
    simp [hi]
  have nI : l ≠ (s.heap.push (set0 w)).objs.size := by
    rw [z1]
    exact Nat.ne_of_lt (Nat.lt_succ_of_lt lt)
  have nS : s.heap.objs.size ∉ [(s.heap.push (set0 w)).objs.size, l] := by
    rw [z1]
    intro h
    rcases List.mem_cons.mp h with h | h
    · exact absurd h (Nat.ne_of_lt (Nat.lt_succ_self _))
    · exact absurd (List.mem_singleton.mp h) (Nat.ne_of_gt lt)
  refine set_update_ints ((Walks.list (prog := P) (w := w) (A := A.in1) (by simp [hh]) _ l nI items).toS) s.heap.objs.size nS ns sz hb vals (items.size - 0) 0 _ (by omega) (Nat.zero_le _)
    ⟨⟨_, Heap.get?_push_size _ rfl, rfl, rfl⟩, l1.push _⟩ ⟨0, Nat.le_refl 0, setR_new_at (Heap.get?_push_of_some _ (Heap.get?_push_size _ rfl))⟩ ?_
  intro s2 c hm hc hS
  refine hR s2 ⟨s2.heap, s2.toks, c, ?_, hS, by omega, fun b o e => ?_⟩
  · have h1 := hm.gens
    have h2 := hm.drawn
    have h3 := hm.os
    cases s2
    simp only at h1 h2 h3
    subst h1 h2 h3
    rfl
  · have lb := Heap.lt_size e
    refine hm.heap b o (fun h => ?_) (Heap.get?_push_of_some _ (Heap.get?_push_of_some _ e))
    rcases List.mem_cons.mp h with h | h
    · exact absurd h (Nat.ne_of_lt lb)
    · have h := List.mem_singleton.mp h
      rw [z1] at h
      exact absurd h (Nat.ne_of_lt (Nat.lt_succ_of_lt lb))
/-- s with the new set -/
abbrev mkS (w : World) (s : Shared) : Shared := { s with heap := s.heap.push (set0 w) }
theorem call_setL (hh : A.handled = none) (hl : s.heap.IsList l items) (hit : IntsAre items.toList ns) (hb : ns.length + 1 < scanBound) {Q : Value → Shared → Prop}
    (hQ : ∀ s2, Filled w s ns s2 → Q (.ref s.heap.objs.size) s2) : wpAny (model P w) A (call (.type "set") [.ref l]) Q E s := by
  obtain ⟨_, _, hmro⟩ := F.called_set.mro
  have k1 := F.called_set.made
  have k2 := F.called_set.sub
  have k3 := F.called_set.notType
  have k4 := F.called_set.canCreate
  have k5 := F.typeCall_set_1 (.ref l)
  refine wpAny_call (codeAny_of_tree ?_)
  show wpAny _ _ (callAny (.type "set") ⟨[.ref l], []⟩) _ _ s
  refine wpAny_pure ⟨Code.quiet_builtin _ (by decide +kernel), codeAny_builtin F.entry_type_call ?_⟩
  rw [Around.under_plain (weight_type_call_type "set" [.ref l] []) rfl]
  repeat (any_goals (first | assumption | wp_step))
  refine codeAny_mono (code_set_led1 (.ref l) (E := E) (Q₁ := fun x s1 => x = .ref s.heap.objs.size ∧ s1 = mkS w s) ⟨rfl, rfl⟩) ?_
  intro r s1 hr
  match r, hr with
  | .error e, hr => exact hr
  | .ok (.ret x), hr =>
    obtain ⟨rfl, rfl⟩ := hr
    have hS : (mkS w s).heap.get? s.heap.objs.size = some (set0 w) := Heap.get?_push_size _ rfl
    have hT : (mkS w s).TypeIs (.ref s.heap.objs.size) "set" := ⟨_, hS, rfl⟩
    have k6 := F.called_set.init.lookup
    have k7 := F.called_set.init.bind (.ref s.heap.objs.size)
    repeat (any_goals (first | assumption | wp_step))
    refine codeAny_mono (codeAny_call_builtin (R := wants (fun r s2 => r = .none ∧ Filled w s ns s2) E) F.called_set.init.plain F.entry_set_init (check_set_init_1 hT ?_)) ?_
    · have l1 : (mkS w s).heap.IsList l items := hl.push _
      obtain ⟨⟨c0, d0, dt0, sl0⟩, e0, c1, n0, d1⟩ := id l1
      simp only at c1 d1
      subst c1 d1
      have g1 := F.sub_list_set
      have g2 := F.sub_list_frozenset
      have g3 : (Value.type "list" == Value.type "dict") = false := by decide
      unfold Builtin.«set.__init__» noKeywords Builtin.Frozenset.updateFrom
      generalize hPI : pyIter = PI
      wp_walk
      subst hPI
      refine wpAny_pyIter_list l1 ?_
      refine wpAny_bind (wpAny_runValue ?_)
      refine fill_list ?_ hl hit hb fun s2 hF => ?_
      · simp [hh]
      · show wpAny _ _ _ _ _ _
        refine wpAny_pure ?_
        show wpAny _ _ (ret Value.none) _ _ _
        exact wpAny_pure ⟨rfl, hF⟩
    · intro r2 s2 hr2
      match r2, hr2 with
      | .error e, hr2 => exact hr2
      | .ok (.ret x), hr2 =>
        obtain ⟨rfl, hF⟩ := hr2
        repeat (any_goals (first | assumption | wp_step))
        exact hQ s2 hF
end
/-! ### the members, ascending -/
def insS (x : Int) : List Int → List Int
  | [] => [x]
  | y :: r => if x < y then x :: y :: r else if x = y then y :: r else y :: insS x r
def setI : List Int → List Int
  | [] => []
  | x :: r => insS x (setI r)
theorem insS_mem (x z : Int) : ∀ l : List Int, z ∈ insS x l ↔ z = x ∨ z ∈ l
  | [] => by simp [insS]
  | y :: r => by
    unfold insS
    split
    · simp
    · split
      · rename_i e
        subst e
        simp
      · rw [List.mem_cons, insS_mem x z r, List.mem_cons]
        constructor
        · rintro (h | h | h)
          · exact .inr (.inl h)
          · exact .inl h
          · exact .inr (.inr h)
        · rintro (h | h | h)
          · exact .inr (.inl h)
          · exact .inl h
          · exact .inr (.inr h)
theorem insS_ris (x : Int) : ∀ l : List Int, l.Pairwise (· < ·) → (insS x l).Pairwise (· < ·)
  | [], _ => by simp [insS]
  | y :: r, h => by
    have h1 := List.pairwise_cons.mp h
    unfold insS
    split
    · rename_i c
      refine List.pairwise_cons.mpr ⟨fun z hz => ?_, h⟩
      rcases List.mem_cons.mp hz with rfl | hz
      · exact c
      · exact Int.lt_trans c (h1.1 z hz)
    · split
      · exact h
      · rename_i c1 c2
        refine List.pairwise_cons.mpr ⟨fun z hz => ?_, insS_ris x r h1.2⟩
        rcases (insS_mem x z r).mp hz with rfl | hz
        · omega
        · exact h1.1 z hz
theorem setI_mem (z : Int) : ∀ l : List Int, z ∈ setI l ↔ z ∈ l
  | [] => by simp [setI]
  | x :: r => by
    unfold setI
    rw [insS_mem, setI_mem z r, List.mem_cons]
theorem setI_ris : ∀ l : List Int, (setI l).Pairwise (· < ·)
  | [] => .nil
  | x :: r => insS_ris x _ (setI_ris r)
theorem ris_same : ∀ {xs ys : List Int}, xs.Pairwise (· < ·) → ys.Pairwise (· < ·) → (∀ z, z ∈ xs ↔ z ∈ ys) → xs = ys
  | [], [], _, _, _ => rfl
  | [], y :: ys, _, _, h => absurd ((h y).mpr List.mem_cons_self) (by simp)
  | x :: xs, [], _, _, h => absurd ((h x).mp List.mem_cons_self) (by simp)
  | x :: xs, y :: ys, hx, hy, h => by
    have h1 := List.pairwise_cons.mp hx
    have h2 := List.pairwise_cons.mp hy
    have e : x = y := by
      rcases List.mem_cons.mp ((h x).mp List.mem_cons_self) with a | a
      · exact a
      · rcases List.mem_cons.mp ((h y).mpr List.mem_cons_self) with b | b
        · exact b.symm
        · have := h1.1 y b
          have := h2.1 x a
          omega
    subst e
    rw [ris_same h1.2 h2.2 fun z => ⟨fun hz => ?_, fun hz => ?_⟩]
    · rcases List.mem_cons.mp ((h z).mp (List.mem_cons_of_mem _ hz)) with a | a
      · have := h1.1 z hz
        omega
      · exact a
    · rcases List.mem_cons.mp ((h z).mpr (List.mem_cons_of_mem _ hz)) with a | a
      · have := h2.1 z hz
        omega
      · exact a
theorem setR_size {w : World} {h : Heap} {a : Addr} {ns : List Int} {c : Nat} (R : SetR w h a (fun j => decide (j ∈ ns)) c) : c = (setI ns).length := by
  obtain ⟨o, es, ep, t, _, _, _, _, h1, h2, _, _, h3, _⟩ := R
  have nd : (setI ns).Nodup := (setI_ris ns).imp fun h => Int.ne_of_lt h
  have pm := (List.perm_ext_iff_of_nodup h1 nd).mpr fun k => by
    rw [setI_mem, ← h2 k, decide_eq_true_eq]
  have := pm.length_eq
  rw [List.length_map, Array.length_toList, h3] at this
  exact this
/-! ### over the layer -/
abbrev rSetL (K : PySem.W.Frag) (w : World) : List V → Hp → VK → Prop := fun xs H Q => ∃ (l : Addr) (ns : List Int), xs = [V.ref l] ∧ SqL K H l (ns.map V.int) ∧ ns.length + 1 < scanBound ∧
  ∀ p, H p = none → Q (.ref p) (upd H p (SetO w p (fun j => decide (j ∈ ns)) (setI ns).length))
theorem cr_setL {X : Cx} (hc : X.calm = true) : CallR X (.type "set") (rSetL X.K X.w) := by
  intro pins s σ H xs us Q I r h
  obtain ⟨l, ns, rfl, hl, hb, q⟩ := h
  rw [Vals.ref1 r]
  obtain ⟨its, rv, pl, hz⟩ := I.list hl
  refine call_setL (I.ok.hd hc) pl.isList (ns := ns) (by simpa using rv.ints) hb fun s2 hF => ?_
  obtain ⟨h', tk, c, rfl, hS, hc', k⟩ := hF
  rw [setR_size hS] at hS
  exact ⟨.ref s.heap.objs.size, upd H s.heap.objs.size (SetO X.w s.heap.objs.size (fun j => decide (j ∈ ns)) (setI ns).length), I.laid (t' := tk) k (Nat.le_refl _) (setO_new hS), rfl, q _ (I.hok.fresh (Nat.le_refl _))⟩
def nSset (ds : List Val) (st : Store) : R (List Val) := match ds with
  | [d] => (match listOf st d with
    | some xs => (match intsL xs with
      | some ns => if ns.length < 4000 ∧ (setI ns).length < 64 then .ok ((setI ns).map Val.int) st else .stuck
      | none => .stuck)
    | none => .stuck)
  | _ => .stuck
theorem mn_sset {X : Cx} {W : WX} {a : Expr} {ms : MEnv → Store → R (List Val)} {p p2 q pos : Pos} (hc : X.calm = true) (hg : Gl X "sorted") (hm : X.mg "sorted" = none) (hg2 : Gl X "set") (hm2 : X.mg "set" = none) (ha : MA X W [a] ms) (hs : noStar a = true) :
    MN X W (.Call (.Name "sorted" p) [.Call (.Name "set" p2) [a] [] q] [] pos) (nCall nSset ms) := by
  obtain ⟨t, pa, h⟩ := ha.ex
  have e1 := star1 (env := X.env) (es := []) hs
  refine ⟨⟨_, pe_callB (cr_sortedSet hc) hg hm (by decide +kernel) (pa_cons (pe_callTy (cr_setL hc) hg2 hm2 PyProof.Rows.boot_set pa (by decide +kernel) (by decide +kernel) e1 rfl) pa_nil rfl) (by decide +kernel) (by decide +kernel) rfl rfl, fun σ H Q mp env st rs re hp => ?_⟩⟩
  refine h σ H _ mp env st rs re (PostN.of_bind hp fun mp1 H1 ds st1 us _ l s rr qq => ?_)
  unfold nSset at qq
  split at qq
  · rename_i d
    obtain ⟨u, vs, rfl, r1, r2⟩ := repvs_cons.mp rr
    obtain rfl := repvs_nil.mp r2
    split at qq
    · rename_i xs h1
      split at qq
      · rename_i ns h2
        split at qq
        · rename_i c
          obtain ⟨b, ys, rfl, z, ry⟩ := listOf_rep s r1 h1
          have e2 := ints_rep ry h2
          subst e2
          refine ⟨b, ns, rfl, z, by unfold scanBound; omega, fun p0 np => ?_⟩
          refine ⟨p0, _, _, rfl, upd_same, c.2, fun ns' p3 hr hmem hlen np3 => ?_⟩
          have e3 : ns' = setI ns := ris_same hr (setI_ris ns) fun z => by rw [hmem, setI_mem]; simp
          subst e3
          exact (qq.le (le_new np)).out (s.new np) (repvs_ints _) np3
        · exact qq.elim
      · exact qq.elim
    · exact qq.elim
  · exact qq.elim
/-! ### len(set(t)) of a tuple of whole numbers -/
abbrev rSetT (K : PySem.W.Frag) (w : World) : List V → Hp → VK → Prop := fun xs H Q => ∃ (l : Addr) (ns : List Int), xs = [V.ref l] ∧ SqT K H l (ns.map V.int) ∧ ns.length + 1 < scanBound ∧
  ∀ p, H p = none → Q (.ref p) (upd H p (SetO w p (fun j => decide (j ∈ ns)) (setI ns).length))
theorem cr_setT {X : Cx} (hc : X.calm = true) : CallR X (.type "set") (rSetT X.K X.w) := by
  intro pins s σ H xs us Q I r h
  obtain ⟨l, ns, rfl, hl, hb, q⟩ := h
  rw [Vals.ref1 r]
  obtain ⟨its, rv, pl, hz⟩ := I.tuple hl
  refine call_set_tupI ns (I.ok.hd hc) pl (by simpa using rv.ints) hb fun h' tk c hS hc' k => ?_
  rw [setR_size hS] at hS
  exact ⟨.ref s.heap.objs.size, upd H s.heap.objs.size (SetO X.w s.heap.objs.size (fun j => decide (j ∈ ns)) (setI ns).length), I.laid (t' := tk) k (Nat.le_refl _) (setO_new hS), rfl, q _ (I.hok.fresh (Nat.le_refl _))⟩
abbrev rLenSet (w : World) : List V → Hp → VK → Prop := fun xs H Q => ∃ (a : Addr) (S : Int → Bool) (n : Nat), xs = [V.ref a] ∧ H a = some (SetO w a S n) ∧ n < scanBound ∧ Q (.int n) H
theorem cr_lenSet {X : Cx} : CallR X (.builtin "len") (rLenSet X.w) := by
  intro pins s σ H xs us Q I r h
  obtain ⟨a, S, n, rfl, ha, hn, q⟩ := h
  rw [Vals.ref1 r]
  obtain ⟨o, es, ep, t, ho, hex, hd, _, _, _, _, hf, hz, _⟩ := setO_get I ha
  refine call_len_set ho hex hd hf (by rw [hz]; unfold scanBound at hn; omega) ⟨.int n, H, I.tok _, ⟨_, by rw [hz]⟩, q⟩
def nLns (ds : List Val) (st : Store) : R Val := match ds with
  | [.tup xs] => (match intsL xs with
      | some ns => if ns.length < 4000 then .ok (.int (setI ns).length) st else .stuck
      | none => .stuck)
  | _ => .stuck
theorem insS_le (x : Int) : ∀ l : List Int, (insS x l).length ≤ l.length + 1
  | [] => by simp [insS]
  | y :: r => by
    unfold insS
    split
    · simp
    · split
      · simp
      · have := insS_le x r
        simp only [List.length_cons]
        omega
theorem setI_le : ∀ l : List Int, (setI l).length ≤ l.length
  | [] => by simp [setI]
  | x :: r => by
    have h1 := insS_le x (setI r)
    have h2 := setI_le r
    simp only [setI, List.length_cons]
    omega
def mLns (m : MEnv → Store → R Val) (env : MEnv) (st : Store) : R Val := (m env st).bind fun d st => nLns [d] st
theorem me_lns {X : Cx} {W : WX} {a : Expr} {ma : MEnv → Store → R Val} {p p2 q pos : Pos} (hc : X.calm = true) (hg : Gl X "len") (hm : X.mg "len" = none) (hg2 : Gl X "set") (hm2 : X.mg "set" = none) (ha : ME X W a ma) (hs : noStar a = true) :
    ME X W (.Call (.Name "len" p) [.Call (.Name "set" p2) [a] [] q] [] pos) (mLns ma) := by
  obtain ⟨t, pa, h⟩ := ha.ex
  have e1 := star1 (env := X.env) (es := []) hs
  refine ⟨⟨_, pe_callB cr_lenSet hg hm (by decide +kernel) (pa_cons (pe_callTy (cr_setT hc) hg2 hm2 PyProof.Rows.boot_set (pa_cons pa pa_nil e1) (by decide +kernel) (by decide +kernel) e1 rfl) pa_nil rfl) (by decide +kernel) (by decide +kernel) rfl rfl, fun σ H Q mp env st rs re hp => ?_⟩⟩
  refine h σ H _ mp env st rs re (Post.of_bind hp fun mp1 H1 d st1 u _ l s r qq => ?_)
  unfold nLns at qq
  split at qq
  · rename_i xs hx
    split at qq
    · rename_i ns h2
      split at qq
      · rename_i c
        cases hx
        obtain ⟨b, zs, rfl, sq, rr⟩ := tupOf_rep r rfl
        have e2 := ints_rep rr h2
        subst e2
        refine ⟨b, ns, rfl, sq, by unfold scanBound; omega, fun p0 np => ?_⟩
        have := setI_le ns
        refine ⟨p0, _, _, rfl, upd_same, by unfold scanBound; omega, ?_⟩
        exact (qq.le (le_new np)).out (s.new np) (by unfold RepV; rfl)
      · exact qq.elim
    · exact qq.elim
  · exact qq.elim
end ML

-- Dt
set_option linter.all false
set_option maxRecDepth 100000
set_option maxHeartbeats 4000000
/-! Dt: targets that change the store; pop(i); index; x op= e. -/
namespace ML
open PySem PySem.Spec PyProof.Rows L2
/-! ### o.f = v as a target -/
def gFldT (K : PySem.W.Frag) (to : TE) (f : Str) : TG := fun v σ H Q => to σ H fun x H1 => ∃ a C dx fs, x = .ref a ∧ H1 a = some (.ins C dx fs) ∧ Cls K C ∧ NoAttr K C f ∧ fs.length < 1000 ∧ Q σ (upd H1 a (.ins C dx (putF f v fs)))
theorem pg_fldT {X : Cx} {o : Expr} {f : Str} {to : TE} {pos : Pos} (ho : PE X o to) : PG X (.Attribute o f pos) (gFldT X.K to f) := by
  refine ⟨fun pins s σ H v u Q I r h => ?_⟩
  rw [assign_Attribute]
  refine wpAny_bind (wpAny_holding (thn (ho.run pins s σ H _ I h) fun ov s1 ⟨x, H1, I1, r1, a, C, dx, fs, ex, ea, c, n, lt, q⟩ => ?_))
  subst ex
  obtain rfl : ov = Value.ref a := r1
  refine wpAny_bind (wpAny_standAt (wpAny_bind (wpAny_holding (setattr_ok I1 ea c n lt r fun s2 I2 => ?_))))
  exact wpAny_release ⟨σ, _, I2, q⟩
/-! ### targets -/
abbrev TM := Val → MEnv → Store → R MEnv
abbrev TMs := List Val → MEnv → Store → R MEnv
abbrev RepE (K : PySem.W.Frag) : RepT MEnv L2.St := fun mp H e σ => RelE K mp H e σ
structure MU (X : Cx) (W : WX) (tg : Expr) (g : TM) : Prop where
  ex : ∃ t, PG X tg t ∧ ∀ d u σ H mp env st (Q : L2.St → Hp → Prop), RelS X.K mp H st → RepV X.K mp H d u → RelE X.K mp H env σ → Post X.K W0 σ (RepE X.K) mp H (g d env st) Q → t u σ H Q
structure MUs (X : Cx) (W : WX) (tg : List Expr) (g : TMs) : Prop where
  ex : ∃ t, PGs X tg t ∧ ∀ d u σ H mp env st (Q : L2.St → Hp → Prop), RelS X.K mp H st → RepVs X.K mp H d u → RelE X.K mp H env σ → Post X.K W0 σ (RepE X.K) mp H (g d env st) Q → t u σ H Q
def uN (i : Nat) : TM := fun d env st => .ok (env.set i (some d)) st
def uF (fo : Str → Str → Bool) (f : Str) (mo : MEnv → Store → R Val) : TM := fun d env st => (mo env st).bind fun o st => match insOf st o, refOf o with
  | some (C, fs), some n => if fo C f = true ∧ fs.length < 1000 then .ok env (st.set n (.ins C (fput f d fs))) else .stuck
  | _, _ => .stuck
def uS (mo mk : MEnv → Store → R Val) : TM := fun d env st => (mo env st).bind fun o st => (mk env st).bind fun k st => match setM o k d st with
  | some st => .ok env st
  | none => .stuck
def usNil : TMs := fun ds env st => match ds with
  | [] => .ok env st
  | _ => .stuck
def usCons (g : TM) (gs : TMs) : TMs := fun ds env st => match ds with
  | d :: r => (g d env st).bind fun env st => gs r env st
  | _ => .stuck
def uT (n : Nat) (gs : TMs) : TM := fun d env st => match tupOf d with
  | some ds => if ds.length = n then gs ds env st else .stuck
  | none => .stuck
theorem Post.anyσ {α β : Type} {K : PySem.W.Frag} {σ σ' : L2.St} {Rp : RepT α β} {mp : Mp} {H : Hp} {r : R α} {Q : β → Hp → Prop} (h : Post K W0 σ Rp mp H r Q) : Post K W0 σ' Rp mp H r Q := by
  cases r with
  | ok a st => exact h
  | exc c fs st => exact h
  | stuck => exact h
section
variable {X : Cx} {W : WX} {pos p2 : Pos} {o a b : Expr} {mo ma mb : MEnv → Store → R Val} {fo : Str → Str → Bool} {f : Str}
theorem mu_name {i : Nat} {x : Str} (hN : X.N.Nodup) (hi : X.N[i]? = some x) (hx : Loc X.env.scope x) (hf : X.fn x = true ∨ X.env.scope.names.lookup x = some .local) : MU X W (.Name x pos) (uN i) := by
  refine ⟨⟨_, pg_name hN hi hx hf, fun d u σ H mp env st Q rs r re q => ?_⟩⟩
  exact q mp H _ .refl rs (relE_set re (show RelO X.K mp H (some d) (some u) from r))
theorem mu_fld (hfo : ∀ C, fo C f = true → Cls X.K (He.ga X.K C) ∧ NoAttr X.K (He.ga X.K C) f) (ho : ME X W0 o mo) : MU X W (.Attribute o f pos) (uF fo f mo) := by
  obtain ⟨to, po, ho⟩ := ho.ex
  refine ⟨⟨_, pg_fldT po, fun d u σ H mp env st Q rs r re q => ?_⟩⟩
  refine ho σ H _ mp env st rs re (Post.of_bind q fun mp1 H1 x st1 v e l s rr q2 => ?_)
  split at q2
  · rename_i C fs n hi hn
    obtain ⟨n', a, dx, xs, rfl, rfl, h1, h2, h3, h4⟩ := insOf_rep s rr hi
    obtain rfl : n' = n := by
      have := refOf_eq hn
      injection this
    split at q2
    · rename_i c
      obtain ⟨l4, s4⟩ := s.change (o := .ins C (fput f d fs)) (u := .ins (He.ga X.K C) dx (putF f u xs)) h1 h3 fun {H'} l' e => ⟨dx, _, e, repf_put (l'.repf h4) (l'.rep (l.rep r))⟩
      exact ⟨a, _, dx, xs, rfl, h3, (hfo C c.1).1, (hfo C c.1).2, by rw [← repf_len h4]; exact c.2, q2 mp1 _ σ l4 s4 (l4.relE (l.relE re))⟩
    · exact q2.elim
  · exact q2.elim
theorem mu_sub (hu : X.A.units + 1 < cLine) (ho : ME X W0 o mo) (hk : ME X W0 a ma) (hi : noSlice a = true) : MU X W (.Subscript o a pos) (uS mo ma) := by
  obtain ⟨to, po, ho⟩ := ho.ex
  obtain ⟨tk, pk, hk⟩ := hk.ex
  refine ⟨⟨_, pg_sub po pk (set_any hu) (asgSub hi), fun d u σ H mp env st Q rs r re q => ?_⟩⟩
  refine ho σ H _ mp env st rs re (Post.of_bind q fun mp2 H2 x st2 v e2 l2 s2 r2 q2 => ?_)
  refine hk σ H2 _ mp2 env st2 s2 (l2.relE re) (Post.of_bind q2 fun mp3 H3 y st3 w e3 l3 s3 r3 q3 => ?_)
  split at q3
  · rename_i st4 hm
    unfold setM at hm
    split at hm
    · rename_i n h1
      obtain rfl := refOf_eq h1
      have rx := l3.rep r2
      unfold RepV at rx
      obtain ⟨ad, ea, hown⟩ := rx
      have rd := l3.rep (l2.rep r)
      have rE := l3.relE (l2.relE re)
      split at hm
      · rename_i xs hst
        split at hm
        · rename_i k hk2
          obtain rfl := intOf_eq hk2
          split at hm
          · rename_i j hj
            obtain rfl := Option.some.inj hm
            obtain ⟨ys, e5, e6⟩ := s3.obj n ad _ hown hst
            obtain ⟨l4, s4⟩ := s3.change (o := .lst (xs.set j d)) (u := .lst (ys.set j u)) hown e5 fun {H'} l e => ⟨_, e, repvs_set j (l.reps e6) (l.rep rd)⟩
            exact .inl ⟨ad, ys, k, j, ea, rep_int r3, e5, by rw [← repvs_len e6]; exact hj, q3 mp3 _ σ l4 s4 (l4.relE rE)⟩
          · cases hm
        · cases hm
      · rename_i kvs hst
        split at hm
        · rename_i k hk2
          obtain rfl := key_rep r3 hk2
          split at hm
          · rename_i c
            obtain rfl := Option.some.inj hm
            obtain ⟨xs, e5, e6⟩ := s3.obj n ad _ hown hst
            obtain ⟨l4, s4⟩ := s3.change (o := .dct (putM kvs k d)) (u := .dK (putK xs k u)) hown e5 fun {H'} l e => ⟨_, e, put_rep (l.repk e6) (l.rep rd)⟩
            exact .inr ⟨ad, _, ea, .inl ⟨xs, k, e5, rfl, by rw [line_eq, ← repk_len e6]; exact c, rfl⟩, q3 mp3 _ σ l4 s4 (l4.relE rE)⟩
          · cases hm
        · cases hm
      · cases hm
    · cases hm
  · exact q3.elim
theorem mus_nil : MUs X W [] usNil := by
  refine ⟨⟨_, pgs_nil, fun d u σ H mp env st Q rs r re q => ?_⟩⟩
  cases d with
  | nil =>
    obtain rfl := repvs_nil.mp r
    exact ⟨rfl, q mp H σ .refl rs re⟩
  | cons _ _ => exact q.elim
theorem mus_cons {e : Expr} {es : List Expr} {g : TM} {gs : TMs} (h : MU X W e g) (h2 : MUs X W es gs) (hp : ∀ {t u}, PG X e t → PGs X es u → PGs X (e :: es) (gCons t u)) : MUs X W (e :: es) (usCons g gs) := by
  obtain ⟨t, p, h⟩ := h.ex
  obtain ⟨t2, p2, h2⟩ := h2.ex
  refine ⟨⟨_, hp p p2, fun d u σ H mp env st Q rs r re q => ?_⟩⟩
  cases d with
  | nil => exact q.elim
  | cons d ds =>
    obtain ⟨v, vs, rfl, r1, r2⟩ := repvs_cons.mp r
    refine ⟨v, _, rfl, h d v σ H mp env st _ rs r1 re (Post.of_bind (show Post X.K W0 σ (RepE X.K) mp H ((g d env st).bind fun env st => gs ds env st) Q from q) fun mp1 H1 env1 st1 σ1 _ l1 s1 re1 q1 => ?_)⟩
    exact h2 ds _ σ1 H1 mp1 env1 st1 Q s1 (l1.reps r2) re1 q1.anyσ
theorem mu_tup {es : List Expr} {k : Nat} {gs : TMs} {n : Nat} (hc : X.calm = true) (h : MUs X W es gs) (hn : (assignEach es X.env).length = n) (hst : (assignEach es X.env).findIdx? (·.1) = none) : MU X W (.Tuple es k pos) (uT n gs) := by
  obtain ⟨t, p, h⟩ := h.ex
  refine ⟨⟨_, pg_tup hc p hn hst, fun d u σ H mp env st Q rs r re q => ?_⟩⟩
  unfold uT at q
  split at q
  · rename_i ds h1
    split at q
    · rename_i c
      obtain ⟨a, xs, e, sq, rr⟩ := tupOf_rep r h1
      exact ⟨a, xs, e, sq, by rw [← repvs_len rr]; exact c, h ds xs σ H mp env st Q rs rr re q⟩
    · exact q.elim
  · exact q.elim
def sUgt (g : TM) (m : MEnv → Store → R Val) : MM := fun env st => (m env st).bindS env fun d st => match g d env st with
  | .ok env' st => .nx env' st
  | _ => .stuck
theorem ms_ugt {tg e : Expr} {g : TM} {me : MEnv → Store → R Val} (he : ME X W e me) (hg : MU X W tg g) (hs : swapsWithSole [tg] e pos.line X.env = pure false) (hw : swappedStores [tg] e X.env = pure none)
    (h1 : (assignEach [tg] X.env).map (·.2) = [assign tg X.env]) : MS X W (.Assign [tg] e pos) (sUgt g me) := by
  obtain ⟨t, p, h⟩ := he.ex
  obtain ⟨t2, p2, h2⟩ := hg.ex
  refine ⟨⟨_, ps_asg p p2 hs hw h1, fun D σ H mp env st rs re hp => ?_⟩⟩
  refine h σ H _ mp env st rs re (PostS.of_bind re hp fun mp1 H1 d st1 u e l s r re1 q => ?_)
  refine h2 d u σ H1 mp1 env st1 _ s r re1 ?_
  cases z : g d env st1 with
  | ok env' st2 =>
    rw [z] at q
    exact fun mp2 H2 σ2 l2 s2 r2 => q mp2 H2 σ2 l2 s2 r2
  | exc c fs st2 =>
    rw [z] at q
    exact q.elim
  | stuck =>
    rw [z] at q
    exact q.elim
end
/-- a target that is no name -/
def notName : Expr → Bool
  | .Name .. => false
  | _ => true
theorem names_lt (f : Expr → Option Str) (hf : ∀ e, notName e = true → f e = none) : ∀ {ts : List Expr}, ts.any notName = true → (ts.filterMap f).length < ts.length
  | [], h => by simp at h
  | t :: ts, h => by
    rw [List.any_cons, Bool.or_eq_true] at h
    have le : ∀ us : List Expr, (us.filterMap f).length ≤ us.length := fun us => List.length_filterMap_le f us
    cases h with
    | inl h =>
      rw [List.filterMap_cons, hf t h]
      exact Nat.lt_succ_of_le (le ts)
    | inr h =>
      have ih := names_lt f hf h
      rw [List.filterMap_cons]
      split
      · exact Nat.lt_succ_of_lt ih
      · exact Nat.succ_lt_succ ih
theorem stores_other {ts : List Expr} {k : Nat} {p : Pos} {e : Expr} {env : Env} (h : ts.any notName = true) : swappedStores [.Tuple ts k p] e env = pure none := by
  cases e with
  | Tuple vs k2 p2 =>
    show (if (!(ts.length == 2 || ts.length == 3) || vs.length != ts.length || env.blockKind != .function) = true then pure none else _) = _
    split
    · rfl
    · show (if (vs.any fun | .Starred .. => true | _ => false) = true then pure none else _) = _
      split
      · rfl
      · dsimp only
        rw [if_pos]
        · rw [Bool.or_eq_true]
          refine .inl (bne_iff_ne.mpr (Nat.ne_of_lt (names_lt _ (fun e he => ?_) h)))
          cases e <;> first | rfl | cases he
  | _ => rfl
/-! ### xs.pop(i) -/
section
variable {X : Cx} {W : WX} {pos : Pos} {o e : Expr} {ma mb : MEnv → Store → R Val}
def fPopAt (d : Val) (ds : List Val) (st : Store) : R Val := match refOf d, ds with
  | some n, [y] => (match liveAt st n, intOf y with
    | some xs, some i => if 0 ≤ i ∧ i < 16777217 then (match xs[i.toNat]? with
      | some x => .ok x (st.set n (.lst (xs.eraseIdx i.toNat)))
      | none => .stuck) else .stuck
    | _, _ => .stuck)
  | _, _ => .stuck
theorem repvs_erase {K : PySem.W.Frag} {mp : Mp} {H : Hp} : ∀ {ds : List Val} {xs : List V} (i : Nat), RepVs K mp H ds xs → RepVs K mp H (ds.eraseIdx i) (xs.eraseIdx i)
  | [], _, i, h => by
    obtain rfl := repvs_nil.mp h
    simpa using h
  | d :: ds, _, 0, h => by
    obtain ⟨u, us, rfl, r, q⟩ := repvs_cons.mp h
    simpa using q
  | d :: ds, _, i + 1, h => by
    obtain ⟨u, us, rfl, r, q⟩ := repvs_cons.mp h
    simp only [List.eraseIdx_cons_succ]
    exact repvs_cons.mpr ⟨u, _, rfl, r, repvs_erase i q⟩
theorem seqIx_nat {i : Int} {n : Nat} (h : 0 ≤ i) (h2 : i.toNat < n) : seqIndex? i n = some i.toNat := by
  unfold seqIndex?
  have h3 : ¬ i < 0 := by omega
  rw [if_neg h3]
  dsimp only
  rw [if_pos]
  rw [Bool.and_eq_true, decide_eq_true_eq, decide_eq_true_eq]
  omega
theorem m_popAt {K : PySem.W.Frag} : MethM K W rPopAt fPopAt := by
  intro σ mp H st d u ds us Q s rd rs q
  unfold fPopAt at q
  split at q
  · rename_i n y h1
    obtain rfl := refOf_eq h1
    obtain ⟨v, vs, rfl, rv, r0⟩ := repvs_cons.mp rs
    obtain rfl := repvs_nil.mp r0
    split at q
    · rename_i xs i hx hi
      obtain rfl := intOf_eq hi
      split at q
      · rename_i c
        split at q
        · rename_i x h2
          obtain ⟨a, ys, rfl, ha, hH, rr⟩ := ref_at s rd hx
          obtain ⟨w, e1, r1⟩ := repvs_get rr h2
          refine ⟨a, ys, i, i.toNat, w, rfl, by rw [rep_int rv], hH, by omega, by omega, seqIx_nat c.1 (List.getElem?_eq_some_iff.mp e1).1, e1, ?_⟩
          obtain ⟨l, s2⟩ := s.change (o := .lst (xs.eraseIdx i.toNat)) (u := .lst (ys.eraseIdx i.toNat)) ha hH fun {H'} l e => ⟨_, e, repvs_erase _ (l.reps rr)⟩
          exact q mp _ _ l s2 (l.rep r1)
        · exact q.elim
      · exact q.elim
    · exact q.elim
  · exact q.elim
theorem me_popAt (ho : ME X W o ma) (ha : ME X W e mb) (hb : noCall o = true) (hs : noStar e = true) {apos : Pos} (hline : (apos.endLine == pos.line) = true) : ME X W (.Call (.Attribute o "pop" apos) [e] [] pos) (mMeth fPopAt ma (mCons mb mNil)) :=
  me_bmL PySem.F.slot_list_pop PySem.F.type_list_pop mt_popAt m_popAt ho (ma_cons ha ma_nil (star1 hs)) (base_plain hb) (few1 hs) hline (star1 hs) (by rfl)
end
end ML

-- Dt2
set_option linter.all false
set_option maxRecDepth 100000
set_option maxHeartbeats 4000000
/-! Dt2: t.index(x); isinstance with two types; x op= e, o.f op= e. -/
namespace ML
open PySem PySem.Spec PyProof.Rows L2
/-! ### t.index(x), t a tuple of texts -/
def fTIdx (d : Val) (ds : List Val) (st : Store) : R Val := match tupOf d, ds with
  | some xs, [y] => (match strsL xs, strOf y with
    | some ys, some z => if ys.idxOf z < ys.length then .ok (.int (ys.idxOf z : Nat)) st else .stuck
    | _, _ => .stuck)
  | _, _ => .stuck
def mMethT (f : Val → List Val → Store → R Val) (mo : MEnv → Store → R Val) (ms : MEnv → Store → R (List Val)) (env : MEnv) (st : Store) : R Val := (mo env st).bind fun d st => match tupOf d with
  | some _ => (ms env st).bind fun ds st => f d ds st
  | none => .stuck
abbrev rTIdx (K : PySem.W.Frag) : V → List V → Hp → VK → Prop := fun x xs H Q => ∃ p, ∃ ys : List Str, ∃ z j, x = .ref p ∧ xs = [.str z] ∧ SqT K H p (ys.map V.str) ∧ ys[j]? = some z ∧ (∀ m, m < j → ys[m]? ≠ some z) ∧ Q (.int (j : Nat)) H
theorem idx_at : ∀ (ys : List Str) (z : Str), ys.idxOf z < ys.length → ys[ys.idxOf z]? = some z ∧ ∀ m, m < ys.idxOf z → ys[m]? ≠ some z
  | [], z, h => by simp at h
  | y :: ys, z, h => by
    rw [List.idxOf_cons] at h ⊢
    by_cases c : (y == z) = true
    · rw [c]
      obtain rfl : y = z := by simpa using c
      exact ⟨rfl, fun m hm => by simp at hm⟩
    · have c : (y == z) = false := by simpa using c
      rw [c] at h ⊢
      simp only [cond_false] at h ⊢
      have ih := idx_at ys z (by simpa using h)
      refine ⟨by simpa using ih.1, fun m hm => ?_⟩
      cases m with
      | zero =>
        intro e
        have : y = z := by simpa using e
        subst this
        simp at c
      | succ m => simpa using ih.2 m (by omega)
section
variable {X : Cx} {W : WX} {pos p p2 : Pos} {o e a b : Expr} {ma mb : MEnv → Store → R Val}
theorem m_tidx {K : PySem.W.Frag} : MethM K W (rTIdx K) fTIdx := by
  intro σ mp H st d u ds us Q s rd rs q
  unfold fTIdx at q
  split at q
  · rename_i xs y h1
    obtain ⟨v, vs, rfl, rv, r0⟩ := repvs_cons.mp rs
    obtain rfl := repvs_nil.mp r0
    split at q
    · rename_i ys z h2 h3
      split at q
      · rename_i c
        obtain rfl := strOf_eq h3
        obtain ⟨a, zs, rfl, sq, rr⟩ := tupOf_rep rd h1
        obtain rfl := strs_rep rr h2
        have := idx_at ys z c
        exact ⟨a, ys, z, ys.idxOf z, rfl, by rw [rep_str rv], sq, this.1, this.2, q.out s (rep_i ..)⟩
      · exact q.elim
    · exact q.elim
  · exact q.elim
theorem me_tidx {x : Str} {d : Val} (C : Con1 X.K X.mg x d) (hg : Gl X x) (hd : nd x = true) (ha : ME X W e mb) (hs : noStar e = true) {apos : Pos} (hline : (apos.endLine == pos.line) = true) : ME X W (.Call (.Attribute (.Name x p) "index" apos) [e] [] pos) (mMethT fTIdx (mC d) (mCons mb mNil)) := by
  obtain ⟨u, v, e0, r0, q0⟩ := C.ex
  obtain ⟨t, pa, h⟩ := (ma_cons ha ma_nil (star1 hs)).ex
  refine ⟨⟨_, pe_bm PySem.F.plainAttrs_tuple PySem.F.slot_tuple_index PySem.F.type_tuple_index mt_tup_index (pe_glob hg e0 r0 (nd_dbg hd)) pa (base_plain (e := .Name x p) rfl) (few1 hs) hline (star1 hs) (by rfl), fun σ H Q mp env st rs re hp => ?_⟩⟩
  unfold mMethT mC at hp
  cases d with
  | tup ds =>
    obtain ⟨a, o, e1, k1, k2, k3⟩ := C.tu ds rfl
    rw [e0] at e1
    injection e1 with e1
    subst e1
    have rv := q0 mp H
    obtain ⟨b, xs, rfl, _, _⟩ := tupOf_rep (ds := ds) rv rfl
    obtain rfl : b = a := by
      have : Value.ref a = Value.ref b := r0
      injection this with this
      exact this.symm
    refine ⟨.inr (.inl ⟨rfl, o, k1, k2, k3⟩), ?_⟩
    exact h σ H _ mp env st rs re (Post.of_bind (show Post X.K W σ (RV X.K) mp H ((mCons mb mNil env st).bind fun ds2 st => fTIdx (.tup ds) ds2 st) Q from hp) fun mp2 H2 ds st2 us _ l2 s2 r2 q2 => m_tidx σ mp2 H2 st2 _ _ ds us Q s2 (l2.rep rv) r2 q2)
  | _ => exact hp.elim
/-! ### isinstance(x, (T, U)) -/
def mIsI2 (t t2 : String) (m : MEnv → Store → R Val) (env : MEnv) (st : Store) : R Val := (m env st).bind fun d st => match tyM st d with
  | some a => (match isT a t, isT a t2 with
    | some b, some c => .ok (.bl (b || c)) st
    | _, _ => .stuck)
  | none => .stuck
theorem me_isI2 {t t2 : String} {tn tn2 : Str} {kx : Nat} {p3 p4 : Pos} (hb : bootBuiltins tn = some (.type t)) (hb2 : bootBuiltins tn2 = some (.type t2)) (hg : Gl X "isinstance") (hm : X.mg "isinstance" = none) (hgt : Gl X tn) (hmt : X.mg tn = none) (hgt2 : Gl X tn2) (hmt2 : X.mg tn2 = none)
    (hn : nd tn = true) (hn2 : nd tn2 = true) (ha : ME X W e ma) (hs : noStar e = true) : ME X W (.Call (.Name "isinstance" p) [e, .Tuple [.Name tn p2, .Name tn2 p3] kx p4] [] pos) (mIsI2 t t2 ma) := by
  obtain ⟨ta, pa, ha⟩ := ha.ex
  refine ⟨⟨_, pe_callB call_isiT hg hm (by decide +kernel) (pa_cons pa (pa_cons (pe_tup (pa_cons (pe_bltn (v := .ty t) hgt hmt hb rfl (nd_nm hn) (nd_dbg hn)) (pa_cons (pe_bltn (v := .ty t2) hgt2 hmt2 hb2 rfl (nd_nm hn2) (nd_dbg hn2)) pa_nil))) pa_nil) (star1 hs)) (by decide) (by decide) (star1 hs) (by rfl), fun σ H Q mp env st rs re hp => ?_⟩⟩
  refine ha σ H _ mp env st rs re (Post.of_bind hp fun mp1 H1 d st1 u _ l s r q => ?_)
  split at q
  · rename_i a h1
    split at q
    · rename_i k k2 h2 h3
      refine ⟨by show 2 ≤ sizeLine; decide, fun tp np => ?_⟩
      have s2 := s.new (o := .tup [.ty t, .ty t2]) np
      have r2 : RepV X.K mp1 (upd H1 tp (.tup [.ty t, .ty t2])) d u := (le_new np).rep r
      refine ⟨u, tp, [.ty t, .ty t2], .type a, [.type t, .type t2], k || k2, rfl, upd_same, .cons (.ty t) (.cons (.ty t2) .nil), tyM_ok s2 r2 h1, ?_, (q.le (le_new np)).out s2 (rep_b ..)⟩
      have e1 := kit_ty (K := X.K) (isT_ok h2)
      have e2 := kit_ty (K := X.K) (isT_ok h3)
      unfold PySem.W.kitAny
      rw [e1]
      cases k with
      | true => rfl
      | false =>
        show PySem.W.kitAny X.K (.type a) [.type t2] = _
        unfold PySem.W.kitAny
        rw [e2]
        cases k2 <;> rfl
    · exact q.elim
  · exact q.elim
/-! ### x op= e -/
def sAug (i : Nat) (f : Int → Int → Int) (m : MEnv → Store → R Val) : MM := fun env st => match env[i]? with
  | some (some (.int a)) => (m env st).bindS env fun d st => (match intOf d with
    | some b => .nx (env.set i (some (.int (f a b)))) st
    | none => .stuck)
  | _ => .stuck
theorem relE_at {K : PySem.W.Frag} {mp : Mp} {H : Hp} : ∀ {env : MEnv} {σ : L2.St} {i : Nat} {d : Val}, RelE K mp H env σ → env[i]? = some (some d) → ∃ u, σ[i]? = some (some u) ∧ RepV K mp H d u
  | [], _, i, d, _, h => by simp at h
  | e :: es, σ, i, d, r, h => by
    unfold RelE at r
    obtain ⟨u, us, rfl, r1, r2⟩ := r
    cases i with
    | zero =>
      have h : e = some d := by simpa using h
      subst h
      cases u with
      | none => exact (show False from r1).elim
      | some u => exact ⟨u, rfl, r1⟩
    | succ i =>
      obtain ⟨w, e1, e2⟩ := relE_at (i := i) r2 (by simpa using h)
      exact ⟨w, by simpa using e1, e2⟩
theorem ms_aug {i : Nat} {x : Str} {op : Operator} {f : Int → Int → Int} (hN : X.N.Nodup) (hi : X.N[i]? = some x) (hx : Loc X.env.scope x) (ha : ME X W e ma) (ho : PIp X op (ipI f)) (hf : X.fn x = true ∨ X.env.scope.names.lookup x = some .local) : MS X W (.AugAssign (.Name x p2) op e pos) (sAug i f ma) := by
  obtain ⟨ta, pa, ha⟩ := ha.ex
  refine ⟨⟨_, ps_aug hN hi hx pa ho hf, fun D σ H mp env st rs re hp => ?_⟩⟩
  unfold sAug at hp
  split at hp
  · rename_i k hk
    obtain ⟨u, e1, e2⟩ := relE_at re hk
    obtain rfl := rep_int e2
    refine ⟨_, e1, ha σ H _ mp env st rs re (PostS.of_bind re hp fun mp1 H1 d st1 u _ l s r re1 q => ?_)⟩
    split at q
    · rename_i j hj
      obtain rfl := intOf_eq hj
      exact ⟨k, j, rfl, rep_int r, q mp1 H1 _ .refl s (relE_set re1 (show RelO X.K mp1 H1 (some (.int (f k j))) (some (.int (f k j))) from rep_i X.K mp1 H1 _))⟩
    · exact q.elim
  · exact hp.elim
/-! ### o.f op= e -/
def sAugF (fo : Str → Str → Bool) (n : Str) (f : Int → Int → Int) (mo mv : MEnv → Store → R Val) : MM := fun env st => (mo env st).bindS env fun o st => match insOf st o with
  | some (C, fs) => if fo C n = true then (match fget fs n with
    | some (.int a) => (mv env st).bindS env fun d st => (match intOf d, insOf st o, refOf o with
      | some b, some (C2, fs2), some j => if C2 = C ∧ fs2.length < 1000 then .nx env (st.set j (.ins C (fput n (.int (f a b)) fs2))) else .stuck
      | _, _, _ => .stuck)
    | _ => .stuck) else .stuck
  | none => .stuck
theorem ms_augF {fo : Str → Str → Bool} {n : Str} {op : Operator} {f : Int → Int → Int} {rd : V → V → Hp → VK → Prop} (hfo : ∀ C, fo C n = true → Cls X.K (He.ga X.K C) ∧ NoAttr X.K (He.ga X.K C) n) (ho : ME X W o ma) (hv : ME X W e mb) (hop : InOp X op rd)
    (hrd : ∀ i j H Q, Q (.int (f i j)) H → rd (.int i) (.int j) H Q) : MS X W (.AugAssign (.Attribute o n p2) op e pos) (sAugF fo n f ma mb) := by
  obtain ⟨to, po, ho⟩ := ho.ex
  obtain ⟨tv, pv, hv⟩ := hv.ex
  refine ⟨⟨_, ps_fldaug po pv hop, fun D σ H mp env st rs re hp => ?_⟩⟩
  refine ho σ H _ mp env st rs re (PostS.of_bind re hp fun mp1 H1 x st1 u _ l s r re1 q => ?_)
  split at q
  · rename_i C fs hi
    obtain ⟨j, a, dx, xs, rfl, rfl, h1, h2, h3, h4⟩ := insOf_rep s r hi
    split at q
    · rename_i c
      split at q
      · rename_i k hk
        obtain ⟨w, w1, w2⟩ := (repf_get h4).1 _ hk
        obtain rfl := rep_int w2
        refine ⟨a, _, dx, xs, _, rfl, h3, (hfo C c).1, (hfo C c).2, w1, ?_⟩
        refine hv σ H1 _ mp1 env st1 s re1 (PostS.of_bind re1 q fun mp2 H2 d st2 v _ l2 s2 r2 re2 q2 => ?_)
        split at q2
        · rename_i b C2 fs2 j2 hb hi2 hj
          obtain rfl := intOf_eq hb
          obtain rfl := rep_int r2
          obtain ⟨j3, a3, dx3, xs3, e3, e4, g1, g2, g3, g4⟩ := insOf_rep s2 (l2.rep r) hi2
          injection e3 with e3
          subst e3
          injection e4 with e4
          subst e4
          obtain rfl : j = j2 := by
            have := refOf_eq hj
            injection this
          split at q2
          · rename_i cc
            obtain ⟨rfl, cc⟩ := cc
            obtain ⟨l4, s4⟩ := s2.change (o := .ins C2 (fput n (.int (f k b)) fs2)) (u := .ins (He.ga X.K C2) dx3 (putF n (.int (f k b)) xs3)) g1 g3 fun {H'} l' e => ⟨dx3, _, e, repf_put (l'.repf g4) (rep_i ..)⟩
            exact hrd k b H2 _ ⟨dx3, xs3, g3, by rw [← repf_len g4]; exact cc, q2 mp2 _ σ l4 s4 (l4.relE re2)⟩
          · exact q2.elim
        · exact q2.elim
      · exact q.elim
    · exact q.elim
  · exact q.elim
end
/-! ### list(range(..)) -/
def rgB (i j : Int) : Bool := decide (-1000000 ≤ i ∧ i ≤ 8000000 ∧ -1000000 ≤ j ∧ j ≤ 8000000)
def nRg2 (ma mb : MEnv → Store → R Val) (env : MEnv) (st : Store) : R (List Val) := (ma env st).bind fun d st => (mb env st).bind fun e st => match intOf d, intOf e with
  | some i, some j => if rgB i j = true then .ok (rngL i (j - i).toNat) st else .stuck
  | _, _ => .stuck
def nRg1 (ma : MEnv → Store → R Val) (env : MEnv) (st : Store) : R (List Val) := (ma env st).bind fun d st => match intOf d with
  | some j => if rgB 0 j = true then .ok (rngL 0 (j - 0).toNat) st else .stuck
  | _ => .stuck
theorem rep_rg {K : PySem.W.Frag} {mp : Mp} {H : Hp} (i j : Int) : RepVs K mp H (rngL i (j - i).toNat) (rgV i j) := by
  have h := repvs_ints (K := K) (mp := mp) (H := H) ((List.range (j - i).toNat).map fun k => i + (k : Nat))
  rw [List.map_map, List.map_map] at h
  exact h
theorem rgB_ok {i j : Int} (h : rgB i j = true) : RgOk i j := by
  have h := of_decide_eq_true h
  refine ⟨by omega, by omega, by omega, by omega, ?_⟩
  have : (j - i).toNat ≤ 9000000 := by omega
  omega
section
variable {X : Cx} {W : WX} {pos p p2 : Pos} {a b : Expr} {ma mb : MEnv → Store → R Val}
theorem mn_rg2 {q : Pos} (hc : X.calm = true) (hg : Gl X "list") (hm : X.mg "list" = none) (hg2 : Gl X "range") (hm2 : X.mg "range" = none) (ha : ME X W a ma) (hb : ME X W b mb) (h1 : noStar a = true) (h2 : noStar b = true) :
    MN X W (.Call (.Name "list" p) [.Call (.Name "range" p2) [a, b] [] q] [] pos) (nRg2 ma mb) := by
  obtain ⟨ta, pa, ha⟩ := ha.ex
  obtain ⟨tb, pb, hb⟩ := hb.ex
  refine ⟨⟨_, pe_listRg hc hg hm (prg_2 hg2 hm2 pa pb (star1 h1) (star1 h2) (by rw [star1 h2]; rfl)) rfl, fun σ H Q mp env st rs re hp => ?_⟩⟩
  refine ha σ H _ mp env st rs re (PostN.of_bind hp fun mp1 H1 d st1 u _ l s r q => ?_)
  refine hb σ H1 _ mp1 env st1 s (l.relE re) (PostN.of_bind q fun mp2 H2 e st2 v _ l2 s2 r2 q2 => ?_)
  split at q2
  · rename_i i j hi hj
    obtain rfl := intOf_eq hi
    obtain rfl := intOf_eq hj
    split at q2
    · rename_i c
      exact ⟨i, j, rep_int r, rep_int r2, rgB_ok c, fun p3 np => q2.out s2 (rep_rg i j) np⟩
    · exact q2.elim
  · exact q2.elim
theorem mn_rg1 {q : Pos} (hc : X.calm = true) (hg : Gl X "list") (hm : X.mg "list" = none) (hg2 : Gl X "range") (hm2 : X.mg "range" = none) (ha : ME X W a ma) (h1 : noStar a = true) :
    MN X W (.Call (.Name "list" p) [.Call (.Name "range" p2) [a] [] q] [] pos) (nRg1 ma) := by
  obtain ⟨ta, pa, ha⟩ := ha.ex
  refine ⟨⟨_, pe_listRg hc hg hm (prg_1 hg2 hm2 pa (star1 h1)) rfl, fun σ H Q mp env st rs re hp => ?_⟩⟩
  refine ha σ H _ mp env st rs re (PostN.of_bind hp fun mp1 H1 d st1 u _ l s r q => ?_)
  split at q
  · rename_i j hj
    obtain rfl := intOf_eq hj
    split at q
    · rename_i c
      exact ⟨j, rep_int r, rgB_ok c, fun p3 np => q.out s (rep_rg 0 j) np⟩
    · exact q.elim
  · exact q.elim
end
end ML

-- Dk
set_option linter.all false
set_option maxRecDepth 100000
set_option maxHeartbeats 4000000
/-! Dk: [d[x] for x in d if d[x] > 0], d a dict of the store whose values are numbers. -/
namespace ML
open PySem PySem.Spec PyProof.Rows L2
def posN (kvs : List (Key × Val)) : List (Key × Val) → List Int
  | [] => []
  | p :: r => match lookM kvs p.1 with
    | some (.int i) => if 0 < i then i :: posN kvs r else posN kvs r
    | _ => posN kvs r
def intsD (kvs : List (Key × Val)) : Bool := kvs.all fun p => match lookM kvs p.1 with
  | some (.int _) => true
  | _ => false
def nDk (i j : Nat) (env : MEnv) (st : Store) : R (List Val) := match env[j]? with
  | some (some (.ref n)) => (match st[n]? with
    | some (.dct kvs) => if (kvs.length ≤ line ∧ intsD kvs = true) ∧ i < env.length then .ok ((posN kvs kvs).map .int) st else .stuck
    | _ => .stuck)
  | _ => .stuck
theorem relE_len {K : PySem.W.Frag} {mp : Mp} {H : Hp} : ∀ {env : MEnv} {σ : L2.St}, RelE K mp H env σ → env.length = σ.length
  | [], σ, h => by
    unfold RelE at h
    subst h; rfl
  | e :: es, σ, h => by
    unfold RelE at h
    obtain ⟨u, us, rfl, r, z⟩ := h
    simp [relE_len z]
theorem posN_cons (kvs : List (Key × Val)) (p : Key × Val) (r : List (Key × Val)) : posN kvs (p :: r) = (match lookM kvs p.1 with
    | some (.int i) => if 0 < i then [i] else []
    | _ => []) ++ posN kvs r := by
  show (match lookM kvs p.1 with
    | some (.int i) => if 0 < i then i :: posN kvs r else posN kvs r
    | _ => posN kvs r) = _
  split
  · split <;> rfl
  · rfl
theorem posN_append (kvs : List (Key × Val)) : ∀ a b : List (Key × Val), posN kvs (a ++ b) = posN kvs a ++ posN kvs b
  | [], b => rfl
  | p :: r, b => by
    rw [List.cons_append, posN_cons, posN_cons, posN_append kvs r b, List.append_assoc]
theorem posN_one {kvs : List (Key × Val)} {p : Key × Val} {i : Int} (h : lookM kvs p.1 = some (.int i)) : posN kvs [p] = if 0 < i then [i] else [] := by
  unfold posN
  rw [h]
  simp only
  split <;> rfl
theorem posN_len (kvs : List (Key × Val)) : ∀ a : List (Key × Val), (posN kvs a).length ≤ a.length
  | [] => Nat.le_refl _
  | p :: r => by
    have ih := posN_len kvs r
    unfold posN
    split
    · split
      · simp only [List.length_cons]; omega
      · simp only [List.length_cons]; omega
    · simp only [List.length_cons]; omega
theorem repk_get {K : PySem.W.Frag} {mp : Mp} {H : Hp} : ∀ {kvs : List (Key × Val)} {xs : List (Key × V)} {i : Nat} {k : Key} {v : V}, RepK K mp H kvs xs → xs[i]? = some (k, v) → ∃ d, kvs[i]? = some (k, d)
  | [], xs, i, k, v, r, e => by
    unfold RepK at r
    subst r; simp at e
  | (k', d') :: kvs, xs, i, k, v, r, e => by
    unfold RepK at r
    obtain ⟨u, us, rfl, r1, r2⟩ := r
    cases i with
    | zero =>
      simp at e
      exact ⟨d', by simp [e.1]⟩
    | succ i =>
      rw [List.getElem?_cons_succ] at e ⊢
      exact repk_get r2 e
theorem mn_dk {X : Cx} {W : WX} {i j : Nat} {D x : Str} {scope : Scope} {own : List (Str × Nat)} {p1 p2 p3 p4 p5 p6 p7 p8 p9 p10 pos : Pos} {kk : Nat} (hu : X.A.units + 1 < cLine) (hc : X.calm = true) (hN : X.N.Nodup) (hD : X.N[j]? = some D) (hx : X.N[i]? = some x) (hv : Vis X.env.scope D) (nD : ML.nd D = true) (nx : ML.nd x = true)
    (ok : BlkOk X.N X.env.scope scope own) (io : i ∈ own.map (·.2)) (jo : j ∉ own.map (·.2))
    (hb : ∀ (s : Shared) (H : Hp) (C : Addr) (cl : List (Str × Addr)) (fp : List Addr), Vis (X.blk s H scope (compEnvC scope cl C X.env) fp).env.scope D ∧ Vis (X.blk s H scope (compEnvC scope cl C X.env) fp).env.scope x ∧ Loc (X.blk s H scope (compEnvC scope cl C X.env) fp).env.scope x ∧
      ((X.blk s H scope (compEnvC scope cl C X.env) fp).fn x = true ∨ (X.blk s H scope (compEnvC scope cl C X.env) fp).env.scope.names.lookup x = some .local)) :
    MN X W (.ListComp (.Subscript (.Name D p1) (.Name x p2) p3) [⟨.Name x p4, .Name D p5, [.Compare (.Subscript (.Name D p6) (.Name x p7) p8) [.Gt] [.Constant (.int 0) kk p9] p10], 0⟩] scope pos) (nDk i j) := by
  refine ⟨⟨_, pe_lock (pe_lc hc hN (pi_keys (pe_var hD hv (nd_dbg nD) (nd_cd nD))) ok (fun s H C cl fp => pg_name hN hx (hb s H C cl fp).2.2.1 (hb s H C cl fp).2.2.2)
    (fun s H C cl fp => pts_one (pt_cmpR op_gt (pe_dget hu (pe_var hD (hb s H C cl fp).1 (nd_dbg nD) (nd_cd nD)) (pe_var hx (hb s H C cl fp).2.1 (nd_dbg nx) (nd_cd nx)) (fun _ _ => rfl)) pe_int rfl))
    (fun s H C cl fp => pe_dget hu (pe_var hD (hb s H C cl fp).1 (nd_dbg nD) (nd_cd nD)) (pe_var hx (hb s H C cl fp).2.1 (nd_dbg nx) (nd_cd nx)) (fun _ _ => rfl))), fun σ H Q mp env st rs re hp => ?_⟩⟩
  unfold nDk at hp
  split at hp
  case h_2 => exact hp.elim
  rename_i n hn
  split at hp
  case h_2 => exact hp.elim
  rename_i kvs hst
  split at hp
  case isFalse => exact hp.elim
  rename_i cc
  obtain ⟨⟨hl, hi⟩, hil⟩ := cc
  obtain ⟨u, e1, r⟩ := relE_get re hn
  unfold RepV at r
  obtain ⟨a, rfl, q⟩ := r
  obtain ⟨xs, hxs, rk⟩ := rs.obj n a _ q hst
  have hlen : kvs.length = xs.length := repk_len rk
  have hij : ∀ σ2 : L2.St, wipe σ2 (own.map (·.2)) = wipe σ (own.map (·.2)) → σ2[j]? = some (some (V.ref a)) := fun σ2 e => by
    have h1 := congrArg (fun z : L2.St => z[j]?) e
    simp only [wipe_at] at h1
    rw [if_neg fun z => jo z.1, if_neg fun z => jo z.1] at h1
    exact h1.trans e1
  refine ⟨a, .dK xs, hxs, trivial, fun od => ?_⟩
  refine ⟨.ref a, e1, a, od, rfl, .inl ⟨xs, upd_same, fun P nP => ?_⟩⟩
  have neP : P ≠ a := by
    rintro rfl
    rw [upd_same] at nP
    cases nP
  have nP0 : H P = none := by rwa [upd_ne neP] at nP
  have fz : ∀ acc : List V, upd (upd H a (.frz od (.dK xs))) P (.lst acc) a = some (.frz od (.dK xs)) := fun acc => by
    rw [upd_ne (Ne.symm neP), upd_same]
  refine ⟨fun t m H' => m = xs.length - t ∧ t ≤ xs.length ∧ H' = upd (upd H a (.frz od (.dK xs))) P (.lst ((posN kvs (kvs.take t)).map V.int)), ⟨_, rfl, Nat.zero_le _, rfl⟩, ?_⟩
  rintro t m H' ⟨rfl, ht, rfl⟩
  by_cases hlt : t < xs.length
  · have htk : t < kvs.length := by omega
    refine .inr ⟨⟨fz _, hlt⟩, fun H' => t + 1 ≤ xs.length ∧ H' = upd (upd H a (.frz od (.dK xs))) P (.lst ((posN kvs (kvs.take (t + 1))).map V.int)), fun H' z => ⟨xs.length - (t + 1), by omega, rfl, z.1, z.2⟩, fun y H' hy => ?_⟩
    obtain ⟨rfl, k, v, ek, rfl⟩ := hy
    obtain ⟨d, ed⟩ := repk_get rk ek
    have hget : kvs[t] = (k, d) := by
      have := List.getElem?_eq_getElem htk
      rw [this] at ed
      exact Option.some.inj ed
    have hz : ∃ z : Int, lookM kvs k = some (.int z) := by
      have := List.all_eq_true.mp hi (k, d) (List.mem_of_getElem? ed)
      simp only at this
      split at this
      · rename_i z hz
        exact ⟨z, hz⟩
      · cases this
    obtain ⟨z, hz⟩ := hz
    obtain ⟨w, ew, rw1⟩ := (look_rep k rk).1 _ hz
    obtain rfl := rep_int rw1
    have htake : posN kvs (kvs.take (t + 1)) = posN kvs (kvs.take t) ++ if 0 < z then [z] else [] := by
      rw [List.take_succ, posN_append, ed]
      exact congrArg _ (posN_one (p := (k, d)) hz)
    refine ⟨?_, ?_⟩
    · refine (agree_wipe (ws := [i]) ⟨by simp, fun b hb2 => ?_⟩ (fun b hb2 => (List.mem_singleton.mp hb2) ▸ io)).trans wipe_wipe
      rw [List.getElem?_set_ne]
      exact fun e => hb2 (List.mem_singleton.mpr e.symm)
    · have ha2 : ((wipe σ (own.map (·.2))).set i (some (kV k)))[j]? = some (some (V.ref a)) := by
        rw [List.getElem?_set_ne (fun e : i = j => jo (by rw [← e]; exact io))]
        exact hij _ wipe_wipe
      have hk2 : ((wipe σ (own.map (·.2))).set i (some (kV k)))[i]? = some (some (kV k)) := by
        exact List.getElem?_set_self (by rw [wipe_length, ← relE_len re]; exact hil)
      refine ⟨.ref a, ha2, kV k, hk2, a, .int z, rfl, .inl ⟨xs, k, .inr ⟨od, fz _⟩, rfl, ew.symm⟩, z, 0, rfl, rfl, decide (0 < z), rfl, ?_⟩
      by_cases cz : 0 < z
      · show (if decide (0 < z) = true then _ else _)
        rw [if_pos (decide_eq_true cz)]
        refine ⟨.ref a, ha2, kV k, hk2, a, .int z, rfl, .inl ⟨xs, k, .inr ⟨od, fz _⟩, rfl, ew.symm⟩, _, upd_same, ?_, by omega, ?_⟩
        · have := posN_len kvs (kvs.take t)
          simp only [List.length_map]
          rw [List.length_take] at this
          rw [line_eq]
          omega
        · rw [htake, if_pos cz]
          funext b
          by_cases c : b = P
          · rw [c, upd_same, upd_same]; simp
          · rw [upd_ne c, upd_ne c, upd_ne c]
      · show (if decide (0 < z) = true then _ else _)
        rw [if_neg (fun e => cz (of_decide_eq_true e))]
        refine ⟨by omega, ?_⟩
        rw [htake, if_neg cz, List.append_nil]
  · refine .inl ⟨⟨fz _, by omega⟩, fz _, ?_⟩
    have ek : kvs.take t = kvs := List.take_of_length_le (by omega)
    rw [ek]
    have eH : upd (upd (upd H a (.frz od (.dK xs))) P (.lst ((posN kvs kvs).map V.int))) a (.dK xs) = upd H P (.lst ((posN kvs kvs).map V.int)) := by
      funext b
      by_cases c : b = a
      · rw [c, upd_same, upd_ne (Ne.symm neP), hxs]
      · rw [upd_ne c]
        by_cases c2 : b = P
        · rw [c2, upd_same, upd_same]
        · rw [upd_ne c2, upd_ne c2, upd_ne c]
    rw [eH]
    exact PostN.out hp rs (repvs_ints _) nP0
/-! xs.count(k), whole numbers -/
def fCount (d : Val) (ds : List Val) (st : Store) : R Val := match listOf st d, ds with
  | some xs, [.int k] => (match intsL xs with
    | some ns => .ok (.int (ns.count k : Nat)) st
    | none => .stuck)
  | _, _ => .stuck
theorem m_count {K : PySem.W.Frag} {W : WX} : MethM K W (rCntI K) fCount := by
  intro σ mp H st d u ds us Q s rd rs q
  unfold fCount at q
  split at q
  · rename_i xs k h1
    split at q
    · rename_i ns h2
      obtain ⟨a, ys, rfl, z, ry⟩ := listOf_rep s rd h1
      obtain rfl := ints_rep ry h2
      obtain ⟨v, vs, rfl, r1, r2⟩ := repvs_cons.mp rs
      obtain rfl := repvs_nil.mp r2
      obtain rfl := rep_int r1
      exact ⟨a, ns, k, rfl, rfl, z, q mp H _ .refl s (rep_i ..)⟩
    · exact q.elim
  · exact q.elim
theorem me_count {X : Cx} {W : WX} {o e : Expr} {ma mb : MEnv → Store → R Val} {pos : Pos} (ho : ME X W o ma) (ha : ME X W e mb) (hb : noCall o = true) (hs : noStar e = true) {apos : Pos} (hline : (apos.endLine == pos.line) = true) : ME X W (.Call (.Attribute o "count" apos) [e] [] pos) (mMeth fCount ma (mCons mb mNil)) :=
  me_bmL PySem.F.slot_list_count PySem.F.type_list_count mt_lcount m_count ho (ma_cons ha ma_nil (star1 hs)) (base_plain hb) (few1 hs) hline (star1 hs) (by rfl)
end ML

-- De
set_option linter.all false
set_option maxRecDepth 100000
set_option maxHeartbeats 4000000
/-! De: exceptions with one field: raise C(e); try: .. except C as e: .. -/
namespace ML
open PySem PySem.Spec PyProof.Rows L2
/-! ### raise -/
def spXi (K : PySem.W.Frag) (C f : Str) : Sp := fun vs H Q E => ∃ (a : Addr) (y : V), vs = [.ref a, y] ∧ OexC K (He.ga K C) ∧ PySem.W.findIn K (.ref (He.ga K C)) f = some none ∧ H a = some (exo a (He.ga K C) none) ∧
  ∀ dx, H dx = none → dx ≠ a → Q .non (upd (upd H dx (exd dx [(f, y)])) a (exo a (He.ga K C) (some dx)))
/-- a class C whose instances are raised with one value, which becomes the field f -/
structure XR (P : Program) (w : World) (K : PySem.W.Frag) (mg : Str → Option Value) (base : Heap) (C f : Str) : Prop where
  T : OexC K (He.ga K C)
  g : mg C = some (.ref (He.ga K C))
  no : PySem.W.findIn K (.ref (He.ga K C)) f = some none
  ini : ∃ (fI : Addr) (fd : FuncData) (ps : List Str), PySem.W.findIn K (.ref (He.ga K C)) "__init__" = some (some (.ref fI)) ∧ PySem.W.typeIn K (.ref fI) = some (.type "function") ∧ Binds K fd ps [] ∧ FnOk P w K mg base (L2.CX P w) 1 fI fd ps (spXi K C f)
def sRaise (C f : Str) (m : MEnv → Store → R Val) : MM := fun env st => (m env st).bindS env fun d st => .exc C (some [(f, d)]) env st
theorem ms_raise {X : Cx} {W : WX} {C f : Str} {e : Expr} {p p' pos : Pos} {m : MEnv → Store → R Val} (hc : X.calm = true) (tk : Takes X W) (hr : Room 2 X.A) (hg : Gl X C) (hd : nd C = true) (he : ME X W e m) (hs : noStar e = true) (R : XR X.prog X.w X.K X.mg X.base C f) :
    MS X W (.Raise (some (.Call (.Name C p) [e] [] p')) none pos) (sRaise C f m) := by
  obtain ⟨t, pe, he⟩ := he.ex
  obtain ⟨fI, fd, ps, i1, i2, i3, i4⟩ := R.ini
  have mk := pmk_oex (p := p) (pos := p') (dvs := []) (ds := []) R.T i1 i2 i4 hr i3 .nil passL hg R.g (pa_cons pe pa_nil (star1 hs)) (nd_dbg hd) (star1 hs) (by rfl)
  refine ⟨⟨_, ps_raise hc tk mk, fun D σ H mp env st rs re hp => ?_⟩⟩
  refine he σ H _ mp env st rs re (PostS.of_bind re hp fun mp1 H1 d st1 u e1 l s r re1 q => ?_)
  refine ⟨by simp, fun a ha => ⟨a, u, rfl, R.T, R.no, upd_same, fun dx hdx hne => ⟨rfl, dx, [(f, u)], upd_same, ?_, ?_, ?_⟩⟩⟩
  · rw [upd_ne hne, upd_same]
  · rw [upd_ne hne] at hdx; exact hdx
  · have hdx' : H1 dx = none := by rw [upd_ne hne] at hdx; exact hdx
    have eH : upd (del (upd (upd (upd H1 a (exo a (He.ga X.K C) none)) dx (exd dx [(f, u)])) a (exo a (He.ga X.K C) (some dx))) a) dx (.xd [(f, u)]) = upd H1 dx (.xd [(f, u)]) := by
      funext b
      by_cases hb : b = dx
      · subst hb; rw [upd_same, upd_same]
      · rw [upd_ne hb, upd_ne hb]
        by_cases hba : b = a
        · subst hba; rw [del_same, ha]
        · rw [del_ne hba, upd_ne hba, upd_ne hb, upd_ne hba]
    rw [eH]
    have l2 : Le mp1 H1 mp1 (upd H1 dx (.xd [(f, u)])) := le_new hdx'
    exact q mp1 _ (some dx) σ l2 (s.new hdx') (l2.relE re1) ⟨dx, _, rfl, s.notin hdx', upd_same, ⟨u, [], rfl, l2.rep r, rfl⟩⟩
/-- the class's own __init__ -/
theorem xinit {P : Program} {w : World} {K : PySem.W.Frag} {mg : Str → Option Value} {base : Heap} {x qual : Str} {st : Stmt} {fI : Addr} {fd : FuncData} {N : List Str} {C f a b : Str} {p1 p2 p3 p4 : Pos}
    (F : FunD K x qual (defArgs st) (defBody st) (defScope st) [] [] fI fd) (S : FnScope N [a, b] (defScope st)) (da : nd a = true) (db : nd b = true) (hb : defBody st = [.Assign [.Attribute (.Name a p1) f p2] (.Name b p3) p4]) :
    FnOk P w K mg base (L2.CX P w) 1 fI fd [a, b] (spXi K C f) := by
  refine F.ok S (fun vs H Q E h => ?_) (fun cdv A outer s H vs Q E hr h => ?_)
  · obtain ⟨a, y, rfl, _⟩ := h; rfl
  · obtain ⟨ad, y, rfl, T, no, e1, q⟩ := h
    have n0 : N[0]? = some a := by
      have := S.pre
      rw [← List.take_append_drop 2 N, show N.take 2 = [a, b] from this]; rfl
    have n1 : N[1]? = some b := by
      have := S.pre
      rw [← List.take_append_drop 2 N, show N.take 2 = [a, b] from this]; rfl
    have v0 : Vis (defScope st) a := (S.par a (by simp)).elim .inl (fun z => .inr (.inl z))
    have v1 : Vis (defScope st) b := (S.par b (by simp)).elim .inl (fun z => .inr (.inl z))
    rw [hb]
    refine ⟨_, pss_cons (ps_ost (pe_var n0 v0 (nd_dbg da) (nd_cd da)) (pe_var n1 v1 (nd_dbg db) (nd_cd db))) pss_nil, ?_⟩
    refine ⟨y, rfl, .ref ad, rfl, ad, He.ga K C, rfl, T, no, .inl ⟨e1, fun dx h1 h2 => q dx h1 h2⟩⟩
end ML

-- De2
set_option linter.all false
set_option maxRecDepth 100000
set_option maxHeartbeats 4000000
namespace ML
open PySem PySem.Spec PyProof.Rows L2
/-! ### handlers: what they may say -/
inductive Hx where
  | c (d : Val) | var (j : Nat) | fld (f : Str) | isI (C : Str) | not (a : Hx) | and (a b : Hx) | or (a b : Hx) | one (a : Hx) | eq (a b : Hx) | lt (a b : Hx) | ife (t a b : Hx)
inductive Hb where
  | ret (a : Hx) | ifr (t a : Hx) (r : Hb) | pas | cnt | set (j : Nat) (x : Hx) (r : Hb)
inductive HO where
  | rt (v : Val) | nx | ct
abbrev Sb := Str → Str → Option Bool
/-- what is known of the exceptions: whether they may be raised here, their fields, which is which, the names -/
structure XT where
  rs : Bool
  fl : List (Str × Str)
  sb : List (Str × Str × Bool)
  xc : List Str
def XT.has (x : XT) (c f : Str) : Bool := x.fl.any fun q => decide (q.1 = c) && decide (q.2 = f)
def XT.fd (x : XT) (c : Str) : Bool := x.fl.any fun q => decide (q.1 = c)
def XT.sbf (x : XT) : Sb := fun c C => (x.sb.find? fun q => decide (q.1 = c) && decide (q.2.1 = C)).map (·.2.2)
def Hx.val (sb : XT) (c : Str) (fs : Option (List (Str × Val))) (env : MEnv) : Hx → Option Val
  | .c d => some d
  | .var j => match env[j]? with
    | some (some v) => some v
    | _ => none
  | .fld f => match fs, sb.has c f with
    | some l, true => fget l f
    | _, _ => none
  | .isI C => match fs, sb.sbf c C, sb.fd c with
    | some _, some b, true => some (.bl b)
    | _, _, _ => none
  | .not a => match a.val sb c fs env with
    | some (.bl b) => some (.bl (!b))
    | _ => none
  | .and a b => match a.val sb c fs env with
    | some (.bl true) => b.val sb c fs env
    | some (.bl false) => some (.bl false)
    | _ => none
  | .or a b => match a.val sb c fs env with
    | some (.bl true) => some (.bl true)
    | some (.bl false) => b.val sb c fs env
    | _ => none
  | .one a => a.val sb c fs env
  | .eq a b => match a.val sb c fs env, b.val sb c fs env with
    | some (.str x), some (.str y) => if PyData.strOk x && PyData.strOk y then some (.bl (x == y)) else none
    | some (.int x), some (.int y) => some (.bl (decide (x = y)))
    | _, _ => none
  | .lt a b => match a.val sb c fs env, b.val sb c fs env with
    | some (.int x), some (.int y) => some (.bl (decide (x < y)))
    | _, _ => none
  | .ife t a b => match t.val sb c fs env with
    | some (.bl true) => a.val sb c fs env
    | some (.bl false) => b.val sb c fs env
    | _ => none
def Hb.val (sb : XT) (c : Str) (fs : Option (List (Str × Val))) : Hb → MEnv → Option HO
  | .ret a, env => (a.val sb c fs env).map .rt
  | .ifr t a r, env => match t.val sb c fs env with
    | some (.bl true) => (a.val sb c fs env).map .rt
    | some (.bl false) => r.val sb c fs env
    | _ => none
  | .pas, _ => some .nx
  | .cnt, _ => some .ct
  | .set j x r, env => match x.val sb c fs env with
    | some v => (match r.val sb c fs (env.set j (some v)) with
      | some (.rt w) => some (.rt w)
      | _ => none)
    | none => none
def HO.s (env : MEnv) (st : Store) : HO → S
  | .rt v => .rt v st
  | .nx => .nx env st
  | .ct => .ct env st
/-! ### judgements in a suite -/
section
variable (X : Cx) (d : Option Addr) (fs : Option (List (Str × Val))) (env : MEnv) (st : Store) (σ : L2.St)
def HJ (e : Expr) (v : Val) : Prop := ∀ mp H Q, RelS X.K mp H st → RelE X.K mp H env σ → ExRep X.K mp H fs d → Post X.K W0 σ (RV X.K) mp H (.ok v st) Q → ∃ t, PE X e t ∧ t σ H Q
def HT (e : Expr) (b : Bool) : Prop := ∀ mp H (Q : Bool → Hp → Prop), RelS X.K mp H st → RelE X.K mp H env σ → ExRep X.K mp H fs d → (∀ mp' H', Le mp H mp' H' → RelS X.K mp' H' st → Q b H') → ∃ t, PT X e t ∧ t σ H Q
def HW (e : Expr) (b : Bool) : Prop := ∀ mp H (Q : Bool → Hp → Prop), RelS X.K mp H st → RelE X.K mp H env σ → ExRep X.K mp H fs d → (∀ mp' H', Le mp H mp' H' → RelS X.K mp' H' st → Q b H') → ∃ t, PW X e t ∧ t σ H Q
def HS (s : List Stmt) (o : HO) : Prop := ∀ mp H D, RelS X.K mp H st → RelE X.K mp H env σ → ExRep X.K mp H fs d → PostS X.K W0 mp H (o.s env st) D → ∃ t, PSs X s t ∧ t D σ H
end
theorem PSs.any {X : Cx} {s : List Stmt} : PSs X s (fun D σ H => ∃ t, PSs X s t ∧ t D σ H) := ⟨fun pins s σ H D I ⟨_, p, q⟩ => p.run pins s σ H D I q⟩
theorem PT.any {X : Cx} {e : Expr} : PT X e (fun σ H Q => ∃ t, PT X e t ∧ t σ H Q) := ⟨fun pins s σ H Q I ⟨_, p, q⟩ => p.run pins s σ H Q I q⟩
theorem PW.any {X : Cx} {e : Expr} : PW X e (fun σ H Q => ∃ t, PW X e t ∧ t σ H Q) := ⟨fun wh pins s σ H Q I ⟨_, p, q⟩ => p.run wh pins s σ H Q I q⟩
theorem ExRep.le {K : PySem.W.Frag} {mp mp' : Mp} {H H' : Hp} (l : Le mp H mp' H') {fs d} (h : ExRep K mp H fs d) : ExRep K mp' H' fs d := by
  cases fs with
  | none => exact h
  | some l0 =>
    obtain ⟨a, xs, e, f, q, r⟩ := h
    exact ⟨a, xs, e, l.free q f, l.keep _ _ q f.1.1, l.repf r⟩
section
variable {X : Cx} {d : Option Addr} {fs : Option (List (Str × Val))} {env : MEnv} {st : Store} {σ : L2.St} {e f : Expr} {pos p p2 : Pos} {v : Val}
theorem hj_c {u : V} (h : PE X e (tC u)) (r : ∀ mp H, RepV X.K mp H v u) : HJ X d fs env st σ e v := fun mp H Q rs re rx hp => ⟨_, h, hp.out rs (r mp H)⟩
theorem hj_var {j : Nat} {x : Str} (hN : X.N[j]? = some x) (hv : Vis X.env.scope x) (hd : nd x = true) (e : env[j]? = some (some v)) : HJ X d fs env st σ (.Name x pos) v := fun mp H Q rs re rx hp => by
  obtain ⟨u, e1, r⟩ := relE_get re e
  exact ⟨_, pe_var hN hv (nd_dbg hd) (nd_cd hd), u, e1, hp.out rs r⟩
theorem hj_not {b : Bool} (h : HJ X d fs env st σ e (.bl b)) : HJ X d fs env st σ (.UnaryOp .Not e pos) (.bl (!b)) := fun mp H Q rs re rx hp => by
  obtain ⟨t, p, q⟩ := h mp H (fun x H1 => ∃ k, TruV X.K x H1 k ∧ Q (.bl (!k)) H1) rs re rx (fun mp' H' u l s r => by
    obtain rfl := rep_bl r
    exact ⟨b, rfl, hp mp' H' _ l s (rep_b ..)⟩)
  exact ⟨_, pe_notT p, q⟩
theorem hj_and {b : Bool} {rest : List Expr} (h : HJ X d fs env st σ e (.bl b)) (h2 : b = true → HJ X d fs env st σ (.BoolOp .And (f :: rest) pos) v) (hv : b = false → v = .bl false) : HJ X d fs env st σ (.BoolOp .And (e :: f :: rest) pos) v := fun mp H Q rs re rx hp => by
  obtain ⟨t, p, q⟩ := h mp H (fun x H1 => ∃ k, TruV X.K x H1 k ∧ if k = true then (∃ t, PE X (.BoolOp .And (f :: rest) pos) t ∧ t σ H1 Q) else Q x H1) rs re rx (fun mp' H' u l s r => by
    obtain rfl := rep_bl r
    refine ⟨b, rfl, ?_⟩
    cases b with
    | true => exact h2 rfl mp' H' Q s (l.relE re) (rx.le l) (fun mp2 H2 u2 l2 s2 r2 => hp mp2 H2 u2 (l.trans l2) s2 r2)
    | false => rw [hv rfl] at hp; exact hp mp' H' _ l s (rep_b ..))
  exact ⟨_, pe_andT p PE.any, q⟩
theorem hj_or {b : Bool} {rest : List Expr} (h : HJ X d fs env st σ e (.bl b)) (h2 : b = false → HJ X d fs env st σ (.BoolOp .Or (f :: rest) pos) v) (hv : b = true → v = .bl true) : HJ X d fs env st σ (.BoolOp .Or (e :: f :: rest) pos) v := fun mp H Q rs re rx hp => by
  obtain ⟨t, p, q⟩ := h mp H (fun x H1 => ∃ k, TruV X.K x H1 k ∧ if k = true then Q x H1 else (∃ t, PE X (.BoolOp .Or (f :: rest) pos) t ∧ t σ H1 Q)) rs re rx (fun mp' H' u l s r => by
    obtain rfl := rep_bl r
    refine ⟨b, rfl, ?_⟩
    cases b with
    | false => exact h2 rfl mp' H' Q s (l.relE re) (rx.le l) (fun mp2 H2 u2 l2 s2 r2 => hp mp2 H2 u2 (l.trans l2) s2 r2)
    | true => rw [hv rfl] at hp; exact hp mp' H' _ l s (rep_b ..))
  exact ⟨_, pe_orT p PE.any, q⟩
theorem hj_one {op} (h : HJ X d fs env st σ e v) : HJ X d fs env st σ (.BoolOp op [e] pos) v := fun mp H Q rs re rx hp => by
  obtain ⟨t, p, q⟩ := h mp H Q rs re rx hp
  exact ⟨_, pe_one p, q⟩
theorem hj_cmp {op : CmpOp} {r : R2} {g : F2} {va vb : Val} (ho : OpR X (compareOp op) r) (hg : OpM X.K W0 r g) (ha : HJ X d fs env st σ e va) (hb : HJ X d fs env st σ f vb) (hm : behindInMarks op f = false) (hv : g va vb st = .ok v st) :
    HJ X d fs env st σ (.Compare e [op] [f] pos) v := fun mp H Q rs re rx hp => by
  obtain ⟨t, p, q⟩ := ha mp H (fun x H1 => ∃ t, PE X f t ∧ t σ H1 fun y H2 => r x y H2 Q) rs re rx (fun mp1 H1 x l1 s1 r1 => by
    refine hb mp1 H1 _ s1 (l1.relE re) (rx.le l1) (fun mp2 H2 y l2 s2 r2 => hg σ mp2 H2 st va vb x y Q s2 (l2.rep r1) r2 ?_)
    rw [hv]
    exact fun mp3 H3 z l3 s3 r3 => hp mp3 H3 z ((l1.trans l2).trans l3) s3 r3)
  exact ⟨_, pe_cmpR ho p PE.any hm, q⟩
theorem ht_val {b : Bool} (h : HJ X d fs env st σ e (.bl b)) (he : plainT e = true) : HT X d fs env st σ e b := fun mp H Q rs re rx hp => by
  obtain ⟨t, p, q⟩ := h mp H (fun x H' => ∃ k, TruV X.K x H' k ∧ Q k H') rs re rx (fun mp' H' u l s r => by
    obtain rfl := rep_bl r
    exact ⟨b, rfl, hp mp' H' l s⟩)
  exact ⟨_, pt_truth p (test_plain he), q⟩
theorem ht_cmp {op : CmpOp} {r : R2} {g : F2} {va vb : Val} {b : Bool} (ho : OpR X (compareOp op) r) (hg : OpM X.K W0 r g) (ha : HJ X d fs env st σ e va) (hb : HJ X d fs env st σ f vb) (hm : behindInMarks op f = false) (hv : g va vb st = .ok (.bl b) st) :
    HT X d fs env st σ (.Compare e [op] [f] pos) b := fun mp H Q rs re rx hp => by
  obtain ⟨t, p, q⟩ := ha mp H (fun x H1 => ∃ t, PE X f t ∧ t σ H1 fun y H2 => r x y H2 fun z H3 => ∃ k, z = .bl k ∧ Q k H3) rs re rx (fun mp1 H1 x l1 s1 r1 => by
    refine hb mp1 H1 _ s1 (l1.relE re) (rx.le l1) (fun mp2 H2 y l2 s2 r2 => hg σ mp2 H2 st va vb x y _ s2 (l2.rep r1) r2 ?_)
    rw [hv]
    exact fun mp3 H3 z l3 s3 r3 => ⟨b, rep_bl r3, hp mp3 H3 ((l1.trans l2).trans l3) s3⟩)
  exact ⟨_, pt_cmpR ho p PE.any hm, q⟩
theorem hj_ife {b : Bool} {c y : Expr} (h : HT X d fs env st σ c b) (h1 : b = true → HJ X d fs env st σ e v) (h2 : b = false → HJ X d fs env st σ y v) : HJ X d fs env st σ (.IfExp c e y pos) v := fun mp H Q rs re rx hp => by
  obtain ⟨t, p, q⟩ := h mp H (fun k H1 => if k = true then (∃ t, PE X e t ∧ t σ H1 Q) else (∃ t, PE X y t ∧ t σ H1 Q)) rs re rx (fun mp' H' l s => by
    cases b with
    | true =>
      rw [if_pos rfl]
      exact h1 rfl mp' H' Q s (l.relE re) (rx.le l) (fun mp2 H2 u2 l2 s2 r2 => hp mp2 H2 u2 (l.trans l2) s2 r2)
    | false =>
      rw [if_neg (by decide)]
      exact h2 rfl mp' H' Q s (l.relE re) (rx.le l) (fun mp2 H2 u2 l2 s2 r2 => hp mp2 H2 u2 (l.trans l2) s2 r2))
  exact ⟨_, pe_ifExp p PE.any PE.any, q⟩
theorem hs_set {j : Nat} {y : Str} {w : Val} {rest : List Stmt} (hN : X.N.Nodup) (hi : X.N[j]? = some y) (hx : Loc X.env.scope y) (h : HJ X d fs env st σ e v) (hs : swapsWith e (some (.Name y p2)) pos.line X.env = pure false) (hf : X.fn y = true ∨ X.env.scope.names.lookup y = some .local)
    (h2 : ∀ u, HS X d fs (env.set j (some v)) st (σ.set j (some u)) rest (.rt w)) : HS X d fs env st σ (.Assign [.Name y p2] e pos :: rest) (.rt w) := fun mp H D rs re rx hp => by
  obtain ⟨t, p, q⟩ := h mp H (fun u H1 => ∃ t, PSs X rest t ∧ t D (σ.set j (some u)) H1) rs re rx (fun mp' H' u l s r =>
    h2 u mp' H' D s (relE_set (l.relE re) (show RelO X.K mp' H' (some v) (some u) from r)) (rx.le l) (fun mp2 H2 u2 l2 s2 r2 => hp mp2 H2 u2 (l.trans l2) s2 r2))
  exact ⟨_, pss_cons (ps_set hN hi hx p hs hf) PSs.any, q⟩
theorem ht_not {b : Bool} (h : HT X d fs env st σ e b) : HT X d fs env st σ (.UnaryOp .Not e pos) (!b) := fun mp H Q rs re rx hp => by
  obtain ⟨t, p, q⟩ := h mp H (fun c H1 => Q (!c) H1) rs re rx (fun mp' H' l s => hp mp' H' l s)
  exact ⟨_, pt_not p, q⟩
theorem hw_or1 {b : Bool} (h : HT X d fs env st σ e b) : HW X d fs env st σ (.BoolOp .Or [e] pos) b := fun mp H Q rs re rx hp => by
  obtain ⟨t, p, q⟩ := h mp H Q rs re rx hp
  exact ⟨_, pw_or1 p, q⟩
theorem hw_and1 {b : Bool} (h : HT X d fs env st σ e b) : HW X d fs env st σ (.BoolOp .And [e] pos) b := fun mp H Q rs re rx hp => by
  obtain ⟨t, p, q⟩ := h mp H Q rs re rx hp
  exact ⟨_, pw_and1 p, q⟩
theorem hw_or {b v : Bool} {rest : List Expr} (h : HT X d fs env st σ e b) (h2 : b = false → HW X d fs env st σ (.BoolOp .Or (f :: rest) pos) v) (hv : b = true → v = true) : HW X d fs env st σ (.BoolOp .Or (e :: f :: rest) pos) v := fun mp H Q rs re rx hp => by
  obtain ⟨t, p, q⟩ := h mp H (fun c H1 => if c = true then Q true H1 else (∃ t, PW X (.BoolOp .Or (f :: rest) pos) t ∧ t σ H1 Q)) rs re rx (fun mp' H' l s => by
    cases b with
    | false => exact h2 rfl mp' H' Q s (l.relE re) (rx.le l) (fun mp2 H2 l2 s2 => hp mp2 H2 (l.trans l2) s2)
    | true => rw [hv rfl] at hp; exact hp mp' H' l s)
  exact ⟨_, pw_or p PW.any, q⟩
theorem hw_and {b v : Bool} {rest : List Expr} (h : HT X d fs env st σ e b) (h2 : b = true → HW X d fs env st σ (.BoolOp .And (f :: rest) pos) v) (hv : b = false → v = false) : HW X d fs env st σ (.BoolOp .And (e :: f :: rest) pos) v := fun mp H Q rs re rx hp => by
  obtain ⟨t, p, q⟩ := h mp H (fun c H1 => if c = true then (∃ t, PW X (.BoolOp .And (f :: rest) pos) t ∧ t σ H1 Q) else Q false H1) rs re rx (fun mp' H' l s => by
    cases b with
    | true => exact h2 rfl mp' H' Q s (l.relE re) (rx.le l) (fun mp2 H2 l2 s2 => hp mp2 H2 (l.trans l2) s2)
    | false => rw [hv rfl] at hp; exact hp mp' H' l s)
  exact ⟨_, pw_and p PW.any, q⟩
theorem HW.ht {b : Bool} (h : HW X d fs env st σ e b) : HT X d fs env st σ e b := fun mp H Q rs re rx hp => by
  obtain ⟨t, p, q⟩ := h mp H Q rs re rx hp
  exact ⟨_, p.pt, q⟩
theorem hs_ret {v : Val} (h : HJ X d fs env st σ e v) : HS X d fs env st σ [.Return (some e) pos] (.rt v) := fun mp H D rs re rx hp => by
  obtain ⟨t, p, q⟩ := h mp H D.rt rs re rx (fun mp' H' u l s r => hp mp' H' u l s r)
  exact ⟨_, pss_cons (ps_ret p) pss_nil, q⟩
theorem hs_pas : HS X d fs env st σ [.Pass pos] .nx := fun mp H D rs re rx hp => ⟨_, pss_cons ps_pass pss_nil, hp mp H σ .refl rs re⟩
theorem hs_cnt : HS X d fs env st σ [.Continue pos] .ct := fun mp H D rs re rx hp => ⟨_, pss_cons ps_continue pss_nil, hp mp H σ .refl rs re⟩
theorem hs_if {b : Bool} {o : HO} {s rest : List Stmt} (ht : HT X d fs env st σ e b) (h1 : b = true → HS X d fs env st σ s o ∧ ∃ v, o = .rt v) (h2 : b = false → HS X d fs env st σ rest o) : HS X d fs env st σ (.If e s [] pos :: rest) o := fun mp H D rs re rx hp => by
  obtain ⟨t, p, q⟩ := ht mp H (fun c H1 => if c = true then (∃ t, PSs X s t ∧ t { D with nx := fun σ H => ∃ t, PSs X rest t ∧ t D σ H } σ H1) else ∃ t, PSs X rest t ∧ t D σ H1) rs re rx (fun mp' H' l st1 => by
    cases b with
    | true =>
      rw [if_pos rfl]
      obtain ⟨a, v, rfl⟩ := h1 rfl
      exact a mp' H' _ st1 (l.relE re) (rx.le l) (fun mp2 H2 u l2 s2 r2 => hp mp2 H2 u (l.trans l2) s2 r2)
    | false =>
      rw [if_neg (by decide)]
      exact h2 rfl mp' H' D st1 (l.relE re) (rx.le l) (hp.le l))
  exact ⟨_, pss_cons (ps_if p PSs.any pss_nil) PSs.any, q⟩
end
/-! ### the caught exception itself -/
/-- a class whose instances are caught: the field may be read, isinstance may be asked -/
structure XG (K : PySem.W.Frag) (c f : Str) : Prop where
  T : XfC K (He.ga K c)
  no : PySem.W.findIn K (.ref (He.ga K c)) f = some none
  kc : PySem.W.findIn K (.ref (He.ga K c)) "__class__" = some (some (.builtin "object.__class__"))
  kg : PySem.W.specialIn K (.builtin "object.__class__") "__get__" = some (some (.builtin "getset_descriptor.__get__"))
  kt : PySem.W.takesIn K (.builtin "object.__class__") = some true
  km : PySem.W.mroIn K (He.ga K c) (.type "object") = some true
section
variable {X : Cx} {a : Addr} {oe : Obj} {c f : Str} {d : Option Addr} {pn : List (Addr × Obj)} {fs : Option (List (Str × Val))} {env : MEnv} {st : Store} {σ : L2.St} {pos p p2 p3 : Pos} {i : Nat} {x D : Str}
theorem hj_fld {l : List (Str × Val)} {v : Val} (G : XG X.K c f) (hz : Zc (.ref (He.ga X.K c)) d oe) (hf : ∃ vs, oe.data = .fields vs) (hN : X.N[i]? = some x) (hv : Vis X.env.scope x) (hd : nd x = true) (hσ : σ[i]? = some (some (.ref a))) (e : fget l f = some v) :
    HJ (X.suite a ((a, oe) :: pn)) d (some l) env st σ (.Attribute (.Name x p) f pos) v := fun mp H Q rs re rx hp => by
  obtain ⟨dd, xs, e1, fr, e2, rf⟩ := rx
  obtain ⟨u, e3, ru⟩ := (repf_get rf).1 v e
  exact ⟨_, pe_xf G.T G.no hz hf (pe_var hN hv (nd_dbg hd) (nd_cd hd)) (base_plain rfl), _, hσ, rfl, rfl, dd, xs, u, e1, e2, e3, hp.out rs ru⟩
def rIsX (K : PySem.W.Frag) (c : Str) (a : Addr) (d : Option Addr) : List V → Hp → VK → Prop := fun xs H Q => ∃ (D : Str) (b : Bool) (dd : Addr) (ys : List (Str × V)), xs = [.ref a, .ref (He.ga K D)] ∧ d = some dd ∧ H dd = some (.xd ys) ∧ PySem.W.kitOne K (.ref (He.ga K c)) (.ref (He.ga K D)) = some b ∧ Q (.bl b) H
theorem call_isX (G : XG X.K c f) (hz : Zc (.ref (He.ga X.K c)) d oe) (hf : ∃ vs, oe.data = .fields vs) : CallR (X.suite a ((a, oe) :: pn)) (.builtin "isinstance") (rIsX X.K c a d) := by
  intro pins s σ H xs us Q I r ⟨D, b, dd, ys, hx, hd, hH, hk, q⟩
  subst hx hd
  obtain ⟨u1, u2, hu, r1, r2⟩ := vals2 r
  subst hu
  obtain rfl : u1 = Value.ref a := r1
  obtain rfl : u2 = Value.ref (He.ga X.K D) := r2
  have there := (I.pin (a, oe) (List.mem_append_left _ List.mem_cons_self)).1
  have hx : ObjOk X.prog X.w H s.heap dd (.xd ys) := I.hok dd _ hH
  obtain ⟨mA, hns, _⟩ := hx
  obtain ⟨od, ho, _⟩ := lookIn_ns hns
  obtain ⟨vs, hv⟩ := hf
  have J : PySem.W.InstAt s.heap a oe (He.ga X.K c) (some od) := ⟨there, hz.1, by unfold PySem.W.notCls; rw [hv] <;> rfl, by rw [hz.2]; exact ho⟩
  have some_cls : (PySem.W.clsIn X.K (He.ga X.K c)).isSome = true := by
    obtain ⟨cd, h, _⟩ := PySem.W.any_some G.T.hdC
    rw [h]; rfl
  exact PySem.W.kia_one (PySem.W.kitx_exc some_cls G.T.ga G.T.gg G.T.exC G.kc G.kg G.kt G.km) I.kIn J hk (fun z => nomatch z) fun tk => ⟨.bl b, H, I.tok tk, rfl, q⟩
theorem hj_isI {l : List (Str × Val)} {b : Bool} (G : XG X.K c f) (hz : Zc (.ref (He.ga X.K c)) d oe) (hf : ∃ vs, oe.data = .fields vs) (hN : X.N[i]? = some x) (hv : Vis X.env.scope x) (hd : nd x = true) (hσ : σ[i]? = some (some (.ref a)))
    (hg : Gl X "isinstance") (hm : X.mg "isinstance" = none) (gD : Gl X D) (mD : X.mg D = some (.ref (He.ga X.K D))) (nD : nd D = true) (hk : PySem.W.kitOne X.K (.ref (He.ga X.K c)) (.ref (He.ga X.K D)) = some b) :
    HJ (X.suite a ((a, oe) :: pn)) d (some l) env st σ (.Call (.Name "isinstance" p) [.Name x p2, .Name D p3] [] pos) (.bl b) := fun mp H Q rs re rx hp => by
  obtain ⟨dd, xs, e1, fr, e2, rf⟩ := rx
  refine ⟨_, pe_callB (call_isX G hz hf) hg hm (by decide +kernel) (pa_cons (pe_var hN hv (nd_dbg hd) (nd_cd hd)) (pa_cons (pe_glob (v := .ref (He.ga X.K D)) gD mD rfl (nd_dbg nD)) pa_nil) (star1 rfl)) (by decide) (by decide) (star1 rfl) (by rfl), ?_⟩
  exact ⟨_, hσ, D, b, dd, xs, rfl, e1, e2, hk, hp.out rs (rep_b ..)⟩
end
/-! ### try -/
def cSs (K : PySem.W.Frag) (W : WX) (m : MM) : TS := fun D σ H => ∃ mp env st, RelS K mp H st ∧ RelE K mp H env σ ∧ PostS K W mp H (m env st) D
theorem MSs.canon {X : Cx} {W : WX} {s : List Stmt} {m : MM} (h : MSs X W s m) : PSs X s (cSs X.K W m) := by
  obtain ⟨t, p, h⟩ := h.ex
  exact ⟨fun pins s σ H D I ⟨mp, env, st, a, b, c⟩ => p.run pins s σ H D I (h D σ H mp env st a b c)⟩
def sTry (sb : Sb) (C : Str) (i : Nat) (mb : MM) (hm : Str → Option (List (Str × Val)) → MEnv → Option HO) : MM := fun env st => match mb env st with
  | .exc c fs env1 st1 => (match sb c C with
    | some true => (match decide (i < env1.length), hm c fs (env1.set i none) with
      | true, some o => o.s (env1.set i none) st1
      | _, _ => .stuck)
    | some false => .exc c fs env1 st1
    | none => .stuck)
  | r => r
theorem ms_try {X : Cx} {W : WX} {n C : Str} {i : Nat} {body suite : List Stmt} {b₀ : Stmt} {np pos pos' : Pos} {sb : Sb} {mb : MM} {hm : Str → Option (List (Str × Val)) → MEnv → Option HO} (hs : X.stack = X.env :: X.outer) (hf : X.env.frame = some X.env.locals)
    (hN : X.N.Nodup) (hi : X.N[i]? = some n) (hln : X.env.kindOf n = some .local) (gC : Gl X C) (nC : nd C = true) (mC : X.mg C = some (.ref (He.ga X.K C))) (tk : Takes X W)
    (hb : ∀ (W' : WX) (pn : List (Addr × Obj)) (xe : Value → Shared → Prop), Takes (X.tr pn xe) W' → PassesOwn (model X.prog X.w) X.A X.env xe → MSs (X.tr pn xe) W' body mb)
    (hsb : ∀ c b, sb c C = some b → PySem.W.exmOne X.K (.ref (He.ga X.K c)) (.ref (He.ga X.K C)) = some b)
    (hsu : ∀ c fs env st σ a oe d pn o, sb c C = some true → hm c fs env = some o → Zc (.ref (He.ga X.K c)) d oe → (∃ vs, oe.data = .fields vs) → σ[i]? = some (some (.ref a)) → HS (X.suite a ((a, oe) :: pn)) d fs env st σ (b₀ :: suite) o) :
    MS X W (.Try body [.ExceptHandler (some (.Name C np)) (some n) (b₀ :: suite) pos'] [] [] pos) (sTry sb C i mb hm) := by
  refine ⟨⟨_, ps_try_as (tb := fun W' => cSs X.K W' mb) (ts := fun a cls d D σ H => ∀ oe pn, Zc cls d oe → (∃ vs, oe.data = .fields vs) → ∃ t, PSs (X.suite a ((a, oe) :: pn)) (b₀ :: suite) t ∧ t D σ H) hs hf hN hi hln ⟨gC, nd_dbg nC, .inl mC⟩ tk
    (fun W' pn xe h1 h2 => (hb W' pn xe h1 h2).canon) (fun a oe cls d pn hz hv => ⟨fun pins s σ H D I h => by
      obtain ⟨t, p, q⟩ := h oe pn hz hv
      exact p.run pins s σ H D I q⟩), fun D σ H mp env st rs re hp => ⟨mp, env, st, rs, re, ?_⟩⟩⟩
  unfold sTry at hp
  cases er : mb env st with
  | exc c fs env1 st1 =>
    rw [er] at hp
    intro mp' H' d σ' l s re' rx
    cases eb : sb c C with
    | none => simp only [eb] at hp; exact hp.elim
    | some b =>
      refine ⟨b, hsb c b eb, fun hbt a ha oe pn hz hv => ?_, fun hbf => ?_⟩
      · subst hbt
        simp only [eb] at hp
        cases eo : hm c fs (env1.set i none) with
        | none =>
          simp only [eo] at hp
          cases hq : decide (i < env1.length) <;> (rw [hq] at hp; exact hp.elim)
        | some o =>
          simp only [eo] at hp
          by_cases hl : i < env1.length
          rotate_left 1
          · rw [decide_eq_false hl] at hp; exact hp.elim
          rw [decide_eq_true hl] at hp
          have hsl : (σ'.set i (some (V.ref a)))[i]? = some (some (.ref a)) := by
            rw [List.getElem?_set_self]
            rw [← relE_len re']; exact hl
          refine hsu c fs (env1.set i none) st1 _ a oe d pn o eb eo hz hv hsl mp' H' _ s (relE_set re' trivial) rx ?_
          cases o with
          | rt v => exact fun mp2 H2 u l2 s2 r2 => hp mp2 H2 u (l.trans l2) s2 r2
          | nx => exact fun mp2 H2 σ2 l2 s2 r2 => hp mp2 H2 _ (l.trans l2) s2 (by have := relE_set (i := i) (d := none) (u := none) r2 trivial; simpa using this)
          | ct => exact fun mp2 H2 σ2 l2 s2 r2 => hp mp2 H2 _ (l.trans l2) s2 (by have := relE_set (i := i) (d := none) (u := none) r2 trivial; simpa using this)
      · subst hbf
        simp only [eb] at hp
        exact hp mp' H' d σ' l s re' rx
  | _ => rw [er] at hp; exact hp
end ML

-- Ddp
set_option linter.all false
set_option maxRecDepth 100000
set_option maxHeartbeats 4000000
/-! Ddp: a written dict that becomes an object of the store. -/
namespace ML
open PySem PySem.Spec PyProof.Rows L2
theorem shift_ownD {mp : Mp} {H : Hp} {D : Addr} {o : L2.HO} : Shift (mp.shut D) H (mp.add D) (upd H D o) := by
  have ne : ∀ a, a ∉ (mp.shut D).bar → a ≠ D := fun a h e => h (by subst e; show a ∈ mp.bar ++ [a]; simp)
  have own : ∀ a, (mp.shut D).lent a → (mp.add D).lent a := fun a h => by
    refine ⟨fun z => ?_, fun z => h.2 (List.mem_append_left _ z)⟩
    rcases List.mem_append.mp z with z | z
    · exact h.1 z
    · exact ne a h.2 (by simpa using z)
  refine ⟨fun n a h => ?_, fun a o' e h => ⟨by rw [upd_ne (ne a h.2)]; exact e, own a h⟩, fun a o' e h => ⟨own a h.1, h.2⟩⟩
  have h : mp.own[n]? = some a := h
  show (mp.own ++ [D])[n]? = some a
  rw [List.getElem?_append_left (List.getElem?_eq_some_iff.mp h).1]; exact h
theorem placeShut {K : PySem.W.Frag} {mp : Mp} {H : Hp} {st : Store} {D : Addr} {kvs : List (Key × Val)} {xs : List (Key × V)} (s : RelS K (mp.shut D) H st) (hb : D ∉ mp.bar) (rk : RepK K (mp.shut D) H kvs xs) :
    RelS K (mp.add D) (upd H D (.dK xs)) (st ++ [.dct kvs]) := by
  have sh : Shift (mp.shut D) H (mp.add D) (upd H D (.dK xs)) := shift_ownD
  have ho : D ∉ mp.own := (s.sep D (by show D ∈ mp.bar ++ [D]; simp)).1
  have ln : mp.own.length = st.length := s.len
  refine ⟨?_, by show (mp.own ++ [D]).length = _; simp [ln], fun n a o h1 h2 => ?_, fun a h => ?_, fun a h => ?_⟩
  · show (mp.own ++ [D]).Nodup
    rw [List.nodup_append]
    refine ⟨s.nd, by simp, fun a ha b hb2 => ?_⟩
    obtain rfl : b = D := by simpa using hb2
    exact fun e => ho (e ▸ ha)
  · have h1 : (mp.own ++ [D])[n]? = some a := h1
    by_cases c : n < mp.own.length
    · rw [List.getElem?_append_left c] at h1
      rw [List.getElem?_append_left (by rw [← ln]; exact c)] at h2
      have ne : a ≠ D := fun e => ho (e ▸ List.mem_of_getElem? h1)
      have ob := s.obj n a o h1 h2
      cases o with
      | lst ds =>
        obtain ⟨ys, e, r⟩ := ob
        exact ⟨ys, (upd_ne ne).trans e, sh.reps r⟩
      | dct ds =>
        obtain ⟨ys, e, r⟩ := ob
        exact ⟨ys, (upd_ne ne).trans e, sh.repk r⟩
      | ins C fs =>
        obtain ⟨dx, ys, e, r⟩ := ob
        exact ⟨dx, ys, (upd_ne ne).trans e, sh.repf r⟩
      | dt ds =>
        obtain ⟨ys, e, r1, r⟩ := ob
        exact ⟨ys, (upd_ne ne).trans e, r1, sh.reps r⟩
    · have hn : n = mp.own.length := by
        have := (List.getElem?_eq_some_iff.mp h1).1
        simp at this
        omega
      subst hn
      rw [List.getElem?_append_right (Nat.le_refl _), Nat.sub_self] at h1
      rw [ln, List.getElem?_append_right (Nat.le_refl _), Nat.sub_self] at h2
      obtain rfl : D = a := by simpa using h1
      obtain rfl : MObj.dct kvs = o := by simpa using h2
      exact ⟨xs, upd_same, sh.repk rk⟩
  · by_cases c : a = D
    · subst c; rw [upd_same]; simp
    · rw [upd_ne c]; exact s.old a h
  · have ne : a ≠ D := fun e => hb (e ▸ h)
    have := s.sep a (List.mem_append_left _ h)
    refine ⟨fun z => ?_, by rw [upd_ne ne]; exact this.2⟩
    rcases List.mem_append.mp z with z | z
    · exact this.1 z
    · exact ne (by simpa using z)
def mDctP (m : MEnv → Store → R (List (Key × Val))) (env : MEnv) (st : Store) : R Val := (noX (m env st)).bind fun kvs st => if kvs.length ≤ 15 then .ok (.ref st.length) (st ++ [.dct (mergeM kvs)]) else .stuck
theorem me_dctP {X : Cx} {W : WX} {pos : Pos} {ks : List (Option Expr)} {vs : List Expr} {m} (h : MPs X W0 pos ks vs m) (hall : ks.all (·.isSome) = true) (hl : ks.length = vs.length) (h0 : ks ≠ []) (h15 : ks.length ≤ 15) : ME X W (.Dict ks vs pos) (mDctP m) := by
  obtain ⟨t, p, h⟩ := h.ex
  refine ⟨⟨_, pe_disp p hall hl h0 h15, fun σ H Q mp env st rs re hp D nD => ?_⟩⟩
  unfold mDctP at hp
  refine h σ _ _ (mp.shut D) env st (rs.shut nD) ((shift_upd (o := .dK [])).relE ((shift_shut nD).relE re)) ?_
  cases er : m env st with
  | ok kvs st1 =>
    rw [er] at hp
    have hp : Post X.K W σ (RV X.K) mp H (if kvs.length ≤ 15 then .ok (.ref st1.length) (st1 ++ [.dct (mergeM kvs)]) else .stuck) Q := hp
    by_cases c : kvs.length ≤ 15
    rotate_left 1
    · rw [if_neg c] at hp; exact hp.elim
    rw [if_pos c] at hp
    rintro mp1 H1 _ l s ⟨xs, rfl, rk⟩
    have here : H1 D = some (.dK []) := l.keep D _ upd_same (fun z => (rs.notin nD).1.1 z)
    obtain ⟨mp2, rfl, l2⟩ := l.open nD
    refine ⟨here, xs, rfl, by rw [← repk_len rk]; exact c, ?_⟩
    have out : D ∉ mp2.bar := fun z => (rs.sep D (by rw [← l2.bar]; exact z)).2 nD
    have l3 : Le mp H mp2 (upd H1 D (.dK (mergeK [] xs))) := Le.turn (o := .dK (mergeK [] xs)) (mp := mp) (mp1 := mp) (mp2 := mp2) (H1 := upd H D (.dK [])) nD (le_new nD) l
    have l4 : Le mp H (mp2.add D) (upd H1 D (.dK (mergeK [] xs))) := by
      obtain ⟨nw, e1, f1⟩ := l3.ext
      refine ⟨l3.fb, l3.bar, ⟨nw ++ [D], ?_, fun a ha => ?_⟩, l3.keep, l3.dom⟩
      · show mp2.own ++ [D] = _
        rw [e1, List.append_assoc]
      · rcases List.mem_append.mp ha with ha | ha
        · exact f1 a ha
        · obtain rfl : a = D := by simpa using ha
          exact nD
    refine hp (mp2.add D) _ _ l4 (placeShut s out (merge_rep rk (show RepK X.K _ _ [] [] by unfold RepK; rfl))) ?_
    show RepV X.K _ _ (.ref st1.length) (.ref D)
    unfold RepV
    exact ⟨D, rfl, by rw [← show mp2.own.length = st1.length from s.len]; exact mp2.add_at D⟩
  | _ => rw [er] at hp; exact hp.elim
end ML

-- Dsl
set_option linter.all false
set_option maxRecDepth 100000
set_option maxHeartbeats 4000000
/-! Dsl: slices and multiples of lists that become objects of the store. -/
namespace ML
open PySem PySem.Spec PyProof.Rows L2
def nSl (m : MEnv → Store → R Val) (ml mh : MEnv → Store → R (Option Int)) (env : MEnv) (st : Store) : R (List Val) := (m env st).bind fun d st => (ml env st).bind fun lo st => (mh env st).bind fun hi st => match listOf st d with
  | some ds => .ok (cutM ds lo hi) st
  | none => .stuck
theorem mn_sl {X : Cx} {W : WX} {pos p2 : Pos} {a : Expr} {ma : MEnv → Store → R Val} {lo hi : Option Expr} {ml mh} (ha : ME X W a ma) (hl : MO X W lo ml) (hh : MO X W hi mh) : MN X W (.Subscript a (.Slice lo hi none p2) pos) (nSl ma ml mh) := by
  obtain ⟨ta, pa, ha⟩ := ha.ex
  obtain ⟨tl, pl, hl⟩ := hl.ex
  obtain ⟨th, ph, hh⟩ := hh.ex
  refine ⟨⟨_, pe_slice sl_list pa pl ph, fun σ H Q mp env st rs re hp => ?_⟩⟩
  refine ha σ H _ mp env st rs re (PostN.of_bind hp fun mp1 H1 d st1 u e l s r q => ?_)
  refine hl σ H1 _ mp1 env st1 s (l.relE re) (PostN.of_bind q fun mp2 H2 d2 st2 v e2 l2 s2 r2 q2 => ?_)
  refine hh σ H2 _ mp2 env st2 s2 (l2.relE (l.relE re)) (PostN.of_bind q2 fun mp3 H3 d3 st3 w e3 l3 s3 r3 q3 => ?_)
  obtain rfl : d2 = v := r2
  obtain rfl : d3 = w := r3
  have r := l3.rep (l2.rep r)
  split at q3
  · rename_i ds h1
    obtain ⟨b, xs, e1, z, rr⟩ := listOf_rep s3 r h1
    exact ⟨b, xs, e1, z, fun p np => q3.out s3 (cut_rep rr) np⟩
  · exact q3.elim
def nMul (ma mb : MEnv → Store → R Val) (env : MEnv) (st : Store) : R (List Val) := (ma env st).bind fun d st => (mb env st).bind fun e st => match listT st d, intOf e with
  | some x, some k => if k < 2 ^ 20 ∧ -(2 ^ 20) < k ∧ x.length * k.toNat ≤ line then .ok (repM k x) st else .stuck
  | _, _ => .stuck
theorem mn_mul {X : Cx} {W : WX} {pos : Pos} {a b : Expr} {ma mb : MEnv → Store → R Val} (ha : ME X W a ma) (hb : ME X W b mb) : MN X W (.BinOp a .Mult b pos) (nMul ma mb) := by
  obtain ⟨ta, pa, ha⟩ := ha.ex
  obtain ⟨tb, pb, hb⟩ := hb.ex
  refine ⟨⟨_, pe_op op_rep pa pb, fun σ H Q mp env st rs re hp => ?_⟩⟩
  refine ha σ H _ mp env st rs re (PostN.of_bind hp fun mp1 H1 d st1 u e l s r q => ?_)
  refine hb σ H1 _ mp1 env st1 s (l.relE re) (PostN.of_bind q fun mp2 H2 d2 st2 v e2 l2 s2 r2 q2 => ?_)
  split at q2
  · rename_i x k h1 h2
    obtain ⟨a, xs, e1, q1, r1⟩ := listT_rep s2 (l2.rep r) h1
    obtain rfl := intOf_eq h2
    split at q2
    · rename_i c
      exact ⟨a, k, xs, e1, rep_int r2, q1, by omega, by omega, by rw [line_eq, ← repvs_len r1]; exact c.2.2, fun p np => q2.out s2 (repvs_rep _ r1) np⟩
    · exact q2.elim
  · exact q2.elim
end ML

-- Ddt
set_option linter.all false
set_option maxRecDepth 100000
set_option maxHeartbeats 4000000
/-! Ddt: dicts whose keys are tuples. -/
namespace ML
open PySem PySem.Spec PyProof.Rows L2
def keysOf : List Val → Option (List Key)
  | [] => some []
  | d :: ds => match keyOf d, keysOf ds with
    | some k, some ks => some (k :: ks)
    | _, _ => none
def lookU (kvs : List (List Key × Val)) (k : List Key) : Option Val := (kvs.find? fun p => decide (p.1 = k)).map (·.2)
def putU (kvs : List (List Key × Val)) (k : List Key) (d : Val) : List (List Key × Val) :=
  if (kvs.any fun kv => decide (kv.1 = k)) = true then kvs.map (fun kv => if kv.1 = k then (kv.1, d) else kv) else kvs ++ [(k, d)]
def dtOf (st : Store) : Val → Option (List (List Key × Val))
  | .ref n => match st[n]? with
    | some (.dt kvs) => some kvs
    | _ => none
  | _ => none
section
variable {K : PySem.W.Frag} {mp : Mp} {H : Hp} {st : Store}
theorem keys_rep : ∀ {ds : List Val} {us : List V} {ks : List Key}, RepVs K mp H ds us → keysOf ds = some ks → us = ks.map kV
  | [], us, ks, r, h => by
    obtain rfl := Option.some.inj h
    exact repvs_nil.mp r
  | d :: ds, us, ks, r, h => by
    obtain ⟨u, us', rfl, r1, r2⟩ := repvs_cons.mp r
    unfold keysOf at h
    split at h
    · rename_i k ks' h1 h2
      obtain rfl := Option.some.inj h
      rw [key_rep r1 h1, keys_rep r2 h2]
      rfl
    · cases h
def RepKT (K : PySem.W.Frag) (mp : Mp) (H : Hp) : List (List Key × Val) → List (List Key × V) → Prop
  | [], xs => xs = []
  | (k, d) :: ds, xs => ∃ u us, xs = (k, u) :: us ∧ RepV K mp H d u ∧ RepKT K mp H ds us
theorem kt_iff : ∀ {kvs : List (List Key × Val)} {xs : List (List Key × V)}, RepKT K mp H kvs xs ↔ (xs.map (·.1) = kvs.map (·.1) ∧ RepVs K mp H (kvs.map (·.2)) (xs.map (·.2)))
  | [], xs => by
    unfold RepKT
    constructor
    · rintro rfl
      exact ⟨rfl, repvs_nil.mpr rfl⟩
    · rintro ⟨h, _⟩
      simpa using h
  | (k, d) :: kvs, xs => by
    unfold RepKT
    constructor
    · rintro ⟨u, us, rfl, r1, r2⟩
      obtain ⟨h1, h2⟩ := kt_iff.mp r2
      exact ⟨by simp [h1], repvs_cons.mpr ⟨u, _, rfl, r1, h2⟩⟩
    · rintro ⟨h1, h2⟩
      obtain ⟨u, us', e, r1, r2⟩ := repvs_cons.mp h2
      cases xs with
      | nil => cases h1
      | cons x xs =>
        obtain ⟨x1, x2⟩ := x
        simp only [List.map_cons, List.cons.injEq] at h1 e
        obtain ⟨rfl, h1⟩ := h1
        obtain ⟨rfl, rfl⟩ := e
        exact ⟨x2, xs, rfl, r1, kt_iff.mpr ⟨h1, r2⟩⟩
theorem lookU_rep : ∀ {kvs : List (List Key × Val)} {xs : List (List Key × V)} (k : List Key), RepKT K mp H kvs xs → (∀ d, lookU kvs k = some d → ∃ u, valV xs k = some u ∧ RepV K mp H d u) ∧ (lookU kvs k = none → valV xs k = none)
  | [], xs, k, r => by
    unfold RepKT at r
    subst r
    exact ⟨(fun d h => by cases h), fun _ => rfl⟩
  | (k', d') :: kvs, xs, k, r => by
    unfold RepKT at r
    obtain ⟨u, us, rfl, r1, r2⟩ := r
    obtain ⟨i1, i2⟩ := lookU_rep k r2
    by_cases c : k' = k
    · subst c
      refine ⟨fun d h => ⟨u, valV_pos rfl, ?_⟩, fun h => ?_⟩
      · have : lookU ((k', d') :: kvs) k' = some d' := by simp [lookU]
        obtain rfl := Option.some.inj (this.symm.trans h)
        exact r1
      · have : lookU ((k', d') :: kvs) k' = some d' := by simp [lookU]
        rw [this] at h; cases h
    · have e : lookU ((k', d') :: kvs) k = lookU kvs k := by simp [lookU, List.find?_cons, c]
      rw [e]
      exact ⟨fun d h => by rw [valV_neg (p := (k', u)) c]; exact i1 d h, fun h => by rw [valV_neg (p := (k', u)) c]; exact i2 h⟩
theorem rept_len : ∀ {kvs : List (List Key × Val)} {xs : List (List Key × V)}, RepKT K mp H kvs xs → kvs.length = xs.length
  | [], xs, r => by
    unfold RepKT at r
    subst r; rfl
  | (k', d') :: kvs, xs, r => by
    unfold RepKT at r
    obtain ⟨u, us, rfl, r1, r2⟩ := r
    simp [rept_len r2]
theorem rept_append : ∀ {kvs ws : List (List Key × Val)} {xs ys : List (List Key × V)}, RepKT K mp H kvs xs → RepKT K mp H ws ys → RepKT K mp H (kvs ++ ws) (xs ++ ys)
  | [], ws, xs, ys, r, q => by
    unfold RepKT at r
    subst r; exact q
  | (k', d') :: kvs, ws, xs, ys, r, q => by
    unfold RepKT at r
    obtain ⟨u, us, rfl, r1, r2⟩ := r
    show RepKT K mp H ((k', d') :: (kvs ++ ws)) ((k', u) :: (us ++ ys))
    unfold RepKT
    exact ⟨u, _, rfl, r1, rept_append r2 q⟩
theorem rept_any : ∀ {kvs : List (List Key × Val)} {xs : List (List Key × V)} (k : List Key), RepKT K mp H kvs xs → (kvs.any fun kv => decide (kv.1 = k)) = (xs.any fun kv => decide (kv.1 = k))
  | [], xs, k, r => by
    unfold RepKT at r
    subst r; rfl
  | (k', d') :: kvs, xs, k, r => by
    unfold RepKT at r
    obtain ⟨u, us, rfl, r1, r2⟩ := r
    simp only [List.any_cons, rept_any k r2]
theorem rept_map {k : List Key} {d : Val} {v : V} (rv : RepV K mp H d v) : ∀ {kvs : List (List Key × Val)} {xs : List (List Key × V)}, RepKT K mp H kvs xs → RepKT K mp H (kvs.map fun kv => if kv.1 = k then (kv.1, d) else kv) (xs.map fun kv => if kv.1 = k then (kv.1, v) else kv)
  | [], xs, r => by
    unfold RepKT at r
    subst r; simp [RepKT]
  | (k', d') :: kvs, xs, r => by
    unfold RepKT at r
    obtain ⟨u, us, rfl, r1, r2⟩ := r
    have ih := rept_map (k := k) rv r2
    simp only [List.map_cons]
    by_cases c : k' = k
    · rw [if_pos c, if_pos c]
      unfold RepKT
      exact ⟨v, _, rfl, rv, ih⟩
    · rw [if_neg c, if_neg c]
      unfold RepKT
      exact ⟨u, _, rfl, r1, ih⟩
theorem putU_rep {kvs : List (List Key × Val)} {xs : List (List Key × V)} {k : List Key} {d : Val} {v : V} (r : RepKT K mp H kvs xs) (rv : RepV K mp H d v) : RepKT K mp H (putU kvs k d) (putK xs k v) := by
  unfold putU putK
  rw [rept_any k r]
  split
  · exact rept_map rv r
  · refine rept_append r ?_
    unfold RepKT
    exact ⟨v, [], rfl, rv, by simp [RepKT]⟩
end
/-! d[a, b], d[a, b] = v, {} -/
def mIxT (mo : MEnv → Store → R Val) (ms : MEnv → Store → R (List Val)) (env : MEnv) (st : Store) : R Val := (mo env st).bind fun d st => (ms env st).bind fun ds st => match dtOf st d, keysOf ds with
  | some kvs, some k => if ds.length ≤ line then (match lookU kvs k with
    | some v => .ok v st
    | none => .stuck) else .stuck
  | _, _ => .stuck
theorem dt_rep {st : Store} {K : PySem.W.Frag} {mp : Mp} {H : Hp} {d : Val} {u : V} {kvs : List (List Key × Val)} (s : RelS K mp H st) (r : RepV K mp H d u) (h : dtOf st d = some kvs) : ∃ n a xs, d = .ref n ∧ u = .ref a ∧ mp.own[n]? = some a ∧ st[n]? = some (.dt kvs) ∧ H a = some (.dT xs) ∧ RepKT K mp H kvs xs := by
  cases d with
  | ref n =>
    unfold RepV at r
    obtain ⟨a, rfl, ho⟩ := r
    unfold dtOf at h
    simp only at h
    split at h
    · rename_i kv hx
      obtain rfl := Option.some.inj h
      obtain ⟨xs, e1, e2, e3⟩ := s.obj n a _ ho hx
      exact ⟨n, a, xs, rfl, rfl, ho, hx, e1, kt_iff.mpr ⟨e2, e3⟩⟩
    · cases h
  | _ => cases h
section
variable {X : Cx} {W : WX} {pos : Pos} {a b c o : Expr} {ma mb mc : MEnv → Store → R Val}
theorem me_ixT {es : List Expr} {x1} {p2 : Pos} {ms} (hu : X.A.units + 1 < cLine) (ho : ME X W o ma) (hk : MA X W es ms) (hs : NoSl (.Tuple es x1 p2)) : ME X W (.Subscript o (.Tuple es x1 p2) pos) (mIxT ma ms) := by
  obtain ⟨to, po, ho⟩ := ho.ex
  obtain ⟨tk, pk, hk⟩ := hk.ex
  refine ⟨⟨_, pe_dget hu po (pe_tup pk) hs, fun σ H Q mp env st rs re hp => ?_⟩⟩
  refine ho σ H _ mp env st rs re (Post.of_bind hp fun mp1 H1 d st1 u e l s r q => ?_)
  refine hk σ H1 _ mp1 env st1 s (l.relE re) (Post.of_bind q fun mp2 H2 ds st2 us e2 l2 s2 r2 q2 => ?_)
  split at q2
  · rename_i kvs k h1 h2
    split at q2
    · rename_i hl
      split at q2
      · rename_i v h3
        obtain rfl := keys_rep r2 h2
        obtain ⟨n, a, xs, rfl, rfl, hown, hst, hH, hkt⟩ := dt_rep s2 (l2.rep r) h1
        obtain ⟨w, e5, rw5⟩ := (lookU_rep k hkt).1 v h3
        refine ⟨by rw [line_eq, ← repvs_len r2]; exact hl, fun p np => ⟨a, w, rfl, ?_, ?_⟩⟩
        · rw [← e5]
          exact DGet.t (by rw [upd_ne (ne_of_none hH np)]; exact hH) upd_same
        · exact q2 mp2 _ w (le_new np) (s2.new np) ((le_new np).rep rw5)
      · exact q2.elim
    · exact q2.elim
  · exact q2.elim
def sPutT (mo : MEnv → Store → R Val) (ms : MEnv → Store → R (List Val)) (mv : MEnv → Store → R Val) : MM := fun env st => (mv env st).bindS env fun d st => (mo env st).bindS env fun o st => (ms env st).bindS env fun ds st => match refOf o, dtOf st o, keysOf ds with
  | some n, some kvs, some k => if kvs.length < line ∧ ds.length ≤ line then .nx env (st.set n (.dt (putU kvs k d))) else .stuck
  | _, _, _ => .stuck
theorem ms_putU {es : List Expr} {x1} {p2 p3 : Pos} {ms} (hu : X.A.units + 1 < cLine) (ho : ME X W o ma) (hk : MA X W es ms) (hv : ME X W b mc) (hs : noComp b = true) : MS X W (.Assign [.Subscript o (.Tuple es x1 p3) p2] b pos) (sPutT ma ms mc) := by
  obtain ⟨to, po, ho⟩ := ho.ex
  obtain ⟨tk, pk, hk⟩ := hk.ex
  obtain ⟨tv, pv, hv⟩ := hv.ex
  refine ⟨⟨_, ps_asg pv (pg_sub po (pe_tup pk) (set_dict hu) (asgSub rfl)) (swapsS_no hs) stores_sub, fun D σ H mp env st rs re hp => ?_⟩⟩
  refine hv σ H _ mp env st rs re (PostS.of_bind re hp fun mp1 H1 d st1 u e l s r re1 q => ?_)
  refine ho σ H1 _ mp1 env st1 s re1 (PostS.of_bind re1 q fun mp2 H2 x st2 v e2 l2 s2 r2 re2 q2 => ?_)
  refine hk σ H2 _ mp2 env st2 s2 re2 (PostS.of_bind re2 q2 fun mp3 H3 ds st3 us e3 l3 s3 r3 re3 q3 => ?_)
  split at q3
  · rename_i n kvs k h1 h2 h3
    obtain rfl := refOf_eq h1
    obtain rfl := keys_rep r3 h3
    split at q3
    · rename_i c
      obtain ⟨n', a', xs, e4, e5, hown, hst, hH, hkt⟩ := dt_rep s3 (l3.rep r2) h2
      cases e4
      refine ⟨by rw [line_eq, ← repvs_len r3]; exact c.2, fun p np => ?_⟩
      have rd := l3.rep (l2.rep r)
      have s4 := s3.new (o := .tup (k.map kV)) np
      have ln := le_new (mp := mp3) (o := .tup (k.map kV)) np
      have hH4 : upd H3 p (.tup (k.map kV)) a' = some (.dT xs) := by rw [upd_ne (ne_of_none hH np)]; exact hH
      have hkt4 : RepKT X.K mp3 (upd H3 p (.tup (k.map kV))) kvs xs := by
        obtain ⟨z1, z2⟩ := kt_iff.mp hkt
        exact kt_iff.mpr ⟨z1, ln.reps z2⟩
      obtain ⟨l5, s5⟩ := s4.change (o := .dt (putU kvs k d)) (u := .dT (putK xs k u)) hown hH4 fun {H'} l e => by
        obtain ⟨z1, z2⟩ := kt_iff.mp hkt4
        obtain ⟨y1, y2⟩ := kt_iff.mp (putU_rep (kt_iff.mpr ⟨z1, l.reps z2⟩) (l.rep (ln.rep rd)))
        exact ⟨_, e, y1, y2⟩
      exact ⟨a', _, e5, DPut.t hH4 upd_same (by rw [line_eq, ← rept_len hkt]; exact c.1), q3 mp3 _ σ (ln.trans l5) s5 ((ln.trans l5).relE re3)⟩
    · exact q3.elim
  · exact q3.elim
def mDt0 (_ : MEnv) (st : Store) : R Val := .ok (.ref st.length) (st ++ [.dt []])
theorem me_dt0 : ME X W (.Dict [] [] pos) mDt0 := by
  refine ⟨⟨_, pe_dnewT, fun σ H Q mp env st rs re hp p np => ?_⟩⟩
  obtain ⟨l, s⟩ := rs.place (o := .dT []) (m := .dt []) np ⟨[], upd_same, rfl, repvs_nil.mpr rfl⟩
  refine hp (mp.add p) _ _ l s ?_
  show RepV X.K _ _ (.ref st.length) (.ref p)
  unfold RepV
  exact ⟨p, rfl, by rw [← rs.len]; exact mp.add_at p⟩
end
/-! a call of what a local holds -/
def mCallV (nf : Str → Option Nat) (cf : Nat → FN) (mv : MEnv → Store → R Val) (ms : MEnv → Store → R (List Val)) (env : MEnv) (st : Store) : R Val := (mv env st).bind fun v st => match v with
  | .fn y => (match nf y with
    | some j => (ms env st).bind fun ds st => cf j ds st
    | none => .stuck)
  | _ => .stuck
end ML

-- Dmx
set_option linter.all false
set_option maxRecDepth 100000
set_option maxHeartbeats 4000000
/-! Dmx: max(xs, default=c) of whole numbers. -/
namespace ML
open PySem PySem.Spec PyProof.Rows L2
def rMaxD (K : PySem.W.Frag) : List V → List V → Hp → VK → Prop := fun vs zs H Q => ∃ (a : Addr) (ns : List Int) (d : Int), vs = [V.ref a] ∧ zs = [V.int d] ∧ SqL K H a (ns.map V.int) ∧ (ns = [] → Q (.int d) H) ∧ ∀ n r, ns = n :: r → Q (.int (maxL n r)) H
theorem maxOf_maxL : ∀ (r : List Int) (n : Int), PySem.W.maxOf n r = maxL n r
  | [], n => rfl
  | x :: r, n => by
    show PySem.W.maxOf (if PySem.W.DatumOrd.lt n x = true then x else n) r = maxL (if n < x then x else n) r
    rw [maxOf_maxL r]
    have e : PySem.W.DatumOrd.lt n x = decide (n < x) := rfl
    rw [e]
    by_cases h : n < x <;> simp [h]
theorem cr_maxDef {X : Cx} (hc : X.calm = true) (hu : X.A.units + 1 < cLine) : CallRK X (.builtin "max") [Str.ofString "default"] (rMaxD X.K) := by
  intro pins s σ H vs zs us ws Q I r rz h
  obtain ⟨a, ns, d, rfl, rfl, hs, q0, q1⟩ := h
  obtain rfl := Vals.ref1 r
  obtain ⟨w1, rfl, e1⟩ := vals1 rz
  obtain ⟨t, rfl⟩ := e1
  obtain ⟨its, rv, hl, _⟩ := I.list hs
  have hh := I.ok.hd hc
  refine PySem.W.max_list_datum_default (xs := ns) hh hl.isList (PySem.W.HoldAll.of_ints rv.ints) (by show X.A.units + 1 + 0 < cLine; omega) (fun e h' tk hk => ?_) (fun y ys i v h' tk e hi r hk => ?_)
  · exact ⟨.int _, H, I.kept hk, ⟨_, rfl⟩, q0 e⟩
  · obtain ⟨as, r⟩ := r
    cases r
    rw [maxOf_maxL]
    exact ⟨.int _, H, I.kept hk, ⟨_, rfl⟩, q1 y ys e⟩
def mMaxD (m : MEnv → Store → R Val) (d : Int) (env : MEnv) (st : Store) : R Val := (m env st).bind fun v st => match listOf st v with
  | some ds => (match intsL ds with
    | some [] => .ok (.int d) st
    | some (n :: ns) => .ok (.int (maxL n ns)) st
    | none => .stuck)
  | none => .stuck
theorem me_maxD {X : Cx} {W : WX} {a : Expr} {ma : MEnv → Store → R Val} {d : Int} {kn : Nat} {p q pos kp : Pos} (hu : X.A.units + 1 < cLine) (hc : X.calm = true) (hg : Gl X "max") (hm : X.mg "max" = none) (ha : ME X W a ma) (hs : noStar a = true) :
    ME X W (.Call (.Name "max" p) [a] [⟨some "default", .Constant (.int d) kn q, kp⟩] pos) (mMaxD ma d) := by
  obtain ⟨t, pa, h⟩ := ha.ex
  have e1 := star1 (env := X.env) (es := []) hs
  refine ⟨⟨_, pe_callBK (cr_maxDef hc hu) hg hm (by decide +kernel) (pa_cons pa pa_nil e1) (pk_cons pe_int pk_nil) (by decide +kernel) (by decide +kernel) (by rw [e1]; rfl) (by rw [e1]; rfl) rfl rfl rfl, fun σ H Q mp env st rs re hp => ?_⟩⟩
  refine h σ H _ mp env st rs re (Post.of_bind hp fun mp1 H1 v st1 u _ l s r qq => ?_)
  split at qq
  · rename_i ds h1
    obtain ⟨b, xs, e, z, rr⟩ := listOf_rep s r h1
    split at qq
    · rename_i h2
      have e2 := ints_rep rr h2
      exact ⟨b, [], d, by rw [e], rfl, by rw [← e2]; exact z, fun _ => qq.out s (rep_i ..), (fun n r e => by cases e)⟩
    · rename_i n ns h2
      have e2 := ints_rep rr h2
      exact ⟨b, n :: ns, d, by rw [e], rfl, by rw [← e2]; exact z, (fun e => by cases e), (fun n' r' e' => by
        injection e' with e1 e2
        subst e1
        subst e2
        exact qq.out s (rep_i ..))⟩
    · exact qq.elim
  · exact qq.elim
end ML

-- D2
set_option linter.all false
set_option maxRecDepth 100000
set_option maxHeartbeats 4000000
/-! D2: a mirror of the language as data, what it means, how it is held against the text. -/
namespace ML
open PySem PySem.Spec PyProof.Rows L2
inductive Op where
  | add | sub | mul | div | mod | pow | shl | shr | band | bor
inductive Cm where
  | lt | le | gt | ge | eq | ne | isin | notin | isn | notn
inductive Bi where
  | len | int | str | ord | tuple | max2 | min2 | sum | max1 | min1 | rng1 | rng2
inductive Bn where
  | list | sorted
mutual
inductive E where
  | var (i : Nat) | c (d : Val) | gc (j : Nat)
  | tup (es : Es) | lst (es : Es) | lstP (es : Es)
  | op (o : Op) (a b : E) | cmp (o : Cm) (a b : E) | chain (o p : Cm) (a b c : E)
  | not (a : E) | and (a b : E) | or (a b : E) | one (a : E)
  | ife (t : T) (a b : E) | neg (a : E)
  | ix (a b : E) | tab (j : Nat) (a : E) | tabIn (j : Nat) (neg : Bool) (a : E) | tabGet (j : Nat) (a b : E)
  | sl (a : E) (lo hi : O)
  | call (i : Nat) (es : Es)
  | bi (b : Bi) (es : Es) | bn (b : Bn) (es : Es) | bnP (b : Bn) (es : Es)
  | isI (a : E) (T : String)
  | lc (it : I) (g : G) (t : T) (e : E) (own : List (Str × Nat)) | lcP (it : I) (g : G) (t : T) (e : E) (own : List (Str × Nat))
  | join (a b : E) | app (o a : E) | pop (o : E) | ext (o a : E)
  | dct (ks : Ks) | dctP (ks : Ks) | dct0 | inD (neg : Bool) (a b : E)
  | popk (o a : E) | sset (a : E) | lns (a : E) | maxD (a : E) (d : Int) | tidx (j : Nat) (a : E) | isI2 (a : E) (T U : String) | lr1 (a : E) | lr2 (a b : E) | lr1P (a : E) | lr2P (a b : E) | dkc (i j : Nat) (own : List (Str × Nat)) | cnt (o a : E)
  | bad | catP (a b : E) | slP (a : E) (lo hi : O) | mulP (a b : E) | ixT (a : E) (es : Es) | dt0 | callV (i : Nat) (es : Es) | fld (a : E) (f : Str) | meth (m : Str) (o : E) (es : Es) | make (C : Str) (es : Es)
inductive Es where
  | nil | cons (e : E) (es : Es)
inductive Ks where
  | nil | cons (k v : E) (ks : Ks)
inductive T where
  | yes | cmp (o : Cm) (a b : E) | chain (o p : Cm) (a b c : E) | and (a b : T) | or (a b : T) | one (a : T) | not (a : T) | tru (e : E) | inD (neg : Bool) (a b : E) | tabIn (j : Nat) (neg : Bool) (a : E)
inductive I where
  | any (e : E) | r1 (e : E) | r2 (a b : E) | en (e : E)
inductive O where
  | non | som (e : E)
inductive G where
  | n (i : Nat) | t (gs : Gs)
inductive Gs where
  | nil | cons (g : G) (gs : Gs)
end
mutual
/-- targets that change the store -/
inductive U where
  | n (i : Nat) | f (o : E) (f : Str) | s (o i : E) | t (us : Us)
inductive Us where
  | nil | cons (u : U) (us : Us)
end
mutual
inductive Sm where
  | pass | set (i : Nat) (e : E) | tgt (g : G) (e : E) | expr (e : E) | ret (e : E) | retN
  | ife (t : T) (a b : Ss) | brk | cnt | for_ (it : I) (g : G) (b : Ss) | while_ (n : Nat) (t : T) (b : Ss)
  | ugt (u : U) (e : E) | aug (i : Nat) (sub : Bool) (e : E) | augF (o : E) (f : Str) (sub : Bool) (e : E)
  | bad | put (o k v : E) | putT (o : E) (es : Es) (v : E) | fset (o : E) (f : Str) (v : E) | raise (C f : Str) (e : E) | try_ (b : Ss) (C : Str) (i : Nat) (h : Hb)
inductive Ss where
  | nil | cons (s : Sm) (r : Ss)
end
/-! ### what it means -/
structure Dn where
  cf : Nat → FN
  cp : Nat → List Val → Store → R (List Val)
  cv : Nat → Val
  ct : Nat → List (Key × Val)
  fo : Str → Str → Bool
  mf : Str → Str → Option Nat
  xt : XT
  nf : Str → Option Nat
def Op.f : Op → F2
  | .add => fAdd
  | .sub => fSub
  | .mul => fMulA
  | .div => fDiv
  | .mod => fMod
  | .pow => fPow
  | .shl => fShl
  | .shr => fShr
  | .band => fAnd
  | .bor => fOr
def Cm.f : Cm → F2
  | .lt => fCmp fun i j => decide (i < j)
  | .le => fCmp fun i j => decide (i ≤ j)
  | .gt => fCmp fun i j => decide (j < i)
  | .ge => fCmp fun i j => decide (j ≤ i)
  | .eq => fEq
  | .ne => fNe
  | .isin => fIn
  | .notin => fNotIn
  | .isn => fIsC
  | .notn => fNotC
def Bi.f : Bi → FN
  | .len => one fLen
  | .int => one fInt
  | .str => one fStr
  | .ord => one fOrd
  | .tuple => one fTuple
  | .max2 => two fMax2
  | .min2 => two fMin2
  | .sum => one fSum
  | .max1 => one fMax1
  | .min1 => one fMin1
  | .rng1 => one fRng1
  | .rng2 => two fRng2
def Bn.f : Bn → List Val → Store → R (List Val)
  | .list => nOne nList
  | .sorted => nOne nSorted
mutual
def G.m : G → GM
  | .n i => gN i
  | .t gs => gT gs.len gs.m
def Gs.m : Gs → GMs
  | .nil => gsNil
  | .cons g gs => gsCons g.m gs.m
def Gs.len : Gs → Nat
  | .nil => 0
  | .cons _ gs => gs.len + 1
end
mutual
def G.vs : G → List Nat
  | .n i => [i]
  | .t gs => gs.vs
def Gs.vs : Gs → List Nat
  | .nil => []
  | .cons g gs => g.vs ++ gs.vs
end
def sRaiseG (x : XT) (C f : Str) (m : MEnv → Store → R Val) : MM := fun env st => if x.rs && x.has C f then sRaise C f m env st else .stuck
mutual
def E.m (p : Dn) : E → MEnv → Store → R Val
  | .var i => mVar i
  | .c d => mC d
  | .gc j => mC (p.cv j)
  | .tup es => mTup (es.m p)
  | .lst es => mVal (nLst (es.m p))
  | .lstP es => mPut (nLst (es.m p))
  | .op o a b => mBin o.f (a.m p) (b.m p)
  | .cmp o a b => mBin o.f (a.m p) (b.m p)
  | .chain o q a b c => mChain o.f q.f (a.m p) (b.m p) (c.m p)
  | .not a => mNotV (a.m p)
  | .and a b => mAndV (a.m p) (b.m p)
  | .or a b => mOrV (a.m p) (b.m p)
  | .one a => a.m p
  | .ife t a b => mIfE (t.m p) (a.m p) (b.m p)
  | .neg a => mNeg (a.m p)
  | .ix a b => mBin fIxA (a.m p) (b.m p)
  | .tab j a => mTabK (p.ct j) (a.m p)
  | .tabIn j n a => mTabIn n (p.ct j) (a.m p)
  | .tabGet j a b => mTabGet (p.ct j) (a.m p) (b.m p)
  | .sl a lo hi => mSl (a.m p) (lo.m p) (hi.m p)
  | .call i es => mCall (p.cf i) (es.m p)
  | .bi b es => mCall b.f (es.m p)
  | .bn b es => mVal (nCall b.f (es.m p))
  | .bnP b es => mPut (nCall b.f (es.m p))
  | .isI a t => mIsI t (a.m p)
  | .lc it g t e own => mVal (nLc (it.m p) g.m (t.m p) (e.m p) (own.map (·.2)))
  | .lcP it g t e own => mPut (nLc (it.m p) g.m (t.m p) (e.m p) (own.map (·.2)))
  | .join a b => mJoin (a.m p) (b.m p)
  | .app o a => mMeth fAppend (o.m p) (mCons (a.m p) mNil)
  | .pop o => mMeth fPop (o.m p) mNil
  | .ext o a => mMeth fExtend (o.m p) (mCons (a.m p) mNil)
  | .dct ks => mDct (ks.m p)
  | .dctP ks => mDctP (ks.m p)
  | .dct0 => mDct0
  | .inD n a b => mBin (fInD n) (a.m p) (b.m p)
  | .popk o a => mMeth fPopAt (o.m p) (mCons (a.m p) mNil)
  | .sset a => mVal (nCall nSset (mCons (a.m p) mNil))
  | .lns a => mLns (a.m p)
  | .maxD a d => mMaxD (a.m p) d
  | .tidx j a => mMethT fTIdx (mC (p.cv j)) (mCons (a.m p) mNil)
  | .isI2 a t u => mIsI2 t u (a.m p)
  | .lr1 a => mVal (nRg1 (a.m p))
  | .lr2 a b => mVal (nRg2 (a.m p) (b.m p))
  | .lr1P a => mPut (nRg1 (a.m p))
  | .lr2P a b => mPut (nRg2 (a.m p) (b.m p))
  | .dkc i j _ => mVal (nDk i j)
  | .cnt o a => mMeth fCount (o.m p) (mCons (a.m p) mNil)
  | .bad => fun _ _ => .stuck
  | .catP a b => mPut (nCat (a.m p) (b.m p))
  | .slP a lo hi => mPut (nSl (a.m p) (lo.m p) (hi.m p))
  | .mulP a b => mPut (nMul (a.m p) (b.m p))
  | .ixT a es => mIxT (a.m p) (es.m p)
  | .dt0 => mDt0
  | .callV i es => mCallV p.nf p.cf (mVar i) (es.m p)
  | .fld a f => mFld p.fo f (a.m p)
  | .meth m o es => mMethC p.mf p.cf m (o.m p) (es.m p)
  | .make C es => mMake ((p.mf C "__init__").map p.cf) C (es.m p)
def Es.m (p : Dn) : Es → MEnv → Store → R (List Val)
  | .nil => mNil
  | .cons e es => mCons (e.m p) (es.m p)
def Ks.m (p : Dn) : Ks → MEnv → Store → R (List (Key × Val))
  | .nil => mPs0
  | .cons k v ks => mPs1 (k.m p) (v.m p) (ks.m p)
def T.m (p : Dn) : T → MEnv → Store → R Bool
  | .yes => tYesM
  | .cmp o a b => mTest (mBin o.f (a.m p) (b.m p))
  | .chain o q a b c => mTest (mChain o.f q.f (a.m p) (b.m p) (c.m p))
  | .and a b => mAndT (a.m p) (b.m p)
  | .or a b => mOrT (a.m p) (b.m p)
  | .one a => a.m p
  | .not a => mNotT (a.m p)
  | .tru e => mTru (e.m p)
  | .inD n a b => mTest (mBin (fInD n) (a.m p) (b.m p))
  | .tabIn j n a => mTest (mTabIn n (p.ct j) (a.m p))
def I.m (p : Dn) : I → MEnv → Store → R Src
  | .any e => mSrc (e.m p)
  | .r1 e => mIt kR1 (mCons (e.m p) mNil)
  | .r2 a b => mIt kR2 (mCons (a.m p) (mCons (b.m p) mNil))
  | .en e => mIt kEn (mCons (e.m p) mNil)
def O.m (p : Dn) : O → MEnv → Store → R (Option Int)
  | .non => mNoPart
  | .som e => mPart (e.m p)
end
mutual
def U.m (p : Dn) : U → TM
  | .n i => uN i
  | .f o f => uF p.fo f (o.m p)
  | .s o i => uS (o.m p) (i.m p)
  | .t us => uT us.len (us.m p)
def Us.m (p : Dn) : Us → TMs
  | .nil => usNil
  | .cons u us => usCons (u.m p) (us.m p)
def Us.len : Us → Nat
  | .nil => 0
  | .cons _ us => us.len + 1
end
def augI (sub : Bool) (i j : Int) : Int := if sub then i - j else i + j
mutual
def Sm.m (p : Dn) : Sm → MM
  | .pass => sPass
  | .set i e => sSet i (e.m p)
  | .tgt g e => sTgt g.m (e.m p)
  | .expr e => sDrop (e.m p)
  | .ret e => sRet (e.m p)
  | .retN => sRetN
  | .ife t a b => sIf (t.m p) (a.m p) (b.m p)
  | .brk => sBrk
  | .cnt => sCnt
  | .for_ it g b => sFor (it.m p) g.m (b.m p)
  | .while_ n t b => sWhile n (t.m p) (b.m p)
  | .ugt u e => sUgt (u.m p) (e.m p)
  | .aug i s e => sAug i (augI s) (e.m p)
  | .augF o f s e => sAugF p.fo f (augI s) (o.m p) (e.m p)
  | .bad => fun _ _ => .stuck
  | .put o k v => sPut (o.m p) (k.m p) (v.m p)
  | .putT o es v => sPutT (o.m p) (es.m p) (v.m p)
  | .fset o f v => sFset p.fo f (o.m p) (v.m p)
  | .raise C f e => sRaiseG p.xt C f (e.m p)
  | .try_ b C i h => sTry p.xt.sbf C i (b.m p) (fun c fs env => h.val p.xt c fs env)
def Ss.m (p : Dn) : Ss → MM
  | .nil => sPass
  | .cons s r => sSeq (s.m p) (r.m p)
end
/-! ### how it is held against the text -/
structure Tb where
  fr : List Str
  dn : List (Option Str)
  da : List Nat
  cn : List Str
  tn : List Str
  ml : List Str
  xc : List Str
structure Ck where
  tb : Tb
  sc : Scope
  N : List Str
  top : Str → Bool
def Op.is : Op → Operator → Bool
  | .add, .Add => true
  | .sub, .Sub => true
  | .mul, .Mult => true
  | .div, .FloorDiv => true
  | .mod, .Mod => true
  | .pow, .Pow => true
  | .shl, .LShift => true
  | .shr, .RShift => true
  | .band, .BitAnd => true
  | .bor, .BitOr => true
  | _, _ => false
def Cm.is : Cm → CmpOp → Bool
  | .lt, .Lt => true
  | .le, .LtE => true
  | .gt, .Gt => true
  | .ge, .GtE => true
  | .eq, .Eq => true
  | .ne, .NotEq => true
  | .isin, .In => true
  | .notin, .NotIn => true
  | .isn, .Is => true
  | .notn, .IsNot => true
  | _, _ => false
def Bi.nm : Bi → Str
  | .len => "len"
  | .int => "int"
  | .str => "str"
  | .ord => "ord"
  | .tuple => "tuple"
  | .max2 => "max"
  | .min2 => "min"
  | .sum => "sum"
  | .max1 => "max"
  | .min1 => "min"
  | .rng1 => "range"
  | .rng2 => "range"
def Bn.nm : Bn → Str
  | .list => "list"
  | .sorted => "sorted"
def conB : Val → Const → Bool
  | .non, .none => true
  | .bl b, .bool c => b == c
  | .int i, .int j => decide (i = j)
  | .str x, .str y => decide (x = y)
  | _, _ => false
def Ck.fr (k : Ck) (x : Str) : Bool := glB k.sc x && decide (x ∈ k.tb.fr)
def Ck.blk (k : Ck) (scope : Scope) : Ck := ⟨k.tb, relS scope k.sc, k.N, fun x => scope.names.lookup x == some .cell⟩
def tyB (T : String) (x : Str) : Bool := match T with
  | "bool" => decide (x = "bool")
  | "str" => decide (x = "str")
  | "int" => decide (x = "int")
  | "tuple" => decide (x = "tuple")
  | "list" => decide (x = "list")
  | _ => false
mutual
def G.ok (k : Ck) : G → Expr → Bool
  | .n i, e => (match e with
    | .Name x _ => decide (k.N[i]? = some x) && locB k.sc k.top x
    | _ => false)
  | .t gs, e => (match e with
    | .Tuple es _ _ => gs.ok k es
    | _ => false)
def Gs.ok (k : Ck) : Gs → List Expr → Bool
  | .nil, es => (match es with
    | [] => true
    | _ => false)
  | .cons g gs, es => (match es with
    | e :: es => noStar e && g.ok k e && gs.ok k es
    | _ => false)
end
def T.isW : T → Bool
  | .and _ _ => true
  | .or _ _ => true
  | .one _ => true
  | _ => false
def T.yesB : T → Bool
  | .yes => true
  | _ => false
mutual
def E.ok (k : Ck) : E → Expr → Bool
  | .var i, e => (match e with
    | .Name x _ => decide (k.N[i]? = some x) && visB k.sc x && nd x
    | _ => false)
  | .c d, e => (match e with
    | .Constant v _ _ => conB d v
    | _ => false)
  | .gc j, e => (match e with
    | .Name x _ => decide (k.tb.cn[j]? = some x) && glB k.sc x && nd x
    | _ => false)
  | .tup es, e => (match e with
    | .Tuple xs _ _ => es.ok k xs
    | _ => false)
  | .lst es, e => (match e with
    | .List xs _ => es.ok k xs
    | _ => false)
  | .lstP es, e => (match e with
    | .List xs _ => es.ok k xs
    | _ => false)
  | .op o a b, e => (match e with
    | .BinOp x p y _ => o.is p && a.ok k x && b.ok k y
    | _ => false)
  | .cmp o a b, e => (match e with
    | .Compare x [p] [y] _ => o.is p && a.ok k x && b.ok k y && noSet y
    | _ => false)
  | .chain o q a b c, e => (match e with
    | .Compare x [p, p'] [y, z] _ => o.is p && q.is p' && a.ok k x && b.ok k y && c.ok k z && noSet z
    | _ => false)
  | .not a, e => (match e with
    | .UnaryOp .Not x _ => a.ok k x
    | _ => false)
  | .and a b, e => (match e with
    | .BoolOp .And (x :: y :: r) p => a.ok k x && b.ok k (.BoolOp .And (y :: r) p)
    | _ => false)
  | .or a b, e => (match e with
    | .BoolOp .Or (x :: y :: r) p => a.ok k x && b.ok k (.BoolOp .Or (y :: r) p)
    | _ => false)
  | .one a, e => (match e with
    | .BoolOp _ [x] _ => a.ok k x
    | _ => false)
  | .ife t a b, e => (match e with
    | .IfExp c x y _ => t.ok k c && a.ok k x && b.ok k y
    | _ => false)
  | .neg a, e => (match e with
    | .UnaryOp .USub x _ => a.ok k x
    | _ => false)
  | .ix a b, e => (match e with
    | .Subscript x y _ => a.ok k x && b.ok k y && noSlice y
    | _ => false)
  | .tab j a, e => (match e with
    | .Subscript (.Name x _) y _ => decide (k.tb.tn[j]? = some x) && glB k.sc x && nd x && a.ok k y && noSlice y
    | _ => false)
  | .tabIn j n a, e => (match e with
    | .Compare x [p] [.Name y _] _ => (match n, p with
      | false, .In => true
      | true, .NotIn => true
      | _, _ => false) && decide (k.tb.tn[j]? = some y) && glB k.sc y && nd y && a.ok k x
    | _ => false)
  | .tabGet j a b, e => (match e with
    | .Call (.Attribute (.Name x _) y p) [u, v] [] q => decide (k.tb.tn[j]? = some x) && glB k.sc x && nd x && decide (y = "get") && a.ok k u && b.ok k v && noStar u && noStar v && p.endLine == q.line
    | _ => false)
  | .sl a lo hi, e => (match e with
    | .Subscript x (.Slice l h none _) _ => a.ok k x && lo.ok k l && hi.ok k h
    | _ => false)
  | .call i es, e => (match e with
    | .Call (.Name x _) ys [] _ => decide (k.tb.dn[i]? = some (some x)) && decide (k.tb.da[i]? = some ys.length) && glB k.sc x && nd x && es.ok k ys
    | _ => false)
  | .bi b es, e => (match e with
    | .Call (.Name x _) (y :: r) [] _ => decide (x = b.nm) && k.fr b.nm && es.ok k (y :: r)
    | _ => false)
  | .bn b es, e => (match e with
    | .Call (.Name x _) (y :: r) [] _ => decide (x = b.nm) && k.fr b.nm && es.ok k (y :: r)
    | _ => false)
  | .bnP b es, e => (match e with
    | .Call (.Name x _) (y :: r) [] _ => decide (x = b.nm) && k.fr b.nm && es.ok k (y :: r)
    | _ => false)
  | .isI a t, e => (match e with
    | .Call (.Name x _) [y, .Name z _] [] _ => decide (x = "isinstance") && k.fr "isinstance" && tyB t z && k.fr z && nd z && a.ok k y && noStar y
    | _ => false)
  | .lc it g t b own, e => (match e with
    | .ListComp elt [⟨tg, iter, ifs, a⟩] scope _ => decide (a = 0) && it.ok k tg iter && noSet iter && blkC k.N k.sc scope own && g.ok (k.blk scope) tg && (g.vs.all fun j => decide (j ∈ own.map (·.2))) &&
        (match ifs with
          | [] => t.yesB
          | [c] => t.ok (k.blk scope) c
          | _ => false) && b.ok (k.blk scope) elt
    | _ => false)
  | .lcP it g t b own, e => (match e with
    | .ListComp elt [⟨tg, iter, ifs, a⟩] scope _ => decide (a = 0) && it.ok k tg iter && noSet iter && blkC k.N k.sc scope own && g.ok (k.blk scope) tg && (g.vs.all fun j => decide (j ∈ own.map (·.2))) &&
        (match ifs with
          | [] => t.yesB
          | [c] => t.ok (k.blk scope) c
          | _ => false) && b.ok (k.blk scope) elt
    | _ => false)
  | .join a b, e => (match e with
    | .Call (.Attribute x y p) [u] [] q => decide (y = "join") && a.ok k x && b.ok k u && noStar u && noCall x && p.endLine == q.line
    | _ => false)
  | .app o a, e => (match e with
    | .Call (.Attribute x y p) [u] [] q => decide (y = "append") && o.ok k x && a.ok k u && noStar u && noCall x && p.endLine == q.line
    | _ => false)
  | .pop o, e => (match e with
    | .Call (.Attribute x y p) [] [] q => decide (y = "pop") && o.ok k x && noCall x && p.endLine == q.line
    | _ => false)
  | .ext o a, e => (match e with
    | .Call (.Attribute x y p) [u] [] q => decide (y = "extend") && o.ok k x && a.ok k u && noStar u && noCall x && p.endLine == q.line
    | _ => false)
  | .dct ks, e => (match e with
    | .Dict xs ys p => ks.ok k xs ys && decide (1 ≤ ys.length) && decide (ys.length ≤ 15) && decide (xs.length = ys.length)
    | _ => false)
  | .dctP ks, e => (match e with
    | .Dict xs ys p => ks.ok k xs ys && decide (1 ≤ ys.length) && decide (ys.length ≤ 15) && decide (xs.length = ys.length)
    | _ => false)
  | .dct0, e => (match e with
    | .Dict [] [] _ => true
    | _ => false)
  | .inD n a b, e => (match e with
    | .Compare x [p] [y] _ => (match n, p with
      | false, .In => true
      | true, .NotIn => true
      | _, _ => false) && a.ok k x && b.ok k y && noSet y
    | _ => false)
  | .popk o a, e => (match e with
    | .Call (.Attribute x y p) [u] [] q => decide (y = "pop") && o.ok k x && a.ok k u && noStar u && noCall x && p.endLine == q.line
    | _ => false)
  | .sset a, e => (match e with
    | .Call (.Name x _) [.Call (.Name y _) [z] [] _] [] _ => decide (x = "sorted") && decide (y = "set") && k.fr "sorted" && k.fr "set" && a.ok k z && noStar z
    | _ => false)
  | .maxD a d, e => (match e with
    | .Call (.Name x _) [y] [⟨some nm, .Constant (.int z) _ _, _⟩] _ => decide (x = "max") && decide (nm = "default") && decide (z = d) && k.fr "max" && a.ok k y && noStar y
    | _ => false)
  | .lns a, e => (match e with
    | .Call (.Name x _) [.Call (.Name y _) [z] [] _] [] _ => decide (x = "len") && decide (y = "set") && k.fr "len" && k.fr "set" && a.ok k z && noStar z
    | _ => false)
  | .tidx j a, e => (match e with
    | .Call (.Attribute (.Name x _) y p) [u] [] q => decide (y = "index") && decide (k.tb.cn[j]? = some x) && glB k.sc x && nd x && a.ok k u && noStar u && p.endLine == q.line
    | _ => false)
  | .isI2 a t t2, e => (match e with
    | .Call (.Name x _) [y, .Tuple [.Name z _, .Name z2 _] _ _] [] _ => decide (x = "isinstance") && k.fr "isinstance" && tyB t z && k.fr z && nd z && tyB t2 z2 && k.fr z2 && nd z2 && a.ok k y && noStar y
    | _ => false)
  | .lr1 a, e => (match e with
    | .Call (.Name x _) [.Call (.Name y _) [z] [] _] [] _ => decide (x = "list") && decide (y = "range") && k.fr "list" && k.fr "range" && a.ok k z && noStar z
    | _ => false)
  | .lr1P a, e => (match e with
    | .Call (.Name x _) [.Call (.Name y _) [z] [] _] [] _ => decide (x = "list") && decide (y = "range") && k.fr "list" && k.fr "range" && a.ok k z && noStar z
    | _ => false)
  | .lr2 a b, e => (match e with
    | .Call (.Name x _) [.Call (.Name y _) [z, u] [] _] [] _ => decide (x = "list") && decide (y = "range") && k.fr "list" && k.fr "range" && a.ok k z && noStar z && b.ok k u && noStar u
    | _ => false)
  | .lr2P a b, e => (match e with
    | .Call (.Name x _) [.Call (.Name y _) [z, u] [] _] [] _ => decide (x = "list") && decide (y = "range") && k.fr "list" && k.fr "range" && a.ok k z && noStar z && b.ok k u && noStar u
    | _ => false)
  | .dkc i j own, e => (match e with
    | .ListComp (.Subscript (.Name a1 _) (.Name b1 _) _) [⟨.Name b2 _, .Name a2 _, [.Compare (.Subscript (.Name a3 _) (.Name b3 _) _) [.Gt] [.Constant (.int z) _ _] _], n⟩] scope _ =>
      decide (n = 0) && decide (z = 0) && decide (a1 = a2) && decide (a3 = a2) && decide (b1 = b2) && decide (b3 = b2) && decide (k.N[j]? = some a2) && decide (k.N[i]? = some b2) && visB k.sc a2 && nd a2 && nd b2 && blkC k.N k.sc scope own && decide (i ∈ own.map (·.2)) && decide (j ∉ own.map (·.2)) &&
        visB (k.blk scope).sc a2 && visB (k.blk scope).sc b2 && locB (k.blk scope).sc (k.blk scope).top b2
    | _ => false)
  | .cnt o a, e => (match e with
    | .Call (.Attribute x y p) [u] [] q => decide (y = "count") && o.ok k x && a.ok k u && noStar u && noCall x && p.endLine == q.line
    | _ => false)
  | .bad, e => noComp e
  | .catP a b, e => (match e with
    | .BinOp x .Add y _ => a.ok k x && b.ok k y
    | _ => false)
  | .slP a lo hi, e => (match e with
    | .Subscript x (.Slice l h none _) _ => a.ok k x && lo.ok k l && hi.ok k h
    | _ => false)
  | .mulP a b, e => (match e with
    | .BinOp x .Mult y _ => a.ok k x && b.ok k y
    | _ => false)
  | .ixT a es, e => (match e with
    | .Subscript x (.Tuple xs _ _) _ => a.ok k x && es.ok k xs
    | _ => false)
  | .dt0, e => (match e with
    | .Dict [] [] _ => true
    | _ => false)
  | .callV i es, e => (match e with
    | .Call (.Name x _) (y :: r) [] _ => decide (k.N[i]? = some x) && visB k.sc x && nd x && es.ok k (y :: r)
    | _ => false)
  | .fld a f, e => (match e with
    | .Attribute x y _ => decide (y = f) && a.ok k x && noCall x
    | _ => false)
  | .meth m o es, e => (match e with
    | .Call (.Attribute x y p) ys [] q => decide (y = m) && !decide (m = "__init__") && o.ok k x && es.ok k ys && noCall x && p.endLine == q.line && decide (ys.length < 30)
    | _ => false)
  | .make C es, e => (match e with
    | .Call (.Name x _) ys [] _ => decide (x = C) && decide (C ∈ k.tb.ml) && glB k.sc x && nd x && es.ok k ys
    | _ => false)
def Es.ok (k : Ck) : Es → List Expr → Bool
  | .nil, es => (match es with
    | [] => true
    | _ => false)
  | .cons a r, es => (match es with
    | e :: es => noStar e && a.ok k e && r.ok k es
    | _ => false)
def Ks.ok (k : Ck) : Ks → List (Option Expr) → List Expr → Bool
  | .nil, xs, ys => (match xs, ys with
    | [], [] => true
    | _, _ => false)
  | .cons a b r, xs, ys => (match xs, ys with
    | some x :: xs, y :: ys => a.ok k x && b.ok k y && r.ok k xs ys
    | _, _ => false)
def T.ok (k : Ck) : T → Expr → Bool
  | .yes, _ => false
  | .cmp o a b, e => (match e with
    | .Compare x [p] [y] _ => o.is p && a.ok k x && b.ok k y && noSet y
    | _ => false)
  | .chain o q a b c, e => (match e with
    | .Compare x [p, p'] [y, z] _ => o.is p && q.is p' && a.ok k x && b.ok k y && c.ok k z && noSet z
    | _ => false)
  | .and a b, e => (match e with
    | .BoolOp .And (x :: y :: r) p => b.isW && a.ok k x && b.ok k (.BoolOp .And (y :: r) p)
    | _ => false)
  | .or a b, e => (match e with
    | .BoolOp .Or (x :: y :: r) p => b.isW && a.ok k x && b.ok k (.BoolOp .Or (y :: r) p)
    | _ => false)
  | .one a, e => (match e with
    | .BoolOp _ [x] _ => a.ok k x
    | _ => false)
  | .not a, e => (match e with
    | .UnaryOp .Not x _ => a.ok k x
    | _ => false)
  | .tru a, e => plainT e && a.ok k e
  | .inD n a b, e => (match e with
    | .Compare x [p] [y] _ => (match n, p with
      | false, .In => true
      | true, .NotIn => true
      | _, _ => false) && a.ok k x && b.ok k y && noSet y
    | _ => false)
  | .tabIn j n a, e => (match e with
    | .Compare x [p] [.Name y _] _ => (match n, p with
      | false, .In => true
      | true, .NotIn => true
      | _, _ => false) && decide (k.tb.tn[j]? = some y) && glB k.sc y && nd y && a.ok k x
    | _ => false)
def I.ok (k : Ck) : I → Expr → Expr → Bool
  | .en a, tg, e => (match tg with
    | .Tuple _ _ _ => (match e with
      | .Call (.Name x _) [y] [] _ => decide (x = "enumerate") && k.fr "enumerate" && a.ok k y && noStar y
      | _ => false)
    | _ => false)
  | .any a, _, e => a.ok k e
  | .r1 a, _, e => (match e with
    | .Call (.Name x _) [y] [] _ => decide (x = "range") && k.fr "range" && a.ok k y && noStar y
    | _ => false)
  | .r2 a b, _, e => (match e with
    | .Call (.Name x _) [y, z] [] _ => decide (x = "range") && k.fr "range" && a.ok k y && b.ok k z && noStar y && noStar z
    | _ => false)
def O.ok (k : Ck) : O → Option Expr → Bool
  | .non, e => (match e with
    | none => true
    | _ => false)
  | .som a, e => (match e with
    | some e => a.ok k e
    | _ => false)
end
/-! ### handlers -/
def Hx.isW : Hx → Bool
  | .and _ _ => true
  | .or _ _ => true
  | .one _ => true
  | _ => false
def Ck.nm (k : Ck) (i : Nat) (x : Str) : Bool := decide (k.N[i]? = some x) && visB k.sc x && nd x
def Hx.tB : Hx → Bool
  | .ife _ _ _ => false
  | .not a => a.tB
  | .and a b => a.tB && b.tB
  | .or a b => a.tB && b.tB
  | .one a => a.tB
  | _ => true
def Hx.ok (k : Ck) (i : Nat) : Hx → Expr → Bool
  | .c d, e => (match e with
    | .Constant v _ _ => conB d v
    | _ => false)
  | .var j, e => (match e with
    | .Name x _ => k.nm j x
    | _ => false)
  | .fld f, e => (match e with
    | .Attribute (.Name x _) y _ => decide (y = f) && k.nm i x
    | _ => false)
  | .isI D, e => (match e with
    | .Call (.Name y _) [.Name x _, .Name z _] [] _ => decide (y = "isinstance") && k.fr "isinstance" && k.nm i x && decide (z = D) && decide (D ∈ k.tb.xc) && glB k.sc D && nd D
    | _ => false)
  | .not a, e => (match e with
    | .UnaryOp .Not x _ => a.ok k i x
    | _ => false)
  | .and a b, e => (match e with
    | .BoolOp .And (x :: y :: r) p => b.isW && a.ok k i x && b.ok k i (.BoolOp .And (y :: r) p)
    | _ => false)
  | .or a b, e => (match e with
    | .BoolOp .Or (x :: y :: r) p => b.isW && a.ok k i x && b.ok k i (.BoolOp .Or (y :: r) p)
    | _ => false)
  | .one a, e => (match e with
    | .BoolOp _ [x] _ => a.ok k i x
    | _ => false)
  | .eq a b, e => (match e with
    | .Compare x [.Eq] [y] _ => a.ok k i x && b.ok k i y && noSet y
    | _ => false)
  | .lt a b, e => (match e with
    | .Compare x [.Lt] [y] _ => a.ok k i x && b.ok k i y && noSet y
    | _ => false)
  | .ife t a b, e => (match e with
    | .IfExp e0 x y _ => t.tB && t.ok k i e0 && a.ok k i x && b.ok k i y
    | _ => false)
def Hb.ok (k : Ck) (i : Nat) : Hb → List Stmt → Bool
  | .ret a, s => (match s with
    | [.Return (some e) _] => a.ok k i e
    | _ => false)
  | .ifr t a r, s => (match s with
    | .If c [.Return (some e) _] [] _ :: rest => t.tB && t.ok k i c && a.ok k i e && r.ok k i rest
    | _ => false)
  | .pas, s => (match s with
    | [.Pass _] => true
    | _ => false)
  | .cnt, s => (match s with
    | [.Continue _] => true
    | _ => false)
  | .set j x r, s => (match s with
    | .Assign [.Name y _] e _ :: rest => decide (k.N[j]? = some y) && locB k.sc k.top y && decide (j ≠ i) && noComp e && x.ok k i e && r.ok k i rest
    | _ => false)
def locN (sc : Scope) (x : Str) : Bool := match sc.names.lookup x with
  | some .local => true
  | _ => false
def E.dkB : E → Bool
  | .dkc _ _ _ => false
  | _ => true
def E.lcB (sc : Scope) (py : Pos) (y : Str) : Expr → Bool
  | .ListComp _ _ scope pos => swB sc scope y py.line pos.line
  | _ => false
mutual
def U.ok (k : Ck) : U → Expr → Bool
  | .n i, e => (match e with
    | .Name x _ => decide (k.N[i]? = some x) && locB k.sc k.top x
    | _ => false)
  | .f o f, e => (match e with
    | .Attribute x y _ => decide (y = f) && o.ok k x
    | _ => false)
  | .s o i, e => (match e with
    | .Subscript x y _ => o.ok k x && i.ok k y && noSlice y
    | _ => false)
  | .t us, e => (match e with
    | .Tuple es _ _ => us.ok k es
    | _ => false)
def Us.ok (k : Ck) : Us → List Expr → Bool
  | .nil, es => (match es with
    | [] => true
    | _ => false)
  | .cons u us, es => (match es with
    | e :: es => noStar e && u.ok k e && us.ok k es
    | _ => false)
end
def augB : Bool → Operator → Bool
  | false, .Add => true
  | true, .Sub => true
  | _, _ => false
mutual
def Sm.ok (k : Ck) : Sm → Stmt → Bool
  | .pass, s => (match s with
    | .Pass _ => true
    | _ => false)
  | .set i a, s => (match s with
    | .Assign [.Name x _] e _ => decide (k.N[i]? = some x) && locB k.sc k.top x && a.dkB && a.ok k e
    | _ => false)
  | .tgt g a, s => (match s with
    | .Assign [tg] e _ => g.ok k tg && a.ok k e && noComp e && noTup e
    | _ => false)
  | .expr a, s => (match s with
    | .Expr e _ => a.ok k e && noComp e
    | _ => false)
  | .ret a, s => (match s with
    | .Return (some e) _ => a.ok k e
    | _ => false)
  | .retN, s => (match s with
    | .Return none _ => true
    | _ => false)
  | .ife t a b, s => (match s with
    | .If c x y _ => t.ok k c && a.ok k x && b.ok k y
    | _ => false)
  | .brk, s => (match s with
    | .Break _ => true
    | _ => false)
  | .cnt, s => (match s with
    | .Continue _ => true
    | _ => false)
  | .for_ it g b, s => (match s with
    | .For tg iter x [] _ => it.ok k tg iter && noSet iter && g.ok k tg && b.ok k x
    | _ => false)
  | .while_ _ t b, s => (match s with
    | .While c x [] _ => t.ok k c && b.ok k x
    | _ => false)
  | .ugt u a, s => (match s with
    | .Assign [.Tuple es n q] e _ => u.ok k (.Tuple es n q) && a.ok k e && noComp e && es.any notName
    | _ => false)
  | .aug i b a, s => (match s with
    | .AugAssign (.Name x _) o e _ => decide (k.N[i]? = some x) && locB k.sc k.top x && a.ok k e && augB b o
    | _ => false)
  | .augF o f b a, s => (match s with
    | .AugAssign (.Attribute x y _) op e _ => decide (y = f) && o.ok k x && a.ok k e && augB b op
    | _ => false)
  | .bad, _ => true
  | .fset o f v, s => (match s with
    | .Assign [.Attribute x y _] e _ => decide (y = f) && o.ok k x && v.ok k e
    | _ => false)
  | .raise C f a, s => (match s with
    | .Raise (some (.Call (.Name x _) [e] [] _)) none _ => decide (x = C) && glB k.sc C && nd C && a.ok k e && noStar e
    | _ => false)
  | .try_ b C i h, s => (match s with
    | .Try body [.ExceptHandler (some (.Name x _)) (some n) (b0 :: suite) _] [] [] _ => decide (x = C) && decide (k.N[i]? = some n) && locN k.sc n && glB k.sc C && nd C && decide (C ∈ k.tb.xc) && b.ok k body && h.ok k i (b0 :: suite)
    | _ => false)
  | .put o i v, s => (match s with
    | .Assign [.Subscript x y _] e _ => o.ok k x && i.ok k y && v.ok k e && noSlice y && noComp e
    | _ => false)
  | .putT o es v, s => (match s with
    | .Assign [.Subscript x (.Tuple ys _ _) _] e _ => o.ok k x && es.ok k ys && v.ok k e && noComp e
    | _ => false)
def Ss.ok (k : Ck) : Ss → List Stmt → Bool
  | .nil, s => (match s with
    | [] => true
    | _ => false)
  | .cons a r, s => (match s with
    | x :: s => a.ok k x && r.ok k s
    | _ => false)
end
end ML

-- D3
set_option linter.all false
set_option maxRecDepth 100000
set_option maxHeartbeats 4000000
/-! D3: what fits the text is a reading of it. -/
namespace ML
open PySem PySem.Spec PyProof.Rows L2
structure CalG (P : Program) (w : World) (K : PySem.W.Frag) (mg : Str → Option Value) (base : Heap) (n : Nat) (x : Str) (m : Nat) (f : FN) : Prop where
  ex : ∃ (fa : Addr) (fd : FuncData) (ps : List Str) (sp : Sp), ps.length = m ∧ mg x = some (.ref fa) ∧ PySem.W.keepIn K (.ref fa) = true ∧ Binds K fd ps [] ∧ FnOk P w K mg base (L2.CX P w) n fa fd ps sp ∧
    ∀ (W : WX) σ mp H st ds us Q, RelS K mp H st → RepVs K mp H ds us → Post K W σ (RV K) mp H (f ds st) Q → sp us H Q (WE W σ)
structure Say (P : Program) (w : World) (K : PySem.W.Frag) (mg : Str → Option Value) (base : Heap) (n : Nat) (p : Dn) (tb : Tb) : Prop where
  fr : ∀ x ∈ tb.fr, mg x = none
  con : ∀ j x, tb.cn[j]? = some x → Con1 K mg x (p.cv j)
  tab : ∀ j x, tb.tn[j]? = some x → ∃ ad f, mg x = some (.ref ad) ∧ KTab P w K ad (p.ct j) f
  fn : ∀ i x m, tb.dn[i]? = some (some x) → tb.da[i]? = some m → CalG P w K mg base n x m (p.cf i)
  fo : ∀ C f, p.fo C f = true → Cls K (He.ga K C) ∧ NoAttr K (He.ga K C) f
  mf : ∀ C m i, p.mf C m = some i → m ≠ "__init__" → Cls K (He.ga K C) ∧ ∃ fa, Meth K (He.ga K C) m fa ∧ CalF P w K mg base n fa (p.cf i)
  xr : ∀ C f, (p.xt.rs && p.xt.has C f) = true → XR P w K mg base C f ∧ 1 ≤ n
  xg : ∀ c f, p.xt.has c f = true → XG K c f
  xs : ∀ c C b, p.xt.sbf c C = some b → PySem.W.exmOne K (.ref (He.ga K c)) (.ref (He.ga K C)) = some b ∧ PySem.W.kitOne K (.ref (He.ga K c)) (.ref (He.ga K C)) = some b
  xc : ∀ C ∈ tb.xc, mg C = some (.ref (He.ga K C))
  fv : ∀ y j, p.nf y = some j → CalF P w K mg base n (He.ga K y) (p.cf j) ∧ PySem.W.keepIn K (.ref (He.ga K y)) = true
  mkr : ∀ C ∈ tb.ml, ∃ i fa, p.mf C "__init__" = some i ∧ mg C = some (.ref (He.ga K C)) ∧ Mk K (He.ga K C) fa ∧ CalF P w K mg base n fa (p.cf i)
structure Fit (X : Cx) (W : WX) (n : Nat) (p : Dn) (k : Ck) : Prop where
  sc : X.env.scope = k.sc
  N : X.N = k.N
  nd : X.N.Nodup
  calm : X.calm = true
  fn : ∀ x, k.top x = true → X.fn x = true
  say : Say X.prog X.w X.K X.mg X.base n p k.tb
  room : Room (n + 1) X.A
  tk : Takes X W
section
variable {X : Cx} {W : WX} {n : Nat} {p : Dn} {k : Ck} {x : Str}
theorem Fit.rm (F : Fit X W n p k) : Room n X.A := F.room.mono (Nat.le_succ n)
theorem Fit.hu (F : Fit X W n p k) : X.A.units + 1 < cLine := hu_of F.room
theorem Fit.at (F : Fit X W n p k) {i : Nat} (h : k.N[i]? = some x) : X.N[i]? = some x := by rw [F.N]; exact h
theorem Fit.vis (F : Fit X W n p k) (h : visB k.sc x = true) : Vis X.env.scope x := by rw [F.sc]; exact vis_ok h
theorem Fit.loc (F : Fit X W n p k) (h : locB k.sc k.top x = true) : Loc X.env.scope x := by rw [F.sc]; exact loc_ok h
theorem Fit.hf (F : Fit X W n p k) (h : locB k.sc k.top x = true) : X.fn x = true ∨ X.env.scope.names.lookup x = some .local := by
  rw [F.sc]
  exact (loc_or h).imp (fun z => F.fn x z) id
theorem Fit.gl (F : Fit X W n p k) (h : glB k.sc x = true) : Gl X x := by
  show X.env.scope.names.lookup x = _
  rw [F.sc]; exact gl_ok h
theorem Fit.free (F : Fit X W n p k) (h : k.fr x = true) : Gl X x ∧ X.mg x = none := by
  unfold Ck.fr at h
  rw [Bool.and_eq_true, decide_eq_true_eq] at h
  exact ⟨F.gl h.1, F.say.fr x h.2⟩
theorem Fit.blk (F : Fit X W n p k) (s : Shared) (H : Hp) (scope : Scope) (C : Addr) (cl : List (Str × Addr)) (fp : List Addr) : Fit (X.blk s H scope (compEnvC scope cl C X.env) fp) W0 n p (k.blk scope) where
  sc := by
    show relabel scope X.env = relS scope k.sc
    rw [← F.sc]; rfl
  N := F.N
  nd := F.nd
  calm := F.calm
  fn := fun _ h => h
  say := F.say
  room := F.room
  tk := takes0
theorem me_callG {pos p2 : Pos} {e : Expr} {es : List Expr} {ms : MEnv → Store → R (List Val)} {m : Nat} {f : FN} (C : CalG X.prog X.w X.K X.mg X.base n x m f) (hr : Room n X.A) (hg : Gl X x) (tk : Takes X W) (ha : MA X W (e :: es) ms) (hd : ML.nd x = true) (hs : (e :: es).all noStar = true) : ME X W (.Call (.Name x p2) (e :: es) [] pos) (mCall f ms) := by
  obtain ⟨fa, fd, ps, sp, hl, h1, h2, h3, F, rule⟩ := C.ex
  obtain ⟨t, pa, h⟩ := ha.ex
  rw [List.all_cons, Bool.and_eq_true] at hs
  refine ⟨⟨_, pe_callS F hr hg h1 h2 h3 (fun σ => passAt tk σ) pa (nd_dbg hd) (star1 hs.1) (stars_none hs.2), fun σ H Q mp env st rs re hp => ?_⟩⟩
  exact h σ H _ mp env st rs re (Post.of_bind hp fun mp1 H1 ds st1 us _ l s rr q => rule W σ mp1 H1 st1 ds us Q s rr q)
theorem me_callG0 {pos p2 : Pos} {f : FN} (C : CalG X.prog X.w X.K X.mg X.base n x 0 f) (hr : Room n X.A) (hg : Gl X x) (tk : Takes X W) (hd : ML.nd x = true) : ME X W (.Call (.Name x p2) [] [] pos) (mCall f mNil) := by
  obtain ⟨fa, fd, ps, sp, hl, h1, h2, h3, F, rule⟩ := C.ex
  refine ⟨⟨_, pe_call0S F hr hg h1 h2 h3 (fun σ => passAt tk σ) (nd_dbg hd), fun σ H Q mp env st rs re hp => ?_⟩⟩
  exact rule W σ mp H st [] [] Q rs (repvs_nil.mpr rfl) hp
def tCallLS (i : Nat) (S : Addr → Option Sp) (E : L2.St → XK) (t : TA) : TE := fun σ H Q => ∃ f sp, σ[i]? = some (some (.ref f)) ∧ S f = some sp ∧ t σ H fun vs H1 => sp vs H1 Q (E σ)
theorem pe_callLS {CX : CXT} {E : L2.St → XK} {i : Nat} {pos p2 : Pos} {e : Expr} {es : List Expr} {t : TA} {S : Addr → Option Sp} (A : ∀ f sp, S f = some sp → ∃ fd ps, FnOk X.prog X.w X.K X.mg X.base CX n f fd ps sp ∧ PySem.W.keepIn X.K (.ref f) = true ∧ Binds X.K fd ps []) (hr : Room n X.A) (hN : X.N[i]? = some x) (hv : Vis X.env.scope x) (hx : ∀ σ, PassesAt CX X σ (E σ)) (ha : PA X (e :: es) t)
    (hdb : (x == ("__debug__" : Str)) = false) (hcd : (x == ("__classdict__" : Str)) = false)
    (he : starEach (e :: es) X.env = (false, eval e X.env) :: starEach es X.env) (hpl : (backTo pos (starEach es X.env)).any (·.1) = false) : PE X (.Call (.Name x p2) (e :: es) [] pos) (tCallLS i S E t) := by
  refine ⟨fun pins s σ H Q I h => ?_⟩
  obtain ⟨f, sp, hs, hS, ht⟩ := h
  obtain ⟨fd, ps, F, hk, hb⟩ := A f sp hS
  refine wpAny_Call_Name_kw (thn ((pe_var (pos := p2) hN hv hdb hcd).run pins s σ H (fun v H1 => v = .ref f ∧ H1 = H) I ⟨.ref f, hs, rfl, rfl⟩) fun u s1 ⟨v, H1, I1, r1, q1⟩ => ?_)
  obtain ⟨rfl, rfl⟩ := q1
  cases r1
  refine PySem.W.callWith_K (h₀ := X.base) I.ok.mod.kin hk (thn (ha.run pos pins s1 σ _ _ I1 ht) fun us s2 ⟨vs, H2, I2, r, q⟩ => ⟨I2.kIn, ?_⟩) he hpl
  exact run_fnS F hr hb (hx σ) I2 r q
theorem me_callV {i : Nat} {pos p2 : Pos} {e : Expr} {es : List Expr} {ms : MEnv → Store → R (List Val)} {nf : Str → Option Nat} {cf : Nat → FN} (A : ∀ y j, nf y = some j → CalF X.prog X.w X.K X.mg X.base n (He.ga X.K y) (cf j) ∧ PySem.W.keepIn X.K (.ref (He.ga X.K y)) = true) (hr : Room n X.A) (hN : X.N[i]? = some x) (hv : Vis X.env.scope x) (tk : Takes X W) (ha : MA X W (e :: es) ms) (hd : ML.nd x = true) (hs : (e :: es).all noStar = true) : ME X W (.Call (.Name x p2) (e :: es) [] pos) (mCallV nf cf (mVar i) ms) := by
  obtain ⟨t, pa, h⟩ := ha.ex
  rw [List.all_cons, Bool.and_eq_true] at hs
  let R : Addr → Sp → Prop := fun f sp => (∃ fd ps, FnOk X.prog X.w X.K X.mg X.base (L2.CX X.prog X.w) n f fd ps sp ∧ PySem.W.keepIn X.K (.ref f) = true ∧ Binds X.K fd ps [])
  refine ⟨⟨fun σ H Q => ∃ f sp, σ[i]? = some (some (.ref f)) ∧ R f sp ∧ t σ H fun vs H1 => sp vs H1 Q (WE W σ), ⟨fun pins s σ H Q I ⟨f, sp, hs1, hR, ht⟩ => ?_⟩, fun σ H Q mp env st rs re hp => ?_⟩⟩
  · exact (pe_callLS (S := fun g => if g = f then some sp else none) (fun g sp' hg => by
      split at hg
      · rename_i e1
        obtain rfl := Option.some.inj hg
        subst e1
        exact hR
      · cases hg) hr hN hv (fun σ => passAt tk σ) pa (nd_dbg hd) (nd_cd hd) (star1 hs.1) (stars_none hs.2)).run pins s σ H Q I ⟨f, sp, hs1, by simp, ht⟩
  · unfold mCallV mVar at hp
    split at hp
    · rename_i v e
      obtain ⟨u, e1, r⟩ := relE_get re e
      cases v with
      | fn y =>
        have hp : Post X.K W σ (RV X.K) mp H (match nf y with
          | some j => (ms env st).bind fun ds st => cf j ds st
          | none => .stuck) Q := hp
        split at hp
        · rename_i j hj
          obtain ⟨C, hk⟩ := A y j hj
          obtain ⟨fd, ps, sp, hb, F, rule⟩ := C.ex
          unfold RepV at r
          subst r
          refine ⟨He.ga X.K y, sp, e1, ⟨fd, ps, F, hk, hb⟩, ?_⟩
          exact h σ H _ mp env st rs re (Post.of_bind hp fun mp1 H1 ds st1 us _ l s rr q => rule W σ mp1 H1 st1 ds us Q s rr q)
        · exact hp.elim
      | _ => exact hp.elim
    · exact hp.elim
theorem Op.sound {o : Op} {q : Operator} {pos : Pos} {a b : Expr} {ma mb} (h : o.is q = true) (ha : ME X W a ma) (hb : ME X W b mb) : ME X W (.BinOp a q b pos) (mBin o.f ma mb) := by
  cases o <;> cases q <;> first | cases h | skip
  · exact me_bin o_add m_add ha hb
  · exact me_bin op_sub m_sub ha hb
  · exact me_bin o_mulA m_mulA ha hb
  · exact me_bin op_fdiv m_div ha hb
  · exact me_bin op_mod m_mod ha hb
  · exact me_bin op_pow m_pow ha hb
  · exact me_bin op_shl m_shl ha hb
  · exact me_bin op_shr m_shr ha hb
  · exact me_bin op_and m_and ha hb
  · exact me_bin op_or m_or ha hb
/-- the rule of a comparison -/
theorem Cm.rule {o : Cm} {q : CmpOp} (hr : Room n X.A) (h : o.is q = true) : ∃ r, OpR X (compareOp q) r ∧ OpM X.K W r o.f := by
  cases o <;> cases q <;> first | cases h | skip
  · exact ⟨_, op_lt, m_cmp⟩
  · exact ⟨_, op_le, m_cmp⟩
  · exact ⟨_, op_gt, m_cmp⟩
  · exact ⟨_, op_ge, m_cmp⟩
  · exact ⟨_, op_eqD hr.units, m_eq⟩
  · exact ⟨_, op_neD hr.units, m_ne⟩
  · exact ⟨_, o_in (by have := hr.un; omega), m_in⟩
  · exact ⟨_, o_notIn (by have := hr.un; omega), m_notIn⟩
  · exact ⟨_, op_isC, m_isC⟩
  · exact ⟨_, op_notC, m_notC⟩
theorem Bi.sound {b : Bi} {pos p2 : Pos} {e : Expr} {es : List Expr} {ms} (F : Fit X W n p k) (h : k.fr b.nm = true) (ha : MA X W (e :: es) ms) (hs : (e :: es).all noStar = true) : ME X W (.Call (.Name b.nm p2) (e :: es) [] pos) (mCall b.f ms) := by
  obtain ⟨hg, hm⟩ := F.free h
  rw [List.all_cons, Bool.and_eq_true] at hs
  have h1 := star1 (env := X.env) (es := es) hs.1
  have h2 := stars_none (pos := pos) (env := X.env) hs.2
  cases b with
  | len => exact me_callB o_len m_len hg hm (by decide +kernel) ha (by decide +kernel) (by decide +kernel) h1 h2
  | int => exact me_callTy o_int m_int hg hm (by decide +kernel) ha (by decide +kernel) (by decide +kernel) h1 h2
  | str => exact me_callTy call_str_int m_str hg hm (by decide +kernel) ha (by decide +kernel) (by decide +kernel) h1 h2
  | ord => exact me_callB call_ord m_ord hg hm (by decide +kernel) ha (by decide +kernel) (by decide +kernel) h1 h2
  | tuple => exact me_callTy call_tuple_of m_tuple hg hm (by decide +kernel) ha (by decide +kernel) (by decide +kernel) h1 h2
  | max2 => exact me_callB (call_max2 F.calm) m_max2 hg hm (by decide +kernel) ha (by decide +kernel) (by decide +kernel) h1 h2
  | min2 => exact me_callB (call_min2 F.calm) m_min2 hg hm (by decide +kernel) ha (by decide +kernel) (by decide +kernel) h1 h2
  | sum => exact me_callB (cr_sum F.calm) m_sum hg hm (by decide +kernel) ha (by decide +kernel) (by decide +kernel) h1 h2
  | max1 => exact me_callB (cr_max F.calm) m_max1 hg hm (by decide +kernel) ha (by decide +kernel) (by decide +kernel) h1 h2
  | min1 => exact me_callB (cr_min F.calm) m_min1 hg hm (by decide +kernel) ha (by decide +kernel) (by decide +kernel) h1 h2
  | rng1 => exact me_callTy cr_range1 m_rng1 hg hm (by decide +kernel) ha (by decide +kernel) (by decide +kernel) h1 h2
  | rng2 => exact me_callTy cr_range2 m_rng2 hg hm (by decide +kernel) ha (by decide +kernel) (by decide +kernel) h1 h2
theorem Bn.sound {b : Bn} {pos p2 : Pos} {e : Expr} {es : List Expr} {ms} (F : Fit X W n p k) (h : k.fr b.nm = true) (ha : MA X W (e :: es) ms) (hs : (e :: es).all noStar = true) : MN X W (.Call (.Name b.nm p2) (e :: es) [] pos) (nCall b.f ms) := by
  obtain ⟨hg, hm⟩ := F.free h
  rw [List.all_cons, Bool.and_eq_true] at hs
  have h1 := star1 (env := X.env) (es := es) hs.1
  have h2 := stars_none (pos := pos) (env := X.env) hs.2
  cases b with
  | list => exact mn_callTy call_list_of m_list hg hm (by decide +kernel) ha (by decide +kernel) (by decide +kernel) h1 h2
  | sorted => exact mn_callB o_sorted m_sorted hg hm (by decide +kernel) ha (by decide +kernel) (by decide +kernel) h1 h2
theorem tyB_boot {t : String} {x : Str} (h : tyB t x = true) : bootBuiltins x = some (.type t) := by
  unfold tyB at h
  split at h <;> first | (obtain rfl := of_decide_eq_true h; decide +kernel) | cases h
end
end ML

-- D4
set_option linter.all false
set_option maxRecDepth 100000
set_option maxHeartbeats 4000000
namespace ML
open PySem PySem.Spec PyProof.Rows L2
theorem bb {a b : Bool} (h : (a && b) = true) : a = true ∧ b = true := Bool.and_eq_true_iff.mp h
theorem dd {q : Prop} [Decidable q] (h : decide q = true) : q := of_decide_eq_true h
mutual
theorem G.star {k : Ck} : ∀ (g : Gs) {es : List Expr}, g.ok k es = true → es.all noStar = true ∧ es.length = g.len
  | .nil, es, h => by
    unfold Gs.ok at h
    split at h
    · exact ⟨rfl, rfl⟩
    · cases h
  | .cons g gs, es, h => by
    unfold Gs.ok at h
    split at h
    · rename_i e es
      obtain ⟨h, h3⟩ := bb h
      obtain ⟨h1, h2⟩ := bb h
      obtain ⟨a, b⟩ := G.star gs h3
      exact ⟨by rw [List.all_cons, h1, a]; rfl, by rw [List.length_cons, b]; rfl⟩
    · cases h
end
mutual
theorem G.sound {X : Cx} {W : WX} {n : Nat} {p : Dn} {k : Ck} (F : Fit X W n p k) : ∀ (g : G) {x : Expr}, g.ok k x = true → MG X x g.m g.vs
  | .n i, x, h => by
    unfold G.ok at h
    split at h
    · obtain ⟨h1, h2⟩ := bb h
      exact mg_name F.nd (F.at (dd h1)) (F.loc h2) (F.hf h2)
    · cases h
  | .t gs, x, h => by
    unfold G.ok at h
    split at h
    · obtain ⟨h1, h2⟩ := G.star gs h
      show MG X _ (gT gs.len gs.m) gs.vs
      rw [← h2]
      exact mg_tup F.calm (G.sounds F gs h) (asg_len h1) (asg_none h1)
    · cases h
theorem G.sounds {X : Cx} {W : WX} {n : Nat} {p : Dn} {k : Ck} (F : Fit X W n p k) : ∀ (g : Gs) {x : List Expr}, g.ok k x = true → MGs X x g.m g.vs
  | .nil, x, h => by
    unfold Gs.ok at h
    split at h
    · exact mgs_nil
    · cases h
  | .cons g gs, x, h => by
    unfold Gs.ok at h
    split at h
    · rename_i e es
      obtain ⟨h, h3⟩ := bb h
      obtain ⟨h1, h2⟩ := bb h
      exact mgs_cons (G.sound F g h2) (G.sounds F gs h3) (fun a b => pgs_cons a b (by rw [asg1 h1]; rfl))
    · cases h
end
theorem Fit.w0 {X : Cx} {W : WX} {n : Nat} {p : Dn} {k : Ck} (F : Fit X W n p k) : Fit X W0 n p k := ⟨F.sc, F.N, F.nd, F.calm, F.fn, F.say, F.room, takes0⟩
theorem ks_len {k : Ck} : ∀ (r : Ks) {xs : List (Option Expr)} {ys : List Expr}, r.ok k xs ys = true → xs.all (·.isSome) = true
  | .nil, xs, ys, h => by
    unfold Ks.ok at h
    split at h
    · rfl
    · cases h
  | .cons a b r, xs, ys, h => by
    unfold Ks.ok at h
    split at h
    · obtain ⟨h, h3⟩ := bb h
      rw [List.all_cons, ks_len r h3]; rfl
    · cases h
theorem es_star {k : Ck} : ∀ (r : Es) {xs : List Expr}, r.ok k xs = true → xs.all noStar = true
  | .nil, xs, h => by
    unfold Es.ok at h
    split at h
    · rfl
    · cases h
  | .cons a r, xs, h => by
    unfold Es.ok at h
    split at h
    · obtain ⟨h, h3⟩ := bb h
      obtain ⟨h1, h2⟩ := bb h
      rw [List.all_cons, h1, es_star r h3]; rfl
    · cases h
/-- the parts of a comprehension -/
structure LcP (X : Cx) (W : WX) (tg iter elt : Expr) (ifs : List Expr) (scope : Scope) (own : List (Str × Nat)) (mi : MEnv → Store → R Src) (g : GM) (ws : List Nat) (tt : MEnv → Store → R Bool) (te : MEnv → Store → R Val) : Prop where
  hi : MI X W tg iter mi
  ok : BlkOk X.N X.env.scope scope own
  hg : ∀ (s : Shared) (H : Hp) (C : Addr) (cl : List (Str × Addr)) (fp : List Addr), MG (X.blk s H scope (compEnvC scope cl C X.env) fp) tg g ws
  ht : ∀ (s : Shared) (H : Hp) (C : Addr) (cl : List (Str × Addr)) (fp : List Addr), PTs (X.blk s H scope (compEnvC scope cl C X.env) fp) ifs (cT X.K W0 tt)
  he : ∀ (s : Shared) (H : Hp) (C : Addr) (cl : List (Str × Addr)) (fp : List Addr), ME (X.blk s H scope (compEnvC scope cl C X.env) fp) W0 elt te
  hws : ∀ j ∈ ws, j ∈ own.map (·.2)
  hs : noSet iter = true
theorem LcP.mn {X : Cx} {W : WX} {n : Nat} {p : Dn} {k : Ck} {pos : Pos} {tg iter elt : Expr} {ifs : List Expr} {scope : Scope} {own : List (Str × Nat)} {mi g ws tt te} (F : Fit X W n p k) (L : LcP X W tg iter elt ifs scope own mi g ws tt te) : MN X W (.ListComp elt [⟨tg, iter, ifs, 0⟩] scope pos) (nLc mi g tt te (own.map (·.2))) :=
  mn_lc F.calm F.nd L.hi L.ok L.hg L.ht L.he L.hws (folded_no L.hs)
def lcOk (k : Ck) (it : I) (g : G) (t : T) (b : E) (own : List (Str × Nat)) (e : Expr) : Bool := (match e with
    | .ListComp elt [⟨tg, iter, ifs, a⟩] scope _ => decide (a = 0) && it.ok k tg iter && noSet iter && blkC k.N k.sc scope own && g.ok (k.blk scope) tg && (g.vs.all fun j => decide (j ∈ own.map (·.2))) &&
        (match ifs with
          | [] => t.yesB
          | [c] => t.ok (k.blk scope) c
          | _ => false) && b.ok (k.blk scope) elt
    | _ => false)
mutual
theorem E.sound {n : Nat} {p : Dn} : ∀ (e : E) {X : Cx} {W : WX} {k : Ck} {x : Expr}, Fit X W n p k → e.ok k x = true → ME X W x (e.m p)
  | .var i, X, W, k, x, F, h => by
    unfold E.ok at h
    split at h
    · obtain ⟨h, h3⟩ := bb h
      obtain ⟨h1, h2⟩ := bb h
      exact me_var (F.at (dd h1)) (F.vis h2) (nd_dbg h3) (nd_cd h3)
    · cases h
  | .c d, X, W, k, x, F, h => by
    unfold E.ok at h
    split at h
    · rename_i v j q
      cases d <;> cases v <;> first | cases h | skip
      · exact me_non
      · rename_i b c
        have h : (b == c) = true := h
        obtain rfl : b = c := by simpa using h
        exact me_bl
      · rename_i b c
        obtain rfl : b = c := dd h
        exact me_int
      · rename_i b c
        obtain rfl : b = c := dd h
        exact me_str
    · cases h
  | .gc j, X, W, k, x, F, h => by
    unfold E.ok at h
    split at h
    · obtain ⟨h, h3⟩ := bb h
      obtain ⟨h1, h2⟩ := bb h
      exact me_con (F.say.con j _ (dd h1)) (F.gl h2) (nd_dbg h3)
    · cases h
  | .tup es, X, W, k, x, F, h => by
    unfold E.ok at h
    split at h
    · exact me_tup (Es.sound es F h)
    · cases h
  | .lst es, X, W, k, x, F, h => by
    unfold E.ok at h
    split at h
    · exact (mn_lst (Es.sound es F h)).val
    · cases h
  | .lstP es, X, W, k, x, F, h => by
    unfold E.ok at h
    split at h
    · exact (mn_lst (Es.sound es F h)).put
    · cases h
  | .op o a b, X, W, k, x, F, h => by
    unfold E.ok at h
    split at h
    · obtain ⟨h, h3⟩ := bb h
      obtain ⟨h1, h2⟩ := bb h
      exact Op.sound h1 (E.sound a F h2) (E.sound b F h3)
    · cases h
  | .cmp o a b, X, W, k, x, F, h => by
    unfold E.ok at h
    split at h
    · obtain ⟨h, h4⟩ := bb h
      obtain ⟨h, h3⟩ := bb h
      obtain ⟨h1, h2⟩ := bb h
      obtain ⟨r, ho, hf⟩ := Cm.rule (W := W) F.rm h1
      exact me_cmp ho hf (E.sound a F h2) (E.sound b F h3) (marks_no h4)
    · cases h
  | .chain o q a b c, X, W, k, x, F, h => by
    unfold E.ok at h
    split at h
    · obtain ⟨h, h6⟩ := bb h
      obtain ⟨h, h5⟩ := bb h
      obtain ⟨h, h4⟩ := bb h
      obtain ⟨h, h3⟩ := bb h
      obtain ⟨h1, h2⟩ := bb h
      obtain ⟨r, ho, hf⟩ := Cm.rule (W := W) F.rm h1
      obtain ⟨r2, ho2, hf2⟩ := Cm.rule (W := W) F.rm h2
      exact me_chain ho ho2 hf hf2 (E.sound a F h3) (E.sound b F h4) (E.sound c F h5) (marks2_no h6)
    · cases h
  | .not a, X, W, k, x, F, h => by
    unfold E.ok at h
    split at h
    · exact me_not (E.sound a F h)
    · cases h
  | .and a b, X, W, k, x, F, h => by
    unfold E.ok at h
    split at h
    · obtain ⟨h1, h2⟩ := bb h
      exact me_and (E.sound a F h1) (E.sound b F h2)
    · cases h
  | .or a b, X, W, k, x, F, h => by
    unfold E.ok at h
    split at h
    · obtain ⟨h1, h2⟩ := bb h
      exact me_or (E.sound a F h1) (E.sound b F h2)
    · cases h
  | .one a, X, W, k, x, F, h => by
    unfold E.ok at h
    split at h
    · exact me_one (E.sound a F h)
    · cases h
  | .ife t a b, X, W, k, x, F, h => by
    unfold E.ok at h
    split at h
    · obtain ⟨h, h3⟩ := bb h
      obtain ⟨h1, h2⟩ := bb h
      exact me_ifExp ((T.soundA t F h1).1) (E.sound a F h2) (E.sound b F h3)
    · cases h
  | .neg a, X, W, k, x, F, h => by
    unfold E.ok at h
    split at h
    · exact me_neg (E.sound a F h)
    · cases h
  | .ix a b, X, W, k, x, F, h => by
    unfold E.ok at h
    split at h
    · obtain ⟨h, h3⟩ := bb h
      obtain ⟨h1, h2⟩ := bb h
      exact me_ixA F.hu (E.sound a F h1) (E.sound b F h2) (ix_plain h3)
    · cases h
  | .tab j a, X, W, k, x, F, h => by
    unfold E.ok at h
    split at h
    · obtain ⟨h, h5⟩ := bb h
      obtain ⟨h, h4⟩ := bb h
      obtain ⟨h, h3⟩ := bb h
      obtain ⟨h1, h2⟩ := bb h
      obtain ⟨ad, f, e, K⟩ := F.say.tab j _ (dd h1)
      exact me_tabK K (F.gl h2) e (E.sound a F h4) h5 h3
    · cases h
  | .tabIn j neg a, X, W, k, x, F, h => by
    unfold E.ok at h
    split at h
    · obtain ⟨h, h5⟩ := bb h
      obtain ⟨h, h4⟩ := bb h
      obtain ⟨h, h3⟩ := bb h
      obtain ⟨h1, h2⟩ := bb h
      obtain ⟨ad, f, e, K⟩ := F.say.tab j _ (dd h2)
      split at h1
      · exact me_tabIn K (F.gl h3) e (E.sound a F h5) h4
      · exact me_tabNotIn K (F.gl h3) e (E.sound a F h5) h4
      · cases h1
    · cases h
  | .tabGet j a b, X, W, k, x, F, h => by
    unfold E.ok at h
    split at h
    · obtain ⟨h, h9⟩ := bb h
      obtain ⟨h, h8⟩ := bb h
      obtain ⟨h, h7⟩ := bb h
      obtain ⟨h, h6⟩ := bb h
      obtain ⟨h, h5⟩ := bb h
      obtain ⟨h, h4⟩ := bb h
      obtain ⟨h, h3⟩ := bb h
      obtain ⟨h1, h2⟩ := bb h
      obtain ⟨ad, f, e, K⟩ := F.say.tab j _ (dd h1)
      rw [dd h4]
      exact me_tabGet K (F.gl h2) e (E.sound a F h5) (E.sound b F h6) h3 h7 h8 h9
    · cases h
  | .sl a lo hi, X, W, k, x, F, h => by
    unfold E.ok at h
    split at h
    · obtain ⟨h, h3⟩ := bb h
      obtain ⟨h1, h2⟩ := bb h
      exact me_sl (E.sound a F h1) (O.sound lo F h2) (O.sound hi F h3)
    · cases h
  | .call i es, X, W, k, x, F, h => by
    unfold E.ok at h
    split at h
    · rename_i x' p' ys q'
      obtain ⟨h, h5⟩ := bb h
      obtain ⟨h, h4⟩ := bb h
      obtain ⟨h, h3⟩ := bb h
      obtain ⟨h1, h2⟩ := bb h
      cases ys with
      | nil =>
        cases es with
        | nil => exact me_callG0 (F.say.fn i _ _ (dd h1) (dd h2)) F.rm (F.gl h3) F.tk h4
        | cons a r => unfold Es.ok at h5; cases h5
      | cons y r => exact me_callG (F.say.fn i _ _ (dd h1) (dd h2)) F.rm (F.gl h3) F.tk (Es.sound es F h5) h4 (es_star es h5)
    · cases h
  | .bi b es, X, W, k, x, F, h => by
    unfold E.ok at h
    split at h
    · obtain ⟨h, h3⟩ := bb h
      obtain ⟨h1, h2⟩ := bb h
      rw [dd h1]
      exact Bi.sound F h2 (Es.sound es F h3) (es_star es h3)
    · cases h
  | .bn b es, X, W, k, x, F, h => by
    unfold E.ok at h
    split at h
    · obtain ⟨h, h3⟩ := bb h
      obtain ⟨h1, h2⟩ := bb h
      rw [dd h1]
      exact (Bn.sound F h2 (Es.sound es F h3) (es_star es h3)).val
    · cases h
  | .bnP b es, X, W, k, x, F, h => by
    unfold E.ok at h
    split at h
    · obtain ⟨h, h3⟩ := bb h
      obtain ⟨h1, h2⟩ := bb h
      rw [dd h1]
      exact (Bn.sound F h2 (Es.sound es F h3) (es_star es h3)).put
    · cases h
  | .isI a t, X, W, k, x, F, h => by
    unfold E.ok at h
    split at h
    · obtain ⟨h, h7⟩ := bb h
      obtain ⟨h, h6⟩ := bb h
      obtain ⟨h, h5⟩ := bb h
      obtain ⟨h, h4⟩ := bb h
      obtain ⟨h, h3⟩ := bb h
      obtain ⟨h1, h2⟩ := bb h
      rw [dd h1]
      exact me_isI (tyB_boot h3) (F.free h2).1 (F.free h2).2 (F.free h4).1 (F.free h4).2 h5 (E.sound a F h6) h7
    · cases h
  | .lc it g t b own, X, W, k, x, F, h => by
    unfold E.ok at h
    split at h
    · obtain ⟨h, h8⟩ := bb h
      obtain ⟨h, h7⟩ := bb h
      obtain ⟨h, h6⟩ := bb h
      obtain ⟨h, h5⟩ := bb h
      obtain ⟨h, h4⟩ := bb h
      obtain ⟨h, h3⟩ := bb h
      obtain ⟨h1, h2⟩ := bb h
      obtain rfl := dd h1
      refine (LcP.mn F ⟨I.sound it F h2, ?_, fun s H C cl fp => G.sound (F.blk s H _ C cl fp) g h5, fun s H C cl fp => ?_, fun s H C cl fp => E.sound b (F.blk s H _ C cl fp) h8, fun j hj => dd (List.all_eq_true.mp h6 j hj), h3⟩).val
      · rw [F.N, F.sc]; exact blkOk_by h4
      · split at h7
        · cases t <;> first | exact mpt_nil | (cases h7; done)
        · exact mpt_one ((T.soundA t (F.blk s H _ C cl fp) h7).1)
        · cases h7
    · cases h
  | .lcP it g t b own, X, W, k, x, F, h => by
    unfold E.ok at h
    split at h
    · obtain ⟨h, h8⟩ := bb h
      obtain ⟨h, h7⟩ := bb h
      obtain ⟨h, h6⟩ := bb h
      obtain ⟨h, h5⟩ := bb h
      obtain ⟨h, h4⟩ := bb h
      obtain ⟨h, h3⟩ := bb h
      obtain ⟨h1, h2⟩ := bb h
      obtain rfl := dd h1
      refine (LcP.mn F ⟨I.sound it F h2, ?_, fun s H C cl fp => G.sound (F.blk s H _ C cl fp) g h5, fun s H C cl fp => ?_, fun s H C cl fp => E.sound b (F.blk s H _ C cl fp) h8, fun j hj => dd (List.all_eq_true.mp h6 j hj), h3⟩).put
      · rw [F.N, F.sc]; exact blkOk_by h4
      · split at h7
        · cases t <;> first | exact mpt_nil | (cases h7; done)
        · exact mpt_one ((T.soundA t (F.blk s H _ C cl fp) h7).1)
        · cases h7
    · cases h
  | .join a b, X, W, k, x, F, h => by
    unfold E.ok at h
    split at h
    · obtain ⟨h, h6⟩ := bb h
      obtain ⟨h, h5⟩ := bb h
      obtain ⟨h, h4⟩ := bb h
      obtain ⟨h, h3⟩ := bb h
      obtain ⟨h1, h2⟩ := bb h
      rw [dd h1]
      exact me_join (E.sound a F h2) (E.sound b F h3) (star1 h4) (base_plain h5) h6
    · cases h
  | .app o a, X, W, k, x, F, h => by
    unfold E.ok at h
    split at h
    · obtain ⟨h, h6⟩ := bb h
      obtain ⟨h, h5⟩ := bb h
      obtain ⟨h, h4⟩ := bb h
      obtain ⟨h, h3⟩ := bb h
      obtain ⟨h1, h2⟩ := bb h
      rw [dd h1]
      exact me_app (E.sound o F h2) (E.sound a F h3) h5 h4 h6
    · cases h
  | .pop o, X, W, k, x, F, h => by
    unfold E.ok at h
    split at h
    · obtain ⟨h, h4⟩ := bb h
      obtain ⟨h, h3⟩ := bb h
      obtain ⟨h1, h2⟩ := bb h
      rw [dd h1]
      exact me_pop (E.sound o F h2) h3 h4
    · cases h
  | .ext o a, X, W, k, x, F, h => by
    unfold E.ok at h
    split at h
    · obtain ⟨h, h6⟩ := bb h
      obtain ⟨h, h5⟩ := bb h
      obtain ⟨h, h4⟩ := bb h
      obtain ⟨h, h3⟩ := bb h
      obtain ⟨h1, h2⟩ := bb h
      rw [dd h1]
      exact me_ext (E.sound o F h2) (E.sound a F h3) h5 h4 h6
    · cases h
  | .dct ks, X, W, k, x, F, h => by
    unfold E.ok at h
    split at h
    · rename_i xs ys q
      obtain ⟨h, h4⟩ := bb h
      obtain ⟨h, h3⟩ := bb h
      obtain ⟨h1, h2⟩ := bb h
      have h2 := dd h2
      have h3 := dd h3
      have h4 := dd h4
      refine me_dct (Ks.sound ks F.w0 h1) (ks_len ks h1) h4 (fun z => ?_) (by omega)
      rw [z] at h4
      simp at h4
      omega
    · cases h
  | .dctP ks, X, W, k, x, F, h => by
    unfold E.ok at h
    split at h
    · rename_i xs ys q
      obtain ⟨h, h4⟩ := bb h
      obtain ⟨h, h3⟩ := bb h
      obtain ⟨h1, h2⟩ := bb h
      have h2 := dd h2
      have h3 := dd h3
      have h4 := dd h4
      refine me_dctP (Ks.sound ks F.w0 h1) (ks_len ks h1) h4 (fun z => ?_) (by omega)
      rw [z] at h4
      simp at h4
      omega
    · cases h
  | .dct0, X, W, k, x, F, h => by
    unfold E.ok at h
    split at h
    · exact me_dct0
    · cases h
  | .inD neg a b, X, W, k, x, F, h => by
    unfold E.ok at h
    split at h
    · obtain ⟨h, h4⟩ := bb h
      obtain ⟨h, h3⟩ := bb h
      obtain ⟨h1, h2⟩ := bb h
      split at h1
      · exact me_inD F.hu (E.sound a F h2) (E.sound b F h3) (marks_no h4)
      · exact me_notInD F.hu (E.sound a F h2) (E.sound b F h3) (marks_no h4)
      · cases h1
    · cases h
  | .popk o a, X, W, k, x, F, h => by
    unfold E.ok at h
    split at h
    · obtain ⟨h, h6⟩ := bb h
      obtain ⟨h, h5⟩ := bb h
      obtain ⟨h, h4⟩ := bb h
      obtain ⟨h, h3⟩ := bb h
      obtain ⟨h1, h2⟩ := bb h
      rw [dd h1]
      exact me_popAt (E.sound o F h2) (E.sound a F h3) h5 h4 h6
    · cases h
  | .sset a, X, W, k, x, F, h => by
    unfold E.ok at h
    split at h
    · obtain ⟨h, h6⟩ := bb h
      obtain ⟨h, h5⟩ := bb h
      obtain ⟨h, h4⟩ := bb h
      obtain ⟨h, h3⟩ := bb h
      obtain ⟨h1, h2⟩ := bb h
      rw [dd h1, dd h2]
      exact (mn_sset F.calm (F.free h3).1 (F.free h3).2 (F.free h4).1 (F.free h4).2 (ma_cons (E.sound a F h5) ma_nil (star1 h6)) h6).val
    · cases h
  | .maxD a d, X, W, k, x, F, h => by
    unfold E.ok at h
    split at h
    · obtain ⟨h, h6⟩ := bb h
      obtain ⟨h, h5⟩ := bb h
      obtain ⟨h, h4⟩ := bb h
      obtain ⟨h, h3⟩ := bb h
      obtain ⟨h1, h2⟩ := bb h
      rw [dd h1, dd h2, dd h3]
      exact me_maxD F.hu F.calm (F.free h4).1 (F.free h4).2 (E.sound a F h5) h6
    · cases h
  | .lns a, X, W, k, x, F, h => by
    unfold E.ok at h
    split at h
    · obtain ⟨h, h6⟩ := bb h
      obtain ⟨h, h5⟩ := bb h
      obtain ⟨h, h4⟩ := bb h
      obtain ⟨h, h3⟩ := bb h
      obtain ⟨h1, h2⟩ := bb h
      rw [dd h1, dd h2]
      exact me_lns F.calm (F.free h3).1 (F.free h3).2 (F.free h4).1 (F.free h4).2 (E.sound a F h5) h6
    · cases h
  | .cnt o a, X, W, k, x, F, h => by
    unfold E.ok at h
    split at h
    · obtain ⟨h, h6⟩ := bb h
      obtain ⟨h, h5⟩ := bb h
      obtain ⟨h, h4⟩ := bb h
      obtain ⟨h, h3⟩ := bb h
      obtain ⟨h1, h2⟩ := bb h
      rw [dd h1]
      exact me_count (E.sound o F h2) (E.sound a F h3) h5 h4 h6
    · cases h
  | .dkc i j own, X, W, k, x, F, h => by
    unfold E.ok at h
    split at h
    · obtain ⟨h, h17⟩ := bb h
      obtain ⟨h, h16⟩ := bb h
      obtain ⟨h, h15⟩ := bb h
      obtain ⟨h, h14⟩ := bb h
      obtain ⟨h, h13⟩ := bb h
      obtain ⟨h, h12⟩ := bb h
      obtain ⟨h, h11⟩ := bb h
      obtain ⟨h, h10⟩ := bb h
      obtain ⟨h, h9⟩ := bb h
      obtain ⟨h, h8⟩ := bb h
      obtain ⟨h, h7⟩ := bb h
      obtain ⟨h, h6⟩ := bb h
      obtain ⟨h, h5⟩ := bb h
      obtain ⟨h, h4⟩ := bb h
      obtain ⟨h, h3⟩ := bb h
      obtain ⟨h1, h2⟩ := bb h
      obtain rfl := dd h1
      obtain rfl := dd h2
      obtain rfl := dd h3
      obtain rfl := dd h4
      obtain rfl := dd h5
      obtain rfl := dd h6
      refine (mn_dk F.hu F.calm F.nd (F.at (dd h7)) (F.at (dd h8)) (F.vis h9) h10 h11 ?_ (dd h13) (dd h14) fun s H C cl fp => ?_).val
      · rw [F.N, F.sc]; exact blkOk_by h12
      · exact ⟨(F.blk s H _ C cl fp).vis h15, (F.blk s H _ C cl fp).vis h16, (F.blk s H _ C cl fp).loc h17, (F.blk s H _ C cl fp).hf h17⟩
    · cases h
  | .tidx j a, X, W, k, x, F, h => by
    unfold E.ok at h
    split at h
    · obtain ⟨h, h7⟩ := bb h
      obtain ⟨h, h6⟩ := bb h
      obtain ⟨h, h5⟩ := bb h
      obtain ⟨h, h4⟩ := bb h
      obtain ⟨h, h3⟩ := bb h
      obtain ⟨h1, h2⟩ := bb h
      rw [dd h1]
      exact me_tidx (F.say.con j _ (dd h2)) (F.gl h3) h4 (E.sound a F h5) h6 h7
    · cases h
  | .isI2 a t t2, X, W, k, x, F, h => by
    unfold E.ok at h
    split at h
    · obtain ⟨h, h10⟩ := bb h
      obtain ⟨h, h9⟩ := bb h
      obtain ⟨h, h8⟩ := bb h
      obtain ⟨h, h7⟩ := bb h
      obtain ⟨h, h6⟩ := bb h
      obtain ⟨h, h5⟩ := bb h
      obtain ⟨h, h4⟩ := bb h
      obtain ⟨h, h3⟩ := bb h
      obtain ⟨h1, h2⟩ := bb h
      rw [dd h1]
      exact me_isI2 (tyB_boot h3) (tyB_boot h6) (F.free h2).1 (F.free h2).2 (F.free h4).1 (F.free h4).2 (F.free h7).1 (F.free h7).2 h5 h8 (E.sound a F h9) h10
    · cases h
  | .lr1 a, X, W, k, x, F, h => by
    unfold E.ok at h
    split at h
    · obtain ⟨h, h6⟩ := bb h
      obtain ⟨h, h5⟩ := bb h
      obtain ⟨h, h4⟩ := bb h
      obtain ⟨h, h3⟩ := bb h
      obtain ⟨h1, h2⟩ := bb h
      rw [dd h1, dd h2]
      exact (mn_rg1 F.calm (F.free h3).1 (F.free h3).2 (F.free h4).1 (F.free h4).2 (E.sound a F h5) h6).val
    · cases h
  | .lr1P a, X, W, k, x, F, h => by
    unfold E.ok at h
    split at h
    · obtain ⟨h, h6⟩ := bb h
      obtain ⟨h, h5⟩ := bb h
      obtain ⟨h, h4⟩ := bb h
      obtain ⟨h, h3⟩ := bb h
      obtain ⟨h1, h2⟩ := bb h
      rw [dd h1, dd h2]
      exact (mn_rg1 F.calm (F.free h3).1 (F.free h3).2 (F.free h4).1 (F.free h4).2 (E.sound a F h5) h6).put
    · cases h
  | .lr2 a b, X, W, k, x, F, h => by
    unfold E.ok at h
    split at h
    · obtain ⟨h, h8⟩ := bb h
      obtain ⟨h, h7⟩ := bb h
      obtain ⟨h, h6⟩ := bb h
      obtain ⟨h, h5⟩ := bb h
      obtain ⟨h, h4⟩ := bb h
      obtain ⟨h, h3⟩ := bb h
      obtain ⟨h1, h2⟩ := bb h
      rw [dd h1, dd h2]
      exact (mn_rg2 F.calm (F.free h3).1 (F.free h3).2 (F.free h4).1 (F.free h4).2 (E.sound a F h5) (E.sound b F h7) h6 h8).val
    · cases h
  | .lr2P a b, X, W, k, x, F, h => by
    unfold E.ok at h
    split at h
    · obtain ⟨h, h8⟩ := bb h
      obtain ⟨h, h7⟩ := bb h
      obtain ⟨h, h6⟩ := bb h
      obtain ⟨h, h5⟩ := bb h
      obtain ⟨h, h4⟩ := bb h
      obtain ⟨h, h3⟩ := bb h
      obtain ⟨h1, h2⟩ := bb h
      rw [dd h1, dd h2]
      exact (mn_rg2 F.calm (F.free h3).1 (F.free h3).2 (F.free h4).1 (F.free h4).2 (E.sound a F h5) (E.sound b F h7) h6 h8).put
    · cases h
  | .bad, X, W, k, x, F, h => me_bad
  | .catP a b, X, W, k, x, F, h => by
    unfold E.ok at h
    split at h
    · obtain ⟨h1, h2⟩ := bb h
      exact (mn_cat (E.sound a F h1) (E.sound b F h2)).put
    · cases h
  | .slP a lo hi, X, W, k, x, F, h => by
    unfold E.ok at h
    split at h
    · obtain ⟨h, h3⟩ := bb h
      obtain ⟨h1, h2⟩ := bb h
      exact (mn_sl (E.sound a F h1) (O.sound lo F h2) (O.sound hi F h3)).put
    · cases h
  | .mulP a b, X, W, k, x, F, h => by
    unfold E.ok at h
    split at h
    · obtain ⟨h1, h2⟩ := bb h
      exact (mn_mul (E.sound a F h1) (E.sound b F h2)).put
    · cases h
  | .ixT a es, X, W, k, x, F, h => by
    unfold E.ok at h
    split at h
    · obtain ⟨h1, h2⟩ := bb h
      exact me_ixT F.hu (E.sound a F h1) (Es.sound es F h2) (fun _ _ => rfl)
    · cases h
  | .dt0, X, W, k, x, F, h => by
    unfold E.ok at h
    split at h
    · exact me_dt0
    · cases h
  | .callV i es, X, W, k, x, F, h => by
    unfold E.ok at h
    split at h
    · obtain ⟨h, h4⟩ := bb h
      obtain ⟨h, h3⟩ := bb h
      obtain ⟨h1, h2⟩ := bb h
      exact me_callV F.say.fv F.rm (F.at (dd h1)) (F.vis h2) F.tk (Es.sound es F h4) h3 (es_star es h4)
    · cases h
  | .fld a f, X, W, k, x, F, h => by
    unfold E.ok at h
    split at h
    · obtain ⟨h, h3⟩ := bb h
      obtain ⟨h1, h2⟩ := bb h
      rw [dd h1]
      exact me_fld (fun C => F.say.fo C f) (E.sound a F h2) h3
    · cases h
  | .meth m o es, X, W, k, x, F, h => by
    unfold E.ok at h
    split at h
    · rename_i x' y' p' ys q'
      obtain ⟨h, h7⟩ := bb h
      obtain ⟨h, h6⟩ := bb h
      obtain ⟨h, h5⟩ := bb h
      obtain ⟨h, h4⟩ := bb h
      obtain ⟨h, h3⟩ := bb h
      obtain ⟨h1, h2⟩ := bb h
      rw [dd h1]
      have hm : m ≠ "__init__" := by simpa using h2
      cases ys with
      | nil =>
        cases es with
        | nil => exact me_methC0 (fun C i e => F.say.mf C m i e hm) F.rm F.tk (E.sound o F h3) h5 h6
        | cons a r => unfold Es.ok at h4; cases h4
      | cons y r => exact me_methC (fun C i e => F.say.mf C m i e hm) F.rm F.tk (E.sound o F h3) (Es.sound es F h4) (es_star es h4) h5 h6 (dd h7)
    · cases h
  | .make C es, X, W, k, x, F, h => by
    unfold E.ok at h
    split at h
    · rename_i x' p' ys q'
      obtain ⟨h, h5⟩ := bb h
      obtain ⟨h, h4⟩ := bb h
      obtain ⟨h, h3⟩ := bb h
      obtain ⟨h1, h2⟩ := bb h
      obtain rfl := dd h1
      obtain ⟨i, fa, e1, e2, M, Fc⟩ := F.say.mkr _ (dd h2)
      show ME X W _ (mMake ((p.mf x' "__init__").map p.cf) x' (es.m p))
      rw [e1]
      cases ys with
      | nil =>
        cases es with
        | nil => exact me_make0 M Fc F.room (F.gl h3) e2 F.tk h4
        | cons a r => unfold Es.ok at h5; cases h5
      | cons y r => exact me_make M Fc F.room (F.gl h3) e2 F.tk (Es.sound es F h5) h4 (es_star es h5)
    · cases h
theorem Es.sound {n : Nat} {p : Dn} : ∀ (e : Es) {X : Cx} {W : WX} {k : Ck} {x : List Expr}, Fit X W n p k → e.ok k x = true → MA X W x (e.m p)
  | .nil, X, W, k, x, F, h => by
    unfold Es.ok at h
    split at h
    · exact ma_nil
    · cases h
  | .cons a r, X, W, k, x, F, h => by
    unfold Es.ok at h
    split at h
    · obtain ⟨h, h3⟩ := bb h
      obtain ⟨h1, h2⟩ := bb h
      exact ma_cons (E.sound a F h2) (Es.sound r F h3) (star1 h1)
    · cases h
theorem Ks.sound {n : Nat} {p : Dn} : ∀ (e : Ks) {X : Cx} {W : WX} {k : Ck} {pos : Pos} {x : List (Option Expr)} {y : List Expr}, Fit X W n p k → e.ok k x y = true → MPs X W pos x y (e.m p)
  | .nil, X, W, k, pos, x, y, F, h => by
    unfold Ks.ok at h
    split at h
    · exact mps_nil
    · cases h
  | .cons a b r, X, W, k, pos, x, y, F, h => by
    unfold Ks.ok at h
    split at h
    · obtain ⟨h, h3⟩ := bb h
      obtain ⟨h1, h2⟩ := bb h
      exact mps_cons (E.sound a F h1) (E.sound b F h2) (Ks.sound r F h3)
    · cases h
theorem T.soundA {n : Nat} {p : Dn} : ∀ (e : T) {X : Cx} {W : WX} {k : Ck} {x : Expr}, Fit X W n p k → e.ok k x = true → MT X W x (e.m p) ∧ (e.isW = true → MW X W x (e.m p))
  | .yes, X, W, k, x, F, h => by cases h
  | .cmp o a b, X, W, k, x, F, h => by
    unfold T.ok at h
    split at h
    · obtain ⟨h, h4⟩ := bb h
      obtain ⟨h, h3⟩ := bb h
      obtain ⟨h1, h2⟩ := bb h
      obtain ⟨r, ho, hf⟩ := Cm.rule (W := W) F.rm h1
      exact ⟨mt_cmp ho hf (E.sound a F h2) (E.sound b F h3) (marks_no h4), fun z => by cases z⟩
    · cases h
  | .chain o q a b c, X, W, k, x, F, h => by
    unfold T.ok at h
    split at h
    · obtain ⟨h, h6⟩ := bb h
      obtain ⟨h, h5⟩ := bb h
      obtain ⟨h, h4⟩ := bb h
      obtain ⟨h, h3⟩ := bb h
      obtain ⟨h1, h2⟩ := bb h
      obtain ⟨r, ho, hf⟩ := Cm.rule (W := W) F.rm h1
      obtain ⟨r2, ho2, hf2⟩ := Cm.rule (W := W) F.rm h2
      exact ⟨mt_chain ho ho2 hf hf2 (E.sound a F h3) (E.sound b F h4) (E.sound c F h5) (marks2_no h6), fun z => by cases z⟩
    · cases h
  | .and a b, X, W, k, x, F, h => by
    unfold T.ok at h
    split at h
    · obtain ⟨h, h3⟩ := bb h
      obtain ⟨h1, h2⟩ := bb h
      have := mw_and (T.soundA a F h2).1 ((T.soundA b F h3).2 h1)
      exact ⟨this.mt, fun _ => this⟩
    · cases h
  | .or a b, X, W, k, x, F, h => by
    unfold T.ok at h
    split at h
    · obtain ⟨h, h3⟩ := bb h
      obtain ⟨h1, h2⟩ := bb h
      have := mw_or (T.soundA a F h2).1 ((T.soundA b F h3).2 h1)
      exact ⟨this.mt, fun _ => this⟩
    · cases h
  | .one a, X, W, k, x, F, h => by
    unfold T.ok at h
    split at h
    · rename_i op y q
      have this : MW X W (.BoolOp op [y] q) (a.m p) := by
        cases op with
        | And => exact mw_one_and (T.soundA a F h).1
        | Or => exact mw_one_or (T.soundA a F h).1
      exact ⟨this.mt, fun _ => this⟩
    · cases h
  | .not a, X, W, k, x, F, h => by
    unfold T.ok at h
    split at h
    · exact ⟨mt_not (T.soundA a F h).1, fun z => by cases z⟩
    · cases h
  | .tru a, X, W, k, x, F, h => by
    unfold T.ok at h
    obtain ⟨h1, h2⟩ := bb h
    exact ⟨mt_truth (E.sound a F h2) (test_plain h1), fun z => by cases z⟩
  | .inD neg a b, X, W, k, x, F, h => by
    unfold T.ok at h
    split at h
    · obtain ⟨h, h4⟩ := bb h
      obtain ⟨h, h3⟩ := bb h
      obtain ⟨h1, h2⟩ := bb h
      split at h1
      · exact ⟨mt_inD F.hu (E.sound a F h2) (E.sound b F h3) (marks_no h4), fun z => by cases z⟩
      · exact ⟨mt_notInD F.hu (E.sound a F h2) (E.sound b F h3) (marks_no h4), fun z => by cases z⟩
      · cases h1
    · cases h
  | .tabIn j neg a, X, W, k, x, F, h => by
    unfold T.ok at h
    split at h
    · obtain ⟨h, h5⟩ := bb h
      obtain ⟨h, h4⟩ := bb h
      obtain ⟨h, h3⟩ := bb h
      obtain ⟨h1, h2⟩ := bb h
      obtain ⟨ad, f, e, K⟩ := F.say.tab j _ (dd h2)
      split at h1
      · exact ⟨mt_tabIn K (F.gl h3) e (E.sound a F h5) h4, fun z => by cases z⟩
      · exact ⟨mt_tabNotIn K (F.gl h3) e (E.sound a F h5) h4, fun z => by cases z⟩
      · cases h1
    · cases h
theorem I.sound {n : Nat} {p : Dn} : ∀ (e : I) {X : Cx} {W : WX} {k : Ck} {tg x : Expr}, Fit X W n p k → e.ok k tg x = true → MI X W tg x (e.m p)
  | .any a, X, W, k, tg, x, F, h => mi_any (E.sound a F h)
  | .r1 a, X, W, k, tg, x, F, h => by
    unfold I.ok at h
    split at h
    · obtain ⟨h, h4⟩ := bb h
      obtain ⟨h, h3⟩ := bb h
      obtain ⟨h1, h2⟩ := bb h
      rw [dd h1]
      exact mi_range1 (F.free h2).1 (F.free h2).2 (ma_cons (E.sound a F h3) ma_nil (star1 h4)) (star1 h4)
    · cases h
  | .r2 a b, X, W, k, tg, x, F, h => by
    unfold I.ok at h
    split at h
    · obtain ⟨h, h6⟩ := bb h
      obtain ⟨h, h5⟩ := bb h
      obtain ⟨h, h4⟩ := bb h
      obtain ⟨h, h3⟩ := bb h
      obtain ⟨h1, h2⟩ := bb h
      rw [dd h1]
      exact mi_range2 (F.free h2).1 (F.free h2).2 (ma_cons (E.sound a F h3) (ma_cons (E.sound b F h4) ma_nil (star1 h6)) (star1 h5)) (by rw [star1 h5, star1 h6]; rfl) (star1 h6)
    · cases h
  | .en a, X, W, k, tg, x, F, h => by
    unfold I.ok at h
    split at h
    · split at h
      · obtain ⟨h, h4⟩ := bb h
        obtain ⟨h, h3⟩ := bb h
        obtain ⟨h1, h2⟩ := bb h
        rw [dd h1]
        exact mi_en (F.free h2).1 (F.free h2).2 (ma_cons (E.sound a F h3) ma_nil (star1 h4)) (star1 h4)
      · cases h
    · cases h
theorem O.sound {n : Nat} {p : Dn} : ∀ (e : O) {X : Cx} {W : WX} {k : Ck} {x : Option Expr}, Fit X W n p k → e.ok k x = true → MO X W x (e.m p)
  | .non, X, W, k, x, F, h => by
    unfold O.ok at h
    split at h
    · exact mo_none
    · cases h
  | .som a, X, W, k, x, F, h => by
    unfold O.ok at h
    split at h
    · exact mo_some (E.sound a F h)
    · cases h
end
end ML

-- D5
set_option linter.all false
set_option maxRecDepth 100000
set_option maxHeartbeats 4000000
namespace ML
open PySem PySem.Spec PyProof.Rows L2
theorem LcP.set {X : Cx} {W : WX} {n : Nat} {p : Dn} {k : Ck} {i : Nat} {y : Str} {py pos spos : Pos} {tg iter elt : Expr} {ifs : List Expr} {scope : Scope} {own : List (Str × Nat)} {mi g ws tt te} (F : Fit X W n p k) (L : LcP X W tg iter elt ifs scope own mi g ws tt te) (hi : k.N[i]? = some y) (hl : locB k.sc k.top y = true) :
    MS X W (.Assign [.Name y py] (.ListComp elt [⟨tg, iter, ifs, 0⟩] scope pos) spos) (sSet i (mVal (nLc mi g tt te (own.map (·.2))))) := by
  cases hs : swB X.env.scope scope y py.line pos.line with
  | false => exact ms_set F.nd (F.at hi) (F.loc hl) (L.mn F).val (by rw [sw_eq, hs]) (F.hf hl)
  | true =>
    have hyl : X.env.scope.names.lookup y = some .local := by
      unfold swB at hs
      rw [Bool.and_eq_true, Bool.and_eq_true, Bool.and_eq_true] at hs
      exact beq_iff_eq.mp hs.1.1.2
    exact ms_setLc F.calm F.nd (F.at hi) hyl (by rw [sw_eq, hs]) L.hi L.ok L.hg L.ht L.he L.hws (folded_no L.hs)
theorem ms_setLcP {X : Cx} {W : WX} {i : Nat} {y : Str} {py : Pos} {elt tg iter : Expr} {ifs : List Expr} {scope : Scope} {own : List (Str × Nat)} {p2 spos : Pos} {mi : MEnv → Store → R Src} {g : GM} {ws : List Nat} {tt : MEnv → Store → R Bool} {te : MEnv → Store → R Val} (hc : X.calm = true) (hN : X.N.Nodup) (hy : X.N[i]? = some y) (hyl : X.env.scope.names.lookup y = some .local)
    (hsw : swapsWith (.ListComp elt [⟨tg, iter, ifs, 0⟩] scope p2) (some (.Name y py)) spos.line X.env = pure true) (hi : MI X W tg iter mi) (ok : BlkOk X.N X.env.scope scope own)
    (hg : ∀ (s : Shared) (H : Hp) (C : Addr) (cl : List (Str × Addr)) (fp : List Addr), MG (X.blk s H scope (compEnvC scope cl C X.env) fp) tg g ws) (ht : ∀ (s : Shared) (H : Hp) (C : Addr) (cl : List (Str × Addr)) (fp : List Addr), PTs (X.blk s H scope (compEnvC scope cl C X.env) fp) ifs (cT X.K W0 tt))
    (he : ∀ (s : Shared) (H : Hp) (C : Addr) (cl : List (Str × Addr)) (fp : List Addr), ME (X.blk s H scope (compEnvC scope cl C X.env) fp) W0 elt te) (hws : ∀ j ∈ ws, j ∈ own.map (·.2)) (hs : ∀ x, foldedSetIterable iter X.env x = pure x := by intro _; rfl) :
    MS X W (.Assign [.Name y py] (.ListComp elt [⟨tg, iter, ifs, 0⟩] scope p2) spos) (sSet i (mPut (nLc mi g tt te (own.map (·.2))))) := by
  obtain ⟨ti, pi, hi⟩ := hi.ex
  refine ⟨⟨_, ps_setLc hc hN hy hyl hsw pi ok (g := cG X.K g ws) (te := cE X.K W0 te) (fun s H C cl fp => (hg s H C cl fp).canon) ht (fun s H C cl fp => (he s H C cl fp).canon) hs, fun D σ H mp env st rs re hp => ?_⟩⟩
  refine lc_rd hws hi σ H _ mp env st rs re ?_
  unfold sSet mPut at hp
  cases e : nLc mi g tt te (own.map (·.2)) env st with
  | ok ds st1 =>
    rw [e] at hp
    refine fun mp' H' p z => hp _ H' _ z.le2 z.rs2 (relE_set (z.le2.relE re) (show RelO X.K _ H' (some (.ref st1.length)) (some (.ref p)) from ?_))
    show RepV X.K _ H' (.ref st1.length) (.ref p)
    unfold RepV
    exact ⟨p, rfl, by rw [← z.rs.len]; exact mp'.add_at p⟩
  | exc c fs st1 =>
    rw [e] at hp
    exact fun mp' H' d l s x => hp mp' H' d σ l s (l.relE re) x
  | stuck =>
    rw [e] at hp
    exact hp
theorem LcP.setP {X : Cx} {W : WX} {n : Nat} {p : Dn} {k : Ck} {i : Nat} {y : Str} {py pos spos : Pos} {tg iter elt : Expr} {ifs : List Expr} {scope : Scope} {own : List (Str × Nat)} {mi g ws tt te} (F : Fit X W n p k) (L : LcP X W tg iter elt ifs scope own mi g ws tt te) (hi : k.N[i]? = some y) (hl : locB k.sc k.top y = true) :
    MS X W (.Assign [.Name y py] (.ListComp elt [⟨tg, iter, ifs, 0⟩] scope pos) spos) (sSet i (mPut (nLc mi g tt te (own.map (·.2))))) := by
  cases hs : swB X.env.scope scope y py.line pos.line with
  | false => exact ms_set F.nd (F.at hi) (F.loc hl) (L.mn F).put (by rw [sw_eq, hs]) (F.hf hl)
  | true =>
    have hyl : X.env.scope.names.lookup y = some .local := by
      unfold swB at hs
      rw [Bool.and_eq_true, Bool.and_eq_true, Bool.and_eq_true] at hs
      exact beq_iff_eq.mp hs.1.1.2
    exact ms_setLcP F.calm F.nd (F.at hi) hyl (by rw [sw_eq, hs]) L.hi L.ok L.hg L.ht L.he L.hws (folded_no L.hs)
theorem G.noStar {k : Ck} {g : G} {x : Expr} (h : g.ok k x = true) : ML.noStar x = true := by
  cases g with
  | n i =>
    unfold G.ok at h
    split at h <;> first | rfl | cases h
  | t gs =>
    unfold G.ok at h
    split at h <;> first | rfl | cases h
theorem set_sound {X : Cx} {W : WX} {n : Nat} {p : Dn} {k : Ck} (F : Fit X W n p k) {i : Nat} {a : E} {x : Str} {e : Expr} {py spos : Pos} (hi : k.N[i]? = some x) (hl : locB k.sc k.top x = true) (hd : a.dkB = true) (h : a.ok k e = true) : MS X W (.Assign [.Name x py] e spos) (sSet i (a.m p)) := by
  by_cases hc : noComp e = true
  · exact ms_set F.nd (F.at hi) (F.loc hl) (E.sound a F h) (swaps_no hc) (F.hf hl)
  · have aux : ∀ {it g t b own} {e : Expr}, (match e with
      | .ListComp elt [⟨tg, iter, ifs, a⟩] scope _ => decide (a = 0) && I.ok k it tg iter && noSet iter && blkC k.N k.sc scope own && G.ok (k.blk scope) g tg && (g.vs.all fun j => decide (j ∈ own.map (·.2))) &&
        (match ifs with
          | [] => T.yesB t
          | [c] => T.ok (k.blk scope) t c
          | _ => false) && E.ok (k.blk scope) b elt
      | _ => false) = true → ∃ elt tg iter ifs scope pos, e = .ListComp elt [⟨tg, iter, ifs, 0⟩] scope pos ∧ LcP X W tg iter elt ifs scope own (it.m p) g.m g.vs (t.m p) (b.m p) := by
      intro it g t b own e h
      split at h
      · obtain ⟨h, h8⟩ := bb h
        obtain ⟨h, h7⟩ := bb h
        obtain ⟨h, h6⟩ := bb h
        obtain ⟨h, h5⟩ := bb h
        obtain ⟨h, h4⟩ := bb h
        obtain ⟨h, h3⟩ := bb h
        obtain ⟨h1, h2⟩ := bb h
        obtain rfl := dd h1
        refine ⟨_, _, _, _, _, _, rfl, ⟨I.sound it F h2, ?_, fun s H C cl fp => G.sound (F.blk s H _ C cl fp) g h5, fun s H C cl fp => ?_, fun s H C cl fp => E.sound b (F.blk s H _ C cl fp) h8, fun j hj => dd (List.all_eq_true.mp h6 j hj), h3⟩⟩
        · rw [F.N, F.sc]; exact blkOk_by h4
        · split at h7
          · cases t <;> first | exact mpt_nil | (cases h7; done)
          · exact mpt_one (T.soundA t (F.blk s H _ C cl fp) h7).1
          · cases h7
      · cases h
    cases a with
    | lc it g t b own =>
      unfold E.ok at h
      obtain ⟨elt, tg, iter, ifs, scope, pos, rfl, L⟩ := aux h
      exact L.set F hi hl
    | lcP it g t b own =>
      unfold E.ok at h
      obtain ⟨elt, tg, iter, ifs, scope, pos, rfl, L⟩ := aux h
      exact L.setP F hi hl
    | bad =>
      unfold E.ok at h
      exact absurd h hc
    | dkc _ _ _ => cases hd
    | _ =>
      unfold E.ok at h
      split at h <;> first | exact absurd rfl hc | cases h
theorem us_star {k : Ck} : ∀ (u : Us) {es : List Expr}, u.ok k es = true → es.all ML.noStar = true ∧ es.length = u.len
  | .nil, es, h => by
    unfold Us.ok at h
    split at h
    · exact ⟨rfl, rfl⟩
    · cases h
  | .cons u us, es, h => by
    unfold Us.ok at h
    split at h
    · obtain ⟨h, h3⟩ := bb h
      obtain ⟨h1, h2⟩ := bb h
      obtain ⟨a, b⟩ := us_star us h3
      exact ⟨by rw [List.all_cons, h1, a]; rfl, by rw [List.length_cons, b]; rfl⟩
    · cases h
mutual
theorem U.sound {X : Cx} {W : WX} {n : Nat} {p : Dn} {k : Ck} (F : Fit X W n p k) : ∀ (u : U) {x : Expr}, u.ok k x = true → MU X W x (u.m p)
  | .n i, x, h => by
    unfold U.ok at h
    split at h
    · obtain ⟨h1, h2⟩ := bb h
      exact mu_name F.nd (F.at (dd h1)) (F.loc h2) (F.hf h2)
    · cases h
  | .f o f, x, h => by
    unfold U.ok at h
    split at h
    · obtain ⟨h1, h2⟩ := bb h
      rw [dd h1]
      exact mu_fld (fun C => F.say.fo C f) (E.sound o F.w0 h2)
    · cases h
  | .s o i, x, h => by
    unfold U.ok at h
    split at h
    · obtain ⟨h, h3⟩ := bb h
      obtain ⟨h1, h2⟩ := bb h
      exact mu_sub F.hu (E.sound o F.w0 h1) (E.sound i F.w0 h2) h3
    · cases h
  | .t us, x, h => by
    unfold U.ok at h
    split at h
    · obtain ⟨h1, h2⟩ := us_star us h
      exact mu_tup F.calm (Us.sound F us h) ((asg_len h1).trans h2) (asg_none h1)
    · cases h
theorem Us.sound {X : Cx} {W : WX} {n : Nat} {p : Dn} {k : Ck} (F : Fit X W n p k) : ∀ (u : Us) {x : List Expr}, u.ok k x = true → MUs X W x (u.m p)
  | .nil, x, h => by
    unfold Us.ok at h
    split at h
    · exact mus_nil
    · cases h
  | .cons u us, x, h => by
    unfold Us.ok at h
    split at h
    · obtain ⟨h, h3⟩ := bb h
      obtain ⟨h1, h2⟩ := bb h
      exact mus_cons (U.sound F u h2) (Us.sound F us h3) (fun a b => pgs_cons a b (by rw [asg1 h1]; rfl))
    · cases h
end
theorem aug_ip {X : Cx} {b : Bool} {op : Operator} (h : augB b op = true) : PIp X op (ipI (augI b)) := by
  cases b <;> cases op <;> first | exact ip_add | exact ip_sub | cases h
theorem aug_in {X : Cx} {b : Bool} {op : Operator} (h : augB b op = true) : ∃ rd, InOp X op rd ∧ ∀ i j H Q, Q (.int (augI b i j)) H → rd (.int i) (.int j) H Q := by
  cases b <;> cases op <;> first | exact ⟨_, in_add, fun i j H Q q => ⟨i, j, rfl, rfl, q⟩⟩ | exact ⟨_, in_sub, fun i j H Q q => ⟨i, j, rfl, rfl, q⟩⟩ | cases h
/-! ### handlers -/
theorem Ck.nm_ok {X : Cx} {W : WX} {n : Nat} {p : Dn} {k : Ck} (F : Fit X W n p k) {i : Nat} {x : Str} (h : k.nm i x = true) : X.N[i]? = some x ∧ Vis X.env.scope x ∧ nd x = true := by
  unfold Ck.nm at h
  obtain ⟨h, h3⟩ := bb h
  obtain ⟨h1, h2⟩ := bb h
  exact ⟨F.at (dd h1), F.vis h2, h3⟩
theorem XT.fd_has {x : XT} {c : Str} (h : x.fd c = true) : ∃ f, x.has c f = true := by
  unfold XT.fd at h
  obtain ⟨q, hq, h2⟩ := List.any_eq_true.mp h
  refine ⟨q.2, ?_⟩
  unfold XT.has
  exact List.any_eq_true.mpr ⟨q, hq, by rw [h2]; simp⟩
theorem noSet_hm {op : CmpOp} {y : Expr} (h : noSet y = true) : behindInMarks op y = false := marks_no h
section
variable {X : Cx} {W : WX} {n : Nat} {p : Dn} {k : Ck} {i : Nat} {a : Addr} {oe : Obj} {c : Str} {d : Option Addr} {pn : List (Addr × Obj)} {fs : Option (List (Str × Val))} {env : MEnv} {st : Store} {σ : L2.St}
theorem con_hj {X : Cx} {v0 : Val} {cv : Const} {j} {q : Pos} (h : conB v0 cv = true) : HJ X d fs env st σ (.Constant cv j q) v0 := by
  cases v0 <;> cases cv <;> first | cases h | skip
  · exact hj_c pe_non fun _ _ => by simp [RepV]
  · rename_i b c'
    have h : (b == c') = true := h
    obtain rfl : b = c' := by simpa using h
    exact hj_c pe_bl fun _ _ => rep_b ..
  · rename_i b c'
    obtain rfl := dd h
    exact hj_c pe_int fun _ _ => rep_i ..
  · rename_i b c'
    obtain rfl := dd h
    exact hj_c pe_str fun _ _ => rep_s ..
theorem hx_plain {X : Cx} {e : Expr} {v : Val} {t w : Prop} (he : plainT e = true) (hw : ¬ w) (key : HJ X d fs env st σ e v) : HJ X d fs env st σ e v ∧ (t → ∀ b, v = .bl b → HT X d fs env st σ e b) ∧ (t → w → ∀ b, v = .bl b → HW X d fs env st σ e b) :=
  ⟨key, fun _ b e => by subst e; exact ht_val key he, fun _ z => absurd z hw⟩
theorem Hx.sound (F : Fit X W n p k) (hz : Zc (.ref (He.ga X.K c)) d oe) (hf : ∃ vs, oe.data = .fields vs) (hσ : σ[i]? = some (some (.ref a))) : ∀ (h : Hx) {e : Expr} {v : Val}, h.ok k i e = true → h.val p.xt c fs env = some v →
    HJ (X.suite a ((a, oe) :: pn)) d fs env st σ e v ∧ (h.tB = true → ∀ b, v = .bl b → HT (X.suite a ((a, oe) :: pn)) d fs env st σ e b) ∧ (h.tB = true → h.isW = true → ∀ b, v = .bl b → HW (X.suite a ((a, oe) :: pn)) d fs env st σ e b)
  | .c v0, e, v, h, hv => by
    unfold Hx.ok at h
    split at h
    · rename_i cv j q
      have hv : some v0 = some v := hv
      obtain rfl := Option.some.inj hv
      exact hx_plain rfl (fun z => by cases z) (con_hj h)
    · cases h
  | .var j, e, v, h, hv => by
    unfold Hx.ok at h
    split at h
    · obtain ⟨h1, h2, h3⟩ := Ck.nm_ok F h
      have hv : (match env[j]? with
        | some (some v) => some v
        | _ => none) = some v := hv
      split at hv
      · rename_i w ew
        obtain rfl := Option.some.inj hv
        exact hx_plain rfl (fun z => by cases z) (hj_var h1 h2 h3 ew)
      · cases hv
    · cases h
  | .fld f, e, v, h, hv => by
    unfold Hx.ok at h
    split at h
    · obtain ⟨h0, h4⟩ := bb h
      rw [dd h0]
      obtain ⟨h1, h2, h3⟩ := Ck.nm_ok F h4
      unfold Hx.val at hv
      split at hv
      · rename_i l hh
        exact hx_plain rfl (fun z => by cases z) (hj_fld (F.say.xg _ _ hh) hz hf h1 h2 h3 hσ hv)
      · cases hv
    · cases h
  | .isI D, e, v, h, hv => by
    unfold Hx.ok at h
    split at h
    · obtain ⟨h, h7⟩ := bb h
      obtain ⟨h, h6⟩ := bb h
      obtain ⟨h, h5⟩ := bb h
      obtain ⟨h, h4⟩ := bb h
      obtain ⟨h, h3⟩ := bb h
      obtain ⟨h1, h2⟩ := bb h
      obtain rfl := dd h1
      obtain rfl := dd h4
      obtain ⟨g1, g2, g3⟩ := Ck.nm_ok F h3
      obtain ⟨i1, i2⟩ := F.free h2
      unfold Hx.val at hv
      split at hv
      · rename_i l b hb hh
        obtain rfl := Option.some.inj hv
        obtain ⟨f, hf2⟩ := XT.fd_has hh
        exact hx_plain rfl (fun z => by cases z) (hj_isI (F.say.xg _ _ hf2) hz hf g1 g2 g3 hσ i1 i2 (F.gl h6) (F.say.xc _ (dd h5)) h7 (F.say.xs _ _ _ hb).2)
      · cases hv
    · cases h
  | .not x, e, v, h, hv => by
    unfold Hx.ok at h
    split at h
    · unfold Hx.val at hv
      split at hv
      · rename_i b hb
        obtain rfl := Option.some.inj hv
        obtain ⟨q1, q2, q3⟩ := Hx.sound F hz hf hσ x h hb
        exact ⟨hj_not q1, fun t b e => by cases e; exact ht_not (q2 t _ rfl), fun _ z => by cases z⟩
      · cases hv
    · cases h
  | .and x y, e, v, h, hv => by
    unfold Hx.ok at h
    split at h
    · obtain ⟨h, h2⟩ := bb h
      obtain ⟨h0, h1⟩ := bb h
      have key : (∃ b, x.val p.xt c fs env = some (.bl b) ∧ (b = true → y.val p.xt c fs env = some v) ∧ (b = false → v = .bl false)) := by
        unfold Hx.val at hv
        split at hv
        · rename_i hb; exact ⟨true, hb, fun _ => hv, fun z => by cases z⟩
        · rename_i hb; exact ⟨false, hb, fun z => (by cases z), fun _ => (Option.some.inj hv).symm⟩
        · cases hv
      obtain ⟨b, hb, k1, k2⟩ := key
      obtain ⟨q1, q2, q3⟩ := Hx.sound F hz hf hσ x h1 hb
      have w : x.tB = true → y.tB = true → ∀ b2, v = .bl b2 → HW (X.suite a ((a, oe) :: pn)) d fs env st σ (.BoolOp .And (_ :: _ :: _) _) b2 := fun t1 t2 b2 e2 => by
        subst e2
        exact hw_and (q2 t1 _ rfl) (fun z => (Hx.sound F hz hf hσ y h2 (k1 z)).2.2 t2 h0 _ rfl) (fun z => by have := k2 z; injection this)
      refine ⟨hj_and q1 (fun z => (Hx.sound F hz hf hσ y h2 (k1 z)).1) k2, fun t b2 e2 => ?_, fun t _ b2 e2 => ?_⟩
      · obtain ⟨t1, t2⟩ := bb t
        exact (w t1 t2 b2 e2).ht
      · obtain ⟨t1, t2⟩ := bb t
        exact w t1 t2 b2 e2
    · cases h
  | .or x y, e, v, h, hv => by
    unfold Hx.ok at h
    split at h
    · obtain ⟨h, h2⟩ := bb h
      obtain ⟨h0, h1⟩ := bb h
      have key : (∃ b, x.val p.xt c fs env = some (.bl b) ∧ (b = false → y.val p.xt c fs env = some v) ∧ (b = true → v = .bl true)) := by
        unfold Hx.val at hv
        split at hv
        · rename_i hb; exact ⟨true, hb, fun z => (by cases z), fun _ => (Option.some.inj hv).symm⟩
        · rename_i hb; exact ⟨false, hb, fun _ => hv, fun z => by cases z⟩
        · cases hv
      obtain ⟨b, hb, k1, k2⟩ := key
      obtain ⟨q1, q2, q3⟩ := Hx.sound F hz hf hσ x h1 hb
      have w : x.tB = true → y.tB = true → ∀ b2, v = .bl b2 → HW (X.suite a ((a, oe) :: pn)) d fs env st σ (.BoolOp .Or (_ :: _ :: _) _) b2 := fun t1 t2 b2 e2 => by
        subst e2
        exact hw_or (q2 t1 _ rfl) (fun z => (Hx.sound F hz hf hσ y h2 (k1 z)).2.2 t2 h0 _ rfl) (fun z => by have := k2 z; injection this)
      refine ⟨hj_or q1 (fun z => (Hx.sound F hz hf hσ y h2 (k1 z)).1) k2, fun t b2 e2 => ?_, fun t _ b2 e2 => ?_⟩
      · obtain ⟨t1, t2⟩ := bb t
        exact (w t1 t2 b2 e2).ht
      · obtain ⟨t1, t2⟩ := bb t
        exact w t1 t2 b2 e2
    · cases h
  | .one x, e, v, h, hv => by
    unfold Hx.ok at h
    split at h
    · rename_i op y q
      have hv : x.val p.xt c fs env = some v := hv
      obtain ⟨q1, q2, q3⟩ := Hx.sound F hz hf hσ x h hv
      refine ⟨hj_one q1, fun t b e => ?_, fun t _ b e => ?_⟩
      · cases op
        · exact (hw_and1 (q2 t b e)).ht
        · exact (hw_or1 (q2 t b e)).ht
      · cases op
        · exact hw_and1 (q2 t b e)
        · exact hw_or1 (q2 t b e)
    · cases h
  | .eq x y, e, v, h, hv => by
    unfold Hx.ok at h
    split at h
    · obtain ⟨h, h3⟩ := bb h
      obtain ⟨h1, h2⟩ := bb h
      unfold Hx.val at hv
      split at hv
      · rename_i s1 s2 e1 e2
        split at hv
        · rename_i ho
          obtain ⟨o1, o2⟩ := bb ho
          obtain rfl := Option.some.inj hv
          exact ⟨hj_cmp (op_eqD (by have := F.rm.units; exact this)) m_eq (Hx.sound F hz hf hσ x h1 e1).1 (Hx.sound F hz hf hσ y h2 e2).1 (noSet_hm h3) (by simp [fEq, toD, toD0, shp, PyData.eqv, o1, o2]), (fun _ b e => by injection e with e; subst e; exact ht_cmp (op_eqD (by have := F.rm.units; exact this)) m_eq (Hx.sound F hz hf hσ x h1 e1).1 (Hx.sound F hz hf hσ y h2 e2).1 (noSet_hm h3) (by simp [fEq, toD, toD0, shp, PyData.eqv, o1, o2])), (fun _ z => by cases z)⟩
        · cases hv
      · rename_i s1 s2 e1 e2
        obtain rfl := Option.some.inj hv
        exact ⟨hj_cmp (op_eqD (by have := F.rm.units; exact this)) m_eq (Hx.sound F hz hf hσ x h1 e1).1 (Hx.sound F hz hf hσ y h2 e2).1 (noSet_hm h3) (by simp [fEq, toD, toD0, shp, PyData.eqv]; rfl), (fun _ b e => by injection e with e; subst e; exact ht_cmp (op_eqD (by have := F.rm.units; exact this)) m_eq (Hx.sound F hz hf hσ x h1 e1).1 (Hx.sound F hz hf hσ y h2 e2).1 (noSet_hm h3) (by simp [fEq, toD, toD0, shp, PyData.eqv]; rfl)), (fun _ z => by cases z)⟩
      · cases hv
    · cases h
  | .lt x y, e, v, h, hv => by
    unfold Hx.ok at h
    split at h
    · obtain ⟨h, h3⟩ := bb h
      obtain ⟨h1, h2⟩ := bb h
      unfold Hx.val at hv
      split at hv
      · rename_i s1 s2 e1 e2
        obtain rfl := Option.some.inj hv
        exact ⟨hj_cmp op_lt (m_cmp (p := fun i j => decide (i < j))) (Hx.sound F hz hf hσ x h1 e1).1 (Hx.sound F hz hf hσ y h2 e2).1 (noSet_hm h3) rfl, (fun _ b e => by injection e with e; subst e; exact ht_cmp op_lt (m_cmp (p := fun i j => decide (i < j))) (Hx.sound F hz hf hσ x h1 e1).1 (Hx.sound F hz hf hσ y h2 e2).1 (noSet_hm h3) rfl), (fun _ z => by cases z)⟩
      · cases hv
    · cases h
  | .ife t x y, e, v, h, hv => by
    unfold Hx.ok at h
    split at h
    · rename_i e0 x1 y1 q0
      obtain ⟨h, h3⟩ := bb h
      obtain ⟨h, h2⟩ := bb h
      obtain ⟨h0, h1⟩ := bb h
      have key : HJ (X.suite a ((a, oe) :: pn)) d fs env st σ (.IfExp e0 x1 y1 q0) v := by
        unfold Hx.val at hv
        split at hv
        · rename_i e1
          exact hj_ife ((Hx.sound F hz hf hσ t h1 e1).2.1 h0 _ rfl) (fun _ => (Hx.sound F hz hf hσ x h2 hv).1) (fun z => by cases z)
        · rename_i e1
          exact hj_ife ((Hx.sound F hz hf hσ t h1 e1).2.1 h0 _ rfl) (fun z => by cases z) (fun _ => (Hx.sound F hz hf hσ y h3 hv).1)
        · cases hv
      exact ⟨key, (fun z => by cases z), (fun z => by cases z)⟩
    · cases h
theorem Hb.sound (F : Fit X W n p k) (hz : Zc (.ref (He.ga X.K c)) d oe) (hf : ∃ vs, oe.data = .fields vs) : ∀ (h : Hb) {s : List Stmt} {o : HO} (env : MEnv) (σ : L2.St), σ[i]? = some (some (.ref a)) → h.ok k i s = true → h.val p.xt c fs env = some o → HS (X.suite a ((a, oe) :: pn)) d fs env st σ s o
  | .ret x, s, o, env, σ, hσ, h, hv => by
    unfold Hb.ok at h
    split at h
    · obtain ⟨v, e1, rfl⟩ := Option.map_eq_some_iff.mp (show (x.val p.xt c fs env).map HO.rt = some o from hv)
      exact hs_ret (Hx.sound F hz hf hσ x h e1).1
    · cases h
  | .ifr t x r, s, o, env, σ, hσ, h, hv => by
    unfold Hb.ok at h
    split at h
    · obtain ⟨h, h3⟩ := bb h
      obtain ⟨h, h2⟩ := bb h
      obtain ⟨h0, h1⟩ := bb h
      unfold Hb.val at hv
      split at hv
      · rename_i e1
        obtain ⟨v, e2, rfl⟩ := Option.map_eq_some_iff.mp hv
        exact hs_if ((Hx.sound F hz hf hσ t h1 e1).2.1 h0 _ rfl) (fun _ => ⟨hs_ret (Hx.sound F hz hf hσ x h2 e2).1, v, rfl⟩) (fun z => by cases z)
      · rename_i e1
        exact hs_if ((Hx.sound F hz hf hσ t h1 e1).2.1 h0 _ rfl) (fun z => by cases z) (fun _ => Hb.sound F hz hf r env σ hσ h3 hv)
      · cases hv
    · cases h
  | .pas, s, o, env, σ, hσ, h, hv => by
    unfold Hb.ok at h
    split at h
    · obtain rfl := Option.some.inj (show some HO.nx = some o from hv)
      exact hs_pas
    · cases h
  | .cnt, s, o, env, σ, hσ, h, hv => by
    unfold Hb.ok at h
    split at h
    · obtain rfl := Option.some.inj (show some HO.ct = some o from hv)
      exact hs_cnt
    · cases h
  | .set j x r, s, o, env, σ, hσ, h, hv => by
    unfold Hb.ok at h
    split at h
    · obtain ⟨h, h6⟩ := bb h
      obtain ⟨h, h5⟩ := bb h
      obtain ⟨h, h4⟩ := bb h
      obtain ⟨h, h3⟩ := bb h
      obtain ⟨h1, h2⟩ := bb h
      unfold Hb.val at hv
      split at hv
      · rename_i v e1
        split at hv
        · rename_i w e2
          obtain rfl := Option.some.inj hv
          exact hs_set F.nd (F.at (dd h1)) (F.loc h2) (Hx.sound F hz hf hσ x h5 e1).1 (swaps_no h4) (F.hf h2) (fun u => Hb.sound F hz hf r (env.set j (some v)) (σ.set j (some u)) (by rw [List.getElem?_set_ne (dd h3)]; exact hσ) h6 e2)
        · cases hv
      · cases hv
    · cases h
end
theorem Fit.tr {X : Cx} {W W' : WX} {n : Nat} {p : Dn} {k : Ck} (F : Fit X W n p k) {pn : List (Addr × Obj)} {xe : Value → Shared → Prop} (tk : Takes (X.tr pn xe) W') : Fit (X.tr pn xe) W' n p k := ⟨F.sc, F.N, F.nd, F.calm, F.fn, F.say, F.room, tk⟩
theorem locN_ok {sc : Scope} {x : Str} (h : locN sc x = true) : sc.names.lookup x = some .local := by
  unfold locN at h
  split at h
  · assumption
  · cases h
abbrev Sf (X : Cx) : Prop := X.stack = X.env :: X.outer ∧ X.env.frame = some X.env.locals
mutual
theorem Sm.sound {X : Cx} {W : WX} {n : Nat} {p : Dn} {k : Ck} (F : Fit X W n p k) (po : PassesOwn (model X.prog X.w) X.A X.env X.xe) (sf : Sf X) : ∀ (s : Sm) {x : Stmt}, s.ok k x = true → MS X W x (s.m p)
  | .pass, x, h => by
    unfold Sm.ok at h
    split at h
    · exact ms_pass
    · cases h
  | .set i a, x, h => by
    unfold Sm.ok at h
    split at h
    · obtain ⟨h, h3⟩ := bb h
      obtain ⟨h, hd⟩ := bb h
      obtain ⟨h1, h2⟩ := bb h
      exact set_sound F (dd h1) h2 hd h3
    · cases h
  | .tgt g a, x, h => by
    unfold Sm.ok at h
    split at h
    · obtain ⟨h, h4⟩ := bb h
      obtain ⟨h, h3⟩ := bb h
      obtain ⟨h1, h2⟩ := bb h
      exact ms_asg (E.sound a F h2) (G.sound F g h1) (swapsS_no h3) (stores_no h4) (by rw [asg1 (G.noStar h1)]; rfl)
    · cases h
  | .expr a, x, h => by
    unfold Sm.ok at h
    split at h
    · obtain ⟨h1, h2⟩ := bb h
      exact ms_expr (E.sound a F h1) (swaps_no h2)
    · cases h
  | .ret a, x, h => by
    unfold Sm.ok at h
    split at h
    · exact ms_ret (E.sound a F h)
    · cases h
  | .retN, x, h => by
    unfold Sm.ok at h
    split at h
    · exact ms_retN
    · cases h
  | .ife t a b, x, h => by
    unfold Sm.ok at h
    split at h
    · obtain ⟨h, h3⟩ := bb h
      obtain ⟨h1, h2⟩ := bb h
      exact ms_if (T.soundA t F h1).1 (Ss.sound F po sf a h2) (Ss.sound F po sf b h3)
    · cases h
  | .brk, x, h => by
    unfold Sm.ok at h
    split at h
    · exact ms_break
    · cases h
  | .cnt, x, h => by
    unfold Sm.ok at h
    split at h
    · exact ms_continue
    · cases h
  | .for_ it g b, x, h => by
    unfold Sm.ok at h
    split at h
    · obtain ⟨h, h4⟩ := bb h
      obtain ⟨h, h3⟩ := bb h
      obtain ⟨h1, h2⟩ := bb h
      exact ms_for po F.calm (I.sound it F h1) (G.sound F g h3) (Ss.sound F po sf b h4) (folded_no h2)
    · cases h
  | .while_ m t b, x, h => by
    unfold Sm.ok at h
    split at h
    · obtain ⟨h1, h2⟩ := bb h
      exact ms_while m po (T.soundA t F h1).1 (Ss.sound F po sf b h2)
    · cases h
  | .ugt u a, x, h => by
    unfold Sm.ok at h
    split at h
    · obtain ⟨h, h4⟩ := bb h
      obtain ⟨h, h3⟩ := bb h
      obtain ⟨h1, h2⟩ := bb h
      exact ms_ugt (E.sound a F h2) (U.sound F u h1) (swapsS_no h3) (stores_other h4) (by rw [asg1 rfl]; rfl)
    · cases h
  | .aug i b a, x, h => by
    unfold Sm.ok at h
    split at h
    · obtain ⟨h, h4⟩ := bb h
      obtain ⟨h, h3⟩ := bb h
      obtain ⟨h1, h2⟩ := bb h
      exact ms_aug F.nd (F.at (dd h1)) (F.loc h2) (E.sound a F h3) (aug_ip h4) (F.hf h2)
    · cases h
  | .augF o f b a, x, h => by
    unfold Sm.ok at h
    split at h
    · obtain ⟨h, h4⟩ := bb h
      obtain ⟨h, h3⟩ := bb h
      obtain ⟨h1, h2⟩ := bb h
      rw [dd h1]
      obtain ⟨rd, q1, q2⟩ := aug_in (X := X) h4
      exact ms_augF (fun C => F.say.fo C f) (E.sound o F h2) (E.sound a F h3) q1 q2
    · cases h
  | .bad, x, h => ms_bad
  | .raise C f a, x, h => by
    unfold Sm.ok at h
    split at h
    · obtain ⟨h, h5⟩ := bb h
      obtain ⟨h, h4⟩ := bb h
      obtain ⟨h, h3⟩ := bb h
      obtain ⟨h1, h2⟩ := bb h
      rw [dd h1]
      show MS X W _ (sRaiseG p.xt C f (a.m p))
      cases hx : (p.xt.rs && p.xt.has C f) with
      | false =>
        have e : sRaiseG p.xt C f (a.m p) = fun _ _ => .stuck := by
          funext env st
          unfold sRaiseG
          rw [hx]; rfl
        rw [e]
        exact ms_bad
      | true =>
        obtain ⟨R, h1n⟩ := F.say.xr _ _ hx
        have e : sRaiseG p.xt C f (a.m p) = sRaise C f (a.m p) := by
          funext env st
          unfold sRaiseG
          rw [hx]; rfl
        rw [e]
        exact ms_raise F.calm F.tk (F.room.mono (by omega)) (F.gl h2) h3 (E.sound a F h4) h5 R
    · cases h
  | .try_ b C i hd, x, h => by
    unfold Sm.ok at h
    split at h
    · obtain ⟨h, h8⟩ := bb h
      obtain ⟨h, h7⟩ := bb h
      obtain ⟨h, h6⟩ := bb h
      obtain ⟨h, h5⟩ := bb h
      obtain ⟨h, h4⟩ := bb h
      obtain ⟨h, h3⟩ := bb h
      obtain ⟨h1, h2⟩ := bb h
      rw [dd h1]
      exact ms_try sf.1 sf.2 F.nd (F.at (dd h2)) (by have := locN_ok h3; rw [← F.sc] at this; exact this) (F.gl h4) h5 (F.say.xc _ (dd h6)) F.tk
        (fun W' pn xe q1 q2 => Ss.sound (F.tr q1) q2 sf b h7) (fun c b q => (F.say.xs _ _ _ q).1) (fun c fs env st σ a oe d pn o q1 q2 q3 q4 q5 => Hb.sound F q3 q4 hd env σ q5 h8 q2)
    · cases h
  | .fset o f v, x, h => by
    unfold Sm.ok at h
    split at h
    · obtain ⟨h, h3⟩ := bb h
      obtain ⟨h1, h2⟩ := bb h
      rw [dd h1]
      exact ms_fset (fun C => F.say.fo C f) (E.sound o F h2) (E.sound v F h3)
    · cases h
  | .put o i v, x, h => by
    unfold Sm.ok at h
    split at h
    · obtain ⟨h, h5⟩ := bb h
      obtain ⟨h, h4⟩ := bb h
      obtain ⟨h, h3⟩ := bb h
      obtain ⟨h1, h2⟩ := bb h
      exact ms_put F.hu (E.sound o F h1) (E.sound i F h2) (E.sound v F h3) h4 h5
    · cases h
  | .putT o es v, x, h => by
    unfold Sm.ok at h
    split at h
    · obtain ⟨h, h4⟩ := bb h
      obtain ⟨h, h3⟩ := bb h
      obtain ⟨h1, h2⟩ := bb h
      exact ms_putU F.hu (E.sound o F h1) (Es.sound es F h2) (E.sound v F h3) h4
    · cases h
theorem Ss.sound {X : Cx} {W : WX} {n : Nat} {p : Dn} {k : Ck} (F : Fit X W n p k) (po : PassesOwn (model X.prog X.w) X.A X.env X.xe) (sf : Sf X) : ∀ (s : Ss) {x : List Stmt}, s.ok k x = true → MSs X W x (s.m p)
  | .nil, x, h => by
    unfold Ss.ok at h
    split at h
    · exact mss_nil
    · cases h
  | .cons a r, x, h => by
    unfold Ss.ok at h
    split at h
    · obtain ⟨h1, h2⟩ := bb h
      exact mss_cons (Sm.sound F po sf a h1) (Ss.sound F po sf r h2)
    · cases h
end
end ML

-- D6a
set_option linter.all false
set_option maxRecDepth 100000
set_option maxHeartbeats 4000000
namespace ML
open PySem PySem.Spec PyProof.Rows L2
theorem zip_look : ∀ {ps : List Str} {us : List Value}, ps.Nodup → us.length = ps.length → ∀ (i : Nat) (x : Str), ps[i]? = some x → ∃ u, us[i]? = some u ∧ (ps.zip us).lookup x = some u
  | [], _, _, _, i, x, h => by simp at h
  | p :: ps, [], _, hl, _, _, _ => by simp at hl
  | p :: ps, u :: us, nd, hl, 0, x, h => by
    simp at h
    subst h
    exact ⟨u, rfl, by simp⟩
  | p :: ps, u :: us, nd, hl, i + 1, x, h => by
    have nd2 := List.nodup_cons.mp nd
    obtain ⟨w, e1, e2⟩ := zip_look nd2.2 (by simpa using hl) i x (by simpa using h)
    refine ⟨w, by simpa using e1, ?_⟩
    have hne : (x == p) = false := by
      rw [beq_eq_false_iff_ne]
      intro e
      subst e
      exact nd2.1 (List.mem_of_getElem? (by simpa using h))
    simp only [List.zip_cons_cons, List.lookup_cons, hne]
    exact e2
theorem zip_map : ∀ {ps : List Str} {us : List Value} (sl : List (Str × Value)), us.length = ps.length → (∀ (i : Nat) (x : Str), ps[i]? = some x → ∃ u, us[i]? = some u ∧ sl.lookup x = some u) → (ps.filterMap fun n => (sl.lookup n).map fun v => (n, v)) = ps.zip us
  | [], us, sl, hl, h => by simp
  | p :: ps, [], sl, hl, h => by simp at hl
  | p :: ps, u :: us, sl, hl, h => by
    obtain ⟨w, e1, e2⟩ := h 0 p rfl
    have : u = w := by simpa using e1
    subst this
    rw [List.filterMap_cons, e2]
    simp only [Option.map_some, List.zip_cons_cons]
    rw [zip_map sl (by simpa using hl) fun i x e => h (i + 1) x (by simpa using e)]
theorem zip_miss : ∀ {ps : List Str} (sl : List (Str × Value)), (∀ x ∈ ps, ∃ u, sl.lookup x = some u) → (ps.filter fun n => (sl.lookup n).isNone) = []
  | [], _, _ => rfl
  | p :: ps, sl, h => by
    obtain ⟨u, e⟩ := h p (List.mem_cons_self)
    rw [List.filter_cons, e]
    simp only [Option.isNone_some, Bool.false_eq_true, if_false]
    exact zip_miss sl fun x hx => h x (List.mem_cons_of_mem _ hx)
theorem bind_all {x q : Str} {body : List Stmt} {scope : Scope} {kV doc pm cdv ct : Value} {an : Option Addr} {as : List Arg} {us : List Value} (nd : (as.map (·.arg)).Nodup) (hl : us.length = (as.map (·.arg)).length) :
    bindArgs (PySem.W.fnOf x q ⟨[], as, none, [], [], none, []⟩ body scope .none kV doc pm an cdv ct) ⟨us, []⟩ = pure ((as.map (·.arg)).zip us) := by
  have z := zip_look nd hl
  have z2 := zip_map (ps := as.map (·.arg)) (us := us) _ hl z
  have z3 := zip_miss (ps := as.map (·.arg)) ((as.map (·.arg)).zip us) fun x hx => by
    obtain ⟨i, e⟩ := List.mem_iff_getElem?.mp hx
    obtain ⟨u, _, e2⟩ := z i x e
    exact ⟨u, e2⟩
  have hgt : ¬ us.length > (as.map (·.arg)).length := by omega
  have e0 : seqItems? Value.none = pure none := rfl
  have hgt2 : ¬ as.length < us.length := by simpa using hgt
  have ht : List.take as.length (as.map (·.arg)) = as.map (·.arg) := List.take_of_length_le (by simp)
  unfold bindArgs
  simp only [PySem.W.fnOf, e0, pure_bind]
  simp [hgt2, z3, ht]
  exact congrArg pure (by rw [← List.filterMap_map]; exact z2)
end ML

-- D6
set_option linter.all false
set_option maxRecDepth 100000
set_option maxHeartbeats 4000000
/-! D6: whole programs, by levels. -/
namespace ML
open PySem PySem.Spec PyProof.Rows L2
structure Df where
  at_ : Str × Option Str
  nm : Str
  qual : Str
  ps : List Str
  N : List Str
  clean : Bool
  body : Ss
structure Pr where
  ds : List Df
  cv : List (Str × Val)
  ct : List (Str × List (Key × Val))
  fr : List Str
  /-- the classes: the name, the fields, whether instances are made -/
  cl : List (Str × List Str × Bool)
  /-- the exceptions -/
  xt : XT
def Pr.xtl (P : Pr) (k : Nat) : XT := ⟨decide (0 < k), P.xt.fl, P.xt.sb, P.xt.xc⟩
def Pr.fo (P : Pr) (C f : Str) : Bool := P.cl.any fun c => decide (c.1 = C) && decide (f ∈ c.2.1)
def Pr.mf (P : Pr) (C m : Str) : Option Nat := P.ds.findIdx? fun d => decide (d.at_ = (C, some m))
def Pr.ml (P : Pr) : List Str := (P.cl.filter fun c => c.2.2 && (P.mf c.1 "__init__").isSome).map (·.1)
def Df.gn (d : Df) : Option Str := match d.at_.2 with
  | none => some d.nm
  | some _ => none
def Pr.tb (P : Pr) : Tb := ⟨P.fr, P.ds.map Df.gn, P.ds.map (·.ps.length), P.cv.map (·.1), P.ct.map (·.1), P.ml, P.xt.xc⟩
/-- a def that may change what it is handed -/
def finS (r : S) : R Val := match r with
  | .rt v st => .ok v st
  | .nx _ st => .ok .non st
  | .exc c fs _ st => .exc c fs st
  | _ => .stuck
def kCallS (n N : Nat) (mb : MM) : FN := fun ds st => if ds.length = n then finS (mb (startM N ds) st) else .stuck
def Df.f (d : Df) (p : Dn) : FN := if d.clean then kCall d.ps.length (runP d.N.length (d.body.m p)) else kCallS d.ps.length d.N.length (d.body.m p)
def Pr.cv1 (P : Pr) (j : Nat) : Val := match P.cv[j]? with
  | some c => c.2
  | none => .non
def Pr.ct1 (P : Pr) (j : Nat) : List (Key × Val) := match P.ct[j]? with
  | some c => c.2
  | none => []
def Pr.nf (P : Pr) (y : Str) : Option Nat := P.ds.findIdx? fun d => decide (d.at_ = (y, none))
def Pr.cf (P : Pr) : Nat → Nat → FN
  | 0, _ => fun _ _ => .stuck
  | k + 1, i => match P.ds[i]? with
    | some d => d.f ⟨P.cf k, fun _ _ _ => .stuck, P.cv1, P.ct1, P.fo, P.mf, P.xtl k, P.nf⟩
    | none => fun _ _ => .stuck
def Pr.dn (P : Pr) (k : Nat) : Dn := ⟨P.cf k, fun _ _ _ => .stuck, P.cv1, P.ct1, P.fo, P.mf, P.xtl k, P.nf⟩
def argsB (ps : List Str) : Arguments → Bool
  | ⟨[], as, none, [], [], none, []⟩ => decide (as.map (·.arg) = ps)
  | _ => false
def scopeB (N ps : List Str) (sc : Scope) : Bool := (match sc.kind with
    | .function => true
    | _ => false) && !sc.isCoroutine && !sc.isGenerator && decide N.Nodup && decide (N.take ps.length = ps) && (ps.all fun x => match sc.names.lookup x with
    | some .local => true
    | some .cell => true
    | _ => false) && sc.names.all fun y => match y.2 with
    | .free => false
    | _ => true
def Df.ok (tb : Tb) (d : Df) (s : Stmt) : Bool := argsB d.ps (defArgs s) && scopeB d.N d.ps (defScope s) && d.body.ok ⟨tb, defScope s, d.N, fun _ => true⟩ (defBody s)
theorem scopeB_ok {N ps : List Str} {sc : Scope} (h : scopeB N ps sc = true) : FnScope N ps sc := by
  unfold scopeB at h
  obtain ⟨h, h7⟩ := bb h
  obtain ⟨h, h6⟩ := bb h
  obtain ⟨h, h5⟩ := bb h
  obtain ⟨h, h4⟩ := bb h
  obtain ⟨h, h3⟩ := bb h
  obtain ⟨h1, h2⟩ := bb h
  refine ⟨?_, by simpa using h2, by simpa using h3, dd h4, dd h5, fun x hx => ?_, fun y hy e => ?_⟩
  · split at h1
    · assumption
    · cases h1
  · have := List.all_eq_true.mp h6 x hx
    split at this
    · exact .inl (by assumption)
    · exact .inr (by assumption)
    · cases this
  · have := List.all_eq_true.mp h7 y hy
    rw [e] at this
    cases this
theorem argsB_ok {ps : List Str} {a : Arguments} (h : argsB ps a = true) : ∃ as, a = ⟨[], as, none, [], [], none, []⟩ ∧ as.map (·.arg) = ps := by
  unfold argsB at h
  split at h
  · exact ⟨_, rfl, dd h⟩
  · cases h
theorem two_of {N ps : List Str} {a b : Str} (h : N.take ps.length = ps) (hl : ps.length = 2) (h0 : N[0]? = some a) (h1 : N[1]? = some b) : ps = [a, b] := by
  rw [hl] at h
  rw [← h]
  match N, h0, h1 with
  | x :: y :: r, h0, h1 =>
    simp at h0 h1
    simp [h0, h1]
section
variable {P : Program} {w : World} {K : PySem.W.Frag} {mg : Str → Option Value} {base : Heap}
/-- a promise of any def -/
def spG (K : PySem.W.Frag) (n : Nat) (f : FN) : Sp := fun vs H Q E => vs.length = n ∧ ∃ mp st ds, RelS K mp H st ∧ RepVs K mp H ds vs ∧ Post K (fun c d _ H => E c d H) [] (RV K) mp H (f ds st) Q
theorem finS_ok {W : WX} {mp : Mp} {H : Hp} {r : S} {Q : VK} {E : XK} (h : Post K (fun c d _ H => E c d H) [] (RV K) mp H (finS r) Q) : PostS K (fun c d _ H => E c d H) mp H r { nx := fun _ H' => Q .non H', rt := Q } := by
  cases r with
  | nx e s => exact fun mp' H' σ l rs re => h mp' H' .non l rs (by simp [RV, RepV])
  | bk e s => exact h.elim
  | ct e s => exact h.elim
  | stuck => exact h.elim
  | exc c fs e s => exact fun mp' H' d σ l rs re x => h mp' H' d l rs x
  | rt v s => exact fun mp' H' u l rs rv => h mp' H' u l rs rv
theorem fnS {x qual : Str} {st : Stmt} {dvs : List V} {kws : List (Str × V)} {f : Addr} {fd : FuncData} {N ps : List Str} {k : Nat} {mb : MM} (F : FunD K x qual (defArgs st) (defBody st) (defScope st) dvs kws f fd) (S : FnScope N ps (defScope st))
    (hb : ∀ (cdv : Value) (A : Around) (outer : List Env) (s : Shared) (H : Hp) (E : XK), Room k (A.deeper (envOfC qual (defScope st) s.heap.objs.size f cdv)) → MSs (cxOf (L2.CX P w) P w K mg base N qual (defScope st) f cdv A outer s H E) (fun c d _ H => E c d H) (defBody st) mb) :
    FnOk P w K mg base (L2.CX P w) (k + 1) f fd ps (spG K ps.length (kCallS ps.length N.length mb)) := by
  refine F.ok S (fun vs H Q E h => h.1) (fun cdv A outer s H vs Q E hr h => ?_)
  obtain ⟨hl, mp, st', ds, rs, r, q⟩ := h
  obtain ⟨t, p, hb⟩ := (hb cdv A outer s H E hr).ex
  have e : ds.length = ps.length := by rw [repvs_len r]; exact hl
  have q : Post K (fun c d _ H => E c d H) [] (RV K) mp H (finS (mb (startM N.length ds) st')) Q := by
    have : kCallS ps.length N.length mb ds st' = finS (mb (startM N.length ds) st') := if_pos e
    rw [← this]; exact q
  exact ⟨t, p, hb _ _ H mp (startM N.length ds) st' rs (start_rel r) (finS_ok (W := fun _ _ _ _ => True) q)⟩
/-- what the head tells of a def -/
structure DfF (K : PySem.W.Frag) (mg : Str → Option Value) (tb : Tb) (d : Df) : Prop where
  ex : ∃ (s : Stmt) (fd : FuncData), FunD K d.nm d.qual (defArgs s) (defBody s) (defScope s) [] [] (He.fAd K d.at_) fd ∧ d.ok tb s = true
  gl : d.at_.2 = none → mg d.nm = some (.ref (He.fAd K d.at_))
/-- a callee at its address, with the def's own parameters -/
def CalG' (P : Program) (w : World) (K : PySem.W.Frag) (mg : Str → Option Value) (base : Heap) (n : Nat) (d : Df) (f : FN) : Prop := ∃ (fd : FuncData) (sp : Sp), Binds K fd d.ps [] ∧ FnOk P w K mg base (L2.CX P w) n (He.fAd K d.at_) fd d.ps sp ∧
    ∀ (W : WX) σ mp H st ds us Q, RelS K mp H st → RepVs K mp H ds us → Post K W σ (RV K) mp H (f ds st) Q → sp us H Q (WE W σ)
/-- the callee at its address, two levels up -/
theorem DfF.calF' {pr : Pr} {d : Df} {n : Nat} {p : Dn} (D : DfF K mg pr.tb d) (hs : Say P w K mg base n p pr.tb) : CalG' P w K mg base (n + 2) d (d.f p) ∧ PySem.W.keepIn K (.ref (He.fAd K d.at_)) = true := by
  obtain ⟨s, fd, F, ok⟩ := D.ex
  unfold Df.ok at ok
  obtain ⟨ok, h3⟩ := bb ok
  obtain ⟨h1, h2⟩ := bb ok
  have S := scopeB_ok h2
  obtain ⟨as, ea, ep⟩ := argsB_ok h1
  have nd : d.ps.Nodup := by
    rw [← S.pre]
    exact List.Nodup.sublist (List.take_sublist _ _) S.nd
  have body : ∀ (cdv : Value) (A : Around) (outer : List Env) (s' : Shared) (H : Hp) (E : XK), Room (n + 1) (A.deeper (envOfC d.qual (defScope s) s'.heap.objs.size (He.fAd K d.at_) cdv)) → MSs (cxOf (L2.CX P w) P w K mg base d.N d.qual (defScope s) (He.fAd K d.at_) cdv A outer s' H E) (fun c d _ H => E c d H) (defBody s) (d.body.m p) := by
    intro cdv A outer s' H E hr
    exact Ss.sound (n := n) (p := p) (k := ⟨pr.tb, defScope s, d.N, fun _ => true⟩) ⟨rfl, rfl, S.nd, rfl, fun _ _ => rfl, hs, hr, takes_of rfl rfl rfl rfl⟩ (passes_of rfl) ⟨rfl, rfl⟩ d.body h3
  have bi : Binds K fd d.ps [] := F.bindsN fun kV doc pm an cdv ct us hl => by
    rw [ea, ← ep]
    exact bind_all (by rw [ep]; exact nd) (by rw [ep]; exact hl)
  refine ⟨?_, F.kp⟩
  unfold Df.f
  cases hc : d.clean with
  | true =>
    rw [if_pos rfl]
    exact ⟨fd, _, bi, fnP F S body, fun W σ mp H st ds us Q rs r q => kCall_rd (closed_run _ _) rs r q⟩
  | false =>
    rw [if_neg (by decide)]
    refine ⟨fd, _, bi, fnS F S body, fun W σ mp H st ds us Q rs r q => ⟨?_, mp, st, ds, rs, r, ?_⟩⟩
    · unfold kCallS at q
      split at q
      · rename_i e
        rw [← repvs_len r]; exact e
      · exact q.elim
    · cases e : kCallS d.ps.length d.N.length (d.body.m p) ds st with
      | ok v st' =>
        rw [e] at q
        exact q
      | exc c fs st' =>
        rw [e] at q
        exact q
      | stuck =>
        rw [e] at q
        exact q
/-- at the bottom nothing is called -/
theorem DfF.cal0' {pr : Pr} {d : Df} (D : DfF K mg pr.tb d) : CalG' P w K mg base 0 d (fun _ _ => .stuck) ∧ PySem.W.keepIn K (.ref (He.fAd K d.at_)) = true := by
  obtain ⟨s, fd, F, ok⟩ := D.ex
  unfold Df.ok at ok
  obtain ⟨ok, h3⟩ := bb ok
  obtain ⟨h1, h2⟩ := bb ok
  have S := scopeB_ok h2
  obtain ⟨as, ea, ep⟩ := argsB_ok h1
  have nd : d.ps.Nodup := by
    rw [← S.pre]
    exact List.Nodup.sublist (List.take_sublist _ _) S.nd
  have bi : Binds K fd d.ps [] := F.bindsN fun kV doc pm an cdv ct us hl => by
    rw [ea, ← ep]
    exact bind_all (by rw [ep]; exact nd) (by rw [ep]; exact hl)
  exact ⟨⟨fd, fun _ _ _ _ => False, bi, ⟨fun _ _ _ _ h => h.elim, fun _ _ _ _ _ _ _ _ _ _ _ _ _ h => h.elim⟩, fun W σ mp H st ds us Q rs r q => q⟩, F.kp⟩
/-- what the head tells of a class -/
structure ClF (K : PySem.W.Frag) (mg : Str → Option Value) (pr : Pr) : Prop where
  fo : ∀ C f, pr.fo C f = true → Cls K (He.ga K C) ∧ NoAttr K (He.ga K C) f
  mt : ∀ d ∈ pr.ds, ∀ C m, d.at_ = (C, some m) → m ≠ "__init__" → Cls K (He.ga K C) ∧ Meth K (He.ga K C) m (He.fAd K d.at_)
  mkr : ∀ C ∈ pr.ml, mg C = some (.ref (He.ga K C)) ∧ ∀ d ∈ pr.ds, d.at_ = (C, some ("__init__" : Str)) → Mk K (He.ga K C) (He.fAd K d.at_)
/-- .. of the exceptions -/
def Ss.isX (f : Str) : Ss → Bool
  | .cons (.fset (.var 0) g (.var 1)) .nil => decide (g = f)
  | _ => false
theorem Ss.isX_ok {f : Str} {s : Ss} (h : s.isX f = true) : s = .cons (.fset (.var 0) f (.var 1)) .nil := by
  unfold Ss.isX at h
  split at h
  · rw [dd h]
  · cases h
structure XcF (K : PySem.W.Frag) (mg : Str → Option Value) (pr : Pr) : Prop where
  g : ∀ C ∈ pr.xt.xc, mg C = some (.ref (He.ga K C))
  r : ∀ C f, pr.xt.has C f = true → OexC K (He.ga K C) ∧ PySem.W.findIn K (.ref (He.ga K C)) f = some none ∧ XG K C f ∧ mg C = some (.ref (He.ga K C)) ∧ ∃ d ∈ pr.ds, d.body.isX f = true ∧ d.ps.length = 2 ∧
    PySem.W.findIn K (.ref (He.ga K C)) "__init__" = some (some (.ref (He.fAd K d.at_))) ∧ PySem.W.typeIn K (.ref (He.fAd K d.at_)) = some (.type "function")
  s : ∀ c C b, pr.xt.sbf c C = some b → PySem.W.exmOne K (.ref (He.ga K c)) (.ref (He.ga K C)) = some b ∧ PySem.W.kitOne K (.ref (He.ga K c)) (.ref (He.ga K C)) = some b
theorem XcF.xr {pr : Pr} (x : XcF K mg pr) (df : ∀ d ∈ pr.ds, DfF K mg pr.tb d) {C f : Str} (h : pr.xt.has C f = true) : XR P w K mg base C f := by
  obtain ⟨T, no, G, g, d, hd, hb, hl, i1, i2⟩ := x.r C f h
  refine ⟨T, g, no, ?_⟩
  obtain ⟨s, fd, F, ok⟩ := (df d hd).ex
  unfold Df.ok at ok
  obtain ⟨ok, h3⟩ := bb ok
  obtain ⟨h1, h2⟩ := bb ok
  have S := scopeB_ok h2
  obtain ⟨as, ea, ep⟩ := argsB_ok h1
  have nd : d.ps.Nodup := by
    rw [← S.pre]
    exact List.Nodup.sublist (List.take_sublist _ _) S.nd
  have bi : Binds K fd d.ps [] := F.bindsN fun kV doc pm an cdv ct us hl => by
    rw [ea, ← ep]
    exact bind_all (by rw [ep]; exact nd) (by rw [ep]; exact hl)
  refine ⟨_, fd, d.ps, i1, i2, bi, ?_⟩
  rw [Ss.isX_ok hb] at h3
  unfold Ss.ok at h3
  split at h3
  rotate_left 1
  · cases h3
  rename_i s1 s2 hbody
  obtain ⟨h4, h5⟩ := bb h3
  unfold Ss.ok at h5
  split at h5
  rotate_left 1
  · cases h5
  unfold Sm.ok at h4
  split at h4
  rotate_left 1
  · cases h4
  obtain ⟨h4, h7⟩ := bb h4
  obtain ⟨h4, h6⟩ := bb h4
  have hy := dd h4
  subst hy
  unfold E.ok at h6 h7
  split at h6
  rotate_left 1
  · cases h6
  split at h7
  rotate_left 1
  · cases h7
  obtain ⟨h6, n1⟩ := bb h6
  obtain ⟨h6, _⟩ := bb h6
  obtain ⟨h7, n2⟩ := bb h7
  obtain ⟨h7, _⟩ := bb h7
  have e0 : d.N[0]? = some _ := dd h6
  have e1 : d.N[1]? = some _ := dd h7
  have hps : d.ps = [_, _] := two_of S.pre hl e0 e1
  rw [hps] at S ⊢
  exact xinit F S n1 n2 hbody
theorem Pr.mf_at {pr : Pr} {C m : Str} {i : Nat} (h : pr.mf C m = some i) : ∃ d, pr.ds[i]? = some d ∧ d.at_ = (C, some m) := by
  unfold Pr.mf at h
  obtain ⟨hl, h2, _⟩ := List.findIdx?_eq_some_iff_getElem.mp h
  exact ⟨_, List.getElem?_eq_getElem hl, by simpa using h2⟩
/-- the whole program, at every level -/
theorem prog {pr : Pr} (fr : ∀ x ∈ pr.fr, mg x = none) (con : ∀ j x, pr.tb.cn[j]? = some x → Con1 K mg x (pr.cv1 j)) (tab : ∀ j x, pr.tb.tn[j]? = some x → ∃ ad f, mg x = some (.ref ad) ∧ KTab P w K ad (pr.ct1 j) f)
    (df : ∀ d ∈ pr.ds, DfF K mg pr.tb d) (cl : ClF K mg pr) (xf : XcF K mg pr) : ∀ k, Say P w K mg base (2 * k) (pr.dn k) pr.tb := by
  have build : ∀ (n : Nat) (p : Dn), p.fo = pr.fo → p.mf = pr.mf → p.cv = pr.cv1 → p.ct = pr.ct1 → p.nf = pr.nf → (∃ j, p.xt = pr.xtl j ∧ (0 < j → 1 ≤ n)) → (∀ i d, pr.ds[i]? = some d → CalG' P w K mg base n d (p.cf i) ∧ PySem.W.keepIn K (.ref (He.fAd K d.at_)) = true) → Say P w K mg base n p pr.tb := by
    intro n p e1 e2 e3 e4 e7 ⟨j0, e5, e6⟩ hc
    refine ⟨fr, fun j x h => by rw [e3]; exact con j x h, fun j x h => by rw [e4]; exact tab j x h, fun i x m h1 h2 => ?_, fun C f h => cl.fo C f (by rw [← e1]; exact h), fun C m i h hm => ?_, fun C f h => ?_, fun c f h => ?_, fun c C b h => ?_, fun C h => xf.g C h, fun y j h => ?_, fun C hC => ?_⟩
    · have h1 : (pr.ds.map Df.gn)[i]? = some (some x) := h1
      have h2 : (pr.ds.map (·.ps.length))[i]? = some m := h2
      rw [List.getElem?_map] at h1 h2
      obtain ⟨d, d1, d2⟩ := Option.map_eq_some_iff.mp h1
      rw [d1] at h2
      obtain rfl := Option.some.inj h2
      unfold Df.gn at d2
      split at d2
      · rename_i hn
        obtain rfl := Option.some.inj d2
        obtain ⟨⟨fd, sp, b, F, r⟩, kp⟩ := hc i d d1
        exact ⟨_, fd, d.ps, sp, rfl, (df d (List.mem_of_getElem? d1)).gl hn, kp, b, F, r⟩
      · cases d2
    · rw [e2] at h
      obtain ⟨d, d1, d2⟩ := Pr.mf_at h
      obtain ⟨c, M⟩ := cl.mt d (List.mem_of_getElem? d1) C m d2 hm
      obtain ⟨⟨fd, sp, b, F, r⟩, kp⟩ := hc i d d1
      exact ⟨c, _, M, ⟨fd, d.ps, sp, b, F, r⟩⟩
    · rw [e5] at h
      obtain ⟨q1, q2⟩ := bb h
      exact ⟨xf.xr df q2, e6 (dd q1)⟩
    · rw [e5] at h
      exact (xf.r c f h).2.2.1
    · rw [e5] at h
      exact xf.s c C b h
    · rw [e7] at h
      obtain ⟨hl, h2, _⟩ := List.findIdx?_eq_some_iff_getElem.mp (show pr.ds.findIdx? (fun d => decide (d.at_ = (y, none))) = some j from h)
      have h2 : (pr.ds[j]).at_ = (y, none) := by simpa using h2
      obtain ⟨⟨fd, sp, b, F, r⟩, kp⟩ := hc j _ (List.getElem?_eq_getElem hl)
      have ea : He.fAd K (pr.ds[j]).at_ = He.ga K y := by rw [h2]; rfl
      rw [ea] at F kp
      exact ⟨⟨fd, _, sp, b, F, r⟩, kp⟩
    · obtain ⟨g, M⟩ := cl.mkr C hC
      have hC2 : C ∈ pr.ml := hC
      unfold Pr.ml at hC2
      obtain ⟨c, hc1, hc2⟩ := List.mem_map.mp hC2
      obtain ⟨_, hc3⟩ := List.mem_filter.mp hc1
      rw [hc2, Bool.and_eq_true, Option.isSome_iff_exists] at hc3
      obtain ⟨i, hi⟩ := hc3.2
      obtain ⟨d, d1, d2⟩ := Pr.mf_at hi
      obtain ⟨⟨fd, sp, b, F, r⟩, kp⟩ := hc i d d1
      exact ⟨i, _, by rw [e2]; exact hi, g, M d (List.mem_of_getElem? d1) d2, ⟨fd, d.ps, sp, b, F, r⟩⟩
  intro k
  induction k with
  | zero => exact build 0 (pr.dn 0) rfl rfl rfl rfl rfl ⟨0, rfl, fun z => absurd z (by decide)⟩ fun i d hd => (df d (List.mem_of_getElem? hd)).cal0'
  | succ k ih =>
    refine build (2 * (k + 1)) (pr.dn (k + 1)) rfl rfl rfl rfl rfl ⟨k + 1, rfl, fun _ => by omega⟩ fun i d hd => ?_
    have e : pr.cf (k + 1) i = d.f (pr.dn k) := by
      show (match pr.ds[i]? with
        | some d => d.f ⟨pr.cf k, fun _ _ _ => .stuck, pr.cv1, pr.ct1, pr.fo, pr.mf, pr.xtl k, pr.nf⟩
        | none => fun _ _ => .stuck) = _
      rw [hd]; rfl
    show CalG' P w K mg base (2 * k + 2) d (pr.cf (k + 1) i) ∧ _
    rw [e]
    exact (df d (List.mem_of_getElem? hd)).calF' ih
end
end ML

-- D7
set_option linter.all false
set_option maxRecDepth 100000
set_option maxHeartbeats 4000000
/-! D7: what the head tells; a law's end. -/
namespace ML
open PySem PySem.Spec PySem.W PySem.Calls PyProof.Rows L2
/-! ### dicts of the top -/
def keyE (e : DictEntry) : Option (Key × Int) := match e.key with
  | .str x _ => some (.inr x, e.hash)
  | .int i _ => some (.inl i, e.hash)
  | _ => none
def keyHh (P : Params) : Key → Int
  | .inl i => hashInt i
  | .inr x => PyData.keyHash P x
def keysK (P : Params) (ks : List Key) : List (Option (Key × Int)) := ks.map fun k => some (k, keyHh P k)
def dicK (K : PySem.W.Frag) (a : Addr) : Option (List (Option (Key × Int))) := match K.lookup a with
  | some ⟨.type c, none, .dict es _, sl⟩ => (match decide (c = "dict") && (sl.isEmpty && !(a == sysModules)) with
    | true => some (es.toList.map keyE)
    | false => none)
  | _ => none
def relEs (K : PySem.W.Frag) : List (Key × Val) → List DictEntry → Bool
  | [], [] => true
  | p :: ps, e :: es => keyIs p.1 e.key && (relW K p.2 e.val && relEs K ps es)
  | _, _ => false
abbrev TabK : Type := Str × List (Key × Val)
def tabK (K : PySem.W.Frag) (t : TabK) : Bool := (match K.lookup (He.ga K t.1) with
  | some ⟨_, _, .dict es _, _⟩ => relEs K t.2 es.toList
  | _ => false) && He.Fa.ok K (.glo t.1)
theorem hash_eq {w : World} {k : Key} : keyHh w.params k = keyH w k := by cases k <;> rfl
theorem keysK_of {w : World} : ∀ {l : List DictEntry} {ks : List Key}, l.map keyE = keysK w.params ks → ∀ e ∈ l, ∃ k, keyIs k e.key = true ∧ e.hash = keyH w k
  | [], _, _, e, he => by cases he
  | e :: r, [], h, _, _ => by cases h
  | e :: r, k :: ks, h, e', he => by
    have h1 : keyE e :: r.map keyE = some (k, keyHh w.params k) :: keysK w.params ks := h
    injection h1 with h2 h3
    rcases List.mem_cons.mp he with rfl | he
    · refine ⟨k, ?_⟩
      unfold keyE at h2
      split at h2
      · rename_i x t q
        have h4 := Option.some.inj h2
        obtain ⟨rfl, e2⟩ := Prod.mk.inj h4
        exact ⟨by rw [q]; exact keyIs_str x t, by rw [e2, hash_eq]⟩
      · rename_i x t q
        have h4 := Option.some.inj h2
        obtain ⟨rfl, e2⟩ := Prod.mk.inj h4
        exact ⟨by rw [q]; exact keyIs_int x t, by rw [e2, hash_eq]⟩
      · cases h2
    · exact keysK_of h3 e' he
theorem relEs_find {P : Program} {w : World} {K : PySem.W.Frag} : ∀ {ps : List (Key × Val)} {es : List DictEntry}, relEs K ps es = true → ∀ k,
    (∀ d, lookM ps k = some d → ∃ e v, (es.find? fun e => keyIs k e.key) = some e ∧ RelV v e.val ∧ ∀ mp H, RepV K mp H d v) ∧ (lookM ps k = none → (es.find? fun e => keyIs k e.key) = none)
  | [], [], _, k => ⟨(fun d h => by cases h), fun _ => rfl⟩
  | [], _ :: _, h, _ => by cases h
  | _ :: _, [], h, _ => by cases h
  | (k', d') :: ps, e :: es, h, k => by
    have h : (keyIs k' e.key && (relW K d' e.val && relEs K ps es)) = true := h
    obtain ⟨h1, h⟩ := bb h
    obtain ⟨h2, h3⟩ := bb h
    obtain ⟨i1, i2⟩ := relEs_find (P := P) (w := w) h3 k
    by_cases c : k' = k
    · subst c
      have e1 : lookM ((k', d') :: ps) k' = some d' := by simp [lookM]
      rw [e1]
      refine ⟨fun d q => ?_, fun q => by cases q⟩
      obtain rfl := Option.some.inj q
      obtain ⟨v, r1, r2⟩ := relW_ok h2
      exact ⟨e, v, by rw [List.find?_cons, h1], r1, r2⟩
    · have e1 : lookM ((k', d') :: ps) k = lookM ps k := by simp [lookM, List.find?_cons, c]
      have e2 : keyIs k e.key = false := by
        cases q : keyIs k e.key with
        | false => rfl
        | true => exact absurd ((mixKind P w).inj _ _ _ h1 q) c
      rw [e1, List.find?_cons, e2]
      exact ⟨i1, i2⟩
/-! ### exceptions -/
def oexB (K : PySem.W.Frag) (C : Addr) : Bool := match K.lookup C with
  | some ⟨.type t, _, .cls ⟨_, _, .ref C' :: bm, _, _, hd, _, _, _, _, del⟩, ⟨[_, _, _, _, some (.builtin n), _]⟩⟩ => decide (t = "type") && (decide (C' = C) && (hd && (!del && (decide (n = "ValueError.__new__") && PySem.HandSPX.refsVE bm))))
  | _ => false
theorem oexB_ok {K : PySem.W.Frag} {C : Addr} (h : oexB K C = true) : ∃ nm q N bs bm sn sub ab col dd k0 k1 k2 k3 k5, K.lookup C = some (excClassObj nm q C N bs bm true sn sub ab col dd k0 k1 k2 k3 k5 "ValueError.__new__") ∧ PySem.HandSPX.refsVE bm = true := by
  unfold oexB at h
  split at h
  · rename_i he
    obtain ⟨h1, h⟩ := bb h
    obtain ⟨h2, h⟩ := bb h
    obtain ⟨h3, h⟩ := bb h
    obtain ⟨h4, h⟩ := bb h
    obtain ⟨h5, h6⟩ := bb h
    have h4 := (Bool.not_eq_true' _).mp h4
    have h1 := of_decide_eq_true h1
    have h2 := of_decide_eq_true h2
    have h5 := of_decide_eq_true h5
    subst h1 h2 h3 h4 h5
    exact ⟨_, _, _, _, _, _, _, _, _, _, _, _, _, _, _, he, h6⟩
  · cases h
def xgB (K : PySem.W.Frag) (c f : Str) : Bool := oexB K (He.ga K c) && (decide (PySem.W.findIn K (.ref (He.ga K c)) "__setattr__" = some (some (.builtin "object.__setattr__"))) && (decide (PySem.W.subIn K (.ref (He.ga K c)) (.type "BaseException") = some true) && (decide (PySem.W.typeIn K (.ref (He.ga K c)) = some (.type "type")) && (PySem.W.keepIn K (.ref (He.ga K c)) &&
  (decide (PySem.W.findIn K (.ref (He.ga K c)) "__init__" = some (some (.ref (He.fAd K (c, some ("__init__" : Str)))))) && (PySem.W.isFn K (.ref (He.fAd K (c, some ("__init__" : Str)))) && (decide (PySem.W.findIn K (.ref (He.ga K c)) f = some none) && (xfB K (He.ga K c) && (decide (PySem.W.findIn K (.ref (He.ga K c)) "__class__" = some (some (.builtin "object.__class__"))) &&
  (decide (PySem.W.specialIn K (.builtin "object.__class__") "__get__" = some (some (.builtin "getset_descriptor.__get__"))) && (decide (PySem.W.takesIn K (.builtin "object.__class__") = some true) && (decide (PySem.W.mroIn K (He.ga K c) (.type "object") = some true) && He.Fa.ok K (.glo c)))))))))))))
def xsB (K : PySem.W.Frag) (q : Str × Str × Bool) : Bool := decide (PySem.W.exmOne K (.ref (He.ga K q.1)) (.ref (He.ga K q.2.1)) = some q.2.2) && decide (PySem.W.kitOne K (.ref (He.ga K q.1)) (.ref (He.ga K q.2.1)) = some q.2.2)
def xtB (K : PySem.W.Frag) (xt : XT) : Bool := (xt.fl.all fun q => xgB K q.1 q.2) && ((xt.sb.all fun q => xsB K q) && (xt.xc.all fun C => He.Fa.ok K (.glo C)))
/-! ### the look -/
abbrev AlK : Type := He.AlD × Bool × List (Option (List (Option (Key × Int))))
def obsK (fa : List He.Fa) (fn : List He.DefD) (cs : List (Str × Val)) (ts : List TabK) (xt : XT) (K : PySem.W.Frag) : AlK := (He.obsD fa fn K, ((cs.all fun c => conW K c.1 c.2) && (ts.all fun t => tabK K t)) && xtB K xt, ts.map fun t => dicK K (He.ga K t.1))
def valK (fn : List He.DefD) (ts : List TabK) (w : World) : AlK := (He.valD fn, true, ts.map fun t => some (keysK w.params (t.2.map (·.1))))
def SaysK (fa : List He.Fa) (fn : List He.DefD) (cs : List (Str × Val)) (ts : List TabK) (xt : XT) (w : World) (K : PySem.W.Frag) : Prop := obsK fa fn cs ts xt K = valK fn ts w
def obsKG (fa : List He.Fa) (fn : List He.DefD) (cs : List (Str × Val)) (ts : List TabK) (xt : XT) (g : Addr → Option Obj) : AlK := obsK fa fn cs ts xt (He.frG g (MH.addrs g))
def hookK (fa : List He.Fa) (fn : List He.DefD) (cs : List (Str × Val)) (ts : List TabK) (xt : XT) : PySem.W.Hook where
  α := AlK
  obs := fun s => obsKG fa fn cs ts xt s.heap.get?
  val := fun w => valK fn ts w
  says := fun w h => ∃ K : PySem.W.Frag, K.In h ∧ SaysK fa fn cs ts xt w K
  of := fun _ _ e => ⟨_, He.frG_in, e⟩
  keeps := fun _ _ _ ⟨K, hK, c⟩ k => ⟨K, PySem.W.Frag.In.keeps hK k, c⟩
theorem obsKG_eq {fa : List He.Fa} {fn : List He.DefD} {cs : List (Str × Val)} {ts : List TabK} {xt : XT} {g : Addr → Option Obj} {s : Shared} (h : ∀ a, g a = s.heap.get? a) : obsKG fa fn cs ts xt g = (hookK fa fn cs ts xt).obs s := by
  have e : g = s.heap.get? := funext h
  rw [e] <;> rfl
section
variable {fa : List He.Fa} {fn : List He.DefD} {cs : List (Str × Val)} {ts : List TabK} {xt : XT} {K : PySem.W.Frag} {w : World}
theorem SaysK.d (c : SaysK fa fn cs ts xt w K) : He.SaysD fa fn K := congrArg (fun z : AlK => z.1) c
theorem SaysK.b (c : SaysK fa fn cs ts xt w K) : (cs.all fun c => conW K c.1 c.2) = true ∧ (ts.all fun t => tabK K t) = true := bb (bb (congrArg (fun z : AlK => z.2.1) c)).1
theorem SaysK.x (c : SaysK fa fn cs ts xt w K) : xtB K xt = true := (bb (congrArg (fun z : AlK => z.2.1) c)).2
theorem SaysK.con (c : SaysK fa fn cs ts xt w K) {q : Str × Val} (h : q ∈ cs) : conW K q.1 q.2 = true := List.all_eq_true.mp c.b.1 q h
theorem SaysK.tab {P : Program} {h : Heap} {mg : Str → Option Value} (c : SaysK fa fn cs ts xt w K) (X : K.In h) (G : h.Ns mainGlobals mg) {t : TabK} (i : Nat) (hi : ts[i]? = some t) : ∃ ad f, mg t.1 = some (.ref ad) ∧ KTab P w K ad t.2 f := by
  have hb := List.all_eq_true.mp c.b.2 t (List.mem_of_getElem? hi)
  unfold tabK at hb
  obtain ⟨h1, h2⟩ := bb hb
  have e : ts.map (fun t => dicK K (He.ga K t.1)) = ts.map fun t => some (keysK w.params (t.2.map (·.1))) := congrArg (fun z : AlK => z.2.2) c
  have e2 : (ts.map fun t => dicK K (He.ga K t.1))[i]? = (ts.map fun t => some (keysK w.params (t.2.map (·.1))))[i]? := by rw [e]
  rw [List.getElem?_map, List.getElem?_map, hi] at e2
  have e3 : dicK K (He.ga K t.1) = some (keysK w.params (t.2.map (·.1))) := Option.some.inj e2
  unfold dicK at e3
  split at e3
  · rename_i c' es ep sl hl
    split at e3
    · rename_i hh
      rw [Bool.and_eq_true, Bool.and_eq_true, decide_eq_true_eq] at hh
      obtain ⟨rfl, hs, hm⟩ := hh
      rw [hl] at h1
      have h1 : relEs K t.2 es.toList = true := h1
      have hk := keysK_of (Option.some.inj e3)
      have hsl : sl = #[] := by simpa using hs
      subst hsl
      refine ⟨He.ga K t.1, fun k => findBy keyIs es k, He.glo_ok X G h2, ⟨by simpa using hm, fun h' hi' => ⟨_, es, ep, hi' _ _ hl, ⟨rfl, rfl, rfl⟩, rfl, fun e he => hk e (Array.mem_toList_iff.mpr he), fun k => rfl⟩, fun k d q => ?_, fun k q => ?_⟩⟩
      · obtain ⟨e, v, a, b, r⟩ := (relEs_find (P := P) (w := w) h1 k).1 d q
        refine ⟨e.val, v, ?_, b, r⟩
        show (es.find? fun e => keyIs k e.key).map (·.val) = _
        rw [← Array.find?_toList, a]; rfl
      · have a := (relEs_find (P := P) (w := w) h1 k).2 q
        show (es.find? fun e => keyIs k e.key).map (·.val) = _
        rw [← Array.find?_toList, a]; rfl
    · cases e3
  · cases e3
end
/-! ### programs -/
def Df.dd (d : Df) (s : Stmt) : He.DefD := ⟨d.at_, d.nm, d.qual, defArgs s, defBody s, defScope s, [], []⟩
def Pr.fn (pr : Pr) (ss : List Stmt) : List He.DefD := List.zipWith Df.dd pr.ds ss
def Df.fa (d : Df) : List He.Fa := match d.at_.2 with
  | none => [.glo d.nm]
  | some m => if m = "__init__" then [.meth d.at_.1 m] else [.cls d.at_.1, .meth d.at_.1 m]
def clFa (c : Str × List Str × Bool) : List He.Fa := [.glo c.1, .cls c.1] ++ c.2.1.map (He.Fa.noat c.1) ++ (if c.2.2 then [.mkr c.1] else [])
def Pr.fa (pr : Pr) : List He.Fa := pr.ds.flatMap Df.fa ++ (pr.fr.map He.Fa.free ++ pr.cl.flatMap clFa)
def Df.atB (d : Df) : Bool := match d.at_.2 with
  | none => decide (d.at_ = (d.nm, none))
  | some _ => true
def Pr.xB (pr : Pr) : Bool := pr.xt.fl.all fun q => pr.ds.any fun d => decide (d.at_ = (q.1, some ("__init__" : Str))) && (d.body.isX q.2 && decide (d.ps.length = 2))
def Pr.okB (pr : Pr) (ss : List Stmt) : Bool := decide (pr.ds.length = ss.length) && ((List.zipWith (Df.ok pr.tb) pr.ds ss).all id && (pr.ds.all Df.atB && pr.xB))
abbrev Pr.says (pr : Pr) (ss : List Stmt) (w : World) (K : PySem.W.Frag) : Prop := SaysK pr.fa (pr.fn ss) pr.cv pr.ct pr.xt w K
section
variable {pr : Pr} {ss : List Stmt} {K : PySem.W.Frag} {w : World} {P : Program} {base h : Heap} {mg : Str → Option Value}
theorem Pr.fact (c : pr.says ss w K) {f : He.Fa} (h : f ∈ pr.fa) : f.ok K = true := by
  obtain ⟨i, hi⟩ := List.mem_iff_getElem?.mp h
  exact c.d.fact i hi
theorem Pr.df (ok : pr.okB ss = true) (c : pr.says ss w K) (X : K.In h) (G : h.Ns mainGlobals mg) {d : Df} (i : Nat) (hi : pr.ds[i]? = some d) : DfF K mg pr.tb d ∧ d.atB = true := by
  unfold Pr.okB at ok
  obtain ⟨o1, ok⟩ := bb ok
  obtain ⟨o2, o3⟩ := bb ok
  have hl : i < ss.length := by rw [← dd o1]; exact (List.getElem?_eq_some_iff.mp hi).1
  have hs : ss[i]? = some ss[i] := List.getElem?_eq_getElem hl
  have hz : (pr.fn ss)[i]? = some (d.dd ss[i]) := by
    unfold Pr.fn
    rw [List.getElem?_zipWith, hi, hs]
  have ho : (List.zipWith (Df.ok pr.tb) pr.ds ss)[i]? = some (d.ok pr.tb ss[i]) := by
    rw [List.getElem?_zipWith, hi, hs]
  have hd : d.ok pr.tb ss[i] = true := List.all_eq_true.mp o2 _ (List.mem_of_getElem? ho)
  have hm := List.mem_of_getElem? hi
  have ha : d.atB = true := List.all_eq_true.mp (bb o3).1 d hm
  obtain ⟨fd, F⟩ := c.d.def_ i hz
  refine ⟨⟨⟨ss[i], fd, F, hd⟩, fun hn => ?_⟩, ha⟩
  have h2 : d.at_ = (d.nm, none) := by
    unfold Df.atB at ha
    rw [hn] at ha
    exact dd ha
  have hg : He.Fa.glo d.nm ∈ pr.fa := by
    unfold Pr.fa
    refine List.mem_append_left _ (List.mem_flatMap.mpr ⟨d, hm, ?_⟩)
    unfold Df.fa
    rw [hn]
    exact List.mem_singleton.mpr rfl
  rw [h2]
  exact He.glo_ok X G (Pr.fact c hg)
theorem Pr.clf (c : pr.says ss w K) (X : K.In h) (G : h.Ns mainGlobals mg) : ClF K mg pr := by
  have inc : ∀ {q : Str × List Str × Bool}, q ∈ pr.cl → ∀ f ∈ clFa q, f.ok K = true := fun {q} hq f hf => Pr.fact c (by
    unfold Pr.fa
    exact List.mem_append_right _ (List.mem_append_right _ (List.mem_flatMap.mpr ⟨q, hq, hf⟩)))
  refine ⟨fun C f hf => ?_, fun d hd C m ha hm => ?_, fun C hC => ?_⟩
  · unfold Pr.fo at hf
    obtain ⟨q, hq, h2⟩ := List.any_eq_true.mp hf
    obtain ⟨h3, h4⟩ := bb h2
    obtain rfl := dd h3
    refine ⟨He.cls_ok (inc hq _ (by simp [clFa])), He.noat_ok (inc hq _ ?_)⟩
    unfold clFa
    exact List.mem_append_left _ (List.mem_append_right _ (List.mem_map.mpr ⟨f, dd h4, rfl⟩))
  · have e : Df.fa d = [.cls C, .meth C m] := by
      unfold Df.fa
      rw [ha]
      exact if_neg hm
    have inc2 : ∀ f ∈ Df.fa d, f.ok K = true := fun f hf => Pr.fact c (by
      unfold Pr.fa
      exact List.mem_append_left _ (List.mem_flatMap.mpr ⟨d, hd, hf⟩))
    rw [e] at inc2
    refine ⟨He.cls_ok (inc2 _ (by simp)), ?_⟩
    rw [ha]
    exact He.meth_ok (inc2 _ (by simp))
  · unfold Pr.ml at hC
    obtain ⟨q, hq, rfl⟩ := List.mem_map.mp hC
    obtain ⟨hq1, hq2⟩ := List.mem_filter.mp hq
    obtain ⟨hq3, _⟩ := bb hq2
    refine ⟨He.glo_ok X G (inc hq1 _ (by simp [clFa])), fun d hd ha => ?_⟩
    rw [ha]
    refine He.mkr_ok (inc hq1 _ ?_)
    unfold clFa
    rw [hq3]
    exact List.mem_append_right _ (by simp)
theorem Pr.xcf (ok : pr.okB ss = true) (c : pr.says ss w K) (X : K.In h) (G : h.Ns mainGlobals mg) : XcF K mg pr := by
  have hx := c.x
  unfold xtB at hx
  obtain ⟨x1, hx⟩ := bb hx
  obtain ⟨x2, x3⟩ := bb hx
  refine ⟨fun C hC => He.glo_ok X G (List.all_eq_true.mp x3 C hC), fun C f hf => ?_, fun a C b hs => ?_⟩
  · unfold XT.has at hf
    obtain ⟨q, hq, hf⟩ := List.any_eq_true.mp hf
    obtain ⟨e1, e2⟩ := bb hf
    obtain rfl := dd e1
    obtain rfl := dd e2
    have hg := List.all_eq_true.mp x1 q hq
    unfold xgB at hg
    obtain ⟨g1, hg⟩ := bb hg
    obtain ⟨g2, hg⟩ := bb hg
    obtain ⟨g3, hg⟩ := bb hg
    obtain ⟨g4, hg⟩ := bb hg
    obtain ⟨g5, hg⟩ := bb hg
    obtain ⟨g6, hg⟩ := bb hg
    obtain ⟨g7, hg⟩ := bb hg
    obtain ⟨g8, hg⟩ := bb hg
    obtain ⟨g9, hg⟩ := bb hg
    obtain ⟨g10, hg⟩ := bb hg
    obtain ⟨g11, hg⟩ := bb hg
    obtain ⟨g12, hg⟩ := bb hg
    obtain ⟨g13, g14⟩ := bb hg
    unfold Pr.okB at ok
    obtain ⟨_, ok⟩ := bb ok
    obtain ⟨_, ok⟩ := bb ok
    obtain ⟨_, ok⟩ := bb ok
    unfold Pr.xB at ok
    obtain ⟨d, hd, h2⟩ := List.any_eq_true.mp (List.all_eq_true.mp ok q hq)
    obtain ⟨d1, h2⟩ := bb h2
    obtain ⟨d2, d3⟩ := bb h2
    have eat : d.at_ = (q.1, some ("__init__" : Str)) := of_decide_eq_true d1
    refine ⟨⟨oexB_ok g1, of_decide_eq_true g2, of_decide_eq_true g3, of_decide_eq_true g4, g5⟩, of_decide_eq_true g8, ⟨xfB_ok g9, of_decide_eq_true g8, of_decide_eq_true g10, of_decide_eq_true g11, of_decide_eq_true g12, of_decide_eq_true g13⟩, He.glo_ok X G g14, d, hd, d2, dd d3, ?_, ?_⟩
    · rw [eat]; exact of_decide_eq_true g6
    · rw [eat]
      unfold PySem.W.isFn at g7
      simpa using g7
  · unfold XT.sbf at hs
    obtain ⟨q, hq, rfl⟩ := Option.map_eq_some_iff.mp hs
    have hm := List.mem_of_find?_eq_some hq
    have hp := List.find?_some hq
    obtain ⟨e1, e2⟩ := bb hp
    obtain rfl := dd e1
    obtain rfl := dd e2
    obtain ⟨s1, s2⟩ := bb (show xsB K q = true from List.all_eq_true.mp x2 q hm)
    exact ⟨of_decide_eq_true s1, of_decide_eq_true s2⟩
theorem Pr.say (ok : pr.okB ss = true) (c : pr.says ss w K) (X : K.In h) (G : h.Ns mainGlobals mg) (k : Nat) : Say P w K mg base (2 * k) (pr.dn k) pr.tb := by
  refine prog (fun x hx => ?_) (fun j x hj => ?_) (fun j x hj => ?_) (fun d hd => ?_) (Pr.clf c X G) (Pr.xcf ok c X G) k
  · exact He.free_ok X G (Pr.fact c (by
      unfold Pr.fa
      exact List.mem_append_right _ (List.mem_append_left _ (List.mem_map.mpr ⟨x, hx, rfl⟩))))
  · have hj : (pr.cv.map (·.1))[j]? = some x := hj
    rw [List.getElem?_map] at hj
    obtain ⟨q, e, rfl⟩ := Option.map_eq_some_iff.mp hj
    have : pr.cv1 j = q.2 := by unfold Pr.cv1; rw [e]
    rw [this]
    exact con_ok X G (c.con (List.mem_of_getElem? e))
  · have hj : (pr.ct.map (·.1))[j]? = some x := hj
    rw [List.getElem?_map] at hj
    obtain ⟨q, e, rfl⟩ := Option.map_eq_some_iff.mp hj
    have : pr.ct1 j = q.2 := by unfold Pr.ct1; rw [e]
    rw [this]
    exact c.tab X G j e
  · obtain ⟨i, hi⟩ := List.mem_iff_getElem?.mp hd
    exact (Pr.df ok c X G i hi).1
/-- the law, the i-th def -/
theorem Pr.law (ok : pr.okB ss = true) (c : pr.says ss w K) (X : K.In h) (G : h.Ns mainGlobals mg) (k i : Nat) {d : Df} (hi : pr.ds[i]? = some d) {x : Str} (hp : d.ps = [x]) (hat : d.at_.2 = none) {fa : Addr} (hfa : mg d.nm = some (.ref fa)) :
    ∃ fd : FuncData, (∀ (s : Shared) (u : Value), BindsTo s fd ⟨[u], []⟩ [(x, u)]) ∧ ∀ base : Heap, FnOk P w K mg base (L2.CX P w) (2 * k + 2) fa fd [x] (spP K 1 (runP d.N.length (d.body.m (pr.dn k)))) := by
  obtain ⟨D, ha⟩ := Pr.df ok c X G i hi
  have hs : ∀ base : Heap, Say P w K mg base (2 * k) (pr.dn k) pr.tb := fun base => Pr.say ok c X G k
  obtain ⟨s, fd, F, dok⟩ := D.ex
  have e := hfa.symm.trans (D.gl hat)
  cases e
  unfold Df.ok at dok
  obtain ⟨dok, h3⟩ := bb dok
  obtain ⟨h1, h2⟩ := bb dok
  have S := scopeB_ok h2
  obtain ⟨as, ea, ep⟩ := argsB_ok h1
  have nd : d.ps.Nodup := by
    rw [← S.pre]
    exact List.Nodup.sublist (List.take_sublist _ _) S.nd
  refine ⟨fd, fun s' u => ?_, fun base => ?_⟩
  · have b := FunD.bindsA (ps := d.ps) F fun kV doc pm an cdv ct us hl => by
      rw [ea, ← ep]
      exact bind_all (by rw [ep]; exact nd) (by rw [ep]; exact hl)
    have := b s' [u] (by rw [hp]; rfl)
    rw [hp] at this
    exact this
  · have := fnP (P := P) (w := w) (mg := mg) (base := base) (k := 2 * k + 1) F S (mb := d.body.m (pr.dn k)) fun cdv A outer s' H E hr => Ss.sound (n := 2 * k) (p := pr.dn k) (k := ⟨pr.tb, defScope s, d.N, fun _ => true⟩) ⟨rfl, rfl, S.nd, rfl, fun _ _ => rfl, hs base, hr, takes_of rfl rfl rfl rfl⟩ (passes_of rfl) ⟨rfl, rfl⟩ d.body h3
    rw [hp] at this
    exact this
end
/-- the end -/
theorem law_end {l : PySem.W.OpenLaw} {q : Program} {loose : List Str} {XP : (Str → Option Value) → Heap → Prop} {dr : DefRec} {pr : Pr} {ss : List Stmt} {d : Df} {x : Str} (k i : Nat) (hn : l.most = some 63) (hdf : dr.params.defaults = []) (hr : Room (2 * k + 2) callerA) (ok : pr.okB ss = true) (hi : pr.ds[i]? = some d) (hp : d.ps = [x]) (hnm : dr.name = d.nm) (hat : d.at_.2 = none)
    (math : ∀ ns : List Int, ns.length ≤ 63 → (∀ z ∈ ns, Builtin.Int.intBits z ≤ 1048576) → runP d.N.length (d.body.m (pr.dn k)) [.fzl (ns.map Val.int)] = .ok (.bl true) []) :
    PySem.W.WalkO q loose XP (hookK pr.fa (pr.fn ss) pr.cv pr.ct pr.xt).says l.row.toRowW dr [] (fun f vs => PySem.call f vs) := by
  refine walk_ofW (l := l) (n := 63) (k := 2 * k + 2) (x := x) hn (by decide) hdf hr fun w mg fa h Y G hmg => ?_
  obtain ⟨K, KX, c⟩ := Y
  rw [hnm] at hmg
  obtain ⟨fd, hb, hF⟩ := Pr.law (P := l.prog) ok c KX G k i hi hp hat hmg
  exact ⟨K, fd, _, KX, hb, law_spB math, fun base _ _ => hF base⟩
end ML

-- Dv
set_option linter.all false
set_option maxRecDepth 100000
set_option maxHeartbeats 4000000
/-! Dv: how a mirror is worked out. -/
namespace ML
open PySem PySem.Spec PyProof.Rows L2
@[simp] theorem E_m_var {p : Dn} {i} : E.m p (.var i) = mVar i := rfl
@[simp] theorem E_m_c {p : Dn} {d} : E.m p (.c d) = mC d := rfl
@[simp] theorem E_m_gc {p : Dn} {j} : E.m p (.gc j) = mC (p.cv j) := rfl
@[simp] theorem E_m_tup {p : Dn} {es} : E.m p (.tup es) = mTup (es.m p) := rfl
@[simp] theorem E_m_lst {p : Dn} {es} : E.m p (.lst es) = mVal (nLst (es.m p)) := rfl
@[simp] theorem E_m_lstP {p : Dn} {es} : E.m p (.lstP es) = mPut (nLst (es.m p)) := rfl
@[simp] theorem E_m_op {p : Dn} {o} {a} {b} : E.m p (.op o a b) = mBin o.f (a.m p) (b.m p) := rfl
@[simp] theorem E_m_cmp {p : Dn} {o} {a} {b} : E.m p (.cmp o a b) = mBin o.f (a.m p) (b.m p) := rfl
@[simp] theorem E_m_chain {p : Dn} {o} {q} {a} {b} {c} : E.m p (.chain o q a b c) = mChain o.f q.f (a.m p) (b.m p) (c.m p) := rfl
@[simp] theorem E_m_not {p : Dn} {a} : E.m p (.not a) = mNotV (a.m p) := rfl
@[simp] theorem E_m_and {p : Dn} {a} {b} : E.m p (.and a b) = mAndV (a.m p) (b.m p) := rfl
@[simp] theorem E_m_or {p : Dn} {a} {b} : E.m p (.or a b) = mOrV (a.m p) (b.m p) := rfl
@[simp] theorem E_m_one {p : Dn} {a} : E.m p (.one a) = a.m p := rfl
@[simp] theorem E_m_ife {p : Dn} {t} {a} {b} : E.m p (.ife t a b) = mIfE (t.m p) (a.m p) (b.m p) := rfl
@[simp] theorem E_m_neg {p : Dn} {a} : E.m p (.neg a) = mNeg (a.m p) := rfl
@[simp] theorem E_m_ix {p : Dn} {a} {b} : E.m p (.ix a b) = mBin fIxA (a.m p) (b.m p) := rfl
@[simp] theorem E_m_tab {p : Dn} {j} {a} : E.m p (.tab j a) = mTabK (p.ct j) (a.m p) := rfl
@[simp] theorem E_m_tabIn {p : Dn} {j} {n} {a} : E.m p (.tabIn j n a) = mTabIn n (p.ct j) (a.m p) := rfl
@[simp] theorem E_m_tabGet {p : Dn} {j} {a} {b} : E.m p (.tabGet j a b) = mTabGet (p.ct j) (a.m p) (b.m p) := rfl
@[simp] theorem E_m_sl {p : Dn} {a} {lo} {hi} : E.m p (.sl a lo hi) = mSl (a.m p) (lo.m p) (hi.m p) := rfl
@[simp] theorem E_m_call {p : Dn} {i} {es} : E.m p (.call i es) = mCall (p.cf i) (es.m p) := rfl
@[simp] theorem E_m_bi {p : Dn} {b} {es} : E.m p (.bi b es) = mCall b.f (es.m p) := rfl
@[simp] theorem E_m_bn {p : Dn} {b} {es} : E.m p (.bn b es) = mVal (nCall b.f (es.m p)) := rfl
@[simp] theorem E_m_bnP {p : Dn} {b} {es} : E.m p (.bnP b es) = mPut (nCall b.f (es.m p)) := rfl
@[simp] theorem E_m_isI {p : Dn} {a} {t} : E.m p (.isI a t) = mIsI t (a.m p) := rfl
@[simp] theorem E_m_lc {p : Dn} {it} {g} {t} {e} {own} : E.m p (.lc it g t e own) = mVal (nLc (it.m p) g.m (t.m p) (e.m p) (own.map (·.2))) := rfl
@[simp] theorem E_m_lcP {p : Dn} {it} {g} {t} {e} {own} : E.m p (.lcP it g t e own) = mPut (nLc (it.m p) g.m (t.m p) (e.m p) (own.map (·.2))) := rfl
@[simp] theorem E_m_join {p : Dn} {a} {b} : E.m p (.join a b) = mJoin (a.m p) (b.m p) := rfl
@[simp] theorem E_m_app {p : Dn} {o} {a} : E.m p (.app o a) = mMeth fAppend (o.m p) (mCons (a.m p) mNil) := rfl
@[simp] theorem E_m_pop {p : Dn} {o} : E.m p (.pop o) = mMeth fPop (o.m p) mNil := rfl
@[simp] theorem E_m_ext {p : Dn} {o} {a} : E.m p (.ext o a) = mMeth fExtend (o.m p) (mCons (a.m p) mNil) := rfl
@[simp] theorem E_m_popk {p : Dn} {o} {a} : E.m p (.popk o a) = mMeth fPopAt (o.m p) (mCons (a.m p) mNil) := rfl
@[simp] theorem E_m_cnt {p : Dn} {o a} : E.m p (.cnt o a) = mMeth fCount (o.m p) (mCons (a.m p) mNil) := rfl
@[simp] theorem E_m_dkc {p : Dn} {i j own} : E.m p (.dkc i j own) = mVal (nDk i j) := rfl
@[simp] theorem E_m_sset {p : Dn} {a} : E.m p (.sset a) = mVal (nCall nSset (mCons (a.m p) mNil)) := rfl
@[simp] theorem E_m_lns {p : Dn} {a} : E.m p (.lns a) = mLns (a.m p) := rfl
@[simp] theorem E_m_maxD {p : Dn} {a} {d} : E.m p (.maxD a d) = mMaxD (a.m p) d := rfl
@[simp] theorem mMaxD_eq {m} {d : Int} {env : MEnv} {st : Store} : mMaxD m d env st = (m env st).bind fun v st => match listOf st v with
  | some ds => (match intsL ds with
    | some [] => .ok (.int d) st
    | some (n :: ns) => .ok (.int (maxL n ns)) st
    | none => .stuck)
  | none => .stuck := rfl
@[simp] theorem mLns_eq {m} {env : MEnv} {st : Store} : mLns m env st = (m env st).bind fun d st => nLns [d] st := rfl
@[simp] theorem E_m_tidx {p : Dn} {j} {a} : E.m p (.tidx j a) = mMethT fTIdx (mC (p.cv j)) (mCons (a.m p) mNil) := rfl
@[simp] theorem E_m_isI2 {p : Dn} {a} {t} {u} : E.m p (.isI2 a t u) = mIsI2 t u (a.m p) := rfl
@[simp] theorem E_m_lr1 {p : Dn} {a} : E.m p (.lr1 a) = mVal (nRg1 (a.m p)) := rfl
@[simp] theorem E_m_lr2 {p : Dn} {a} {b} : E.m p (.lr2 a b) = mVal (nRg2 (a.m p) (b.m p)) := rfl
@[simp] theorem E_m_lr1P {p : Dn} {a} : E.m p (.lr1P a) = mPut (nRg1 (a.m p)) := rfl
@[simp] theorem E_m_lr2P {p : Dn} {a} {b} : E.m p (.lr2P a b) = mPut (nRg2 (a.m p) (b.m p)) := rfl
@[simp] theorem U_m_n {p : Dn} {i} : U.m p (.n i) = uN i := rfl
@[simp] theorem U_m_f {p : Dn} {o} {f} : U.m p (.f o f) = uF p.fo f (o.m p) := rfl
@[simp] theorem U_m_s {p : Dn} {o} {i} : U.m p (.s o i) = uS (o.m p) (i.m p) := rfl
@[simp] theorem U_m_t {p : Dn} {us} : U.m p (.t us) = uT us.len (us.m p) := rfl
@[simp] theorem Us_m_nil {p : Dn} : Us.m p .nil = usNil := rfl
@[simp] theorem Us_m_cons {p : Dn} {u} {us} : Us.m p (.cons u us) = usCons (u.m p) (us.m p) := rfl
@[simp] theorem Us_len_nil : Us.len .nil = 0 := rfl
@[simp] theorem Us_len_cons {u us} : Us.len (.cons u us) = us.len + 1 := rfl
@[simp] theorem Sm_m_ugt {p : Dn} {u} {e} : Sm.m p (.ugt u e) = sUgt (u.m p) (e.m p) := rfl
@[simp] theorem Sm_m_aug {p : Dn} {i} {s} {e} : Sm.m p (.aug i s e) = sAug i (augI s) (e.m p) := rfl
@[simp] theorem Sm_m_augF {p : Dn} {o} {f} {s} {e} : Sm.m p (.augF o f s e) = sAugF p.fo f (augI s) (o.m p) (e.m p) := rfl
@[simp] theorem augI_add {i j : Int} : augI false i j = i + j := rfl
@[simp] theorem augI_sub {i j : Int} : augI true i j = i - j := rfl
@[simp] theorem E_m_dctP {p : Dn} {ks} : E.m p (.dctP ks) = mDctP (ks.m p) := rfl
@[simp] theorem E_m_dct {p : Dn} {ks} : E.m p (.dct ks) = mDct (ks.m p) := rfl
@[simp] theorem E_m_dct0 {p : Dn}  : E.m p (.dct0 ) = mDct0 := rfl
@[simp] theorem E_m_inD {p : Dn} {n} {a} {b} : E.m p (.inD n a b) = mBin (fInD n) (a.m p) (b.m p) := rfl
@[simp] theorem E_m_slP {p : Dn} {a} {lo hi} : E.m p (.slP a lo hi) = mPut (nSl (a.m p) (lo.m p) (hi.m p)) := rfl
@[simp] theorem E_m_mulP {p : Dn} {a} {b} : E.m p (.mulP a b) = mPut (nMul (a.m p) (b.m p)) := rfl
@[simp] theorem E_m_ixT {p : Dn} {a} {es} : E.m p (.ixT a es) = mIxT (a.m p) (es.m p) := rfl
@[simp] theorem E_m_callV {p : Dn} {i} {es} : E.m p (.callV i es) = mCallV p.nf p.cf (mVar i) (es.m p) := rfl
@[simp] theorem mCallV_eq {nf cf mv ms} {env : MEnv} {st : Store} : mCallV nf cf mv ms env st = (mv env st).bind fun v st => match v with
  | .fn y => (match nf y with
    | some j => (ms env st).bind fun ds st => cf j ds st
    | none => .stuck)
  | _ => .stuck := rfl
@[simp] theorem E_m_dt0 {p : Dn} : E.m p .dt0 = mDt0 := rfl
@[simp] theorem Sm_m_putT {p : Dn} {o} {es} {v} : Sm.m p (.putT o es v) = sPutT (o.m p) (es.m p) (v.m p) := rfl
@[simp] theorem mDt0_eq {env : MEnv} {st : Store} : mDt0 env st = .ok (.ref st.length) (st ++ [.dt []]) := rfl
@[simp] theorem mIxT_eq {mo ms} {env : MEnv} {st : Store} : mIxT mo ms env st = (mo env st).bind fun d st => (ms env st).bind fun ds st => match dtOf st d, keysOf ds with
  | some kvs, some k => if ds.length ≤ line then (match lookU kvs k with
    | some v => .ok v st
    | none => .stuck) else .stuck
  | _, _ => .stuck := rfl
@[simp] theorem sPutT_eq {mo ms mv} {env : MEnv} {st : Store} : sPutT mo ms mv env st = (mv env st).bindS env fun d st => (mo env st).bindS env fun o st => (ms env st).bindS env fun ds st => match refOf o, dtOf st o, keysOf ds with
  | some n, some kvs, some k => if kvs.length < line ∧ ds.length ≤ line then .nx env (st.set n (.dt (putU kvs k d))) else .stuck
  | _, _, _ => .stuck := rfl
@[simp] theorem E_m_catP {p : Dn} {a} {b} : E.m p (.catP a b) = mPut (nCat (a.m p) (b.m p)) := rfl
@[simp] theorem E_m_fld {p : Dn} {a} {f} : E.m p (.fld a f) = mFld p.fo f (a.m p) := rfl
@[simp] theorem E_m_meth {p : Dn} {m} {o} {es} : E.m p (.meth m o es) = mMethC p.mf p.cf m (o.m p) (es.m p) := rfl
@[simp] theorem E_m_make {p : Dn} {C} {es} : E.m p (.make C es) = mMake ((p.mf C "__init__").map p.cf) C (es.m p) := rfl
@[simp] theorem Sm_m_raise {p : Dn} {C f e} : Sm.m p (.raise C f e) = sRaiseG p.xt C f (e.m p) := rfl
@[simp] theorem Sm_m_try {p : Dn} {b C i h} : Sm.m p (.try_ b C i h) = sTry p.xt.sbf C i (b.m p) (fun c fs env => h.val p.xt c fs env) := rfl
@[simp] theorem sRaise_eq {C f : Str} {m} {env : MEnv} {st : Store} : sRaise C f m env st = (m env st).bindS env fun d st => .exc C (some [(f, d)]) env st := rfl
@[simp] theorem HO_rt {env : MEnv} {st : Store} {v} : HO.s env st (.rt v) = .rt v st := rfl
@[simp] theorem HO_nx {env : MEnv} {st : Store} : HO.s env st .nx = .nx env st := rfl
@[simp] theorem HO_ct {env : MEnv} {st : Store} : HO.s env st .ct = .ct env st := rfl
section
variable {x : XT} {c f : Str} {fs : Option (List (Str × Val))} {env : MEnv} {d : Val} {j : Nat} {a b : Hx} {r : Hb}
@[simp] theorem Hx_c : Hx.val x c fs env (.c d) = some d := rfl
@[simp] theorem Hx_var : Hx.val x c fs env (.var j) = match env[j]? with
  | some (some v) => some v
  | _ => none := rfl
@[simp] theorem Hx_fld : Hx.val x c fs env (.fld f) = match fs, x.has c f with
  | some l, true => fget l f
  | _, _ => none := rfl
@[simp] theorem Hx_isI : Hx.val x c fs env (.isI f) = match fs, x.sbf c f, x.fd c with
  | some _, some b, true => some (.bl b)
  | _, _, _ => none := rfl
@[simp] theorem Hx_not : Hx.val x c fs env (.not a) = match a.val x c fs env with
  | some (.bl b) => some (.bl (!b))
  | _ => none := rfl
@[simp] theorem Hx_and : Hx.val x c fs env (.and a b) = match a.val x c fs env with
  | some (.bl true) => b.val x c fs env
  | some (.bl false) => some (.bl false)
  | _ => none := rfl
@[simp] theorem Hx_or : Hx.val x c fs env (.or a b) = match a.val x c fs env with
  | some (.bl true) => some (.bl true)
  | some (.bl false) => b.val x c fs env
  | _ => none := rfl
@[simp] theorem Hx_one : Hx.val x c fs env (.one a) = a.val x c fs env := rfl
@[simp] theorem Hx_eq : Hx.val x c fs env (.eq a b) = match a.val x c fs env, b.val x c fs env with
  | some (.str x), some (.str y) => if PyData.strOk x && PyData.strOk y then some (.bl (x == y)) else none
  | some (.int x), some (.int y) => some (.bl (decide (x = y)))
  | _, _ => none := rfl
@[simp] theorem Hx_lt : Hx.val x c fs env (.lt a b) = match a.val x c fs env, b.val x c fs env with
  | some (.int x), some (.int y) => some (.bl (decide (x < y)))
  | _, _ => none := rfl
@[simp] theorem Hx_ife {t : Hx} : Hx.val x c fs env (.ife t a b) = match t.val x c fs env with
    | some (.bl true) => a.val x c fs env
    | some (.bl false) => b.val x c fs env
    | _ => none := rfl
@[simp] theorem Hb_set {j : Nat} : Hb.val x c fs (.set j a r) env = match a.val x c fs env with
    | some v => (match r.val x c fs (env.set j (some v)) with
      | some (.rt w) => some (.rt w)
      | _ => none)
    | none => none := rfl
@[simp] theorem Hb_ret : Hb.val x c fs (.ret a) env = (a.val x c fs env).map .rt := rfl
@[simp] theorem Hb_ifr : Hb.val x c fs (.ifr a b r) env = match a.val x c fs env with
  | some (.bl true) => (b.val x c fs env).map .rt
  | some (.bl false) => r.val x c fs env
  | _ => none := rfl
@[simp] theorem Hb_pas : Hb.val x c fs .pas env = some .nx := rfl
@[simp] theorem Hb_cnt : Hb.val x c fs .cnt env = some .ct := rfl
end
@[simp] theorem sTry_eq {sb C i mb hm} {env : MEnv} {st : Store} : sTry sb C i mb hm env st = match mb env st with
  | .exc c fs env1 st1 => (match sb c C with
    | some true => (match decide (i < env1.length), hm c fs (env1.set i none) with
      | true, some o => o.s (env1.set i none) st1
      | _, _ => .stuck)
    | some false => .exc c fs env1 st1
    | none => .stuck)
  | r => r := rfl
@[simp] theorem Sm_m_fset {p : Dn} {o} {f} {v} : Sm.m p (.fset o f v) = sFset p.fo f (o.m p) (v.m p) := rfl
@[simp] theorem Es_m_nil {p : Dn}  : Es.m p (.nil ) = mNil := rfl
@[simp] theorem Es_m_cons {p : Dn} {e} {es} : Es.m p (.cons e es) = mCons (e.m p) (es.m p) := rfl
@[simp] theorem Ks_m_nil {p : Dn}  : Ks.m p (.nil ) = mPs0 := rfl
@[simp] theorem Ks_m_cons {p : Dn} {k} {v} {ks} : Ks.m p (.cons k v ks) = mPs1 (k.m p) (v.m p) (ks.m p) := rfl
@[simp] theorem T_m_yes {p : Dn}  : T.m p (.yes ) = tYesM := rfl
@[simp] theorem T_m_cmp {p : Dn} {o} {a} {b} : T.m p (.cmp o a b) = mTest (mBin o.f (a.m p) (b.m p)) := rfl
@[simp] theorem T_m_chain {p : Dn} {o} {q} {a} {b} {c} : T.m p (.chain o q a b c) = mTest (mChain o.f q.f (a.m p) (b.m p) (c.m p)) := rfl
@[simp] theorem T_m_and {p : Dn} {a} {b} : T.m p (.and a b) = mAndT (a.m p) (b.m p) := rfl
@[simp] theorem T_m_or {p : Dn} {a} {b} : T.m p (.or a b) = mOrT (a.m p) (b.m p) := rfl
@[simp] theorem T_m_one {p : Dn} {a} : T.m p (.one a) = a.m p := rfl
@[simp] theorem T_m_not {p : Dn} {a} : T.m p (.not a) = mNotT (a.m p) := rfl
@[simp] theorem T_m_tru {p : Dn} {e} : T.m p (.tru e) = mTru (e.m p) := rfl
@[simp] theorem T_m_inD {p : Dn} {n} {a} {b} : T.m p (.inD n a b) = mTest (mBin (fInD n) (a.m p) (b.m p)) := rfl
@[simp] theorem T_m_tabIn {p : Dn} {j} {n} {a} : T.m p (.tabIn j n a) = mTest (mTabIn n (p.ct j) (a.m p)) := rfl
@[simp] theorem I_m_any {p : Dn} {e} : I.m p (.any e) = mSrc (e.m p) := rfl
@[simp] theorem I_m_r1 {p : Dn} {e} : I.m p (.r1 e) = mIt kR1 (mCons (e.m p) mNil) := rfl
@[simp] theorem I_m_r2 {p : Dn} {a} {b} : I.m p (.r2 a b) = mIt kR2 (mCons (a.m p) (mCons (b.m p) mNil)) := rfl
@[simp] theorem I_m_en {p : Dn} {e} : I.m p (.en e) = mIt kEn (mCons (e.m p) mNil) := rfl
@[simp] theorem O_m_non {p : Dn}  : O.m p (.non ) = mNoPart := rfl
@[simp] theorem O_m_som {p : Dn} {e} : O.m p (.som e) = mPart (e.m p) := rfl
@[simp] theorem Sm_m_pass {p : Dn}  : Sm.m p (.pass ) = sPass := rfl
@[simp] theorem Sm_m_set {p : Dn} {i} {e} : Sm.m p (.set i e) = sSet i (e.m p) := rfl
@[simp] theorem Sm_m_tgt {p : Dn} {g} {e} : Sm.m p (.tgt g e) = sTgt g.m (e.m p) := rfl
@[simp] theorem Sm_m_expr {p : Dn} {e} : Sm.m p (.expr e) = sDrop (e.m p) := rfl
@[simp] theorem Sm_m_ret {p : Dn} {e} : Sm.m p (.ret e) = sRet (e.m p) := rfl
@[simp] theorem Sm_m_retN {p : Dn}  : Sm.m p (.retN ) = sRetN := rfl
@[simp] theorem Sm_m_ife {p : Dn} {t} {a} {b} : Sm.m p (.ife t a b) = sIf (t.m p) (a.m p) (b.m p) := rfl
@[simp] theorem Sm_m_brk {p : Dn}  : Sm.m p (.brk ) = sBrk := rfl
@[simp] theorem Sm_m_cnt {p : Dn}  : Sm.m p (.cnt ) = sCnt := rfl
@[simp] theorem Sm_m_for_ {p : Dn} {it} {g} {b} : Sm.m p (.for_ it g b) = sFor (it.m p) g.m (b.m p) := rfl
@[simp] theorem Sm_m_while_ {p : Dn} {n} {t} {b} : Sm.m p (.while_ n t b) = sWhile n (t.m p) (b.m p) := rfl
@[simp] theorem Sm_m_put {p : Dn} {o} {k} {v} : Sm.m p (.put o k v) = sPut (o.m p) (k.m p) (v.m p) := rfl
@[simp] theorem Ss_m_nil {p : Dn}  : Ss.m p (.nil ) = sPass := rfl
@[simp] theorem Ss_m_cons {p : Dn} {s} {r} : Ss.m p (.cons s r) = sSeq (s.m p) (r.m p) := rfl
section
variable {p : Dn} {env : MEnv} {st : Store} {i n : Nat} {d e : Val}
@[simp] theorem G_m_n : G.m (.n i) = gN i := rfl
@[simp] theorem G_m_t {gs} : G.m (.t gs) = gT gs.len gs.m := rfl
@[simp] theorem Gs_m_nil : Gs.m .nil = gsNil := rfl
@[simp] theorem Gs_m_cons {g gs} : Gs.m (.cons g gs) = gsCons g.m gs.m := rfl
@[simp] theorem Gs_len_nil : Gs.len .nil = 0 := rfl
@[simp] theorem Gs_len_cons {g gs} : Gs.len (.cons g gs) = gs.len + 1 := rfl
/-! ### outcomes -/
def S.go (r : S) (n : MM) : S := match r with
  | .nx e s => n e s
  | r => r
theorem sSeq_go {m n : MM} : sSeq m n env st = (m env st).go n := rfl
@[simp] theorem go_nx {e : MEnv} {s : Store} {n : MM} : (S.nx e s).go n = n e s := rfl
@[simp] theorem go_rt {e : Val} {s : Store} {n : MM} : (S.rt e s).go n = .rt e s := rfl
@[simp] theorem go_bk {e : MEnv} {s : Store} {n : MM} : (S.bk e s).go n = .bk e s := rfl
@[simp] theorem go_ct {e : MEnv} {s : Store} {n : MM} : (S.ct e s).go n = .ct e s := rfl
@[simp] theorem go_exc {c f} {e : MEnv} {s : Store} {n : MM} : (S.exc c f e s).go n = .exc c f e s := rfl
@[simp] theorem go_stuck {n : MM} : (S.stuck).go n = .stuck := rfl
@[simp] theorem sSeq_eq {m n : MM} : sSeq m n env st = (m env st).go n := rfl
@[simp] theorem sPass_eq : sPass env st = .nx env st := rfl
@[simp] theorem sSet_eq {m} : sSet i m env st = (m env st).bindS env fun d st => .nx (env.set i (some d)) st := rfl
@[simp] theorem sDrop_eq {m} : sDrop m env st = (m env st).bindS env fun _ st => .nx env st := rfl
@[simp] theorem sRet_eq {m} : sRet m env st = (m env st).bindS env fun d st => .rt d st := rfl
@[simp] theorem sRetN_eq : sRetN env st = .rt .non st := rfl
@[simp] theorem sIf_eq {c m n} : sIf c m n env st = (c env st).bindS env fun k st => if k = true then m env st else n env st := rfl
@[simp] theorem sTgt_eq {g m} : sTgt g m env st = (m env st).bindS env fun d st => match g d env with
  | some env' => .nx env' st
  | none => .stuck := rfl
@[simp] theorem sPut_eq {mo mk mv} : sPut mo mk mv env st = (mv env st).bindS env fun d st => (mo env st).bindS env fun o st => (mk env st).bindS env fun k st => match setM o k d st with
  | some st => .nx env st
  | none => .stuck := rfl
@[simp] theorem sFor_eq {mi g b} : sFor mi g b env st = (mi env st).bindS env fun s st => runSrc g b s env st := rfl
@[simp] theorem runSrc_v {g b ds} : runSrc g b (.vals ds) env st = loopV g b ds env st := rfl
@[simp] theorem runSrc_l {g b n len} : runSrc g b (.live n len) env st = loopL g b n len 0 env st := rfl
@[simp] theorem runSrc_e {g b n len} : runSrc g b (.liveE n len) env st = loopE g b n len 0 env st := rfl
theorem sWhile_eq {f c b} : sWhile f c b env st = loopW c b f env st := rfl
/-! ### expressions -/
theorem mVar_eq : mVar i env st = (match env[i]? with
  | some (some d) => .ok d st
  | _ => .stuck) := rfl
@[simp] theorem mVar_0 {r : MEnv} : mVar 0 (some d :: r) st = .ok d st := rfl
@[simp] theorem mVar_s {a : Option Val} {r : MEnv} : mVar (i + 1) (a :: r) st = mVar i r st := by
  unfold mVar
  rw [List.getElem?_cons_succ]
@[simp] theorem mC_eq : mC d env st = .ok d st := rfl
@[simp] theorem mNil_eq : mNil env st = .ok [] st := rfl
@[simp] theorem mCons_eq {m ms} : mCons m ms env st = (m env st).bind fun d st => (ms env st).bind fun ds st => .ok (d :: ds) st := rfl
@[simp] theorem mTup_eq {ms} : mTup ms env st = (ms env st).bind kTupD := rfl
@[simp] theorem mVal_eq {m} : mVal m env st = (m env st).bind fun ds st => .ok (.lst ds) st := rfl
@[simp] theorem mPut_eq {m} : mPut m env st = (m env st).bind fun ds st => .ok (.ref st.length) (st ++ [.lst ds]) := rfl
@[simp] theorem nLst_eq {ms} : nLst ms env st = (ms env st).bind fun ds st => if ds.length ≤ line then .ok ds st else .stuck := rfl
@[simp] theorem mBin_eq {f ma mb} : mBin f ma mb env st = (ma env st).bind fun a st => (mb env st).bind fun b st => f a b st := rfl
@[simp] theorem mCall_eq {f ms} : mCall f ms env st = (ms env st).bind f := rfl
@[simp] theorem nCall_eq {f ms} : nCall f ms env st = (ms env st).bind f := rfl
@[simp] theorem mTest_eq {m} : mTest m env st = (m env st).bind (kB fun b st => .ok b st) := rfl
@[simp] theorem mTru_eq {m} : mTru m env st = (m env st).bind kTru := rfl
@[simp] theorem kB_bl {α : Type} {k : Bool → Store → R α} {b : Bool} : kB k (.bl b) st = k b st := rfl
@[simp] theorem mChain_eq {f g ma mb mc} : mChain f g ma mb mc env st = (ma env st).bind fun a st => (mb env st).bind fun b st => (f a b st).bind (kB fun k st =>
  if k = true then (mc env st).bind fun c st => g b c st else .ok (.bl false) st) := rfl
@[simp] theorem mNotT_eq {m} : mNotT m env st = (m env st).bind fun b st => .ok (!b) st := rfl
@[simp] theorem mAndT_eq {m n} : mAndT m n env st = (m env st).bind fun b st => if b = true then n env st else .ok false st := rfl
@[simp] theorem mOrT_eq {m n} : mOrT m n env st = (m env st).bind fun b st => if b = true then .ok true st else n env st := rfl
@[simp] theorem tYesM_eq : tYesM env st = .ok true st := rfl
@[simp] theorem mNotV_eq {m} : mNotV m env st = (m env st).bind fun d st => match truM st d with
  | some k => .ok (.bl (!k)) st
  | none => .stuck := rfl
@[simp] theorem mAndV_eq {m n} : mAndV m n env st = (m env st).bind fun d st => match truM st d with
  | some true => n env st
  | some false => .ok d st
  | none => .stuck := rfl
@[simp] theorem mOrV_eq {m n} : mOrV m n env st = (m env st).bind fun d st => match truM st d with
  | some true => .ok d st
  | some false => n env st
  | none => .stuck := rfl
@[simp] theorem mIfE_eq {n ma mb} : mIfE n ma mb env st = (n env st).bind fun k st => if k = true then ma env st else mb env st := rfl
@[simp] theorem mNeg_eq {m} : mNeg m env st = (m env st).bind fun d st => match intOf d with
  | some i => .ok (.int (-i)) st
  | none => .stuck := rfl
@[simp] theorem mSl_eq {m ml mh} : mSl m ml mh env st = (m env st).bind fun d st => (ml env st).bind fun lo st => (mh env st).bind fun hi st => kSl d lo hi st := rfl
@[simp] theorem mNoPart_eq : mNoPart env st = .ok none st := rfl
@[simp] theorem mPart_eq {m} : mPart m env st = (m env st).bind fun d st => match intOf d with
  | some i => .ok (some i) st
  | none => .stuck := rfl
@[simp] theorem mSrc_eq {m} : mSrc m env st = (m env st).bind kSrc := rfl
@[simp] theorem mIt_eq {k ms} : mIt k ms env st = (ms env st).bind k := rfl
@[simp] theorem nLc_eq {mi g tt te vs} : nLc mi g tt te vs env st = (mi env st).bind (compS g tt te (wipeM env vs)) := rfl
@[simp] theorem compS_v {g tt te ds} : compS g tt te env (.vals ds) st = if ds.length ≤ line then compV g tt te env ds st else .stuck := rfl
@[simp] theorem compS_l {g tt te n len} : compS g tt te env (.live n len) st = if len ≤ line then compL g tt te env n len 0 st else .stuck := rfl
@[simp] theorem mJoin_eq {mo me} : mJoin mo me env st = (mo env st).bind fun d st => match strOf d with
  | some x => (me env st).bind fun e st => (match seqOf st e with
    | some ds => (match strsL ds with
      | some ys => if (ys.map (·.length)).sum + ys.length * x.length ≤ line then .ok (.str (Txt.join x ys)) st else .stuck
      | none => .stuck)
    | none => .stuck)
  | none => .stuck := rfl
@[simp] theorem mMeth_eq {f mo ms} : mMeth f mo ms env st = (mo env st).bind fun d st => match listOf st d with
  | some _ => (ms env st).bind fun ds st => f d ds st
  | none => .stuck := rfl
@[simp] theorem nRg2_eq {ma mb} : nRg2 ma mb env st = (ma env st).bind fun d st => (mb env st).bind fun e st => match intOf d, intOf e with
  | some i, some j => if rgB i j = true then .ok (rngL i (j - i).toNat) st else .stuck
  | _, _ => .stuck := rfl
@[simp] theorem nRg1_eq {ma} : nRg1 ma env st = (ma env st).bind fun d st => match intOf d with
  | some j => if rgB 0 j = true then .ok (rngL 0 (j - 0).toNat) st else .stuck
  | _ => .stuck := rfl
@[simp] theorem mMethT_eq {f mo ms} : mMethT f mo ms env st = (mo env st).bind fun d st => match tupOf d with
  | some _ => (ms env st).bind fun ds st => f d ds st
  | none => .stuck := rfl
@[simp] theorem mIsI2_eq {t u m} : mIsI2 t u m env st = (m env st).bind fun d st => match tyM st d with
  | some a => (match isT a t, isT a u with
    | some b, some c => .ok (.bl (b || c)) st
    | _, _ => .stuck)
  | none => .stuck := rfl
@[simp] theorem uN_eq : uN i d env st = .ok (env.set i (some d)) st := rfl
@[simp] theorem uF_eq {fo f mo} : uF fo f mo d env st = (mo env st).bind fun o st => match insOf st o, refOf o with
  | some (C, fs), some n => if fo C f = true ∧ fs.length < 1000 then .ok env (st.set n (.ins C (fput f d fs))) else .stuck
  | _, _ => .stuck := rfl
@[simp] theorem uS_eq {mo mk} : uS mo mk d env st = (mo env st).bind fun o st => (mk env st).bind fun k st => match setM o k d st with
  | some st => .ok env st
  | none => .stuck := rfl
@[simp] theorem usNil_eq : usNil [] env st = .ok env st := rfl
@[simp] theorem usCons_eq {g gs} {r : List Val} : usCons g gs (d :: r) env st = (g d env st).bind fun env st => gs r env st := rfl
@[simp] theorem uT_eq {gs} {ds : List Val} : uT n gs (.tup ds) env st = if ds.length = n then gs ds env st else .stuck := rfl
@[simp] theorem sUgt_eq {g m} : sUgt g m env st = (m env st).bindS env fun d st => match g d env st with
  | .ok env' st => .nx env' st
  | _ => .stuck := rfl
@[simp] theorem sAug_eq {f m} : sAug i f m env st = match env[i]? with
  | some (some (.int a)) => (m env st).bindS env fun d st => (match intOf d with
    | some b => .nx (env.set i (some (.int (f a b)))) st
    | none => .stuck)
  | _ => .stuck := rfl
@[simp] theorem sAugF_eq {fo nm f mo mv} : sAugF fo nm f mo mv env st = (mo env st).bindS env fun o st => match insOf st o with
  | some (C, fs) => if fo C nm = true then (match fget fs nm with
    | some (.int a) => (mv env st).bindS env fun d st => (match intOf d, insOf st o, refOf o with
      | some b, some (C2, fs2), some j => if C2 = C ∧ fs2.length < 1000 then .nx env (st.set j (.ins C (fput nm (.int (f a b)) fs2))) else .stuck
      | _, _, _ => .stuck)
    | _ => .stuck) else .stuck
  | none => .stuck := rfl
@[simp] theorem mTabK_eq {tab m} : mTabK tab m env st = (m env st).bind fun d st => match keyOf d with
  | some k => (match lookM tab k with
    | some d => .ok d st
    | none => .stuck)
  | none => .stuck := rfl
@[simp] theorem mTabIn_eq {neg tab m} : mTabIn neg tab m env st = (m env st).bind fun d st => match keyOf d with
  | some k => .ok (.bl (if neg then !(lookM tab k).isSome else (lookM tab k).isSome)) st
  | none => .stuck := rfl
@[simp] theorem mTabGet_eq {tab m n} : mTabGet tab m n env st = (m env st).bind fun d st => (n env st).bind fun z st => match keyOf d with
  | some k => (match lookM tab k with
    | some d => .ok d st
    | none => .ok z st)
  | none => .stuck := rfl
@[simp] theorem mIsI_eq {t m} : mIsI t m env st = (m env st).bind fun d st => match tyM st d with
  | some a => (match isT a t with
    | some b => .ok (.bl b) st
    | none => .stuck)
  | none => .stuck := rfl
@[simp] theorem mDct0_eq : mDct0 env st = .ok (.ref st.length) (st ++ [.dct []]) := rfl
@[simp] theorem mDctP_eq {m} : mDctP m env st = (noX (m env st)).bind fun kvs st => if kvs.length ≤ 15 then .ok (.ref st.length) (st ++ [.dct (mergeM kvs)]) else .stuck := rfl
@[simp] theorem mDct_eq {m} : mDct m env st = (noX (m env st)).bind fun kvs st => if kvs.length ≤ 15 then .ok (.dct (mergeM kvs)) st else .stuck := rfl
@[simp] theorem mPs0_eq : mPs0 env st = .ok [] st := rfl
@[simp] theorem mPs1_eq {mk mv mr} : mPs1 mk mv mr env st = (mk env st).bind fun k st => (mv env st).bind fun v st => (mr env st).bind fun r st => match keyOf k with
  | some k => .ok ((k, v) :: r) st
  | none => .stuck := rfl
@[simp] theorem kTupD_eq {ds : List Val} : kTupD ds st = if ds.length ≤ line then .ok (.tup ds) st else .stuck := rfl
def insAt (st : Store) (n : Nat) : Option (Str × List (Str × Val)) := match st[n]? with
  | some (.ins C fs) => some (C, fs)
  | _ => none
@[simp] theorem insOf_ref {n : Nat} : insOf st (.ref n) = insAt st n := rfl
@[simp] theorem insAt_0 {C : Str} {fs : List (Str × Val)} {r : Store} : insAt (.ins C fs :: r) 0 = some (C, fs) := rfl
@[simp] theorem insAt_s {o : MObj} {r : Store} {n : Nat} : insAt (o :: r) (n + 1) = insAt r n := by
  unfold insAt
  rw [List.getElem?_cons_succ]
@[simp] theorem mFld_eq {fo f m} : mFld fo f m env st = (m env st).bind fun d st => match insOf st d with
  | some (C, fs) => if fo C f = true then (match fget fs f with
    | some v => .ok v st
    | none => .stuck) else .stuck
  | none => .stuck := rfl
@[simp] theorem sFset_eq {fo f mo mv} : sFset fo f mo mv env st = (mv env st).bindS env fun d st => (mo env st).bindS env fun o st => match insOf st o, refOf o with
  | some (C, fs), some n => if fo C f = true ∧ fs.length < 1000 then .nx env (st.set n (.ins C (fput f d fs))) else .stuck
  | _, _ => .stuck := rfl
@[simp] theorem mMethC_eq {mf cf m mo ms} : mMethC mf cf m mo ms env st = match mo env st with
  | .ok d st1 => (match insOf st1 d with
    | some (C, fs) => (match mf C m, fget fs m with
      | some i, none => (ms env st1).bind fun ds st2 => cf i (d :: ds) st2
      | _, _ => .stuck)
    | none => .stuck)
  | _ => .stuck := rfl
@[simp] theorem mMake_eq {f : FN} {C ms} : mMake (some f) C ms env st = (ms env st).bind fun ds st => (f (.ref st.length :: ds) (st ++ [.ins C []])).bind fun v st' => (match v with
    | .non => .ok (.ref st.length) st'
    | _ => .stuck) := rfl
@[simp] theorem nSl_eq {m ml mh} : nSl m ml mh env st = (m env st).bind fun d st => (ml env st).bind fun lo st => (mh env st).bind fun hi st => match listOf st d with
  | some ds => .ok (cutM ds lo hi) st
  | none => .stuck := rfl
@[simp] theorem nMul_eq {ma mb} : nMul ma mb env st = (ma env st).bind fun d st => (mb env st).bind fun e st => match listT st d, intOf e with
  | some x, some k => if k < 2 ^ 20 ∧ -(2 ^ 20) < k ∧ x.length * k.toNat ≤ line then .ok (repM k x) st else .stuck
  | _, _ => .stuck := rfl
@[simp] theorem nCat_eq {ma mb} : nCat ma mb env st = (ma env st).bind fun d st => (mb env st).bind fun e st => match listT st d, listT st e with
  | some x, some y => if x.length + y.length ≤ line then .ok (x ++ y) st else .stuck
  | _, _ => .stuck := rfl
/-! ### values -/
@[simp] theorem intOf_int {a : Int} : intOf (.int a) = some a := rfl
@[simp] theorem intOf_str {a : Str} : intOf (.str a) = none := rfl
@[simp] theorem intOf_tup {a : List Val} : intOf (.tup a) = none := rfl
@[simp] theorem intOf_lst {a : List Val} : intOf (.lst a) = none := rfl
@[simp] theorem intOf_non : intOf .non = none := rfl
@[simp] theorem intOf_bl {a : Bool} : intOf (.bl a) = none := rfl
@[simp] theorem intOf_ref {a : Nat} : intOf (.ref a) = none := rfl
@[simp] theorem strOf_str {a : Str} : strOf (.str a) = some a := rfl
@[simp] theorem strOf_int {a : Int} : strOf (.int a) = none := rfl
@[simp] theorem strOf_tup {a : List Val} : strOf (.tup a) = none := rfl
@[simp] theorem strOf_lst {a : List Val} : strOf (.lst a) = none := rfl
@[simp] theorem tupOf_tup {a : List Val} : tupOf (.tup a) = some a := rfl
@[simp] theorem tupOf_lst {a : List Val} : tupOf (.lst a) = none := rfl
@[simp] theorem tupOf_fzl {a : List Val} : tupOf (.fzl a) = none := rfl
@[simp] theorem tupOf_brw {a : List Val} : tupOf (.brw a) = none := rfl
@[simp] theorem tupOf_ref {a : Nat} : tupOf (.ref a) = none := rfl
@[simp] theorem tupOf_str {a : Str} : tupOf (.str a) = none := rfl
@[simp] theorem tupOf_int {a : Int} : tupOf (.int a) = none := rfl
@[simp] theorem listOf_lst {a : List Val} : listOf st (.lst a) = some a := rfl
@[simp] theorem listOf_fzl {a : List Val} : listOf st (.fzl a) = some a := rfl
@[simp] theorem listOf_brw {a : List Val} : listOf st (.brw a) = some a := rfl
@[simp] theorem listOf_tup {a : List Val} : listOf st (.tup a) = none := rfl
@[simp] theorem listOf_str {a : Str} : listOf st (.str a) = none := rfl
@[simp] theorem listOf_ref' : listOf st (.ref n) = liveAt st n := by
  unfold listOf liveAt; rfl
@[simp] theorem listT_lst {a : List Val} : listT st (.lst a) = some a := rfl
@[simp] theorem listT_brw {a : List Val} : listT st (.brw a) = some a := rfl
@[simp] theorem listT_tup {a : List Val} : listT st (.tup a) = none := rfl
@[simp] theorem listT_int {a : Int} : listT st (.int a) = none := rfl
@[simp] theorem listT_ref' : listT st (.ref n) = liveAt st n := by
  unfold listT liveAt; rfl
@[simp] theorem seqOf_tup {a : List Val} : seqOf st (.tup a) = some a := rfl
@[simp] theorem seqOf_lst {a : List Val} : seqOf st (.lst a) = some a := rfl
@[simp] theorem seqOf_fzl {a : List Val} : seqOf st (.fzl a) = some a := rfl
@[simp] theorem seqOf_brw {a : List Val} : seqOf st (.brw a) = some a := rfl
@[simp] theorem seqOf_str {a : Str} : seqOf st (.str a) = none := rfl
@[simp] theorem seqOf_ref' : seqOf st (.ref n) = liveAt st n := by
  unfold seqOf
  exact listOf_ref'
@[simp] theorem liveAt_0 {a : List Val} {r : Store} : liveAt (.lst a :: r) 0 = some a := rfl
@[simp] theorem liveAt_s {o : MObj} {r : Store} : liveAt (o :: r) (n + 1) = liveAt r n := by
  unfold liveAt
  rw [List.getElem?_cons_succ]
@[simp] theorem refOf_ref : refOf (.ref n) = some n := rfl
@[simp] theorem keyOf_int {a : Int} : keyOf (.int a) = some (.inl a) := rfl
@[simp] theorem keyOf_str {a : Str} : keyOf (.str a) = some (.inr a) := rfl
@[simp] theorem truM_bl {b : Bool} : truM st (.bl b) = some b := rfl
@[simp] theorem truM_int {a : Int} : truM st (.int a) = some (a != 0) := rfl
@[simp] theorem truM_non : truM st .non = some false := rfl
@[simp] theorem truM_tup {a : List Val} : truM st (.tup a) = some (!a.isEmpty) := rfl
@[simp] theorem truM_lst {a : List Val} : truM st (.lst a) = some (!a.isEmpty) := rfl
@[simp] theorem truM_brw {a : List Val} : truM st (.brw a) = some (!a.isEmpty) := rfl
@[simp] theorem truM_ref : truM st (.ref n) = (liveAt st n).map fun xs => !xs.isEmpty := by
  show (listOf st (.ref n)).map _ = _
  rw [listOf_ref']
@[simp] theorem kTru_bl {b : Bool} : kTru (.bl b) st = .ok b st := rfl
@[simp] theorem kTru_int {b : Int} : kTru (.int b) st = .ok (b != 0) st := rfl
@[simp] theorem kTru_tup {b : List Val} : kTru (.tup b) st = .ok (!b.isEmpty) st := rfl
@[simp] theorem kTru_lst {b : List Val} : kTru (.lst b) st = .ok (!b.isEmpty) st := rfl
@[simp] theorem kTru_brw {b : List Val} : kTru (.brw b) st = .ok (!b.isEmpty) st := rfl
@[simp] theorem Op_add : Op.add.f = fAdd := rfl
@[simp] theorem Op_sub : Op.sub.f = fSub := rfl
@[simp] theorem Op_mul : Op.mul.f = fMulA := rfl
@[simp] theorem Op_div : Op.div.f = fDiv := rfl
@[simp] theorem Op_mod : Op.mod.f = fMod := rfl
@[simp] theorem Op_pow : Op.pow.f = fPow := rfl
@[simp] theorem Op_shl : Op.shl.f = fShl := rfl
@[simp] theorem Op_shr : Op.shr.f = fShr := rfl
@[simp] theorem Op_band : Op.band.f = fAnd := rfl
@[simp] theorem Op_bor : Op.bor.f = fOr := rfl
@[simp] theorem fShl_int {a b : Int} : fShl (.int a) (.int b) st = if 0 ≤ b ∧ b ≤ 1000 ∧ a.natAbs < 2 ^ 64 then .ok (.int (a * 2 ^ b.toNat)) st else .stuck := rfl
@[simp] theorem fShr_int {a b : Int} : fShr (.int a) (.int b) st = if 0 ≤ b then .ok (.int (a / 2 ^ b.toNat)) st else .stuck := rfl
@[simp] theorem fAnd_int {a b : Int} : fAnd (.int a) (.int b) st = .ok (.int (Builtin.bitAnd a b)) st := rfl
@[simp] theorem fOr_int {a b : Int} : fOr (.int a) (.int b) st = .ok (.int (Builtin.bitOr a b)) st := rfl
@[simp] theorem Cm_lt : Cm.lt.f = fCmp fun i j => decide (i < j) := rfl
@[simp] theorem Cm_le : Cm.le.f = fCmp fun i j => decide (i ≤ j) := rfl
@[simp] theorem Cm_gt : Cm.gt.f = fCmp fun i j => decide (j < i) := rfl
@[simp] theorem Cm_ge : Cm.ge.f = fCmp fun i j => decide (j ≤ i) := rfl
@[simp] theorem Cm_eq : Cm.eq.f = fEq := rfl
@[simp] theorem Cm_ne : Cm.ne.f = fNe := rfl
@[simp] theorem Cm_in : Cm.isin.f = fIn := rfl
@[simp] theorem Cm_notin : Cm.notin.f = fNotIn := rfl
@[simp] theorem Cm_isn : Cm.isn.f = fIsC := rfl
@[simp] theorem Cm_notn : Cm.notn.f = fNotC := rfl
@[simp] theorem Bi_len : Bi.len.f = one fLen := rfl
@[simp] theorem Bi_int : Bi.int.f = one fInt := rfl
@[simp] theorem Bi_str : Bi.str.f = one fStr := rfl
@[simp] theorem Bi_ord : Bi.ord.f = one fOrd := rfl
@[simp] theorem Bi_tuple : Bi.tuple.f = one fTuple := rfl
@[simp] theorem Bi_max2 : Bi.max2.f = two fMax2 := rfl
@[simp] theorem Bi_min2 : Bi.min2.f = two fMin2 := rfl
@[simp] theorem Bi_sum : Bi.sum.f = one fSum := rfl
@[simp] theorem Bi_max1 : Bi.max1.f = one fMax1 := rfl
@[simp] theorem Bi_min1 : Bi.min1.f = one fMin1 := rfl
@[simp] theorem Bi_rng1 : Bi.rng1.f = one fRng1 := rfl
@[simp] theorem Bi_rng2 : Bi.rng2.f = two fRng2 := rfl
@[simp] theorem Bn_list : Bn.list.f = nOne nList := rfl
@[simp] theorem Bn_sorted : Bn.sorted.f = nOne nSorted := rfl
@[simp] theorem one_eq {f : Val → Store → R Val} : one f [d] st = f d st := rfl
@[simp] theorem two_eq {f : Val → Val → Store → R Val} : two f [d, e] st = f d e st := rfl
@[simp] theorem nOne_eq {f : Val → Store → R (List Val)} : nOne f [d] st = f d st := rfl
@[simp] theorem fAdd_int {a b : Int} : fAdd (.int a) (.int b) st = .ok (.int (a + b)) st := rfl
theorem fAdd_tup {a b : List Val} (h : a.length + b.length ≤ line) : fAdd (.tup a) (.tup b) st = .ok (.tup (a ++ b)) st := if_pos h
theorem fAdd_lst {a b : List Val} (h : a.length + b.length ≤ line) : fAdd (.lst a) (.lst b) st = .ok (.lst (a ++ b)) st := if_pos h
@[simp] theorem fSub_int {a b : Int} : fSub (.int a) (.int b) st = .ok (.int (a - b)) st := rfl
@[simp] theorem fMulA_int {a b : Int} : fMulA (.int a) (.int b) st = if small a || small b then .ok (.int (a * b)) st else .stuck := rfl
@[simp] theorem fDiv_int {a b : Int} : fDiv (.int a) (.int b) st = if 0 < b ∧ b < 1073741824 then .ok (.int (a / b)) st else .stuck := rfl
@[simp] theorem fMod_int {a b : Int} : fMod (.int a) (.int b) st = if 0 < b then .ok (.int (a % b)) st else .stuck := rfl
@[simp] theorem fPow_int {a b : Int} : fPow (.int a) (.int b) st = if 0 ≤ b ∧ b ≤ 1000 ∧ a.natAbs < 2 ^ 64 then .ok (.int (a ^ b.toNat)) st else .stuck := rfl
@[simp] theorem fCmp_int {q : Int → Int → Bool} {a b : Int} : fCmp q (.int a) (.int b) st = .ok (.bl (q a b)) st := rfl
@[simp] theorem fEq_int {a b : Int} : fEq (.int a) (.int b) st = .ok (.bl (a == b)) st := rfl
@[simp] theorem fNe_int {a b : Int} : fNe (.int a) (.int b) st = .ok (.bl (!(a == b))) st := rfl
@[simp] theorem fEq_bl {a b : Bool} : fEq (.bl a) (.bl b) st = .ok (.bl (a == b)) st := rfl
@[simp] theorem fNe_bl {a b : Bool} : fNe (.bl a) (.bl b) st = .ok (.bl (!(a == b))) st := rfl
theorem fEq_str {a b : Str} (ha : PyData.strOk a = true) (hb : PyData.strOk b = true) : fEq (.str a) (.str b) st = .ok (.bl (a == b)) st := by
  show (if shp 40 (.str a) && shp 40 (.str b) then R.ok (Val.bl (a == b)) st else R.stuck) = _
  have h1 : shp 40 (.str a) = true := ha
  have h2 : shp 40 (.str b) = true := hb
  rw [h1, h2]; rfl
theorem fNe_str {a b : Str} (ha : PyData.strOk a = true) (hb : PyData.strOk b = true) : fNe (.str a) (.str b) st = .ok (.bl (!(a == b))) st := by
  show (if shp 40 (.str a) && shp 40 (.str b) then R.ok (Val.bl (!(a == b))) st else R.stuck) = _
  have h1 : shp 40 (.str a) = true := ha
  have h2 : shp 40 (.str b) = true := hb
  rw [h1, h2]; rfl
@[simp] theorem fInt_int {a : Int} : fInt (.int a) st = .ok (.int a) st := rfl
@[simp] theorem fLen_lst {a : List Val} : fLen (.lst a) st = .ok (.int a.length) st := rfl
@[simp] theorem fLen_fzl {a : List Val} : fLen (.fzl a) st = .ok (.int a.length) st := rfl
@[simp] theorem fLen_brw {a : List Val} : fLen (.brw a) st = .ok (.int a.length) st := rfl
@[simp] theorem fLen_tup {a : List Val} : fLen (.tup a) st = .ok (.int a.length) st := rfl
@[simp] theorem fLen_str {a : Str} : fLen (.str a) st = if a.length ≤ line then .ok (.int a.length) st else .stuck := rfl
@[simp] theorem fTuple_tup {a : List Val} : fTuple (.tup a) st = .ok (.tup a) st := rfl
@[simp] theorem fTuple_lst {a : List Val} : fTuple (.lst a) st = .ok (.tup a) st := rfl
@[simp] theorem fTuple_brw {a : List Val} : fTuple (.brw a) st = .ok (.tup a) st := rfl
@[simp] theorem nList_tup {a : List Val} : nList (.tup a) st = .ok a st := rfl
@[simp] theorem nList_lst {a : List Val} : nList (.lst a) st = .ok a st := rfl
@[simp] theorem nList_brw {a : List Val} : nList (.brw a) st = .ok a st := rfl
@[simp] theorem fRng1_int {a : Int} : fRng1 (.int a) st = .ok (.rng 0 a) st := rfl
@[simp] theorem fRng2_int {a b : Int} : fRng2 (.int a) (.int b) st = .ok (.rng a b) st := rfl
@[simp] theorem fMax2_int {a b : Int} : fMax2 (.int a) (.int b) st = .ok (.int (if b > a then b else a)) st := rfl
@[simp] theorem fMin2_int {a b : Int} : fMin2 (.int a) (.int b) st = .ok (.int (if b < a then b else a)) st := rfl
@[simp] theorem fIn_rng {a lo hi : Int} : fIn (.int a) (.rng lo hi) st = .ok (.bl (decide (lo ≤ a ∧ a < hi))) st := rfl
@[simp] theorem fIsN_non : fIsC d .non st = .ok (.bl (isNon d)) st := rfl
@[simp] theorem fNotN_non : fNotC d .non st = .ok (.bl (!isNon d)) st := rfl
@[simp] theorem fIsC_bl {b : Bool} : fIsC d (.bl b) st = .ok (.bl (isBl b d)) st := rfl
@[simp] theorem fNotC_bl {b : Bool} : fNotC d (.bl b) st = .ok (.bl (!isBl b d)) st := rfl
@[simp] theorem isBl_bl {a b : Bool} : isBl b (.bl a) = (a == b) := rfl
@[simp] theorem isBl_int {a : Int} {b : Bool} : isBl b (.int a) = false := rfl
@[simp] theorem isBl_non {b : Bool} : isBl b .non = false := rfl
@[simp] theorem isBl_str {a : Str} {b : Bool} : isBl b (.str a) = false := rfl
@[simp] theorem isBl_tup {a : List Val} {b : Bool} : isBl b (.tup a) = false := rfl
@[simp] theorem isBl_lst {a : List Val} {b : Bool} : isBl b (.lst a) = false := rfl
@[simp] theorem isBl_brw {a : List Val} {b : Bool} : isBl b (.brw a) = false := rfl
@[simp] theorem isNon_bl {a : Bool} : isNon (.bl a) = false := rfl
@[simp] theorem isNon_str {a : Str} : isNon (.str a) = false := rfl
@[simp] theorem isNon_lst {a : List Val} : isNon (.lst a) = false := rfl
@[simp] theorem isNon_brw {a : List Val} : isNon (.brw a) = false := rfl
@[simp] theorem isNon_ref {n : Nat} : isNon (.ref n) = false := rfl
@[simp] theorem isNon_non : isNon .non = true := rfl
@[simp] theorem isNon_int {a : Int} : isNon (.int a) = false := rfl
@[simp] theorem isNon_tup {a : List Val} : isNon (.tup a) = false := rfl
@[simp] theorem kSrc_lst {a : List Val} : kSrc (.lst a) st = .ok (.vals a) st := rfl
@[simp] theorem kSrc_fzl {a : List Val} : kSrc (.fzl a) st = .ok (.vals a) st := rfl
@[simp] theorem kSrc_brw {a : List Val} : kSrc (.brw a) st = .ok (.vals a) st := rfl
@[simp] theorem kSrc_tup {a : List Val} : kSrc (.tup a) st = .ok (.vals a) st := rfl
@[simp] theorem kSrc_str {a : Str} : kSrc (.str a) st = .ok (.vals (signs a)) st := rfl
@[simp] theorem kR1_int {a : Int} : kR1 [.int a] st = if -(2 ^ 60) ≤ a ∧ a < 2 ^ 60 then .ok (.vals (rngL 0 a.toNat)) st else .stuck := rfl
@[simp] theorem kR2_int {a b : Int} : kR2 [.int a, .int b] st = if (-(2 ^ 60) ≤ a ∧ a < 2 ^ 60) ∧ -(2 ^ 60) ≤ b ∧ b < 2 ^ 60 then .ok (.vals (rngL a (b - a).toNat)) st else .stuck := rfl
@[simp] theorem kEn_tup {a : List Val} : kEn [.tup a] st = .ok (.vals (enumV 0 a)) st := rfl
@[simp] theorem kEn_lst {a : List Val} : kEn [.lst a] st = .ok (.vals (enumV 0 a)) st := rfl
@[simp] theorem kEn_brw {a : List Val} : kEn [.brw a] st = .ok (.vals (enumV 0 a)) st := rfl
@[simp] theorem kSl_tup {a : List Val} {lo hi : Option Int} : kSl (.tup a) lo hi st = .ok (.tup (cutM a lo hi)) st := rfl
@[simp] theorem kSl_lst {a : List Val} {lo hi : Option Int} : kSl (.lst a) lo hi st = .ok (.lst (cutM a lo hi)) st := rfl
@[simp] theorem kSl_fzl {a : List Val} {lo hi : Option Int} : kSl (.fzl a) lo hi st = .ok (.lst (cutM a lo hi)) st := rfl
@[simp] theorem kSl_brw {a : List Val} {lo hi : Option Int} : kSl (.brw a) lo hi st = .ok (.lst (cutM a lo hi)) st := rfl
@[simp] theorem fIxA_lst {a : List Val} {i : Int} : fIxA (.lst a) (.int i) st = match atI a i with
  | some d => .ok d st
  | none => .stuck := rfl
@[simp] theorem fIxA_fzl {a : List Val} {i : Int} : fIxA (.fzl a) (.int i) st = match atI a i with
  | some d => .ok d st
  | none => .stuck := rfl
@[simp] theorem fIxA_brw {a : List Val} {i : Int} : fIxA (.brw a) (.int i) st = match atI a i with
  | some d => .ok d st
  | none => .stuck := rfl
@[simp] theorem fIxA_tup {a : List Val} {i : Int} : fIxA (.tup a) (.int i) st = match atI a i with
  | some d => .ok d st
  | none => .stuck := rfl
@[simp] theorem fIxA_str {a : Str} {i : Int} : fIxA (.str a) (.int i) st = match atI a.cps.toList i with
  | some c => if a.length ≤ line then .ok (.str ⟨#[c]⟩) st else .stuck
  | none => .stuck := rfl
@[simp] theorem fAppend_ref {x : Val} : fAppend (.ref n) [x] st = match liveAt st n with
  | some xs => if xs.length < line then .ok .non (st.set n (.lst (xs ++ [x]))) else .stuck
  | none => .stuck := rfl
@[simp] theorem gN_eq : gN i d env = some (env.set i (some d)) := rfl
@[simp] theorem gsNil_eq : gsNil [] env = some env := rfl
@[simp] theorem gsCons_eq {g gs} {r : List Val} : gsCons g gs (d :: r) env = (g d env).bind fun env => gs r env := rfl
@[simp] theorem gT_tup {gs} {a : List Val} : gT n gs (.tup a) env = if a.length = n then gs a env else none := rfl
@[simp] theorem fin_rt_int {a : Int} : fin (.rt (.int a) st) = .ok (.int a) [] := rfl
@[simp] theorem fin_rt_bl {a : Bool} : fin (.rt (.bl a) st) = .ok (.bl a) [] := rfl
@[simp] theorem fin_rt_str {a : Str} : fin (.rt (.str a) st) = .ok (.str a) [] := rfl
@[simp] theorem fin_rt_non : fin (.rt .non st) = .ok .non [] := rfl
@[simp] theorem fin_nx : fin (.nx env st) = .ok .non [] := rfl
@[simp] theorem fin_rt_tup {a : List Val} : fin (.rt (.tup a) st) = if cls a = true then .ok (.tup a) [] else finC ((closeVs st a).map .tup) := by
  show (if cl (Val.tup a) = true then R.ok (Val.tup a) [] else finC (closeV st (.tup a))) = _
  have e : cl (Val.tup a) = cls a := by simp only [cl]
  rw [e]
  unfold closeV
  rfl
@[simp] theorem fin_rt_lst {a : List Val} : fin (.rt (.lst a) st) = if cls a = true then .ok (.lst a) [] else finC ((closeVs st a).map .lst) := by
  show (if cl (Val.lst a) = true then R.ok (Val.lst a) [] else finC (closeV st (.lst a))) = _
  have e : cl (Val.lst a) = cls a := by simp only [cl]
  rw [e]
  unfold closeV
  rfl
@[simp] theorem fin_rt_ref : fin (.rt (.ref n) st) = match liveAt st n with
  | some xs => if cls xs = true then .ok (.lst xs) [] else .stuck
  | none => .stuck := by
  show (if cl (Val.ref n) = true then R.ok (Val.ref n) [] else finC (closeV st (.ref n))) = _
  rw [if_neg (by simp [cl])]
  unfold closeV
  cases liveAt st n with
  | none => rfl
  | some xs =>
    simp only
    split <;> rfl
@[simp] theorem finC_some {w : Val} : finC (some w) = .ok w [] := rfl
@[simp] theorem closeVs_nil : closeVs st [] = some [] := by unfold closeVs; rfl
theorem closeVs_cons {d x : Val} {ds xs : List Val} (h : closeV st d = some x) (h2 : closeVs st ds = some xs) : closeVs st (d :: ds) = some (x :: xs) := by
  unfold closeVs
  rw [h, h2]
@[simp] theorem cls_nil : cls [] = true := rfl
@[simp] theorem cls_cons {a : List Val} : cls (d :: a) = (cl d && cls a) := rfl
@[simp] theorem cl_int {a : Int} : cl (.int a) = true := rfl
@[simp] theorem cl_bl {a : Bool} : cl (.bl a) = true := rfl
@[simp] theorem cl_str {a : Str} : cl (.str a) = true := rfl
@[simp] theorem cl_non : cl .non = true := rfl
@[simp] theorem cl_tup {a : List Val} : cl (.tup a) = cls a := by simp only [cl]
@[simp] theorem cl_lst {a : List Val} : cl (.lst a) = cls a := by simp only [cl]
@[simp] theorem nrs_nil : nrs [] = true := rfl
@[simp] theorem nrs_cons {a : List Val} : nrs (d :: a) = (nr d && nrs a) := rfl
@[simp] theorem nr_int {a : Int} : nr (.int a) = true := rfl
@[simp] theorem nr_bl {a : Bool} : nr (.bl a) = true := rfl
@[simp] theorem nr_str {a : Str} : nr (.str a) = true := rfl
@[simp] theorem nr_non : nr .non = true := rfl
@[simp] theorem nr_tup {a : List Val} : nr (.tup a) = nrs a := by simp only [nr]
@[simp] theorem nr_lst {a : List Val} : nr (.lst a) = nrs a := by simp only [nr]
@[simp] theorem nr_fzl {a : List Val} : nr (.fzl a) = nrs a := by simp only [nr]
@[simp] theorem nr_brw {a : List Val} : nr (.brw a) = nrs a := by simp only [nr]
@[simp] theorem cls_app {a b : List Val} : cls (a ++ b) = (cls a && cls b) := by
  induction a with
  | nil => simp
  | cons x a ih => simp [ih, Bool.and_assoc]
@[simp] theorem nrs_app {a b : List Val} : nrs (a ++ b) = (nrs a && nrs b) := by
  induction a with
  | nil => simp
  | cons x a ih => simp [ih, Bool.and_assoc]
theorem cls_map {α : Type} {f : α → Val} (h : ∀ x, cl (f x) = true) : ∀ xs : List α, cls (xs.map f) = true
  | [] => rfl
  | x :: xs => by simp [h x, cls_map h xs]
theorem nrs_map {α : Type} {f : α → Val} (h : ∀ x, nr (f x) = true) : ∀ xs : List α, nrs (xs.map f) = true
  | [] => rfl
  | x :: xs => by simp [h x, nrs_map h xs]
@[simp] theorem cls_ints (xs : List Int) : cls (xs.map Val.int) = true := cls_map (fun _ => rfl) xs
@[simp] theorem nrs_ints (xs : List Int) : nrs (xs.map Val.int) = true := nrs_map (fun _ => rfl) xs
@[simp] theorem line_val : line = 16777216 := rfl
@[simp] theorem small_eq {i : Int} : small i = (decide (-(2 ^ 64) < i) && decide (i < 2 ^ 64)) := rfl
/-! ### calls -/
@[simp] theorem argVs_nil : argVs st [] = some [] := rfl
theorem argVs_cons {a b : Val} {r s : List Val} (h : argV st a = some b) (h2 : argVs st r = some s) : argVs st (a :: r) = some (b :: s) := by
  unfold argVs
  rw [h, h2]
@[simp] theorem argV_int {a : Int} : argV st (.int a) = some (.int a) := rfl
@[simp] theorem argV_bl {a : Bool} : argV st (.bl a) = some (.bl a) := rfl
@[simp] theorem argV_str {a : Str} : argV st (.str a) = some (.str a) := rfl
@[simp] theorem argV_non : argV st .non = some .non := rfl
@[simp] theorem argV_tup {a : List Val} (h : nrs a = true) : argV st (.tup a) = some (.tup a) := if_pos (by rw [nr_tup]; exact h)
@[simp] theorem argV_lst {a : List Val} (h : nrs a = true) : argV st (.lst a) = some (.lst a) := if_pos (by rw [nr_lst]; exact h)
@[simp] theorem argV_fzl {a : List Val} (h : nrs a = true) : argV st (.fzl a) = some (.fzl a) := if_pos (by rw [nr_fzl]; exact h)
@[simp] theorem argV_brw {a : List Val} (h : nrs a = true) : argV st (.brw a) = some (.brw a) := if_pos (by rw [nr_brw]; exact h)
@[simp] theorem argV_ref : argV st (.ref n) = match liveAt st n with
  | some xs => if nrs xs = true then some (.brw xs) else none
  | none => none := by
  show (if nr (.ref n) = true then some (Val.ref n) else deepV st (.ref n)) = _
  rw [if_neg (by simp [nr])]
  unfold deepV
  rfl
theorem argVs_eq {a : Val} {r : List Val} : argVs st (a :: r) = match argV st a, argVs st r with
  | some x, some xs => some (x :: xs)
  | _, _ => none := rfl
/-- a call of a clean def -/
theorem kCall_eq {pf : PF} {ds as : List Val} {d : Val} {s : Store} (hl : ds.length = n) (ha : argVs st ds = some as) (h : pf as = .ok d s) : kCall n pf ds st = .ok d st := by
  unfold kCall
  rw [if_pos hl, ha]
  show backP (pf as) st = _
  rw [h]; rfl
end
end ML


-- Dl
set_option linter.all false
set_option maxRecDepth 100000
set_option maxHeartbeats 4000000
/-! Dl: loops, comprehensions, equality. -/
namespace ML
open PySem PySem.Spec PyProof.Rows L2
section
variable {α : Type} {g : GM} {b : MM}
theorem loop_rel' (enc : α → Val) (Inv : List α → MEnv → Store → Prop) : ∀ (xs done : List α) (env : MEnv) (st : Store), Inv done env st →
    (∀ don x post env st, done ++ xs = don ++ x :: post → Inv don env st → ∃ e1, g (enc x) env = some e1 ∧ ∃ e' s', b e1 st = .nx e' s' ∧ Inv (don ++ [x]) e' s') →
    ∃ e' s', loopV g b (xs.map enc) env st = .nx e' s' ∧ Inv (done ++ xs) e' s'
  | [], done, env, st, h0, _ => ⟨env, st, rfl, by simpa using h0⟩
  | x :: xs, done, env, st, h0, hs => by
    obtain ⟨e1, hg, e', s', hb, hi⟩ := hs done x xs env st rfl h0
    obtain ⟨e2, s2, h2, h3⟩ := loop_rel' enc Inv xs (done ++ [x]) e' s' hi fun don y post env st e => hs don y post env st (by rw [← e]; simp)
    refine ⟨e2, s2, ?_, by simpa using h3⟩
    rw [List.map_cons]
    unfold loopV
    rw [hg]
    show (match b e1 st with
      | .nx e s => loopV g b (xs.map enc) e s
      | .ct e s => loopV g b (xs.map enc) e s
      | .bk e s => .nx e s
      | r => r) = _
    rw [hb]
    exact h2
/-- a loop by what holds between its turns -/
theorem loop_rel (enc : α → Val) (Inv : List α → MEnv → Store → Prop) {xs : List α} {env : MEnv} {st : Store} (h0 : Inv [] env st)
    (hs : ∀ don x post env st, xs = don ++ x :: post → Inv don env st → ∃ e1, g (enc x) env = some e1 ∧ ∃ e' s', b e1 st = .nx e' s' ∧ Inv (don ++ [x]) e' s') :
    ∃ e' s', loopV g b (xs.map enc) env st = .nx e' s' ∧ Inv xs e' s' := loop_rel' enc Inv xs [] env st h0 (by simpa using hs)
theorem loopV_cons {d : Val} {ds : List Val} {env e1 : MEnv} {st : Store} (hg : g d env = some e1) : loopV g b (d :: ds) env st = match b e1 st with
      | .nx e s => loopV g b ds e s
      | .ct e s => loopV g b ds e s
      | .bk e s => .nx e s
      | r => r := by
  conv => lhs; unfold loopV
  rw [hg] <;> rfl
@[simp] theorem loopV_nil {env : MEnv} {st : Store} : loopV g b [] env st = .nx env st := rfl
/-- for x in xs: if P(x): return v -/
theorem loop_any (enc : α → Val) (P : α → Bool) (E : Option Val → MEnv) {st : Store} {v : Val} (hg : ∀ x o, g (enc x) (E o) = some (E (some (enc x)))) : ∀ {xs : List α} {o : Option Val},
    (∀ x ∈ xs, b (E (some (enc x))) st = if P x = true then .rt v st else .nx (E (some (enc x))) st) →
    ∃ o', loopV g b (xs.map enc) (E o) st = if xs.any P = true then .rt v st else .nx (E o') st
  | [], o, _ => ⟨o, by simp⟩
  | x :: xs, o, h => by
    obtain ⟨o', ih⟩ := loop_any enc P E hg (xs := xs) (o := some (enc x)) fun y hy => h y (List.mem_cons_of_mem _ hy)
    refine ⟨o', ?_⟩
    rw [List.map_cons, loopV_cons (hg x o), h x List.mem_cons_self]
    cases hP : P x with
    | true => simp [hP]
    | false => simp [hP, ih]
variable {tt : MEnv → Store → R Bool} {te : MEnv → Store → R Val}
theorem comp_map (enc : α → Val) (f : α → Val) {env : MEnv} {st : Store} : ∀ {xs : List α}, (∀ x ∈ xs, ∃ e1, g (enc x) env = some e1 ∧ te e1 st = .ok (f x) st) → compV g tYesM te env (xs.map enc) st = .ok (xs.map f) st
  | [], _ => rfl
  | x :: xs, h => by
    obtain ⟨e1, h1, h2⟩ := h x List.mem_cons_self
    rw [List.map_cons]
    unfold compV
    rw [h1]
    show (noX (tYesM e1 st)).bind _ = _
    rw [tYesM_eq, noX_ok, R.bind_ok, if_pos rfl, h2, noX_ok, R.bind_ok, comp_map enc f fun y hy => h y (List.mem_cons_of_mem _ hy)]
    rfl
theorem comp_filter (enc : α → Val) (f : α → Val) (P : α → Bool) {env : MEnv} {st : Store} : ∀ {xs : List α}, (∀ x ∈ xs, ∃ e1, g (enc x) env = some e1 ∧ tt e1 st = .ok (P x) st ∧ (P x = true → te e1 st = .ok (f x) st)) → compV g tt te env (xs.map enc) st = .ok ((xs.filter P).map f) st
  | [], _ => rfl
  | x :: xs, h => by
    obtain ⟨e1, h1, h2, h3⟩ := h x List.mem_cons_self
    have ih := comp_filter enc f P (xs := xs) fun y hy => h y (List.mem_cons_of_mem _ hy)
    rw [List.map_cons]
    unfold compV
    rw [h1]
    show (noX (tt e1 st)).bind _ = _
    rw [h2, noX_ok, R.bind_ok]
    cases hP : P x with
    | true =>
      rw [if_pos rfl, h3 hP, noX_ok, R.bind_ok, ih, List.filter_cons, hP]
      rfl
    | false =>
      rw [if_neg (by decide), ih, List.filter_cons, hP]
      rfl
theorem loop_out {enc : α → Val} {xs : List α} {env : MEnv} {st : Store} {r : S} (hL : loopV g b (xs.map enc) env st = r) (Inv : List α → MEnv → Store → Prop) (h0 : Inv [] env st)
    (hs : ∀ don x post env st, xs = don ++ x :: post → Inv don env st → ∃ e1, g (enc x) env = some e1 ∧ ∃ e' s', b e1 st = .nx e' s' ∧ Inv (don ++ [x]) e' s') :
    ∃ e' s', r = .nx e' s' ∧ Inv xs e' s' := by
  obtain ⟨e', s', h1, h2⟩ := loop_rel enc Inv h0 hs
  exact ⟨e', s', hL.symm.trans h1, h2⟩
/-- over a range: the turn's number is that of the turns before -/
theorem loop_rng {lo : Int} {n : Nat} {env : MEnv} {st : Store} {r : S} (hL : loopV g b (rngL lo n) env st = r) (Inv : Nat → MEnv → Store → Prop) (h0 : Inv 0 env st)
    (hs : ∀ (i : Nat) env st, i < n → Inv i env st → ∃ e1, g (.int (lo + (i : Nat))) env = some e1 ∧ ∃ e' s', b e1 st = .nx e' s' ∧ Inv (i + 1) e' s') :
    ∃ e' s', r = .nx e' s' ∧ Inv n e' s' := by
  obtain ⟨e', s', h1, h2⟩ := loop_out (enc := fun k : Nat => Val.int (lo + (k : Nat))) (xs := List.range n) hL (fun don env st => Inv don.length env st) h0 fun don x post env st e hi => by
    have h1 : don.length < (List.range n).length := by rw [e]; simp
    have h2 : (List.range n)[don.length]? = some x := by rw [e]; simp
    rw [List.length_range] at h1
    rw [List.getElem?_range h1] at h2
    obtain rfl : don.length = x := by injection h2
    rw [List.length_append]
    exact hs _ env st h1 hi
  exact ⟨e', s', h1, by simpa using h2⟩
end
/-! ### parts of a block -/
def Ss.take : Nat → Ss → Ss
  | 0, _ => .nil
  | _ + 1, .nil => .nil
  | n + 1, .cons s r => .cons s (r.take n)
def Ss.drop : Nat → Ss → Ss
  | 0, r => r
  | _ + 1, .nil => .nil
  | n + 1, .cons s r => r.drop n
theorem go_go {r : S} {m n : MM} : (r.go m).go n = r.go fun e s => (m e s).go n := by cases r <;> rfl
theorem go_pass {r : S} : r.go sPass = r := by cases r <;> rfl
theorem Ss.split {p : Dn} : ∀ (n : Nat) (b : Ss) {env : MEnv} {st : Store}, b.m p env st = ((b.take n).m p env st).go ((b.drop n).m p)
  | 0, b, env, st => rfl
  | n + 1, .nil, env, st => rfl
  | n + 1, .cons s r, env, st => by
    show (s.m p env st).go (r.m p) = ((s.m p env st).go ((r.take n).m p)).go _
    rw [go_go]
    congr 1
    funext e s'
    exact Ss.split n r
/-! ### equality of data -/
def okD (st : Store) (d : Val) : Bool := match toD st d with
  | some x => shp 40 x
  | none => false
theorem eqv_self {n : Nat} {x : PyData} (h : shp n x = true) : PyData.eqv x x = true := PySem.SeqAt.eqv_refl x (shp_ok h).1
theorem fEq_self {d : Val} {st : Store} (h : okD st d = true) : fEq d d st = .ok (.bl true) st := by
  unfold okD at h
  unfold fEq
  split at h
  · rename_i x e
    rw [e]
    show (if shp 40 x && shp 40 x then R.ok (Val.bl (PyData.eqv x x)) st else R.stuck) = _
    rw [h, eqv_self h]; rfl
  · cases h
theorem fNe_self {d : Val} {st : Store} (h : okD st d = true) : fNe d d st = .ok (.bl false) st := by
  unfold okD at h
  unfold fNe
  split at h
  · rename_i x e
    rw [e]
    show (if shp 40 x && shp 40 x then R.ok (Val.bl (!PyData.eqv x x)) st else R.stuck) = _
    rw [h, eqv_self h]; rfl
  · cases h
/-! data as far as n deep -/
mutual
def okV : Nat → Val → Bool
  | _, .non => true
  | _, .bl _ => true
  | _, .int _ => true
  | _, .str x => PyData.strOk x
  | n + 1, .tup xs => okVs n xs
  | n + 1, .lst xs => okVs n xs
  | n + 1, .fzl xs => okVs n xs
  | n + 1, .brw xs => okVs n xs
  | _, _ => false
def okVs : Nat → List Val → Bool
  | _, [] => true
  | n, d :: ds => okV n d && okVs n ds
end
mutual
theorem okV_toD : ∀ {n : Nat} {d : Val}, okV n d = true → ∃ x, toD0 d = some x ∧ shp n x = true
  | _, .non, _ => ⟨_, rfl, by simp [shp]⟩
  | _, .bl _, _ => ⟨_, rfl, by simp [shp]⟩
  | _, .int _, _ => ⟨_, rfl, by simp [shp]⟩
  | _, .str x, h => ⟨_, rfl, by simpa [shp, okV] using h⟩
  | 0, .tup _, h => by simp [okV] at h
  | 0, .lst _, h => by simp [okV] at h
  | 0, .fzl _, h => by simp [okV] at h
  | 0, .brw _, h => by simp [okV] at h
  | n + 1, .tup xs, h => by
    obtain ⟨ys, h1, h2⟩ := okVs_toD (n := n) (d := xs) (by simpa [okV] using h)
    exact ⟨.tuple ys, by simp [toD0, h1], by simpa [shp] using h2⟩
  | n + 1, .lst xs, h => by
    obtain ⟨ys, h1, h2⟩ := okVs_toD (n := n) (d := xs) (by simpa [okV] using h)
    exact ⟨.list ys, by simp [toD0, h1], by simpa [shp] using h2⟩
  | n + 1, .fzl xs, h => by
    obtain ⟨ys, h1, h2⟩ := okVs_toD (n := n) (d := xs) (by simpa [okV] using h)
    exact ⟨.list ys, by simp [toD0, h1], by simpa [shp] using h2⟩
  | n + 1, .brw xs, h => by
    obtain ⟨ys, h1, h2⟩ := okVs_toD (n := n) (d := xs) (by simpa [okV] using h)
    exact ⟨.list ys, by simp [toD0, h1], by simpa [shp] using h2⟩
  | _, .dct _, h => by simp [okV] at h
  | _, .rng _ _, h => by simp [okV] at h
  | _, .ref _, h => by simp [okV] at h
  | _, .fn _, h => by simp [okV] at h
theorem okVs_toD : ∀ {n : Nat} {d : List Val}, okVs n d = true → ∃ x, toDs d = some x ∧ shps n x = true
  | _, [], _ => ⟨[], rfl, by simp [shps]⟩
  | n, d :: ds, h => by
    have h : (okV n d && okVs n ds) = true := by simpa [okVs] using h
    rw [Bool.and_eq_true] at h
    obtain ⟨x, h1, h2⟩ := okV_toD h.1
    obtain ⟨xs, h3, h4⟩ := okVs_toD h.2
    exact ⟨x :: xs, by unfold toDs; rw [h1, h3], by simp [shps, h2, h4]⟩
end
theorem okD_of {st : Store} {d : Val} (h : okV 40 d = true) : okD st d = true := by
  obtain ⟨x, h1, h2⟩ := okV_toD h
  have : toD st d = some x := by
    cases d with
    | ref n => simp [okV] at h
    | _ => exact h1
  unfold okD
  rw [this]
  exact h2
section
variable {n : Nat} {d : Val} {a b : List Val}
@[simp] theorem okV_int {i : Int} : okV n (.int i) = true := by cases n <;> simp [okV]
@[simp] theorem okV_bl {i : Bool} : okV n (.bl i) = true := by cases n <;> simp [okV]
@[simp] theorem okV_non : okV n .non = true := by cases n <;> simp [okV]
@[simp] theorem okV_str {x : Str} : okV n (.str x) = PyData.strOk x := by cases n <;> simp [okV]
@[simp] theorem okV_tup : okV (n + 1) (.tup a) = okVs n a := by simp [okV]
@[simp] theorem okV_lst : okV (n + 1) (.lst a) = okVs n a := by simp [okV]
@[simp] theorem okV_brw : okV (n + 1) (.brw a) = okVs n a := by simp [okV]
@[simp] theorem okVs_nil : okVs n [] = true := by simp [okVs]
@[simp] theorem okVs_cons : okVs n (d :: a) = (okV n d && okVs n a) := by simp [okVs]
@[simp] theorem okVs_app : okVs n (a ++ b) = (okVs n a && okVs n b) := by
  induction a with
  | nil => simp
  | cons x a ih => simp [ih, Bool.and_assoc]
theorem okVs_map {α : Type} {f : α → Val} (h : ∀ x, okV n (f x) = true) : ∀ xs : List α, okVs n (xs.map f) = true
  | [] => by simp
  | x :: xs => by simp [h x, okVs_map h xs]
@[simp] theorem okVs_ints (xs : List Int) : okVs n (xs.map Val.int) = true := okVs_map (fun _ => by simp) xs
end
/-! ### places -/
theorem atI_pos {α : Type} {xs : List α} {i : Int} (h0 : 0 ≤ i) (h1 : i < xs.length) : ∃ x, xs[i.toNat]? = some x ∧ atI xs i = some x := by
  have hl : i.toNat < xs.length := by omega
  refine ⟨xs[i.toNat], List.getElem?_eq_getElem hl, ?_⟩
  unfold atI ixN
  rw [if_pos h0, if_pos h1]
  exact List.getElem?_eq_getElem hl
theorem atI_neg {α : Type} {xs : List α} {i : Int} (h0 : i < 0) (h1 : -(xs.length : Int) ≤ i) : ∃ x, xs[(i + xs.length).toNat]? = some x ∧ atI xs i = some x := by
  have hl : (i + xs.length).toNat < xs.length := by omega
  refine ⟨xs[(i + xs.length).toNat], List.getElem?_eq_getElem hl, ?_⟩
  unfold atI ixN
  rw [if_neg (by omega), if_pos h1]
  exact List.getElem?_eq_getElem hl
theorem atI_mem {α : Type} {xs : List α} {i : Int} (h0 : 0 ≤ i) (h1 : i < xs.length) : ∃ x ∈ xs, atI xs i = some x := by
  obtain ⟨x, h2, h3⟩ := atI_pos h0 h1
  exact ⟨x, List.mem_of_getElem? h2, h3⟩
theorem atI_map {α β : Type} {f : α → β} {xs : List α} {i : Int} : atI (xs.map f) i = (atI xs i).map f := by
  unfold atI
  rw [List.length_map]
  cases ixN xs.length i with
  | none => rfl
  | some j => simp
end ML


-- Dw
set_option linter.all false
namespace ML
open PySem PySem.Spec PyProof.Rows L2
section
variable {st : Store} {n : Nat}
@[simp] theorem fLen_ref : fLen (.ref n) st = match liveAt st n with
  | some ds => .ok (.int ds.length) st
  | none => .stuck := by
  unfold fLen
  rw [seqOf_ref']
  all_goals rfl
theorem fEq_strc {a b : Str} (h : (PyData.strOk a && PyData.strOk b) = true) : fEq (.str a) (.str b) st = .ok (.bl (a == b)) st := fEq_str (Bool.and_eq_true _ _ |>.mp h).1 (Bool.and_eq_true _ _ |>.mp h).2
theorem fNe_strc {a b : Str} (h : (PyData.strOk a && PyData.strOk b) = true) : fNe (.str a) (.str b) st = .ok (.bl (!(a == b))) st := fNe_str (Bool.and_eq_true _ _ |>.mp h).1 (Bool.and_eq_true _ _ |>.mp h).2
@[simp] theorem fTuple_ref : fTuple (.ref n) st = match liveAt st n with
  | some ds => .ok (.tup ds) st
  | none => .stuck := by
  unfold fTuple
  rw [seqOf_ref']
  all_goals (cases liveAt st n <;> rfl)
@[simp] theorem nList_ref : nList (.ref n) st = match liveAt st n with
  | some ds => .ok ds st
  | none => .stuck := by
  unfold nList
  rw [seqOf_ref']
  all_goals (cases liveAt st n <;> rfl)
@[simp] theorem kSl_ref {lo hi : Option Int} : kSl (.ref n) lo hi st = match liveAt st n with
  | some ds => .ok (.lst (cutM ds lo hi)) st
  | none => .stuck := by
  unfold kSl
  show (match listOf st (.ref n) with | some ds => _ | none => _) = _
  rw [listOf_ref']
  all_goals (cases liveAt st n <;> rfl)
theorem dctOf_ref {ds : List Val} (h : liveAt st n = some ds) : dctOf st (.ref n) = none := by
  unfold liveAt at h
  show (match st[n]? with | some (.dct kvs) => some kvs | _ => none) = none
  split at h
  · rename_i e; rw [e]
  · cases h
theorem fIxA_ref {ds : List Val} {i : Int} (h : liveAt st n = some ds) : fIxA (.ref n) (.int i) st = match atI ds i with
  | some d => .ok d st
  | none => .stuck := by
  unfold fIxA
  rw [dctOf_ref h]
  show fIx (.ref n) (.int i) st = _
  unfold fIx
  show (match seqOf st (.ref n) with | some ds => _ | none => _) = _
  rw [seqOf_ref', h]
  all_goals rfl
@[simp] theorem fIxA_ref0 {r : Store} {ds : List Val} {i : Int} : fIxA (.ref 0) (.int i) (.lst ds :: r) = match atI ds i with
  | some d => .ok d (.lst ds :: r)
  | none => .stuck := fIxA_ref rfl
@[simp] theorem fIxA_ref1 {o : MObj} {r : Store} {ds : List Val} {i : Int} : fIxA (.ref 1) (.int i) (o :: .lst ds :: r) = match atI ds i with
  | some d => .ok d (o :: .lst ds :: r)
  | none => .stuck := fIxA_ref rfl
@[simp] theorem fIxA_ref2 {o o2 : MObj} {r : Store} {ds : List Val} {i : Int} : fIxA (.ref 2) (.int i) (o :: o2 :: .lst ds :: r) = match atI ds i with
  | some d => .ok d (o :: o2 :: .lst ds :: r)
  | none => .stuck := fIxA_ref rfl
@[simp] theorem kSrc_ref : kSrc (.ref n) st = match liveAt st n with
  | some ds => .ok (.live n ds.length) st
  | none => .stuck := by
  show (match st[n]? with | some (.lst ds) => R.ok (Src.live n ds.length) st | _ => .stuck) = _
  unfold liveAt
  cases st[n]? with
  | none => rfl
  | some o => cases o <;> rfl
end
section
variable {α : Type} {g : GM} {b : MM}
/-- a turn, told by its outcome -/
theorem turnq {d : Val} {env : MEnv} {st : Store} {P : MEnv → Store → Prop} (h : ∀ q, ((g d env).elim S.stuck fun e => b e st) = q → ∃ e' s', q = .nx e' s' ∧ P e' s') :
    ∃ e1, g d env = some e1 ∧ ∃ e' s', b e1 st = .nx e' s' ∧ P e' s' := by
  obtain ⟨e', s', h1, h2⟩ := h _ rfl
  cases hg : g d env with
  | none => rw [hg] at h1; cases h1
  | some e1 => rw [hg] at h1; exact ⟨e1, rfl, e', s', h1, h2⟩
theorem loop_rngq {lo : Int} {n : Nat} {env : MEnv} {st : Store} {r : S} (hL : loopV g b (rngL lo n) env st = r) (Inv : Nat → MEnv → Store → Prop) (h0 : Inv 0 env st)
    (hs : ∀ (i : Nat) env st, i < n → Inv i env st → ∀ q, ((g (.int (lo + (i : Nat))) env).elim S.stuck fun e => b e st) = q → ∃ e' s', q = .nx e' s' ∧ Inv (i + 1) e' s') :
    ∃ e' s', r = .nx e' s' ∧ Inv n e' s' := loop_rng hL Inv h0 fun i env st hi h => turnq (hs i env st hi h)
theorem loop_outq {enc : α → Val} {xs : List α} {env : MEnv} {st : Store} {r : S} (hL : loopV g b (xs.map enc) env st = r) (Inv : List α → MEnv → Store → Prop) (h0 : Inv [] env st)
    (hs : ∀ don x post env st, xs = don ++ x :: post → Inv don env st → ∀ q, ((g (enc x) env).elim S.stuck fun e => b e st) = q → ∃ e' s', q = .nx e' s' ∧ Inv (don ++ [x]) e' s') :
    ∃ e' s', r = .nx e' s' ∧ Inv xs e' s' := loop_out hL Inv h0 fun don x post env st e h => turnq (hs don x post env st e h)
/-- for x in xs: if P(x): return v -/
theorem loop_anyq {enc : α → Val} {xs : List α} {env : MEnv} {st : Store} {q : S} (hL : loopV g b (xs.map enc) env st = q) (P : α → Bool) (v : Val) (E : Option Val → MEnv) (o : Option Val) (h0 : env = E o)
    (hs : ∀ x ∈ xs, ∀ o q, ((g (enc x) (E o)).elim S.stuck fun e => b e st) = q → q = if P x = true then .rt v st else .nx (E (some (enc x))) st) :
    (xs.any P = true ∧ q = .rt v st) ∨ (xs.any P = false ∧ ∃ o', q = .nx (E o') st) := by
  subst h0
  induction xs generalizing o with
  | nil => exact .inr ⟨rfl, o, hL.symm⟩
  | cons x xs ih =>
    have h := hs x List.mem_cons_self o _ rfl
    rw [List.map_cons] at hL
    cases hg : g (enc x) (E o) with
    | none => rw [hg] at h; split at h <;> cases h
    | some e1 =>
      rw [hg] at h
      change b e1 st = _ at h
      rw [loopV_cons hg, h] at hL
      cases hP : P x with
      | true =>
        rw [hP, if_pos rfl] at hL
        exact .inl ⟨by simp [hP], hL.symm⟩
      | false =>
        rw [hP, if_neg (by decide)] at hL
        rcases ih (some (enc x)) (fun y hy => hs y (List.mem_cons_of_mem _ hy)) hL with ⟨h1, h2⟩ | ⟨h1, h2⟩
        · exact .inl ⟨by simp [h1], h2⟩
        · exact .inr ⟨by simp [hP, h1], h2⟩
variable {tt : MEnv → Store → R Bool} {te : MEnv → Store → R Val}
theorem comp_mapq {enc : α → Val} {xs : List α} {env : MEnv} {st : Store} {q : R (List Val)} (hC : compV g tYesM te env (xs.map enc) st = q) (f : α → Val) (hs : ∀ x ∈ xs, ∃ e1, g (enc x) env = some e1 ∧ te e1 st = .ok (f x) st) : q = .ok (xs.map f) st := hC.symm.trans (ML.comp_map enc f hs)
theorem comp_filterq {enc : α → Val} {xs : List α} {env : MEnv} {st : Store} {q : R (List Val)} (hC : compV g tt te env (xs.map enc) st = q) (f : α → Val) (P : α → Bool) (hs : ∀ x ∈ xs, ∃ e1, g (enc x) env = some e1 ∧ tt e1 st = .ok (P x) st ∧ (P x = true → te e1 st = .ok (f x) st)) : q = .ok ((xs.filter P).map f) st := hC.symm.trans (ML.comp_filter enc f P hs)
end
/-! ### lists of numbers -/
theorem toDs_ints : ∀ xs : List Int, toDs (xs.map Val.int) = some (xs.map PyData.int)
  | [] => rfl
  | x :: xs => by
    rw [List.map_cons]
    unfold toDs
    rw [toDs_ints xs]; rfl
theorem eqv_int (x y : Int) : PyData.eqv (.int x) (.int y) = decide (x = y) := by
  unfold PyData.eqv
  simp [BEq.beq, Int.beq']
theorem eqvAll_ints : ∀ xs ys : List Int, PyData.eqvAll (xs.map .int) (ys.map .int) = decide (xs = ys)
  | [], [] => by simp [PyData.eqvAll]
  | [], y :: ys => by simp [PyData.eqvAll]
  | x :: xs, [] => by simp [PyData.eqvAll]
  | x :: xs, y :: ys => by
    rw [List.map_cons, List.map_cons]
    unfold PyData.eqvAll
    rw [eqvAll_ints xs ys, eqv_int]
    simp [Bool.decide_and]
theorem okD_ints {st : Store} (xs : List Int) : okD st (.lst (xs.map Val.int)) = true := okD_of (by simp)
theorem shp_ints (xs : List Int) : shp 40 (.list (xs.map .int)) = true := by
  have h := okD_ints (st := []) xs
  unfold okD at h
  have e : toD [] (.lst (xs.map Val.int)) = some (.list (xs.map .int)) := by
    show (toDs (xs.map Val.int)).map PyData.list = _
    rw [toDs_ints]; rfl
  rw [e] at h
  exact h
theorem fEq_ints {st : Store} (xs ys : List Int) : fEq (.lst (xs.map Val.int)) (.lst (ys.map Val.int)) st = .ok (.bl (decide (xs = ys))) st := by
  have e : ∀ xs : List Int, toD st (.lst (xs.map Val.int)) = some (.list (xs.map .int)) := by
    intro xs
    show (toDs (xs.map Val.int)).map PyData.list = _
    rw [toDs_ints]; rfl
  unfold fEq
  rw [e, e]
  show (if shp 40 (.list (xs.map .int)) && shp 40 (.list (ys.map .int)) then R.ok (Val.bl (PyData.eqv (.list (xs.map .int)) (.list (ys.map .int)))) st else .stuck) = _
  rw [shp_ints, shp_ints]
  have : PyData.eqv (.list (xs.map .int)) (.list (ys.map .int)) = decide (xs = ys) := by
    rw [← eqvAll_ints]
    conv => lhs; unfold PyData.eqv
  rw [this]; rfl
end ML

-- Dx
set_option linter.all false
set_option maxRecDepth 100000
set_option maxHeartbeats 4000000
/-! Dx: equality and membership, worked out; ends of sequences. -/
namespace ML
open PySem PySem.Spec PyProof.Rows L2
def eqM (a b : Val) : Bool := match toD0 a, toD0 b with
  | some x, some y => PyData.eqv x y
  | _, _ => false
def eqMs (a b : List Val) : Bool := match toDs a, toDs b with
  | some x, some y => PyData.eqvAll x y
  | _, _ => false
theorem okV_noref {n : Nat} {d : Val} (h : okV n d = true) (st : Store) : toD st d = toD0 d := by
  cases d with
  | ref m => simp [okV] at h
  | _ => rfl
theorem fEq_v {a b : Val} {st : Store} (ha : okV 40 a = true) (hb : okV 40 b = true) : fEq a b st = .ok (.bl (eqM a b)) st := by
  obtain ⟨x, h1, h2⟩ := okV_toD ha
  obtain ⟨y, h3, h4⟩ := okV_toD hb
  unfold fEq eqM
  rw [okV_noref ha, okV_noref hb, h1, h3]
  show (if shp 40 x && shp 40 y then R.ok (Val.bl (PyData.eqv x y)) st else .stuck) = _
  rw [h2, h4]; rfl
theorem fNe_v {a b : Val} {st : Store} (ha : okV 40 a = true) (hb : okV 40 b = true) : fNe a b st = .ok (.bl (!eqM a b)) st := by
  obtain ⟨x, h1, h2⟩ := okV_toD ha
  obtain ⟨y, h3, h4⟩ := okV_toD hb
  unfold fNe eqM
  rw [okV_noref ha, okV_noref hb, h1, h3]
  show (if shp 40 x && shp 40 y then R.ok (Val.bl (!PyData.eqv x y)) st else .stuck) = _
  rw [h2, h4]; rfl
section
variable {i j : Int} {x y : Str} {a b : List Val} {d e : Val} {p q : Bool}
@[simp] theorem eqM_int : eqM (.int i) (.int j) = (i == j) := by
  show PyData.eqv (.int i) (.int j) = _
  unfold PyData.eqv; rfl
@[simp] theorem eqM_bl : eqM (.bl p) (.bl q) = (p == q) := by
  show PyData.eqv (.bool p) (.bool q) = _
  unfold PyData.eqv; rfl
@[simp] theorem eqM_str : eqM (.str x) (.str y) = (x == y) := by
  show PyData.eqv (.str x) (.str y) = _
  unfold PyData.eqv; rfl
@[simp] theorem eqM_non : eqM .non .non = true := by
  show PyData.eqv .none .none = _
  unfold PyData.eqv; rfl
@[simp] theorem eqM_non_int : eqM .non (.int i) = false := by
  show PyData.eqv .none (.int i) = _
  unfold PyData.eqv; rfl
@[simp] theorem eqM_int_non : eqM (.int i) .non = false := by
  show PyData.eqv (.int i) .none = _
  unfold PyData.eqv; rfl
@[simp] theorem eqM_non_tup : eqM .non (.tup a) = false := by
  show (match toD0 .non, toD0 (.tup a) with
    | some x, some y => PyData.eqv x y
    | _, _ => false) = _
  unfold toD0
  cases toDs a <;> simp [PyData.eqv]
@[simp] theorem eqM_tup_non : eqM (.tup a) .non = false := by
  show (match toD0 (.tup a), toD0 .non with
    | some x, some y => PyData.eqv x y
    | _, _ => false) = _
  unfold toD0
  cases toDs a <;> simp [PyData.eqv]
@[simp] theorem eqM_tup : eqM (.tup a) (.tup b) = eqMs a b := by
  show (match (toDs a).map PyData.tuple, (toDs b).map PyData.tuple with
    | some x, some y => PyData.eqv x y
    | _, _ => false) = _
  unfold eqMs
  cases toDs a <;> cases toDs b <;> simp [PyData.eqv]
@[simp] theorem eqM_lst : eqM (.lst a) (.lst b) = eqMs a b := by
  show (match (toDs a).map PyData.list, (toDs b).map PyData.list with
    | some x, some y => PyData.eqv x y
    | _, _ => false) = _
  unfold eqMs
  cases toDs a <;> cases toDs b <;> simp [PyData.eqv]
@[simp] theorem eqMs_nil : eqMs [] [] = true := by simp [eqMs, toDs, PyData.eqvAll]
@[simp] theorem eqMs_nil_cons : eqMs [] (d :: a) = false := by
  unfold eqMs
  conv => lhs; unfold toDs
  cases toD0 d <;> cases toDs a <;> simp [PyData.eqvAll]
@[simp] theorem eqMs_cons_nil : eqMs (d :: a) [] = false := by
  unfold eqMs
  conv => lhs; unfold toDs
  cases toD0 d <;> cases toDs a <;> simp [PyData.eqvAll]
@[simp] theorem eqMs_cons : eqMs (d :: a) (e :: b) = (eqM d e && eqMs a b) := by
  unfold eqMs eqM
  rw [show toDs (d :: a) = (match toD0 d, toDs a with
    | some x, some xs => some (x :: xs)
    | _, _ => none) from by
    conv => lhs; unfold toDs
    all_goals rfl]
  rw [show toDs (e :: b) = (match toD0 e, toDs b with
    | some x, some xs => some (x :: xs)
    | _, _ => none) from by
    conv => lhs; unfold toDs
    all_goals rfl]
  cases toD0 d <;> cases toDs a <;> cases toD0 e <;> cases toDs b <;> simp [PyData.eqvAll]
end
theorem eqM_self {n : Nat} {d : Val} (h : okV n d = true) : eqM d d = true := by
  obtain ⟨x, h1, h2⟩ := okV_toD h
  unfold eqM
  rw [h1]
  exact eqv_self h2
theorem eqMs_ints (xs ys : List Int) : eqMs (xs.map Val.int) (ys.map Val.int) = decide (xs = ys) := by
  unfold eqMs
  rw [toDs_ints, toDs_ints]
  exact eqvAll_ints xs ys
/-! ### in -/
theorem fls_ints : ∀ ns : List Int, fls (ns.map Val.int) = some (ns.map V.int)
  | [] => rfl
  | n :: ns => by
    rw [List.map_cons]
    unfold fls
    rw [fls_ints ns]; rfl
theorem inV_ints (i : Int) (ns : List Int) : inV (.int i) (ns.map V.int) = decide (i ∈ ns) := by
  unfold inV
  induction ns with
  | nil => simp
  | cons n ns ih =>
    rw [List.map_cons, List.any_cons, ih]
    have : L2.eqV (.int n) (.int i) = (n == i) := rfl
    rw [this]
    by_cases h : n = i
    · simp [h]
    · have h2 : ¬ i = n := fun e => h e.symm
      simp [h, h2]
theorem fIn_tupI (i : Int) (ns : List Int) (st : Store) : fIn (.int i) (.tup (ns.map Val.int)) st = .ok (.bl (decide (i ∈ ns))) st := by
  show (match fl (.int i), fls (ns.map Val.int) with
    | some x, some zs => R.ok (Val.bl (inV x zs)) st
    | _, _ => .stuck) = _
  rw [fls_ints]
  show R.ok (Val.bl (inV (.int i) (ns.map V.int))) st = _
  rw [inV_ints]
theorem fIn_lstI (i : Int) (ns : List Int) (st : Store) : fIn (.int i) (.lst (ns.map Val.int)) st = .ok (.bl (decide (i ∈ ns))) st := fIn_tupI i ns st
theorem fNotIn_tupI (i : Int) (ns : List Int) (st : Store) : fNotIn (.int i) (.tup (ns.map Val.int)) st = .ok (.bl (!decide (i ∈ ns))) st := by
  show (match fl (.int i), fls (ns.map Val.int) with
    | some x, some zs => R.ok (Val.bl (!inV x zs)) st
    | _, _ => .stuck) = _
  rw [fls_ints]
  show R.ok (Val.bl (!inV (.int i) (ns.map V.int))) st = _
  rw [inV_ints]
@[simp] theorem fNotIn_rng {i lo hi : Int} {st : Store} : fNotIn (.int i) (.rng lo hi) st = .ok (.bl (!decide (lo ≤ i ∧ i < hi))) st := rfl
@[simp] theorem fIn_tup1 {i a : Int} {st : Store} : fIn (.int i) (.tup [.int a]) st = .ok (.bl (i == a)) st := by
  rw [show [Val.int a] = [a].map Val.int from rfl, fIn_tupI]
  simp [Bool.beq_eq_decide_eq]
@[simp] theorem fIn_tup2 {i a b : Int} {st : Store} : fIn (.int i) (.tup [.int a, .int b]) st = .ok (.bl (i == a || i == b)) st := by
  rw [show [Val.int a, .int b] = [a, b].map Val.int from rfl, fIn_tupI]
  congr 2
  rw [Bool.eq_iff_iff]; simp
@[simp] theorem fIn_tup3 {i a b c : Int} {st : Store} : fIn (.int i) (.tup [.int a, .int b, .int c]) st = .ok (.bl (i == a || (i == b || i == c))) st := by
  rw [show [Val.int a, .int b, .int c] = [a, b, c].map Val.int from rfl, fIn_tupI]
  congr 2
  rw [Bool.eq_iff_iff]; simp
/-! ### ends -/
@[simp] theorem atI_0 {α : Type} {x : α} {r : List α} : atI (x :: r) 0 = some x := by
  unfold atI ixN
  rw [if_pos (Int.le_refl _), if_pos (by simp only [List.length_cons]; omega)]; rfl
@[simp] theorem atI_1 {α : Type} {x y : α} {r : List α} : atI (x :: y :: r) 1 = some y := by
  unfold atI ixN
  rw [if_pos (by decide), if_pos (by simp only [List.length_cons]; omega)]; rfl
@[simp] theorem atI_2 {α : Type} {x y z : α} {r : List α} : atI (x :: y :: z :: r) 2 = some z := by
  unfold atI ixN
  rw [if_pos (by decide), if_pos (by simp only [List.length_cons]; omega)]; rfl
@[simp] theorem atI_3 {α : Type} {x y z u : α} {r : List α} : atI (x :: y :: z :: u :: r) 3 = some u := by
  unfold atI ixN
  rw [if_pos (by decide), if_pos (by simp only [List.length_cons]; omega)]; rfl
theorem atI_last {α : Type} (xs : List α) (x : α) : atI (xs ++ [x]) (-1) = some x := by
  obtain ⟨y, h1, h2⟩ := atI_neg (xs := xs ++ [x]) (i := -1) (by decide) (by simp; omega)
  rw [h2, ← h1]
  have : (-1 + ((xs ++ [x]).length : Int)).toNat = xs.length := by simp; omega
  rw [this]
  simp
theorem cutM_init (xs : List Val) (x : Val) : cutM (xs ++ [x]) none (some (-1)) = xs := by
  unfold cutM
  have h1 : HT.sIx (xs ++ [x]).length 0 none = 0 := rfl
  have h2 : HT.sIx (xs ++ [x]).length (xs ++ [x]).length (some (-1)) = xs.length := by
    show (if (-1 : Int) < 0 then ((-1 : Int) + ((xs ++ [x]).length : Int)).toNat else min (-1 : Int).toNat (xs ++ [x]).length) = _
    rw [if_pos (by decide)]
    simp; omega
  rw [h1, h2]
  simp
theorem cutM_nil (lo hi : Option Int) : cutM [] lo hi = [] := by simp [cutM]
theorem cutM_take (xs : List Val) (n : Nat) : cutM xs none (some (n : Int)) = xs.take n := by
  unfold cutM
  have h1 : HT.sIx xs.length 0 none = 0 := rfl
  have h2 : HT.sIx xs.length xs.length (some (n : Int)) = min n xs.length := HT.sIx_nat ..
  rw [h1, h2]
  simp only [List.drop_zero, Nat.sub_zero]
  by_cases h : n ≤ xs.length
  · rw [Nat.min_eq_left h]
  · rw [Nat.min_eq_right (by omega), List.take_of_length_le (by omega), List.take_of_length_le (by omega)]
theorem cutM_drop (xs : List Val) (n : Nat) : cutM xs (some (n : Int)) none = xs.drop n := by
  unfold cutM
  have h1 : HT.sIx xs.length 0 (some (n : Int)) = min n xs.length := HT.sIx_nat ..
  have h2 : HT.sIx xs.length xs.length none = xs.length := rfl
  rw [h1, h2]
  by_cases h : n ≤ xs.length
  · rw [Nat.min_eq_left h, List.take_of_length_le (by simp)]
  · rw [Nat.min_eq_right (by omega)]
    rw [List.drop_of_length_le (by omega), List.drop_of_length_le (by omega)]
    simp
theorem cutM_mid (xs : List Val) (m n : Nat) : cutM xs (some (m : Int)) (some (n : Int)) = (xs.drop m).take (n - m) := by
  unfold cutM
  have h1 : HT.sIx xs.length 0 (some (m : Int)) = min m xs.length := HT.sIx_nat ..
  have h2 : HT.sIx xs.length xs.length (some (n : Int)) = min n xs.length := HT.sIx_nat ..
  rw [h1, h2]
  by_cases h : m ≤ xs.length
  · rw [Nat.min_eq_left h]
    by_cases h3 : n ≤ xs.length
    · rw [Nat.min_eq_left h3]
    · rw [Nat.min_eq_right (by omega), List.take_of_length_le (by simp), List.take_of_length_le (by simp; omega)]
  · rw [Nat.min_eq_right (show xs.length ≤ m by omega)]
    rw [List.drop_of_length_le (Nat.le_refl _), List.drop_of_length_le (show xs.length ≤ m by omega)]
    simp
theorem fMulA_tup {xs : List Val} {k : Int} {st : Store} (h : -(2 ^ 20) < k ∧ k ≤ 1000 ∧ xs.length ≤ 1000) : fMulA (.tup xs) (.int k) st = .ok (.tup (repM k xs)) st := if_pos h
theorem repM_one (k : Int) (x : Val) : repM k [x] = List.replicate k.toNat x := by
  unfold repM
  induction k.toNat with
  | zero => rfl
  | succ n ih => rw [List.replicate_succ, List.replicate_succ, List.flatten_cons, ih]; rfl
/-! ### parts of closed rows -/
theorem cls_iff {xs : List Val} : cls xs = true ↔ ∀ d ∈ xs, cl d = true := by
  induction xs with
  | nil => simp
  | cons x xs ih => simp [ih]
theorem nrs_iff {xs : List Val} : nrs xs = true ↔ ∀ d ∈ xs, nr d = true := by
  induction xs with
  | nil => simp
  | cons x xs ih => simp [ih]
theorem okVs_iff {n : Nat} {xs : List Val} : okVs n xs = true ↔ ∀ d ∈ xs, okV n d = true := by
  induction xs with
  | nil => simp
  | cons x xs ih => simp [ih]
theorem cls_take {xs : List Val} (h : cls xs = true) (n : Nat) : cls (xs.take n) = true := cls_iff.mpr fun d hd => cls_iff.mp h d (List.mem_of_mem_take hd)
theorem nrs_take {xs : List Val} (h : nrs xs = true) (n : Nat) : nrs (xs.take n) = true := nrs_iff.mpr fun d hd => nrs_iff.mp h d (List.mem_of_mem_take hd)
theorem okVs_take {k : Nat} {xs : List Val} (h : okVs k xs = true) (n : Nat) : okVs k (xs.take n) = true := okVs_iff.mpr fun d hd => okVs_iff.mp h d (List.mem_of_mem_take hd)
theorem cls_drop {xs : List Val} (h : cls xs = true) (n : Nat) : cls (xs.drop n) = true := cls_iff.mpr fun d hd => cls_iff.mp h d (List.mem_of_mem_drop hd)
theorem nrs_drop {xs : List Val} (h : nrs xs = true) (n : Nat) : nrs (xs.drop n) = true := nrs_iff.mpr fun d hd => nrs_iff.mp h d (List.mem_of_mem_drop hd)
theorem okVs_drop {k : Nat} {xs : List Val} (h : okVs k xs = true) (n : Nat) : okVs k (xs.drop n) = true := okVs_iff.mpr fun d hd => okVs_iff.mp h d (List.mem_of_mem_drop hd)
/-! ### calls -/
theorem fin_cl {z : Val} {s : Store} (h : cl z = true) : fin (.rt z s) = .ok z [] := if_pos h
theorem argV_nr {d : Val} {st : Store} (h : nr d = true) : argV st d = some d := if_pos h
theorem argVs_nr {st : Store} : ∀ {ds : List Val}, nrs ds = true → argVs st ds = some ds
  | [], _ => rfl
  | d :: ds, h => by
    rw [nrs_cons, Bool.and_eq_true] at h
    exact argVs_cons (argV_nr h.1) (argVs_nr h.2)
theorem kCall_nr {n : Nat} {pf : PF} {ds : List Val} {d : Val} {s st : Store} (hl : ds.length = n) (ha : nrs ds = true) (h : pf ds = .ok d s) : kCall n pf ds st = .ok d st := kCall_eq hl (argVs_nr ha) h
end ML

-- Db
set_option linter.all false
set_option maxRecDepth 100000
set_option maxHeartbeats 4000000
/-! Db: masks and shifts of octets; instances within any store. -/
namespace ML
open PySem PySem.Spec PyProof.Rows L2
theorem and255 (x : Int) : Builtin.bitAnd x 255 = x % 256 := PySem.W.kbt_mask x 8
theorem or_nat (a b : Nat) : Builtin.bitOr (a : Int) (b : Int) = ((a ||| b : Nat) : Int) := by
  have n1 : ∀ x : Int, Builtin.bitNot x = -x - 1 := fun x => rfl
  unfold Builtin.bitOr Builtin.bitAnd
  have h1 : decide ((0 : Int) ≤ Builtin.bitNot (a : Int)) = false := decide_eq_false (by rw [n1]; omega)
  have h2 : decide ((0 : Int) ≤ Builtin.bitNot (b : Int)) = false := decide_eq_false (by rw [n1]; omega)
  have h3 : ∀ x : Nat, (Builtin.bitNot (Builtin.bitNot (x : Int))).toNat = x := fun x => by rw [n1, n1]; omega
  rw [h1, h2]
  show Builtin.bitNot (Builtin.bitNot (((Builtin.bitNot (Builtin.bitNot (a : Int))).toNat ||| (Builtin.bitNot (Builtin.bitNot (b : Int))).toNat : Nat) : Int)) = _
  rw [h3, h3, n1, n1]
  omega
theorem or_low {a b : Int} (k : Nat) (ha : 0 ≤ a) (hb : 0 ≤ b) (hl : b < 2 ^ k) : Builtin.bitOr (a * 2 ^ k) b = a * 2 ^ k + b := by
  obtain ⟨x, rfl⟩ := Int.eq_ofNat_of_zero_le ha
  obtain ⟨y, rfl⟩ := Int.eq_ofNat_of_zero_le hb
  have h1 : y < 2 ^ k := by exact_mod_cast hl
  have h2 : ((x : Int) * 2 ^ k) = ((x * 2 ^ k : Nat) : Int) := by simp
  rw [h2, or_nat, ← Nat.shiftLeft_eq, ← Nat.shiftLeft_add_eq_or_of_lt h1]
  simp
/-! ### calls: what stands for an argument -/
theorem kCall_arg {n : Nat} {pf : PF} {ds ds' : List Val} {d : Val} {st : Store} (hl : ds.length = n) (hl' : ds'.length = n) (ha : argVs st ds = some ds') (hn : nrs ds' = true) (h : kCall n pf ds' [] = .ok d []) : kCall n pf ds st = .ok d st := by
  unfold kCall at h ⊢
  rw [if_pos hl', argVs_nr hn] at h
  rw [if_pos hl, ha]
  simp only at h ⊢
  cases e : pf ds' with
  | ok a b =>
    rw [e] at h
    have h : R.ok a [] = R.ok d [] := h
    injection h with h1 h2
    subst h1
    rfl
  | exc c f b => rw [e] at h; exact absurd h (by simp [backP])
  | stuck => rw [e] at h; exact absurd h (by simp [backP])
/-! ### comprehensions over a list of the store that nobody changes meanwhile -/
theorem comp_live {α : Type} {g : GM} {tt : MEnv → Store → R Bool} {te : MEnv → Store → R Val} {enc : α → Val} {xs : List α} {env : MEnv} {st : Store} {n : Nat} (hn : liveAt st n = some (xs.map enc)) (f : α → Val) (P : α → Bool)
    (hs : ∀ x ∈ xs, ∃ e1, g (enc x) env = some e1 ∧ tt e1 st = .ok (P x) st ∧ (P x = true → te e1 st = .ok (f x) st)) : ∀ k i, i + k = xs.length → compL g tt te env n k i st = .ok (((xs.drop i).filter P).map f) st
  | 0, i, h => by
    unfold compL
    rw [hn]
    simp only
    rw [if_pos (by rw [List.length_map]; omega), List.drop_of_length_le (by omega)]
    rfl
  | k + 1, i, h => by
    have hi : i < xs.length := by omega
    have e1 : (xs.map enc)[i]? = some (enc xs[i]) := by simp [hi]
    obtain ⟨e2, h1, h2, h3⟩ := hs xs[i] (List.getElem_mem hi)
    have ih := comp_live hn f P hs k (i + 1) (by omega)
    unfold compL
    rw [hn]
    simp only [e1, h1]
    rw [h2, noX_ok, R.bind_ok, List.drop_eq_getElem_cons hi, List.filter_cons]
    cases hP : P xs[i] with
    | true =>
      rw [if_pos rfl, h3 hP, noX_ok, R.bind_ok, ih]
      rfl
    | false =>
      rw [if_neg (by decide), ih]
      rfl
theorem comp_liveq {α : Type} {g : GM} {tt : MEnv → Store → R Bool} {te : MEnv → Store → R Val} {enc : α → Val} {xs : List α} {env : MEnv} {st : Store} {n len : Nat} {q : R (List Val)} (hC : compL g tt te env n len 0 st = q) (hn : liveAt st n = some (xs.map enc)) (hl : len = xs.length) (f : α → Val) (P : α → Bool)
    (hs : ∀ x ∈ xs, ∃ e1, g (enc x) env = some e1 ∧ tt e1 st = .ok (P x) st ∧ (P x = true → te e1 st = .ok (f x) st)) : q = .ok ((xs.filter P).map f) st := by
  subst hl
  have := comp_live hn f P hs xs.length 0 (by omega)
  rw [List.drop_zero] at this
  exact hC.symm.trans this
theorem liveAt_lt {st : Store} {n : Nat} {q : List Val} (h : liveAt st n = some q) : n < st.length := by
  unfold liveAt at h
  split at h
  · rename_i e
    exact (List.getElem?_eq_some_iff.mp e).1
  · cases h
theorem liveAt_set {st : Store} {n : Nat} {q ds : List Val} (h : liveAt st n = some q) : liveAt (st.set n (.lst ds)) n = some ds := by
  unfold liveAt
  rw [List.getElem?_set_self (liveAt_lt h)]
/-! ### instances -/
theorem insAt_lt {st : Store} {n : Nat} {q : Str × List (Str × Val)} (h : insAt st n = some q) : n < st.length := by
  unfold insAt at h
  split at h
  · rename_i e
    exact (List.getElem?_eq_some_iff.mp e).1
  · cases h
theorem insAt_set {st : Store} {n : Nat} {q : Str × List (Str × Val)} (h : insAt st n = some q) {C : Str} {fs : List (Str × Val)} : insAt (st.set n (.ins C fs)) n = some (C, fs) := by
  unfold insAt
  rw [List.getElem?_set_self (insAt_lt h)]
theorem insAt_new {st : Store} {C : Str} {fs : List (Str × Val)} : insAt (st ++ [.ins C fs]) st.length = some (C, fs) := by
  unfold insAt
  rw [List.getElem?_append_right (Nat.le_refl _), Nat.sub_self]
  rfl
theorem set_new {st : Store} {o o' : MObj} : (st ++ [o]).set st.length o' = st ++ [o'] := by
  rw [List.set_append_right _ _ (Nat.le_refl _), Nat.sub_self]
  rfl
theorem set_set {st : Store} {n : Nat} {a b : MObj} : (st.set n a).set n b = st.set n b := List.set_set ..
@[simp] theorem kCallS_eq {n N : Nat} {mb : MM} {ds : List Val} {st : Store} : kCallS n N mb ds st = if ds.length = n then finS (mb (startM N ds) st) else .stuck := rfl
theorem kCallS_go {n N : Nat} {mb : MM} {ds : List Val} {st : Store} (h : ds.length = n) : kCallS n N mb ds st = finS (mb (startM N ds) st) := if_pos h
@[simp] theorem finS_rt {v : Val} {st : Store} : finS (.rt v st) = .ok v st := rfl
@[simp] theorem finS_nx {e : MEnv} {st : Store} : finS (.nx e st) = .ok .non st := rfl
@[simp] theorem finS_stuck : finS .stuck = .stuck := rfl
@[simp] theorem nList_fzl {a : List Val} {st : Store} : nList (.fzl a) st = .ok a st := rfl
theorem startM_eq {N : Nat} {ds : List Val} : startM N ds = ds.map some ++ List.replicate (N - ds.length) none := rfl
end ML

-- Ds
set_option linter.all false
set_option maxRecDepth 100000
set_option maxHeartbeats 4000000
/-! Ds: what a law calls the same. -/
namespace ML
open PySem PySem.Spec PyProof.Rows L2
def lsOf : Val → Option (List Val)
  | .lst a => some a
  | .brw a => some a
  | .fzl a => some a
  | _ => none
inductive Tw : Nat → Val → Val → Prop where
  | non (n) : Tw n .non .non
  | bl (n) (b : Bool) : Tw n (.bl b) (.bl b)
  | int (n) (i : Int) : Tw n (.int i) (.int i)
  | str (n) (x : Str) : PyData.strOk x = true → Tw n (.str x) (.str x)
  | tup (n) (a b : List Val) : a.length = b.length → a.length ≤ 16777216 → (∀ (i : Nat) (x y : Val), a[i]? = some x → b[i]? = some y → Tw n x y) → Tw (n + 1) (.tup a) (.tup b)
  | lst (n) (t d : Val) (a b : List Val) : lsOf t = some a → lsOf d = some b → a.length = b.length → a.length ≤ 16777216 → (∀ (i : Nat) (x y : Val), a[i]? = some x → b[i]? = some y → Tw n x y) → Tw (n + 1) t d
mutual
def lv : Val → Bool
  | .tup a => decide (a.length ≤ 16777216) && lvs a
  | .lst a => decide (a.length ≤ 16777216) && lvs a
  | .brw a => decide (a.length ≤ 16777216) && lvs a
  | .fzl a => decide (a.length ≤ 16777216) && lvs a
  | _ => true
def lvs : List Val → Bool
  | [] => true
  | d :: ds => lv d && lvs ds
end
theorem lvs_iff {xs : List Val} : lvs xs = true ↔ ∀ d ∈ xs, lv d = true := by
  induction xs with
  | nil => simp [lvs]
  | cons x xs ih => simp [lvs, ih]
theorem Tw.self : ∀ {n : Nat} {d : Val}, okV n d = true → lv d = true → Tw n d d
  | n, .non, _, _ => .non n
  | n, .bl b, _, _ => .bl n b
  | n, .int b, _, _ => .int n b
  | n, .str b, h, _ => .str n b (by simpa using h)
  | 0, .tup a, h, _ => by simp [okV] at h
  | 0, .lst a, h, _ => by simp [okV] at h
  | 0, .brw a, h, _ => by simp [okV] at h
  | 0, .fzl a, h, _ => by simp [okV] at h
  | n + 1, .tup a, h, l => by
    unfold lv at l
    rw [Bool.and_eq_true, decide_eq_true_eq] at l
    have h := okVs_iff.mp (show okVs n a = true by simpa [okV] using h)
    refine .tup n a a rfl l.1 fun i x y e1 e2 => ?_
    obtain rfl := Option.some.inj (e1.symm.trans e2)
    have hm := List.mem_of_getElem? e1
    exact Tw.self (h x hm) (lvs_iff.mp l.2 x hm)
  | n + 1, .lst a, h, l => by
    unfold lv at l
    rw [Bool.and_eq_true, decide_eq_true_eq] at l
    have h := okVs_iff.mp (show okVs n a = true by simpa [okV] using h)
    refine .lst n _ _ a a rfl rfl rfl l.1 fun i x y e1 e2 => ?_
    obtain rfl := Option.some.inj (e1.symm.trans e2)
    have hm := List.mem_of_getElem? e1
    exact Tw.self (h x hm) (lvs_iff.mp l.2 x hm)
  | n + 1, .brw a, h, l => by
    unfold lv at l
    rw [Bool.and_eq_true, decide_eq_true_eq] at l
    have h := okVs_iff.mp (show okVs n a = true by simpa [okV] using h)
    refine .lst n _ _ a a rfl rfl rfl l.1 fun i x y e1 e2 => ?_
    obtain rfl := Option.some.inj (e1.symm.trans e2)
    have hm := List.mem_of_getElem? e1
    exact Tw.self (h x hm) (lvs_iff.mp l.2 x hm)
  | n + 1, .fzl a, h, l => by
    unfold lv at l
    rw [Bool.and_eq_true, decide_eq_true_eq] at l
    have h := okVs_iff.mp (show okVs n a = true by simpa [okV] using h)
    refine .lst n _ _ a a rfl rfl rfl l.1 fun i x y e1 e2 => ?_
    obtain rfl := Option.some.inj (e1.symm.trans e2)
    have hm := List.mem_of_getElem? e1
    exact Tw.self (h x hm) (lvs_iff.mp l.2 x hm)
  | _, .dct _, h, _ => by simp [okV] at h
  | _, .rng _ _, h, _ => by simp [okV] at h
  | _, .ref _, h, _ => by simp [okV] at h
  | _, .fn _, h, _ => by simp [okV] at h
theorem lsOf_nr {t : Val} {a : List Val} (h : lsOf t = some a) : nr t = nrs a := by
  cases t <;> first | (obtain rfl := Option.some.inj h; simp) | cases h
theorem Tw.nr : ∀ {n : Nat} {t d : Val}, Tw n t d → ML.nr t = true ∧ ML.nr d = true := by
  intro n t d h
  induction h with
  | non n => exact ⟨rfl, rfl⟩
  | bl n b => exact ⟨rfl, rfl⟩
  | int n b => exact ⟨rfl, rfl⟩
  | str n b => exact ⟨rfl, rfl⟩
  | tup n a b e1 e2 e3 ih =>
    refine ⟨nr_tup.trans (nrs_iff.mpr fun x hx => ?_), nr_tup.trans (nrs_iff.mpr fun x hx => ?_)⟩
    · obtain ⟨i, hi⟩ := List.mem_iff_getElem?.mp hx
      have hl : i < b.length := by rw [← e1]; exact (List.getElem?_eq_some_iff.mp hi).1
      exact (ih i x _ hi (List.getElem?_eq_getElem hl)).1
    · obtain ⟨i, hi⟩ := List.mem_iff_getElem?.mp hx
      have hl : i < a.length := by rw [e1]; exact (List.getElem?_eq_some_iff.mp hi).1
      exact (ih i _ x (List.getElem?_eq_getElem hl) hi).2
  | lst n t d a b h1 h2 e1 e2 e3 ih =>
    refine ⟨(lsOf_nr h1).trans (nrs_iff.mpr fun x hx => ?_), (lsOf_nr h2).trans (nrs_iff.mpr fun x hx => ?_)⟩
    · obtain ⟨i, hi⟩ := List.mem_iff_getElem?.mp hx
      have hl : i < b.length := by rw [← e1]; exact (List.getElem?_eq_some_iff.mp hi).1
      exact (ih i x _ hi (List.getElem?_eq_getElem hl)).1
    · obtain ⟨i, hi⟩ := List.mem_iff_getElem?.mp hx
      have hl : i < a.length := by rw [e1]; exact (List.getElem?_eq_some_iff.mp hi).1
      exact (ih i _ x (List.getElem?_eq_getElem hl) hi).2
theorem atI_some {α : Type} {xs : List α} {n : Nat} (h : n < xs.length) : atI xs (n : Int) = some xs[n] := by
  obtain ⟨y, h1, h2⟩ := atI_pos (xs := xs) (i := (n : Int)) (by omega) (by omega)
  rw [h2, ← h1]
  simp [h]
end ML

-- Dy
set_option linter.all false
set_option maxRecDepth 100000
set_option maxHeartbeats 4000000
/-! Dy: more of how a mirror is worked out. -/
namespace ML
open PySem PySem.Spec PyProof.Rows L2
section
variable {st : Store} {n : Nat} {i : Int} {v : Val}
@[simp] theorem kTru_ref : kTru (.ref n) st = match liveAt st n with
  | some xs => .ok (!xs.isEmpty) st
  | none => .stuck := by
  unfold kTru
  rw [truM_ref] <;> (cases liveAt st n <;> rfl)
@[simp] theorem fPopAt_ref : fPopAt (.ref n) [.int i] st = match liveAt st n with
  | some xs => if 0 ≤ i ∧ i < 16777217 then (match xs[i.toNat]? with
    | some x => .ok x (st.set n (.lst (xs.eraseIdx i.toNat)))
    | none => .stuck) else .stuck
  | none => .stuck := by
  unfold fPopAt
  simp only [refOf_ref, intOf_int] <;> (cases liveAt st n <;> rfl)
theorem setM_live {xs : List Val} (h : liveAt st n = some xs) : setM (.ref n) (.int i) v st = (ixN xs.length i).map fun j => st.set n (.lst (xs.set j v)) := by
  unfold liveAt at h
  split at h
  · rename_i ys e
    obtain rfl := Option.some.inj h
    unfold setM
    simp only [refOf_ref, e, intOf_int]
    cases ixN ys.length i <;> rfl
  · cases h
@[simp] theorem nSset_ints {ns : List Int} : nSset [.lst (ns.map .int)] st = if ns.length < 4000 ∧ (setI ns).length < 64 then .ok ((setI ns).map .int) st else .stuck := by
  unfold nSset
  simp only [listOf_lst]
  rw [ML.ints_map]
@[simp] theorem nSorted_tup {ns : List Int} : nSorted (.tup (ns.map .int)) st = .ok ((sortI ns).map .int) st := by
  unfold nSorted
  simp only [seqOf_tup]
  rw [ML.ints_map]
@[simp] theorem nSorted_lst {ns : List Int} : nSorted (.lst (ns.map .int)) st = .ok ((sortI ns).map .int) st := by
  unfold nSorted
  simp only [seqOf_lst]
  rw [ML.ints_map]
@[simp] theorem cl_ref : cl (.ref n) = false := by simp only [cl]
@[simp] theorem closeV_ref : closeV st (.ref n) = match liveAt st n with
  | some xs => if cls xs = true then some (.lst xs) else none
  | none => none := by
  unfold closeV <;> (cases liveAt st n <;> rfl)
@[simp] theorem closeV_int : closeV st (.int i) = some (.int i) := by simp only [closeV]
@[simp] theorem closeV_bl {b : Bool} : closeV st (.bl b) = some (.bl b) := by simp only [closeV]
@[simp] theorem closeV_non : closeV st .non = some .non := by simp only [closeV]
@[simp] theorem closeV_str {x : Str} : closeV st (.str x) = some (.str x) := by simp only [closeV]
@[simp] theorem closeV_tup {ds : List Val} : closeV st (.tup ds) = (closeVs st ds).map .tup := by simp only [closeV]
@[simp] theorem closeV_lst {ds : List Val} : closeV st (.lst ds) = (closeVs st ds).map .lst := by simp only [closeV]
@[simp] theorem closeVs_eq {ds : List Val} : closeVs st (v :: ds) = match closeV st v, closeVs st ds with
  | some x, some xs => some (x :: xs)
  | _, _ => none := by
  simp only [closeVs] <;> (cases closeV st v <;> cases closeVs st ds <;> rfl)
@[simp] theorem kEn_ref : kEn [.ref n] st = match liveAt st n with
  | some ds => .ok (.liveE n ds.length) st
  | none => .stuck := by
  show (match st[n]? with | some (.lst ds) => R.ok (Src.liveE n ds.length) st | _ => .stuck) = _
  unfold liveAt
  cases st[n]? with
  | none => rfl
  | some o => cases o <;> rfl
@[simp] theorem kSrc_rng {lo hi : Int} : kSrc (.rng lo hi) st = if -(2 ^ 60) ≤ lo ∧ lo < 2 ^ 60 ∧ -(2 ^ 60) ≤ hi ∧ hi < 2 ^ 60 then .ok (.vals (rngL lo (hi - lo).toNat)) st else .stuck := rfl
theorem ixN_nat {m k : Nat} (h : k < m) : ixN m (k : Int) = some k := by
  unfold ixN
  rw [if_pos (by omega), if_pos (by omega)]
  simp
end
section
variable {α : Type} {g : GM} {b : MM} {n : Nat}
/-- a walk over a list of the store that the body leaves as it is -/
theorem loop_live {enc : α → Val} {xs : List α} (Inv : List α → MEnv → Store → Prop) (hn : ∀ don env st, Inv don env st → liveAt st n = some (xs.map enc))
    (hs : ∀ don x post env st, xs = don ++ x :: post → Inv don env st → ∀ q, ((g (enc x) env).elim S.stuck fun e => b e st) = q → ∃ e' s', q = .nx e' s' ∧ Inv (don ++ [x]) e' s') :
    ∀ (post don : List α) (env : MEnv) (st : Store), xs = don ++ post → Inv don env st → ∃ e' s', loopL g b n post.length don.length env st = .nx e' s' ∧ Inv xs e' s'
  | [], don, env, st, hx, h => by
    have hx : xs = don := by rw [hx, List.append_nil]
    subst hx
    refine ⟨env, st, ?_, h⟩
    show (match liveAt st n with
      | some ds => if ds.length ≤ xs.length then S.nx env st else .stuck
      | none => .stuck) = _
    rw [hn _ _ _ h]
    simp
  | x :: post, don, env, st, hx, h => by
    obtain ⟨e', s', h1, h2⟩ := hs don x post env st hx h _ rfl
    have hl := hn _ _ _ h
    have hi : (xs.map enc)[don.length]? = some (enc x) := by rw [hx]; simp
    obtain ⟨e2, s2, h3, h4⟩ := loop_live Inv hn hs post (don ++ [x]) e' s' (by rw [hx]; simp) h2
    rw [List.length_append, List.length_singleton] at h3
    refine ⟨e2, s2, ?_, h4⟩
    rw [List.length_cons]
    unfold loopL
    simp only [hl, hi]
    cases hg : g (enc x) env with
    | none => rw [hg] at h1; cases h1
    | some e1 =>
      rw [hg] at h1
      change b e1 st = _ at h1
      simp only [h1]
      exact h3
theorem loop_liveq {enc : α → Val} {xs : List α} {len : Nat} {env : MEnv} {st : Store} {r : S} (hL : loopL g b n len 0 env st = r) (hlen : len = xs.length) (Inv : List α → MEnv → Store → Prop) (h0 : Inv [] env st) (hn : ∀ don env st, Inv don env st → liveAt st n = some (xs.map enc))
    (hs : ∀ don x post env st, xs = don ++ x :: post → Inv don env st → ∀ q, ((g (enc x) env).elim S.stuck fun e => b e st) = q → ∃ e' s', q = .nx e' s' ∧ Inv (don ++ [x]) e' s') :
    ∃ e' s', r = .nx e' s' ∧ Inv xs e' s' := by
  subst hlen
  obtain ⟨e', s', h1, h2⟩ := loop_live Inv hn hs xs [] env st rfl h0
  exact ⟨e', s', hL.symm.trans h1, h2⟩
variable {c : MEnv → Store → R Bool} {env e : MEnv} {st s s' : Store} {f : Nat}
theorem while_end (hf : 0 < f) (hc : c env st = .ok false s) : sWhile f c b env st = .nx env s := by
  obtain ⟨f, rfl⟩ := Nat.exists_eq_succ_of_ne_zero (Nat.pos_iff_ne_zero.mp hf)
  unfold sWhile loopW
  rw [hc]; rfl
theorem while_on (hc : c env st = .ok true s) (hb : b env s = .nx e s') : sWhile (f + 1) c b env st = sWhile f c b e s' := by
  unfold sWhile
  conv => lhs; unfold loopW
  rw [hc]
  show (match b env s with
    | .nx e s => loopW c b f e s
    | .ct e s => loopW c b f e s
    | .bk e s => .nx e s
    | r => r) = _
  rw [hb]
end
@[simp] theorem setM_ref0 {xs : List Val} {r : Store} {i : Int} {v : Val} : setM (.ref 0) (.int i) v (.lst xs :: r) = (ixN xs.length i).map fun j => .lst (xs.set j v) :: r := setM_live rfl
end ML

-- G_k42
set_option linter.all false
set_option maxRecDepth 100000
set_option maxHeartbeats 4000000
/-! The program's text as data (printed from the linked text by wip/tools/gen.py). -/
namespace Lw
open PySem PySem.Spec PyProof.Rows L2 ML
/-- n, most : slots 0 n, 1 most -/
def b_is_number : Ss :=
  (.cons (.ret (.and (.isI (.var 0) "int") (.and (.not (.isI (.var 0) "bool")) (.one (.chain .le .le (.c (.int 0)) (.var 0) (.var 1))))))
  .nil)
def f_is_number : Df := ⟨("is_number", none), "is_number", "is_number", ["n", "most"], ["n", "most"], true, b_is_number⟩
/-- row, longest, most : slots 0 row, 1 longest, 2 most, 3 n -/
def b_are_numbers : Ss :=
  (.cons (.ife (.or (.not (.tru (.isI (.var 0) "tuple"))) (.one (.cmp .gt (.bi .len (.cons (.var 0) .nil)) (.var 1)))) (.cons (.ret (.c (.bl false)))
    .nil) .nil)
  (.cons (.for_ (.any (.var 0)) (.n 3) (.cons (.ife (.not (.tru (.call 0 (.cons (.var 3) (.cons (.var 2) .nil))))) (.cons (.ret (.c (.bl false)))
      .nil) .nil)
    .nil))
  (.cons (.ret (.c (.bl true)))
  .nil)))
def f_are_numbers : Df := ⟨("are_numbers", none), "are_numbers", "are_numbers", ["row", "longest", "most"], ["row", "longest", "most", "n"], true, b_are_numbers⟩
/-- n : slots 0 n -/
def b_is_four : Ss :=
  (.cons (.ret (.call 0 (.cons (.var 0) (.cons (.gc 1) .nil))))
  .nil)
def f_is_four : Df := ⟨("is_four", none), "is_four", "is_four", ["n"], ["n"], true, b_is_four⟩
/-- row : slots 0 row -/
def b_are_fours : Ss :=
  (.cons (.ret (.call 1 (.cons (.var 0) (.cons (.gc 6) (.cons (.gc 1) .nil)))))
  .nil)
def f_are_fours : Df := ⟨("are_fours", none), "are_fours", "are_fours", ["row"], ["row"], true, b_are_fours⟩
/-- row, most : slots 0 row, 1 most -/
def b_is_codes : Ss :=
  (.cons (.ret (.call 1 (.cons (.var 0) (.cons (.var 1) (.cons (.gc 0) .nil)))))
  .nil)
def f_is_codes : Df := ⟨("is_codes", none), "is_codes", "is_codes", ["row", "most"], ["row", "most"], true, b_is_codes⟩
/-- row : slots 0 row -/
def b_is_message_codes : Ss :=
  (.cons (.ret (.call 4 (.cons (.var 0) (.cons (.gc 4) .nil))))
  .nil)
def f_is_message_codes : Df := ⟨("is_message_codes", none), "is_message_codes", "is_message_codes", ["row"], ["row"], true, b_is_message_codes⟩
/-- row : slots 0 row -/
def b_is_frame_codes : Ss :=
  (.cons (.ret (.call 4 (.cons (.var 0) (.cons (.gc 5) .nil))))
  .nil)
def f_is_frame_codes : Df := ⟨("is_frame_codes", none), "is_frame_codes", "is_frame_codes", ["row"], ["row"], true, b_is_frame_codes⟩
/-- row : slots 0 row -/
def b_are_addresses : Ss :=
  (.cons (.ret (.and (.call 1 (.cons (.var 0) (.cons (.gc 2) (.cons (.gc 0) .nil)))) (.and (.cmp .gt (.bi .len (.cons (.var 0) .nil)) (.c (.int 0))) (.one (.cmp .eq (.lns (.var 0)) (.bi .len (.cons (.var 0) .nil)))))))
  .nil)
def f_are_addresses : Df := ⟨("are_addresses", none), "are_addresses", "are_addresses", ["row"], ["row"], true, b_are_addresses⟩
/-- row : slots 0 row -/
def b_is_cookie : Ss :=
  (.cons (.ife (.or (.not (.tru (.isI (.var 0) "tuple"))) (.one (.cmp .ne (.bi .len (.cons (.var 0) .nil)) (.c (.int 3))))) (.cons (.ret (.c (.bl false)))
    .nil) .nil)
  (.cons (.ret (.and (.call 2 (.cons (.ix (.var 0) (.c (.int 0))) .nil)) (.and (.call 2 (.cons (.ix (.var 0) (.c (.int 1))) .nil)) (.one (.call 7 (.cons (.ix (.var 0) (.c (.int 2))) .nil))))))
  .nil))
def f_is_cookie : Df := ⟨("is_cookie", none), "is_cookie", "is_cookie", ["row"], ["row"], true, b_is_cookie⟩
/-- stream : slots 0 stream -/
def b_is_stream : Ss :=
  (.cons (.ret (.or (.cmp .isn (.var 0) (.c (.non))) (.one (.call 0 (.cons (.var 0) (.cons (.gc 3) .nil))))))
  .nil)
def f_is_stream : Df := ⟨("is_stream", none), "is_stream", "is_stream", ["stream"], ["stream"], true, b_is_stream⟩
/-- stream, place : slots 0 stream, 1 place -/
def b_is_placed : Ss :=
  (.cons (.ret (.or (.cmp .notn (.var 0) (.c (.non))) (.one (.cmp .eq (.var 1) (.c (.int 0))))))
  .nil)
def f_is_placed : Df := ⟨("is_placed", none), "is_placed", "is_placed", ["stream", "place"], ["stream", "place"], true, b_is_placed⟩
/-- name : slots 0 name, 1 number, 2 form -/
def b_kind_number : Ss :=
  (.cons (.for_ (.en (.gc 7)) (.t (.cons (.n 1) (.cons (.n 2) .nil))) (.cons (.ife (.cmp .eq (.ix (.var 2) (.c (.int 0))) (.var 0)) (.cons (.ret (.var 1))
      .nil) .nil)
    .nil))
  (.cons (.ret (.c (.non)))
  .nil))
def f_kind_number : Df := ⟨("kind_number", none), "kind_number", "kind_number", ["name"], ["name", "number", "form"], true, b_kind_number⟩
/-- chunk, form : slots 0 chunk, 1 form, 2 place, 3 check -/
def b_has_form : Ss :=
  (.cons (.ife (.cmp .ne (.bi .len (.cons (.var 0) .nil)) (.bi .len (.cons (.var 1) .nil))) (.cons (.ret (.c (.bl false)))
    .nil) .nil)
  (.cons (.for_ (.r2 (.c (.int 1)) (.bi .len (.cons (.var 1) .nil))) (.n 2) (.cons (.set 3 (.tab 0 (.ix (.var 1) (.var 2))))
    (.cons (.ife (.not (.tru (.callV 3 (.cons (.ix (.var 0) (.var 2)) .nil)))) (.cons (.ret (.c (.bl false)))
      .nil) .nil)
    .nil)))
  (.cons (.ret (.c (.bl true)))
  .nil)))
def f_has_form : Df := ⟨("has_form", none), "has_form", "has_form", ["chunk", "form"], ["chunk", "form", "place", "check"], true, b_has_form⟩
/-- chunk : slots 0 chunk, 1 number -/
def b_is_chunk : Ss :=
  (.cons (.ife (.or (.not (.tru (.isI (.var 0) "tuple"))) (.one (.cmp .eq (.bi .len (.cons (.var 0) .nil)) (.c (.int 0))))) (.cons (.ret (.c (.bl false)))
    .nil) .nil)
  (.cons (.set 1 (.call 11 (.cons (.ix (.var 0) (.c (.int 0))) .nil)))
  (.cons (.ife (.or (.cmp .isn (.var 1) (.c (.non))) (.one (.not (.tru (.call 12 (.cons (.var 0) (.cons (.ix (.gc 7) (.var 1)) .nil))))))) (.cons (.ret (.c (.bl false)))
    .nil) .nil)
  (.cons (.ret (.or (.cmp .ne (.ix (.var 0) (.c (.int 0))) (.c (.str "data"))) (.one (.call 10 (.cons (.ix (.var 0) (.c (.int 2))) (.cons (.ix (.var 0) (.c (.int 3))) .nil))))))
  .nil))))
def f_is_chunk : Df := ⟨("is_chunk", none), "is_chunk", "is_chunk", ["chunk"], ["chunk", "number"], true, b_is_chunk⟩
/-- cell, many : slots 0 cell, 1 many, 2 rows, 3 rest, 4 k, 5 state -/
def b__law_draws : Ss :=
  (.cons (.set 2 (.lstP .nil))
  (.cons (.set 3 (.bi .int (.cons (.var 0) .nil)))
  (.cons (.ife (.cmp .ge (.var 3) (.op .pow (.c (.int 10)) (.c (.int 18)))) (.cons (.for_ (.r1 (.var 1)) (.n 4) (.cons (.ife (.cmp .gt (.var 3) (.c (.int 0))) (.cons (.expr (.app (.var 2) (.op .mod (.bi .int (.cons (.var 3) .nil)) (.c (.int 1000)))))
        (.cons (.set 3 (.op .div (.var 3) (.c (.int 1000))))
        .nil)) .nil)
      .nil))
    .nil) .nil)
  (.cons (.set 5 (.op .mod (.bi .int (.cons (.op .add (.op .mul (.bi .int (.cons (.var 0) .nil)) (.c (.int 48271))) (.c (.int 11))) .nil)) (.c (.int 2147483647))))
  (.cons (.for_ (.r1 (.var 1)) (.n 4) (.cons (.set 5 (.op .mod (.bi .int (.cons (.op .add (.op .add (.op .mul (.var 5) (.c (.int 48271))) (.op .mul (.var 4) (.c (.int 69621)))) (.c (.int 7))) .nil)) (.c (.int 2147483647))))
    (.cons (.ife (.cmp .lt (.bi .len (.cons (.var 2) .nil)) (.var 1)) (.cons (.expr (.app (.var 2) (.op .mod (.bi .int (.cons (.op .mod (.bi .int (.cons (.op .add (.op .mul (.var 5) (.c (.int 69621))) (.c (.int 5))) .nil)) (.c (.int 2147483629))) .nil)) (.c (.int 1000)))))
      .nil) .nil)
    .nil)))
  (.cons (.ret (.var 2))
  .nil))))))
def f__law_draws : Df := ⟨("_law_draws", none), "_law_draws", "_law_draws", ["cell", "many"], ["cell", "many", "rows", "rest", "k", "state"], true, b__law_draws⟩
/-- told, due : slots 0 told, 1 due, 2 k -/
def b__law_same : Ss :=
  (.cons (.ife (.cmp .isn (.var 1) (.c (.non))) (.cons (.ret (.cmp .isn (.var 0) (.c (.non))))
    .nil) .nil)
  (.cons (.ife (.cmp .isn (.var 1) (.c (.bl true))) (.cons (.ret (.cmp .isn (.var 0) (.c (.bl true))))
    .nil) .nil)
  (.cons (.ife (.cmp .isn (.var 1) (.c (.bl false))) (.cons (.ret (.cmp .isn (.var 0) (.c (.bl false))))
    .nil) .nil)
  (.cons (.ife (.tru (.isI (.var 1) "int")) (.cons (.ret (.and (.isI (.var 0) "int") (.and (.not (.isI (.var 0) "bool")) (.one (.cmp .eq (.var 0) (.var 1))))))
    .nil) .nil)
  (.cons (.ife (.tru (.isI (.var 1) "str")) (.cons (.ret (.and (.isI (.var 0) "str") (.one (.cmp .eq (.var 0) (.var 1)))))
    .nil) .nil)
  (.cons (.ife (.and (.tru (.isI (.var 1) "tuple")) (.one (.not (.tru (.isI (.var 0) "tuple"))))) (.cons (.ret (.c (.bl false)))
    .nil) .nil)
  (.cons (.ife (.and (.tru (.isI (.var 1) "list")) (.one (.not (.tru (.isI (.var 0) "list"))))) (.cons (.ret (.c (.bl false)))
    .nil) .nil)
  (.cons (.ife (.cmp .ne (.bi .len (.cons (.var 0) .nil)) (.bi .len (.cons (.var 1) .nil))) (.cons (.ret (.c (.bl false)))
    .nil) .nil)
  (.cons (.for_ (.r1 (.bi .len (.cons (.var 1) .nil))) (.n 2) (.cons (.ife (.not (.tru (.call 15 (.cons (.ix (.var 0) (.var 2)) (.cons (.ix (.var 1) (.var 2)) .nil))))) (.cons (.ret (.c (.bl false)))
      .nil) .nil)
    .nil))
  (.cons (.ret (.c (.bl true)))
  .nil))))))))))
def f__law_same : Df := ⟨("_law_same", none), "_law_same", "_law_same", ["told", "due"], ["told", "due", "k"], true, b__law_same⟩
/-- first, second : slots 0 first, 1 second -/
def b__law_big : Ss :=
  (.cons (.ife (.cmp .eq (.op .mod (.bi .int (.cons (.var 0) .nil)) (.c (.int 4))) (.c (.int 0))) (.cons (.ret (.ix (.lst (.cons (.c (.int 0)) (.cons (.c (.int 1)) (.cons (.c (.int 255)) (.cons (.c (.int 256)) (.cons (.c (.int 65535)) (.cons (.c (.int 65536)) (.cons (.c (.int 16777216)) (.cons (.c (.int 4294967295)) .nil))))))))) (.op .mod (.bi .int (.cons (.var 1) .nil)) (.c (.int 8)))))
    .nil) .nil)
  (.cons (.ret (.op .mod (.bi .int (.cons (.op .add (.op .mul (.bi .int (.cons (.var 0) .nil)) (.c (.int 4294967))) (.op .mul (.bi .int (.cons (.var 1) .nil)) (.c (.int 65537)))) .nil)) (.c (.int 4294967296))))
  .nil))
def f__law_big : Df := ⟨("_law_big", none), "_law_big", "_law_big", ["first", "second"], ["first", "second"], true, b__law_big⟩
/-- draws, start : slots 0 draws, 1 start, 2 row, 3 k, 4 n -/
def b__law_places : Ss :=
  (.cons (.set 2 (.lstP .nil))
  (.cons (.for_ (.r1 (.op .add (.c (.int 1)) (.op .mod (.bi .int (.cons (.ix (.var 0) (.var 1)) .nil)) (.c (.int 6))))) (.n 3) (.cons (.set 4 (.op .mod (.bi .int (.cons (.ix (.var 0) (.op .add (.op .add (.var 1) (.c (.int 1))) (.var 3))) .nil)) (.c (.int 256))))
    (.cons (.ife (.cmp .notin (.var 4) (.var 2)) (.cons (.expr (.app (.var 2) (.var 4)))
      .nil) .nil)
    .nil)))
  (.cons (.ret (.bi .tuple (.cons (.var 2) .nil)))
  .nil)))
def f__law_places : Df := ⟨("_law_places", none), "_law_places", "_law_places", ["draws", "start"], ["draws", "start", "row", "k", "n"], true, b__law_places⟩
/-- draws, start, most : slots 0 draws, 1 start, 2 most, 3 size, 4 k -/
def b__law_codes : Ss :=
  (.cons (.set 3 (.op .mod (.bi .int (.cons (.ix (.var 0) (.var 1)) .nil)) (.c (.int 5))))
  (.cons (.ife (.cmp .eq (.op .mod (.bi .int (.cons (.ix (.var 0) (.var 1)) .nil)) (.c (.int 40))) (.c (.int 39))) (.cons (.set 3 (.var 2))
    .nil) .nil)
  (.cons (.ret (.bi .tuple (.cons (.lc (.r1 (.var 3)) (.n 4) .yes (.op .mod (.bi .int (.cons (.op .add (.op .add (.bi .int (.cons (.ix (.var 0) (.op .add (.var 1) (.c (.int 1)))) .nil)) (.op .mul (.c (.int 77)) (.var 4))) (.op .mul (.bi .int (.cons (.ix (.var 0) (.op .add (.var 1) (.c (.int 2)))) .nil)) (.op .div (.var 4) (.c (.int 3))))) .nil)) (.c (.int 256))) [("k", 4)]) .nil)))
  .nil)))
def f__law_codes : Df := ⟨("_law_codes", none), "_law_codes", "_law_codes", ["draws", "start", "most"], ["draws", "start", "most", "size", "k"], true, b__law_codes⟩
/-- kind, draws : slots 0 kind, 1 draws, 2 row, 3 one, 4 two, 5 cookie, 6 many, 7 numbers, 8 codes, 9 names, 10 k -/
def b__law_chunk : Ss :=
  (.cons (.set 2 (.call 17 (.cons (.var 1) (.cons (.c (.int 0)) .nil))))
  (.cons (.set 3 (.call 16 (.cons (.ix (.var 1) (.c (.int 8))) (.cons (.ix (.var 1) (.c (.int 9))) .nil))))
  (.cons (.set 4 (.call 16 (.cons (.ix (.var 1) (.c (.int 10))) (.cons (.ix (.var 1) (.c (.int 11))) .nil))))
  (.cons (.set 5 (.tup (.cons (.var 4) (.cons (.var 3) (.cons (.call 17 (.cons (.var 1) (.cons (.c (.int 12)) .nil))) .nil)))))
  (.cons (.ife (.cmp .eq (.var 0) (.c (.int 0))) (.cons (.ret (.tup (.cons (.c (.str "init")) (.cons (.var 2) .nil))))
    .nil) .nil)
  (.cons (.ife (.cmp .eq (.var 0) (.c (.int 1))) (.cons (.ret (.tup (.cons (.c (.str "init_ack")) (.cons (.var 2) (.cons (.var 5) .nil)))))
    .nil) .nil)
  (.cons (.ife (.cmp .eq (.var 0) (.c (.int 2))) (.cons (.ret (.tup (.cons (.c (.str "echo")) (.cons (.var 5) .nil))))
    .nil) .nil)
  (.cons (.ife (.cmp .eq (.var 0) (.c (.int 4))) (.cons (.ife (.cmp .eq (.op .mod (.bi .int (.cons (.ix (.var 1) (.c (.int 20))) .nil)) (.c (.int 3))) (.c (.int 0))) (.cons (.ret (.tup (.cons (.c (.str "data")) (.cons (.var 3) (.cons (.c (.non)) (.cons (.c (.int 0)) (.cons (.call 18 (.cons (.var 1) (.cons (.c (.int 21)) (.cons (.c (.int 200)) .nil)))) .nil)))))))
      .nil) .nil)
    (.cons (.ret (.tup (.cons (.c (.str "data")) (.cons (.var 3) (.cons (.op .mod (.bi .int (.cons (.ix (.var 1) (.c (.int 20))) .nil)) (.c (.int 16))) (.cons (.var 4) (.cons (.call 18 (.cons (.var 1) (.cons (.c (.int 21)) (.cons (.c (.int 200)) .nil)))) .nil)))))))
    .nil)) .nil)
  (.cons (.ife (.cmp .eq (.var 0) (.c (.int 5))) (.cons (.set 6 (.op .mod (.bi .int (.cons (.ix (.var 1) (.c (.int 20))) .nil)) (.c (.int 4))))
    (.cons (.ife (.cmp .eq (.op .mod (.bi .int (.cons (.ix (.var 1) (.c (.int 20))) .nil)) (.c (.int 30))) (.c (.int 29))) (.cons (.set 6 (.c (.int 32)))
      .nil) .nil)
    (.cons (.ret (.tup (.cons (.c (.str "ack")) (.cons (.var 3) (.cons (.bi .tuple (.cons (.lc (.r1 (.var 6)) (.n 10) .yes (.call 16 (.cons (.op .add (.bi .int (.cons (.ix (.var 1) (.c (.int 21))) .nil)) (.var 10)) (.cons (.op .add (.bi .int (.cons (.ix (.var 1) (.c (.int 22))) .nil)) (.op .mul (.c (.int 3)) (.var 10))) .nil))) [("k", 10)]) .nil)) .nil)))))
    .nil))) .nil)
  (.cons (.ife (.cmp .eq (.var 0) (.c (.int 8))) (.cons (.ret (.tup (.cons (.c (.str "addresses")) (.cons (.var 3) (.cons (.var 2) .nil)))))
    .nil) .nil)
  (.cons (.ife (.cmp .eq (.var 0) (.c (.int 15))) (.cons (.set 7 (.tup (.cons (.var 3) (.cons (.var 4) (.cons (.call 16 (.cons (.ix (.var 1) (.c (.int 20))) (.cons (.ix (.var 1) (.c (.int 9))) .nil))) (.cons (.call 16 (.cons (.ix (.var 1) (.c (.int 21))) (.cons (.ix (.var 1) (.c (.int 8))) .nil))) .nil))))))
    (.cons (.set 8 (.call 18 (.cons (.var 1) (.cons (.c (.int 22)) (.cons (.c (.int 400)) .nil)))))
    (.cons (.ret (.tup (.cons (.c (.str "frame")) (.cons (.ix (.var 7) (.c (.int 0))) (.cons (.ix (.var 7) (.c (.int 1))) (.cons (.ix (.var 7) (.c (.int 2))) (.cons (.ix (.var 7) (.c (.int 3))) (.cons (.var 8) .nil))))))))
    .nil))) .nil)
  (.cons (.set 9 (.tup (.cons (.c (.str "")) (.cons (.c (.str "")) (.cons (.c (.str "")) (.cons (.c (.str "echo_ack")) (.cons (.c (.str "")) (.cons (.c (.str "")) (.cons (.c (.str "probe")) (.cons (.c (.str "probe_ack")) (.cons (.c (.str "")) (.cons (.c (.str "addresses_ack")) (.cons (.c (.str "gone")) (.cons (.c (.str "abort")) (.cons (.c (.str "shutdown")) .nil)))))))))))))))
  (.cons (.ife (.cmp .eq (.var 0) (.c (.int 9))) (.cons (.ret (.tup (.cons (.c (.str "addresses_ack")) (.cons (.var 3) .nil))))
    .nil) .nil)
  (.cons (.ife (.cmp .eq (.var 0) (.c (.int 16))) (.cons (.ret (.tup (.cons (.c (.str "frame_ack")) (.cons (.var 3) .nil))))
    .nil) .nil)
  (.cons (.ife (.cmp .lt (.var 0) (.c (.int 13))) (.cons (.ret (.tup (.cons (.ix (.var 9) (.var 0)) .nil)))
    .nil) .nil)
  (.cons (.ife (.cmp .eq (.var 0) (.c (.int 13))) (.cons (.ret (.tup (.cons (.c (.str "shutdown_ack")) .nil)))
    .nil) .nil)
  (.cons (.ret (.tup (.cons (.c (.str "shutdown_done")) .nil)))
  .nil)))))))))))))))))
def f__law_chunk : Df := ⟨("_law_chunk", none), "_law_chunk", "_law_chunk", ["kind", "draws"], ["kind", "draws", "row", "one", "two", "cookie", "many", "numbers", "codes", "names", "k"], true, b__law_chunk⟩
/-- chunk, n : slots 0 chunk, 1 n, 2 kind, 3 wrong, 4 place, 5 row, 6 k -/
def b__law_bad : Ss :=
  (.cons (.set 2 (.ix (.var 0) (.c (.int 0))))
  (.cons (.set 3 (.ix (.lst (.cons (.c (.bl true)) (.cons (.c (.non)) (.cons (.c (.str "7")) (.cons (.neg (.c (.int 1))) (.cons (.c (.int 4294967296)) (.cons (.tup .nil) (.cons (.lst (.cons (.c (.int 1)) .nil)) (.cons (.tup (.cons (.c (.int 256)) .nil)) (.cons (.tup (.cons (.c (.int 1)) (.cons (.c (.int 1)) .nil))) (.cons (.tup (.cons (.c (.int 1)) (.cons (.c (.int 2)) (.cons (.c (.int 3)) (.cons (.c (.int 4)) (.cons (.c (.int 5)) (.cons (.c (.int 6)) (.cons (.c (.int 7)) .nil)))))))) .nil))))))))))) (.op .mod (.bi .int (.cons (.var 1) .nil)) (.c (.int 10)))))
  (.cons (.ife (.cmp .isin (.var 2) (.tup (.cons (.c (.str "init")) (.cons (.c (.str "echo")) .nil)))) (.cons (.ret (.tup (.cons (.var 2) (.cons (.var 3) .nil))))
    .nil) .nil)
  (.cons (.ife (.cmp .eq (.var 2) (.c (.str "init_ack"))) (.cons (.ife (.cmp .eq (.op .mod (.bi .int (.cons (.op .div (.var 1) (.c (.int 10))) .nil)) (.c (.int 2))) (.c (.int 0))) (.cons (.ret (.tup (.cons (.var 2) (.cons (.var 3) (.cons (.ix (.var 0) (.c (.int 2))) .nil)))))
      .nil) .nil)
    (.cons (.ret (.tup (.cons (.var 2) (.cons (.ix (.var 0) (.c (.int 1))) (.cons (.tup (.cons (.ix (.ix (.var 0) (.c (.int 2))) (.c (.int 0))) (.cons (.var 3) (.cons (.ix (.ix (.var 0) (.c (.int 2))) (.c (.int 2))) .nil)))) .nil)))))
    .nil)) .nil)
  (.cons (.ife (.cmp .eq (.var 2) (.c (.str "data"))) (.cons (.set 4 (.op .add (.c (.int 1)) (.op .mod (.bi .int (.cons (.op .div (.var 1) (.c (.int 10))) .nil)) (.c (.int 4)))))
    (.cons (.set 5 (.bnP .list (.cons (.var 0) .nil)))
    (.cons (.put (.var 5) (.var 4) (.var 3))
    (.cons (.ife (.cmp .eq (.var 4) (.c (.int 2))) (.cons (.put (.var 5) (.c (.int 2)) (.ix (.lst (.cons (.c (.int 16)) (.cons (.c (.int 255)) (.cons (.c (.bl true)) (.cons (.c (.str "")) (.cons (.neg (.c (.int 1))) .nil)))))) (.op .mod (.bi .int (.cons (.var 1) .nil)) (.c (.int 5)))))
      .nil) .nil)
    (.cons (.ife (.cmp .eq (.var 4) (.c (.int 3))) (.cons (.put (.var 5) (.c (.int 3)) (.ix (.lst (.cons (.c (.non)) (.cons (.neg (.c (.int 1))) (.cons (.c (.int 4294967296)) .nil)))) (.op .mod (.bi .int (.cons (.var 1) .nil)) (.c (.int 3)))))
      (.cons (.ife (.cmp .eq (.op .mod (.bi .int (.cons (.var 1) .nil)) (.c (.int 4))) (.c (.int 3))) (.cons (.put (.var 5) (.c (.int 2)) (.c (.non)))
        (.cons (.put (.var 5) (.c (.int 3)) (.op .add (.c (.int 1)) (.bi .int (.cons (.var 1) .nil))))
        .nil)) .nil)
      .nil)) .nil)
    (.cons (.ife (.cmp .eq (.var 4) (.c (.int 4))) (.cons (.put (.var 5) (.c (.int 4)) (.ix (.lst (.cons (.tup (.cons (.c (.int 256)) .nil)) (.cons (.lst (.cons (.c (.int 1)) .nil)) (.cons (.tup (.cons (.c (.bl true)) .nil)) (.cons (.bi .tuple (.cons (.lc (.r1 (.c (.int 201))) (.n 6) .yes (.c (.int 1)) [("k", 6)]) .nil)) .nil))))) (.op .mod (.bi .int (.cons (.var 1) .nil)) (.c (.int 4)))))
      .nil) .nil)
    (.cons (.ret (.bi .tuple (.cons (.var 5) .nil)))
    .nil))))))) .nil)
  (.cons (.ife (.cmp .eq (.var 2) (.c (.str "ack"))) (.cons (.ife (.cmp .eq (.op .mod (.bi .int (.cons (.op .div (.var 1) (.c (.int 10))) .nil)) (.c (.int 2))) (.c (.int 0))) (.cons (.ret (.tup (.cons (.var 2) (.cons (.var 3) (.cons (.ix (.var 0) (.c (.int 2))) .nil)))))
      .nil) .nil)
    (.cons (.ret (.tup (.cons (.var 2) (.cons (.ix (.var 0) (.c (.int 1))) (.cons (.ix (.lst (.cons (.lst (.cons (.c (.int 1)) .nil)) (.cons (.tup (.cons (.neg (.c (.int 1))) .nil)) (.cons (.tup (.cons (.c (.int 4294967296)) .nil)) (.cons (.bi .tuple (.cons (.lc (.r1 (.c (.int 33))) (.n 6) .yes (.var 6) [("k", 6)]) .nil)) (.cons (.c (.non)) .nil)))))) (.op .mod (.bi .int (.cons (.var 1) .nil)) (.c (.int 5)))) .nil)))))
    .nil)) .nil)
  (.cons (.ife (.cmp .eq (.var 2) (.c (.str "addresses"))) (.cons (.ife (.cmp .eq (.op .mod (.bi .int (.cons (.op .div (.var 1) (.c (.int 10))) .nil)) (.c (.int 2))) (.c (.int 0))) (.cons (.ret (.tup (.cons (.var 2) (.cons (.var 3) (.cons (.ix (.var 0) (.c (.int 2))) .nil)))))
      .nil) .nil)
    (.cons (.ret (.tup (.cons (.var 2) (.cons (.ix (.var 0) (.c (.int 1))) (.cons (.var 3) .nil)))))
    .nil)) .nil)
  (.cons (.ife (.cmp .isin (.var 2) (.tup (.cons (.c (.str "addresses_ack")) (.cons (.c (.str "frame_ack")) .nil)))) (.cons (.ret (.tup (.cons (.var 2) (.cons (.var 3) .nil))))
    .nil) .nil)
  (.cons (.ife (.cmp .eq (.var 2) (.c (.str "frame"))) (.cons (.set 5 (.bnP .list (.cons (.var 0) .nil)))
    (.cons (.put (.var 5) (.op .add (.c (.int 1)) (.op .mod (.bi .int (.cons (.op .div (.var 1) (.c (.int 10))) .nil)) (.c (.int 4)))) (.var 3))
    (.cons (.ife (.cmp .eq (.op .mod (.bi .int (.cons (.op .div (.var 1) (.c (.int 40))) .nil)) (.c (.int 3))) (.c (.int 0))) (.cons (.ret (.tup (.cons (.var 2) (.cons (.ix (.var 0) (.c (.int 1))) (.cons (.ix (.var 0) (.c (.int 2))) (.cons (.ix (.var 0) (.c (.int 3))) (.cons (.ix (.var 0) (.c (.int 4))) (.cons (.bi .tuple (.cons (.lc (.r1 (.c (.int 10001))) (.n 6) .yes (.c (.int 0)) [("k", 6)]) .nil)) .nil))))))))
      .nil) .nil)
    (.cons (.ret (.bi .tuple (.cons (.var 5) .nil)))
    .nil)))) .nil)
  (.cons (.ret (.tup (.cons (.var 2) (.cons (.c (.int 0)) .nil))))
  .nil))))))))))
def f__law_bad : Df := ⟨("_law_bad", none), "_law_bad", "_law_bad", ["chunk", "n"], ["chunk", "n", "kind", "wrong", "place", "row", "k"], true, b__law_bad⟩
/-- draws : slots 0 draws, 1 row, 2 cookie, 3 n, 4 most, 5 told, 6 due -/
def b__law_parts : Ss :=
  (.cons (.set 1 (.call 17 (.cons (.var 0) (.cons (.c (.int 0)) .nil))))
  (.cons (.set 2 (.tup (.cons (.call 16 (.cons (.ix (.var 0) (.c (.int 8))) (.cons (.ix (.var 0) (.c (.int 9))) .nil))) (.cons (.call 16 (.cons (.ix (.var 0) (.c (.int 9))) (.cons (.ix (.var 0) (.c (.int 10))) .nil))) (.cons (.var 1) .nil)))))
  (.cons (.set 3 (.call 16 (.cons (.ix (.var 0) (.c (.int 11))) (.cons (.ix (.var 0) (.c (.int 12))) .nil))))
  (.cons (.set 4 (.call 16 (.cons (.ix (.var 0) (.c (.int 12))) (.cons (.ix (.var 0) (.c (.int 13))) .nil))))
  (.cons (.set 5 (.lst (.cons (.call 7 (.cons (.var 1) .nil)) (.cons (.call 7 (.cons (.bn .list (.cons (.var 1) .nil)) .nil)) (.cons (.call 7 (.cons (.op .add (.var 1) (.tup (.cons (.ix (.var 1) (.c (.int 0))) .nil))) .nil)) (.cons (.call 7 (.cons (.tup .nil) .nil)) .nil))))))
  (.cons (.set 5 (.op .add (.var 5) (.lst (.cons (.call 8 (.cons (.var 2) .nil)) (.cons (.call 8 (.cons (.sl (.bn .list (.cons (.var 2) .nil)) .non (.som (.c (.int 2)))) .nil)) (.cons (.call 8 (.cons (.tup (.cons (.c (.bl true)) (.cons (.c (.int 1)) (.cons (.var 1) .nil)))) .nil)) (.cons (.call 8 (.cons (.ix (.var 1) (.c (.int 0))) .nil)) .nil)))))))
  (.cons (.set 5 (.op .add (.var 5) (.lst (.cons (.call 0 (.cons (.var 3) (.cons (.var 4) .nil))) (.cons (.call 0 (.cons (.c (.bl false)) (.cons (.var 4) .nil))) (.cons (.call 0 (.cons (.neg (.c (.int 1))) (.cons (.var 4) .nil))) (.cons (.call 0 (.cons (.bi .str (.cons (.var 3) .nil)) (.cons (.var 4) .nil))) .nil)))))))
  (.cons (.set 5 (.op .add (.var 5) (.lst (.cons (.call 4 (.cons (.var 1) (.cons (.bi .len (.cons (.var 1) .nil)) .nil))) (.cons (.call 4 (.cons (.var 1) (.cons (.op .sub (.bi .len (.cons (.var 1) .nil)) (.c (.int 1))) .nil))) (.cons (.call 4 (.cons (.tup .nil) (.cons (.c (.int 0)) .nil))) (.cons (.call 4 (.cons (.c (.non)) (.cons (.c (.int 9)) .nil))) .nil)))))))
  (.cons (.set 5 (.op .add (.var 5) (.lst (.cons (.call 13 (.cons (.tup (.cons (.c (.str "data")) (.cons (.var 3) (.cons (.c (.non)) (.cons (.op .add (.c (.int 1)) (.op .mod (.var 3) (.c (.int 7)))) (.cons (.var 1) .nil)))))) .nil)) (.cons (.call 13 (.cons (.tup (.cons (.c (.str "data")) (.cons (.var 3) (.cons (.c (.non)) (.cons (.c (.int 0)) (.cons (.var 1) .nil)))))) .nil)) .nil)))))
  (.cons (.set 5 (.op .add (.var 5) (.lst (.cons (.call 8 (.cons (.tup (.cons (.ix (.var 2) (.c (.int 0))) (.cons (.ix (.var 2) (.c (.int 1))) (.cons (.tup .nil) .nil)))) .nil)) (.cons (.call 8 (.cons (.bn .list (.cons (.var 2) .nil)) .nil)) (.cons (.call 8 (.cons (.tup (.cons (.c (.int 1)) (.cons (.c (.int 2)) (.cons (.op .add (.var 1) (.tup (.cons (.ix (.var 1) (.c (.int 0))) .nil))) .nil)))) .nil)) .nil))))))
  (.cons (.set 6 (.lst (.cons (.c (.bl true)) (.cons (.c (.bl false)) (.cons (.c (.bl false)) (.cons (.c (.bl false)) (.cons (.c (.bl true)) (.cons (.c (.bl false)) (.cons (.c (.bl false)) (.cons (.c (.bl false)) (.cons (.cmp .le (.var 3) (.var 4)) (.cons (.c (.bl false)) (.cons (.c (.bl false)) (.cons (.c (.bl false)) (.cons (.c (.bl true)) (.cons (.c (.bl false)) (.cons (.c (.bl true)) (.cons (.c (.bl false)) .nil))))))))))))))))))
  (.cons (.set 6 (.op .add (.var 6) (.lst (.cons (.c (.bl false)) (.cons (.c (.bl true)) (.cons (.c (.bl false)) (.cons (.c (.bl false)) (.cons (.c (.bl false)) .nil))))))))
  (.cons (.ret (.call 15 (.cons (.var 5) (.cons (.var 6) .nil))))
  .nil)))))))))))))
def f__law_parts : Df := ⟨("_law_parts", none), "_law_parts", "_law_parts", ["draws"], ["draws", "row", "cookie", "n", "most", "told", "due"], true, b__law_parts⟩
/-- script : slots 0 script, 1 cell, 2 draws, 3 kind, 4 chunk, 5 bad, 6 told, 7 codes, 8 k -/
def b_law : Ss :=
  (.cons (.for_ (.any (.op .add (.lst (.cons (.c (.int 0)) (.cons (.c (.int 1)) (.cons (.c (.int 2)) (.cons (.c (.int 3)) .nil))))) (.bn .list (.cons (.var 0) .nil)))) (.n 1) (.cons (.set 2 (.call 14 (.cons (.var 1) (.cons (.c (.int 36)) .nil))))
    (.cons (.ife (.not (.tru (.call 21 (.cons (.var 2) .nil)))) (.cons (.ret (.c (.bl false)))
      .nil) .nil)
    (.cons (.for_ (.any (.lst (.cons (.op .mod (.bi .int (.cons (.ix (.var 2) (.c (.int 30))) .nil)) (.c (.int 17))) (.cons (.op .mod (.bi .int (.cons (.ix (.var 2) (.c (.int 31))) .nil)) (.c (.int 17))) .nil)))) (.n 3) (.cons (.set 4 (.call 19 (.cons (.var 3) (.cons (.var 2) .nil))))
      (.cons (.set 5 (.call 20 (.cons (.var 4) (.cons (.ix (.var 2) (.c (.int 32))) .nil))))
      (.cons (.set 6 (.lst (.cons (.call 13 (.cons (.var 4) .nil)) (.cons (.call 13 (.cons (.var 5) .nil)) (.cons (.call 13 (.cons (.op .add (.var 4) (.tup (.cons (.c (.int 0)) .nil))) .nil)) (.cons (.call 13 (.cons (.sl (.bn .list (.cons (.var 4) .nil)) .non (.som (.c (.int 0)))) .nil)) .nil))))))
      (.cons (.set 6 (.op .add (.var 6) (.lst (.cons (.call 13 (.cons (.bn .list (.cons (.var 4) .nil)) .nil)) (.cons (.call 13 (.cons (.sl (.var 4) .non (.som (.neg (.c (.int 1))))) .nil)) .nil)))))
      (.cons (.ife (.not (.tru (.call 15 (.cons (.var 6) (.cons (.lst (.cons (.c (.bl true)) (.cons (.c (.bl false)) (.cons (.c (.bl false)) (.cons (.c (.bl false)) (.cons (.c (.bl false)) (.cons (.c (.bl false)) .nil))))))) .nil))))) (.cons (.ret (.c (.bl false)))
        .nil) .nil)
      (.cons (.ife (.not (.tru (.call 15 (.cons (.lst (.cons (.call 13 (.cons (.op .add (.tup (.cons (.c (.str "")) .nil)) (.sl (.var 4) (.som (.c (.int 1))) .non)) .nil)) (.cons (.call 13 (.cons (.op .add (.tup (.cons (.op .add (.c (.str "init_")) (.ix (.var 4) (.c (.int 0)))) .nil)) (.sl (.var 4) (.som (.c (.int 1))) .non)) .nil)) .nil))) (.cons (.lst (.cons (.c (.bl false)) (.cons (.c (.bl false)) .nil))) .nil))))) (.cons (.ret (.c (.bl false)))
        .nil) .nil)
      .nil)))))))
    .nil))))
  (.cons (.set 7 (.bi .tuple (.cons (.lc (.r1 (.c (.int 10000))) (.n 8) .yes (.c (.int 0)) [("k", 8)]) .nil)))
  (.cons (.ret (.call 15 (.cons (.lst (.cons (.call 13 (.cons (.tup (.cons (.c (.str "frame")) (.cons (.c (.int 0)) (.cons (.c (.int 1)) (.cons (.c (.int 2)) (.cons (.c (.int 3)) (.cons (.var 7) .nil))))))) .nil)) (.cons (.call 13 (.cons (.tup (.cons (.c (.str "frame")) (.cons (.c (.int 0)) (.cons (.c (.int 1)) (.cons (.c (.int 2)) (.cons (.c (.int 3)) (.cons (.op .add (.var 7) (.tup (.cons (.c (.int 0)) .nil))) .nil))))))) .nil)) .nil))) (.cons (.lst (.cons (.c (.bl true)) (.cons (.c (.bl false)) .nil))) .nil))))
  .nil)))
def f_law : Df := ⟨("law", none), "law", "law", ["script"], ["script", "cell", "draws", "kind", "chunk", "bad", "told", "codes", "k"], true, b_law⟩
def cs : List (Str × Val) := ([("MOST_OCTET", .int 255), ("MOST_NUMBER", .int 4294967295), ("MOST_ADDRESSES", .int 6), ("MOST_STREAM", .int 15), ("MOST_MESSAGE", .int 200), ("MOST_FRAME", .int 10000), ("MOST_BEYOND", .int 32), ("FORMS", .tup [.tup [.str "init", .str "addresses"], .tup [.str "init_ack", .str "addresses", .str "cookie"], .tup [.str "echo", .str "cookie"], .tup [.str "echo_ack"], .tup [.str "data", .str "number", .str "stream", .str "place", .str "message codes"], .tup [.str "ack", .str "number", .str "numbers"], .tup [.str "probe"], .tup [.str "probe_ack"], .tup [.str "addresses", .str "number", .str "addresses"], .tup [.str "addresses_ack", .str "number"], .tup [.str "gone"], .tup [.str "abort"], .tup [.str "shutdown"], .tup [.str "shutdown_ack"], .tup [.str "shutdown_done"], .tup [.str "frame", .str "number", .str "number", .str "number", .str "number", .str "frame codes"], .tup [.str "frame_ack", .str "number"]])] : List (Str × Val))
def t_CHECKS : List (Key × Val) := ([(.inr "number", .fn "is_four"), (.inr "numbers", .fn "are_fours"), (.inr "addresses", .fn "are_addresses"), (.inr "cookie", .fn "is_cookie"), (.inr "stream", .fn "is_stream"), (.inr "place", .fn "is_four"), (.inr "message codes", .fn "is_message_codes"), (.inr "frame codes", .fn "is_frame_codes")] : List (Key × Val))
def ts : List (Str × List (Key × Val)) := [("CHECKS", t_CHECKS)]
def ds : List Df := [f_is_number, f_are_numbers, f_is_four, f_are_fours, f_is_codes, f_is_message_codes, f_is_frame_codes, f_are_addresses, f_is_cookie, f_is_stream, f_is_placed, f_kind_number, f_has_form, f_is_chunk, f__law_draws, f__law_same, f__law_big, f__law_places, f__law_codes, f__law_chunk, f__law_bad, f__law_parts, f_law]
def clsT : List (Str × List Str × Bool) := []
def xT : XT := ⟨true, [], [], []⟩
def pr : Pr := ⟨ds, cs, ts, ["bool", "enumerate", "int", "isinstance", "len", "list", "range", "set", "str", "tuple"], clsT, xT⟩
theorem cf_is_number (k : Nat) : pr.cf (k + 1) 0 = kCall 2 (runP 2 (b_is_number.m (pr.dn k))) := rfl
theorem cf_are_numbers (k : Nat) : pr.cf (k + 1) 1 = kCall 3 (runP 4 (b_are_numbers.m (pr.dn k))) := rfl
theorem cf_is_four (k : Nat) : pr.cf (k + 1) 2 = kCall 1 (runP 1 (b_is_four.m (pr.dn k))) := rfl
theorem cf_are_fours (k : Nat) : pr.cf (k + 1) 3 = kCall 1 (runP 1 (b_are_fours.m (pr.dn k))) := rfl
theorem cf_is_codes (k : Nat) : pr.cf (k + 1) 4 = kCall 2 (runP 2 (b_is_codes.m (pr.dn k))) := rfl
theorem cf_is_message_codes (k : Nat) : pr.cf (k + 1) 5 = kCall 1 (runP 1 (b_is_message_codes.m (pr.dn k))) := rfl
theorem cf_is_frame_codes (k : Nat) : pr.cf (k + 1) 6 = kCall 1 (runP 1 (b_is_frame_codes.m (pr.dn k))) := rfl
theorem cf_are_addresses (k : Nat) : pr.cf (k + 1) 7 = kCall 1 (runP 1 (b_are_addresses.m (pr.dn k))) := rfl
theorem cf_is_cookie (k : Nat) : pr.cf (k + 1) 8 = kCall 1 (runP 1 (b_is_cookie.m (pr.dn k))) := rfl
theorem cf_is_stream (k : Nat) : pr.cf (k + 1) 9 = kCall 1 (runP 1 (b_is_stream.m (pr.dn k))) := rfl
theorem cf_is_placed (k : Nat) : pr.cf (k + 1) 10 = kCall 2 (runP 2 (b_is_placed.m (pr.dn k))) := rfl
theorem cf_kind_number (k : Nat) : pr.cf (k + 1) 11 = kCall 1 (runP 3 (b_kind_number.m (pr.dn k))) := rfl
theorem cf_has_form (k : Nat) : pr.cf (k + 1) 12 = kCall 2 (runP 4 (b_has_form.m (pr.dn k))) := rfl
theorem cf_is_chunk (k : Nat) : pr.cf (k + 1) 13 = kCall 1 (runP 2 (b_is_chunk.m (pr.dn k))) := rfl
theorem cf__law_draws (k : Nat) : pr.cf (k + 1) 14 = kCall 2 (runP 6 (b__law_draws.m (pr.dn k))) := rfl
theorem cf__law_same (k : Nat) : pr.cf (k + 1) 15 = kCall 2 (runP 3 (b__law_same.m (pr.dn k))) := rfl
theorem cf__law_big (k : Nat) : pr.cf (k + 1) 16 = kCall 2 (runP 2 (b__law_big.m (pr.dn k))) := rfl
theorem cf__law_places (k : Nat) : pr.cf (k + 1) 17 = kCall 2 (runP 5 (b__law_places.m (pr.dn k))) := rfl
theorem cf__law_codes (k : Nat) : pr.cf (k + 1) 18 = kCall 3 (runP 5 (b__law_codes.m (pr.dn k))) := rfl
theorem cf__law_chunk (k : Nat) : pr.cf (k + 1) 19 = kCall 2 (runP 11 (b__law_chunk.m (pr.dn k))) := rfl
theorem cf__law_bad (k : Nat) : pr.cf (k + 1) 20 = kCall 2 (runP 7 (b__law_bad.m (pr.dn k))) := rfl
theorem cf__law_parts (k : Nat) : pr.cf (k + 1) 21 = kCall 1 (runP 7 (b__law_parts.m (pr.dn k))) := rfl
theorem cf_law (k : Nat) : pr.cf (k + 1) 22 = kCall 1 (runP 9 (b_law.m (pr.dn k))) := rfl
abbrev i_is_number : Nat := 0
abbrev i_are_numbers : Nat := 1
abbrev i_is_four : Nat := 2
abbrev i_are_fours : Nat := 3
abbrev i_is_codes : Nat := 4
abbrev i_is_message_codes : Nat := 5
abbrev i_is_frame_codes : Nat := 6
abbrev i_are_addresses : Nat := 7
abbrev i_is_cookie : Nat := 8
abbrev i_is_stream : Nat := 9
abbrev i_is_placed : Nat := 10
abbrev i_kind_number : Nat := 11
abbrev i_has_form : Nat := 12
abbrev i_is_chunk : Nat := 13
abbrev i__law_draws : Nat := 14
abbrev i__law_same : Nat := 15
abbrev i__law_big : Nat := 16
abbrev i__law_places : Nat := 17
abbrev i__law_codes : Nat := 18
abbrev i__law_chunk : Nat := 19
abbrev i__law_bad : Nat := 20
abbrev i__law_parts : Nat := 21
abbrev i_law : Nat := 22
@[simp] theorem nf_is_four : pr.nf "is_four" = some 2 := by decide +kernel
@[simp] theorem nf_are_fours : pr.nf "are_fours" = some 3 := by decide +kernel
@[simp] theorem nf_are_addresses : pr.nf "are_addresses" = some 7 := by decide +kernel
@[simp] theorem nf_is_cookie : pr.nf "is_cookie" = some 8 := by decide +kernel
@[simp] theorem nf_is_stream : pr.nf "is_stream" = some 9 := by decide +kernel
@[simp] theorem nf_is_message_codes : pr.nf "is_message_codes" = some 5 := by decide +kernel
@[simp] theorem nf_is_frame_codes : pr.nf "is_frame_codes" = some 6 := by decide +kernel
@[simp] theorem dn_nf (k : Nat) : (pr.dn k).nf = pr.nf := rfl
@[simp] theorem dn_cf (k : Nat) : (pr.dn k).cf = pr.cf k := rfl
@[simp] theorem dn_cv (k : Nat) : (pr.dn k).cv = pr.cv1 := rfl
@[simp] theorem dn_ct (k : Nat) : (pr.dn k).ct = pr.ct1 := rfl
@[simp] theorem dn_fo (k : Nat) : (pr.dn k).fo = pr.fo := rfl
@[simp] theorem dn_mf (k : Nat) : (pr.dn k).mf = pr.mf := rfl
@[simp] theorem dn_xt (k : Nat) : (pr.dn k).xt = pr.xtl k := rfl
@[simp] theorem cv_MOST_OCTET : pr.cv1 0 = .int 255 := rfl
@[simp] theorem cv_MOST_NUMBER : pr.cv1 1 = .int 4294967295 := rfl
@[simp] theorem cv_MOST_ADDRESSES : pr.cv1 2 = .int 6 := rfl
@[simp] theorem cv_MOST_STREAM : pr.cv1 3 = .int 15 := rfl
@[simp] theorem cv_MOST_MESSAGE : pr.cv1 4 = .int 200 := rfl
@[simp] theorem cv_MOST_FRAME : pr.cv1 5 = .int 10000 := rfl
@[simp] theorem cv_MOST_BEYOND : pr.cv1 6 = .int 32 := rfl
@[simp] theorem cv_FORMS : pr.cv1 7 = .tup [.tup [.str "init", .str "addresses"], .tup [.str "init_ack", .str "addresses", .str "cookie"], .tup [.str "echo", .str "cookie"], .tup [.str "echo_ack"], .tup [.str "data", .str "number", .str "stream", .str "place", .str "message codes"], .tup [.str "ack", .str "number", .str "numbers"], .tup [.str "probe"], .tup [.str "probe_ack"], .tup [.str "addresses", .str "number", .str "addresses"], .tup [.str "addresses_ack", .str "number"], .tup [.str "gone"], .tup [.str "abort"], .tup [.str "shutdown"], .tup [.str "shutdown_ack"], .tup [.str "shutdown_done"], .tup [.str "frame", .str "number", .str "number", .str "number", .str "number", .str "frame codes"], .tup [.str "frame_ack", .str "number"]] := rfl
@[simp] theorem ct_CHECKS : pr.ct1 0 = t_CHECKS := rfl
@[simp] theorem so_0 : PyData.strOk "number" = true := by decide +kernel
@[simp] theorem so_1 : PyData.strOk "numbers" = true := by decide +kernel
@[simp] theorem so_2 : PyData.strOk "addresses" = true := by decide +kernel
@[simp] theorem so_3 : PyData.strOk "cookie" = true := by decide +kernel
@[simp] theorem so_4 : PyData.strOk "stream" = true := by decide +kernel
@[simp] theorem so_5 : PyData.strOk "place" = true := by decide +kernel
@[simp] theorem so_6 : PyData.strOk "message codes" = true := by decide +kernel
@[simp] theorem so_7 : PyData.strOk "frame codes" = true := by decide +kernel
@[simp] theorem so_8 : PyData.strOk "init" = true := by decide +kernel
@[simp] theorem so_9 : PyData.strOk "init_ack" = true := by decide +kernel
@[simp] theorem so_10 : PyData.strOk "echo" = true := by decide +kernel
@[simp] theorem so_11 : PyData.strOk "echo_ack" = true := by decide +kernel
@[simp] theorem so_12 : PyData.strOk "data" = true := by decide +kernel
@[simp] theorem so_13 : PyData.strOk "ack" = true := by decide +kernel
@[simp] theorem so_14 : PyData.strOk "probe" = true := by decide +kernel
@[simp] theorem so_15 : PyData.strOk "probe_ack" = true := by decide +kernel
@[simp] theorem so_16 : PyData.strOk "addresses_ack" = true := by decide +kernel
@[simp] theorem so_17 : PyData.strOk "gone" = true := by decide +kernel
@[simp] theorem so_18 : PyData.strOk "abort" = true := by decide +kernel
@[simp] theorem so_19 : PyData.strOk "shutdown" = true := by decide +kernel
@[simp] theorem so_20 : PyData.strOk "shutdown_ack" = true := by decide +kernel
@[simp] theorem so_21 : PyData.strOk "shutdown_done" = true := by decide +kernel
@[simp] theorem so_22 : PyData.strOk "frame" = true := by decide +kernel
@[simp] theorem so_23 : PyData.strOk "frame_ack" = true := by decide +kernel
@[simp] theorem so_24 : PyData.strOk "" = true := by decide +kernel
@[simp] theorem so_25 : PyData.strOk "7" = true := by decide +kernel
@[simp] theorem so_26 : PyData.strOk "init_" = true := by decide +kernel
end Lw

-- M_k42c
set_option linter.all false
set_option maxRecDepth 100000
set_option maxHeartbeats 4000000
namespace Lw
open PySem PySem.Spec PyProof.Rows L2 ML
-- EV: startM_eq
/-- a value that may be asked for its type -/
def aV : Val → Bool
  | .non | .bl _ | .int _ | .str _ | .tup _ | .lst _ => true
  | _ => false
def isNum (m : Int) : Val → Bool
  | .int n => decide (0 ≤ n) && decide (n ≤ m)
  | _ => false
theorem is_numberE (k : Nat) (v : Val) (m : Int) (st : Store) (h : aV v = true) (hn : nr v = true) : pr.cf (k + 1) i_is_number [v, .int m] st = .ok (.bl (isNum m v)) st := by
  rw [cf_is_number]
  refine kCall_nr rfl (by simp [hn]) (s := []) ?_
  unfold runP startM
  cases v <;> first | (simp [aV] at h; done) | (rename_i i; by_cases c : 0 ≤ i <;> simp -implicitDefEqProofs [fEq_v, fNe_v, startM_eq, b_is_number, tyM, isT, isNum, c]; done) | simp -implicitDefEqProofs [fEq_v, fNe_v, startM_eq, b_is_number, tyM, isT, isNum]
def okEs (xs : List Val) : Bool := xs.all fun v => aV v && nr v
def areNum (l : Nat) (m : Int) : Val → Bool
  | .tup xs => decide (xs.length ≤ l) && xs.all (isNum m)
  | _ => false
def aT : Val → Bool
  | .non | .bl _ | .int _ | .str _ | .lst _ => true
  | .tup xs => okEs xs && decide (xs.length < 100000)
  | _ => false
theorem are_numbersE (k : Nat) (v : Val) (l : Nat) (m : Int) (st : Store) (hl : l < 100000) (h : aT v = true) (hn : nr v = true) : pr.cf (k + 2) i_are_numbers [v, .int l, .int m] st = .ok (.bl (areNum l m v)) st := by
  rw [cf_are_numbers]
  refine kCall_nr rfl (by simp [hn]) (s := []) ?_
  cases v with
  | tup xs =>
    simp only [aT, Bool.and_eq_true, decide_eq_true_eq] at h
    obtain ⟨h1, h2⟩ := h
    have hb : -1152921504606846976 ≤ (xs.length : Int) ∧ (xs.length : Int) < 1152921504606846976 := by omega
    by_cases c : xs.length ≤ l
    · have c1 : ¬ ((l : Int) < xs.length) := by omega
      generalize hr : runP 4 _ _ = r
      unfold runP startM at hr
      simp -implicitDefEqProofs [fEq_v, fNe_v, startM_eq, b_are_numbers, tyM, isT, hb, c1] at hr
      generalize hL : loopV _ _ _ _ _ = q at hr
      rcases loop_anyq (enc := fun v => v) (xs := xs) (q := q) (by rw [List.map_id']; exact hL) (fun v => !isNum m v) (.bl false) (fun o => [some (.tup xs), some (.int l), some (.int m), o]) none rfl (by
        intro x hx o q hq
        have ho := List.all_eq_true.mp h1 x hx
        rw [Bool.and_eq_true] at ho
        have e := fun st => is_numberE k x m st ho.1 ho.2
        cases hi : isNum m x <;> rw [hi] at e <;> simp -implicitDefEqProofs [fEq_v, fNe_v, startM_eq, e] at hq <;> first | done | (rw [← hq]; try simp [hi])) with ⟨h3, rfl⟩ | ⟨h3, o', rfl⟩
      · simp -implicitDefEqProofs [fEq_v, fNe_v, startM_eq] at hr
        rw [← hr]
        have : xs.all (isNum m) = false := by
          rw [List.any_eq_true] at h3
          obtain ⟨x, hx, hp⟩ := h3
          rw [List.all_eq_false]
          exact ⟨x, hx, by simpa using hp⟩
        simp [areNum, this]
      · simp -implicitDefEqProofs [fEq_v, fNe_v, startM_eq] at hr
        rw [← hr]
        have : xs.all (isNum m) = true := by
          rw [List.any_eq_false] at h3
          rw [List.all_eq_true]
          intro x hx
          simpa using h3 x hx
        simp [areNum, this, c]
    · have c1 : (l : Int) < xs.length := by omega
      unfold runP startM
      simp -implicitDefEqProofs [fEq_v, fNe_v, startM_eq, b_are_numbers, tyM, isT, hb, c1, areNum, c]
  | _ => first | (simp [aT] at h; done) | unfold runP startM; simp -implicitDefEqProofs [fEq_v, fNe_v, startM_eq, b_are_numbers, tyM, isT, areNum]
def isAddr : Val → Bool
  | .tup xs => decide (xs.length ≤ 6) && xs.all (isNum 255) && decide (0 < xs.length) && (match intsL xs with
    | some ns => decide ((setI ns).length = xs.length)
    | none => false)
  | _ => false
theorem intsL_num {m : Int} : ∀ {xs : List Val}, xs.all (isNum m) = true → ∃ ns, intsL xs = some ns ∧ xs = ns.map .int
  | [], _ => ⟨[], rfl, rfl⟩
  | x :: xs, h => by
    rw [List.all_cons, Bool.and_eq_true] at h
    obtain ⟨ns, h1, h2⟩ := intsL_num h.2
    cases x with
    | int i => exact ⟨i :: ns, by simp [intsL, h1], by rw [h2]; rfl⟩
    | _ => simp [isNum] at h
theorem is_fourE (k : Nat) (v : Val) (st : Store) (h : aV v = true) (hn : nr v = true) : pr.cf (k + 2) i_is_four [v] st = .ok (.bl (isNum 4294967295 v)) st := by
  rw [cf_is_four]
  refine kCall_nr rfl (by simp [hn]) (s := []) ?_
  unfold runP startM
  simp -implicitDefEqProofs [fEq_v, fNe_v, startM_eq, b_is_four, is_numberE k v 4294967295 _ h hn]
theorem are_foursE (k : Nat) (v : Val) (st : Store) (h : aT v = true) (hn : nr v = true) : pr.cf (k + 3) i_are_fours [v] st = .ok (.bl (areNum 32 4294967295 v)) st := by
  rw [cf_are_fours]
  refine kCall_nr rfl (by simp [hn]) (s := []) ?_
  unfold runP startM
  have e : ∀ st, pr.cf (k + 2) i_are_numbers [v, .int 32, .int 4294967295] st = _ := fun st => are_numbersE k v 32 4294967295 st (by decide) h hn
  simp -implicitDefEqProofs [fEq_v, fNe_v, startM_eq, b_are_fours, e]
theorem is_codesE (k : Nat) (v : Val) (l : Nat) (st : Store) (hl : l < 100000) (h : aT v = true) (hn : nr v = true) : pr.cf (k + 3) i_is_codes [v, .int l] st = .ok (.bl (areNum l 255 v)) st := by
  rw [cf_is_codes]
  refine kCall_nr rfl (by simp [hn]) (s := []) ?_
  unfold runP startM
  simp -implicitDefEqProofs [fEq_v, fNe_v, startM_eq, b_is_codes, are_numbersE k v l 255 _ hl h hn]
theorem is_mcodesE (k : Nat) (v : Val) (st : Store) (h : aT v = true) (hn : nr v = true) : pr.cf (k + 4) i_is_message_codes [v] st = .ok (.bl (areNum 200 255 v)) st := by
  rw [cf_is_message_codes]
  refine kCall_nr rfl (by simp [hn]) (s := []) ?_
  unfold runP startM
  have e : ∀ st, pr.cf (k + 3) i_is_codes [v, .int 200] st = _ := fun st => is_codesE k v 200 st (by decide) h hn
  simp -implicitDefEqProofs [fEq_v, fNe_v, startM_eq, b_is_message_codes, e]
theorem is_fcodesE (k : Nat) (v : Val) (st : Store) (h : aT v = true) (hn : nr v = true) : pr.cf (k + 4) i_is_frame_codes [v] st = .ok (.bl (areNum 10000 255 v)) st := by
  rw [cf_is_frame_codes]
  refine kCall_nr rfl (by simp [hn]) (s := []) ?_
  unfold runP startM
  have e : ∀ st, pr.cf (k + 3) i_is_codes [v, .int 10000] st = _ := fun st => is_codesE k v 10000 st (by decide) h hn
  simp -implicitDefEqProofs [fEq_v, fNe_v, startM_eq, b_is_frame_codes, e]
theorem are_addressesE (k : Nat) (v : Val) (st : Store) (h : aT v = true) (hn : nr v = true) : pr.cf (k + 3) i_are_addresses [v] st = .ok (.bl (isAddr v)) st := by
  rw [cf_are_addresses]
  refine kCall_nr rfl (by simp [hn]) (s := []) ?_
  unfold runP startM
  have e : ∀ st, pr.cf (k + 2) i_are_numbers [v, .int 6, .int 255] st = _ := fun st => are_numbersE k v 6 255 st (by decide) h hn
  cases hA : areNum 6 255 v with
  | false =>
    rw [hA] at e
    have : isAddr v = false := by
      cases v <;> simp [isAddr, areNum] at hA ⊢
      intro h1 h2 h3
      exfalso
      obtain ⟨x, hx, hp⟩ := hA h1
      have := h2 x hx
      rw [this] at hp
      cases hp
    simp -implicitDefEqProofs [fEq_v, fNe_v, startM_eq, b_are_addresses, e, this]
  | true =>
    rw [hA] at e
    cases v with
    | tup xs =>
      simp only [areNum, Bool.and_eq_true, decide_eq_true_eq] at hA
      obtain ⟨ns, h1, h2⟩ := intsL_num hA.2
      have hb : -1152921504606846976 ≤ (xs.length : Int) ∧ (xs.length : Int) < 1152921504606846976 := by omega
      have hl : ns.length < 4000 := by
        have : xs.length = ns.length := by rw [h2]; simp
        omega
      by_cases c : 0 < xs.length
      · have c1 : (0 : Int) < xs.length := by omega
        have c2 : (((setI ns).length : Int) = xs.length) ↔ ((setI ns).length = xs.length) := by omega
        simp -implicitDefEqProofs [fEq_v, fNe_v, startM_eq, b_are_addresses, e, hb, c1, nLns, h1, hl, isAddr, hA.1, hA.2, c, c2]
        rw [Bool.eq_iff_iff]; simp; omega
      · have c1 : ¬ (0 : Int) < xs.length := by omega
        simp -implicitDefEqProofs [fEq_v, fNe_v, startM_eq, b_are_addresses, e, hb, c1, isAddr, c]
    | _ => simp [areNum] at hA
end Lw

-- M_k42d
set_option linter.all false
set_option maxRecDepth 100000
set_option maxHeartbeats 4000000
namespace Lw
open PySem PySem.Spec PyProof.Rows L2 ML
-- EV: startM_eq
def isCookie : Val → Bool
  | .tup [a, b, c] => isNum 4294967295 a && isNum 4294967295 b && isAddr c
  | _ => false
/-- what may be asked for as a field: its members may be asked too -/
def aF : Val → Bool
  | .non | .bl _ | .int _ | .str _ | .lst _ => true
  | .tup xs => (xs.all fun v => aT v && nr v) && decide (xs.length < 100000)
  | _ => false
theorem aT_aV {v : Val} (h : aT v = true) : aV v = true := by cases v <;> first | rfl | (simp [aT] at h; done)
theorem aF_aT {v : Val} (h : aF v = true) : aT v = true := by
  cases v with
  | tup xs =>
    simp only [aF, Bool.and_eq_true, List.all_eq_true, decide_eq_true_eq] at h
    simp only [aT, okEs, Bool.and_eq_true, List.all_eq_true, decide_eq_true_eq]
    exact ⟨fun x hx => ⟨aT_aV (h.1 x hx).1, (h.1 x hx).2⟩, h.2⟩
  | _ => first | rfl | (simp [aF] at h; done)
theorem is_cookieE (k : Nat) (v : Val) (st : Store) (h : aF v = true) (hn : nr v = true) : pr.cf (k + 4) i_is_cookie [v] st = .ok (.bl (isCookie v)) st := by
  rw [cf_is_cookie]
  refine kCall_nr rfl (by simp [hn]) (s := []) ?_
  unfold runP startM
  cases v with
  | tup xs =>
    simp only [aF, Bool.and_eq_true, List.all_eq_true, decide_eq_true_eq] at h
    have hb : -1152921504606846976 ≤ (xs.length : Int) ∧ (xs.length : Int) < 1152921504606846976 := by omega
    by_cases c : xs.length = 3
    · obtain ⟨x, y, z, rfl⟩ : ∃ x y z, xs = [x, y, z] := by
        match xs, c with
        | [x, y, z], _ => exact ⟨x, y, z, rfl⟩
      have h1 := h.1 x (by simp)
      have h2 := h.1 y (by simp)
      have h3 := h.1 z (by simp)
      have e1 := fun st => is_fourE (k + 1) x st (aT_aV h1.1) h1.2
      have e2 := fun st => is_fourE (k + 1) y st (aT_aV h2.1) h2.2
      have e3 := fun st => are_addressesE k z st h3.1 h3.2
      cases q1 : isNum 4294967295 x <;> cases q2 : isNum 4294967295 y <;> rw [q1] at e1 <;> rw [q2] at e2 <;> simp -implicitDefEqProofs [fEq_v, fNe_v, startM_eq, b_is_cookie, tyM, isT, isCookie, q1, q2, e1, e2, e3]
    · have c1 : ¬ (xs.length : Int) = 3 := by omega
      have c2 : isCookie (.tup xs) = false := by
        unfold isCookie
        split
        · rename_i e
          cases e
          exact absurd rfl c
        · rfl
      simp -implicitDefEqProofs [fEq_v, fNe_v, startM_eq, b_is_cookie, tyM, isT, hb, c1, c2]
  | _ => first | (simp [aF] at h; done) | simp -implicitDefEqProofs [fEq_v, fNe_v, startM_eq, b_is_cookie, tyM, isT, isCookie]
def isStream : Val → Bool
  | .non => true
  | v => isNum 15 v
theorem is_streamE (k : Nat) (v : Val) (st : Store) (h : aT v = true) (hn : nr v = true) : pr.cf (k + 4) i_is_stream [v] st = .ok (.bl (isStream v)) st := by
  rw [cf_is_stream]
  refine kCall_nr rfl (by simp [hn]) (s := []) ?_
  unfold runP startM
  have e := fun st => is_numberE (k + 2) v 15 st (aT_aV h) hn
  cases v <;> first | (simp [aT] at h; done) | simp -implicitDefEqProofs [fEq_v, fNe_v, startM_eq, b_is_stream, isStream, e]
def plc (a b : Val) : Bool := match a with
  | .non => (match b with
    | .int i => i == 0
    | _ => false)
  | _ => true
theorem is_placedE (k : Nat) (v : Val) (i : Int) (st : Store) (h : aT v = true) (hn : nr v = true) : pr.cf (k + 4) i_is_placed [v, .int i] st = .ok (.bl (plc v (.int i))) st := by
  rw [cf_is_placed]
  refine kCall_nr rfl (by simp [hn]) (s := []) ?_
  unfold runP startM
  cases v <;> first | (simp [aT] at h; done) | simp -implicitDefEqProofs [fEq_v, fNe_v, startM_eq, b_is_placed, plc]
def fN (f : List Str) : Val := .tup (f.map .str)
def fm : List (List Str) := [["init", "addresses"], ["init_ack", "addresses", "cookie"], ["echo", "cookie"], ["echo_ack"], ["data", "number", "stream", "place", "message codes"], ["ack", "number", "numbers"], ["probe"], ["probe_ack"], ["addresses", "number", "addresses"], ["addresses_ack", "number"], ["gone"], ["abort"], ["shutdown"], ["shutdown_ack"], ["shutdown_done"], ["frame", "number", "number", "number", "number", "frame codes"], ["frame_ack", "number"]]
theorem cvF : pr.cv1 7 = .tup (fm.map fN) := by kernel_rfl
theorem fm_ok : (fm.all fun f => match f with | n :: _ => okV 40 (.str n) | _ => false) = true := by decide +kernel
theorem fm_hd (f : List Str) (hf : f ∈ fm) : ∃ n ns, f = n :: ns ∧ okV 40 (.str n) = true := by
  have := List.all_eq_true.mp fm_ok f hf
  cases f with
  | nil => cases this
  | cons n ns => exact ⟨n, ns, rfl, this⟩
theorem en_loop (x : Str) (st : Store) : ∀ (fs : List (List Str)) (i : Nat) (o1 o2 : Option Val), (∀ f ∈ fs, ∃ n ns, f = n :: ns ∧ okV 40 (.str n) = true) → okV 40 (.str x) = true → ∀ b g, b = sSeq (sIf (mTest (mBin fEq (mBin fIxA (mVar 2) (mC (Val.int 0))) (mVar 0))) (sSeq (sRet (mVar 1)) sPass) sPass) sPass → g = gT 2 (gsCons (gN 1) (gsCons (gN 2) gsNil)) →
    (∃ o1' o2', loopV g b (enumV i (fs.map fN)) [some (.str x), o1, o2] st = match fs.findIdx? (fun f => decide (f.head? = some x)) with
      | some j => .rt (.int ((i + j : Nat) : Int)) st
      | none => .nx [some (.str x), o1', o2'] st)
  | [], i, o1, o2, _, _, b, g, _, _ => ⟨o1, o2, rfl⟩
  | f :: fs, i, o1, o2, hf, hx, b, g, hb, hg => by
    obtain ⟨n, ns, rfl, hn⟩ := hf f List.mem_cons_self
    rw [List.map_cons, enumV]
    obtain ⟨o1', o2', ih⟩ := en_loop x st fs (i + 1) (some (.int (i : Nat))) (some (fN (n :: ns))) (fun f h => hf f (List.mem_cons_of_mem _ h)) hx b g hb hg
    refine ⟨o1', o2', ?_⟩
    have hbd : b [some (.str x), some (.int (i : Nat)), some (fN (n :: ns))] st = if n = x then .rt (.int (i : Nat)) st else .nx [some (.str x), some (.int (i : Nat)), some (fN (n :: ns))] st := by
      subst hb
      by_cases c : n = x
      · subst c
        simp -implicitDefEqProofs [fEq_v, fNe_v, startM_eq, fN, hx]
      · simp -implicitDefEqProofs [fEq_v, fNe_v, startM_eq, fN, c, hx, hn]
    rw [loopV_cons (e1 := [some (.str x), some (.int (i : Nat)), some (fN (n :: ns))]) (by rw [hg]; rfl), hbd, List.findIdx?_cons]
    by_cases c : n = x
    · simp [c]
    · rw [if_neg c]
      simp only [ih, List.head?_cons, Option.some.injEq, decide_false, c]
      cases fs.findIdx? (fun f => decide (f.head? = some x)) with
      | none => rfl
      | some j =>
        show S.rt (.int ((i + 1 + j : Nat) : Int)) st = S.rt (.int ((i + (j + 1) : Nat) : Int)) st
        rw [show i + 1 + j = i + (j + 1) by omega]
theorem kind_numberE (k : Nat) (x : Str) (hx : okV 40 (.str x) = true) (st : Store) : pr.cf (k + 1) i_kind_number [.str x] st = .ok (match fm.findIdx? (fun f => decide (f.head? = some x)) with
      | some j => .int (j : Nat)
      | none => .non) st := by
  rw [cf_kind_number]
  refine kCall_nr rfl (by simp) (s := []) ?_
  generalize hr : runP _ _ _ = r
  unfold runP startM at hr
  simp -implicitDefEqProofs [fEq_v, fNe_v, startM_eq, b_kind_number, -cv_FORMS, cvF] at hr
  generalize hL : loopV _ _ _ _ _ = q at hr
  obtain ⟨o1, o2, h⟩ := en_loop x [] fm 0 none none fm_hd hx _ _ rfl rfl
  have hL := h.symm.trans hL
  rw [← hL] at hr
  cases hi : fm.findIdx? (fun f => decide (f.head? = some x)) with
  | none =>
    rw [hi] at hr
    simp -implicitDefEqProofs [fEq_v, fNe_v, startM_eq] at hr
    exact hr.symm
  | some j =>
    rw [hi] at hr
    simp -implicitDefEqProofs [fEq_v, fNe_v, startM_eq] at hr
    exact hr.symm
end Lw

-- M_k42e
set_option linter.all false
set_option maxRecDepth 100000
set_option maxHeartbeats 4000000
namespace Lw
open PySem PySem.Spec PyProof.Rows L2 ML
-- EV: startM_eq
def chk (nm : Str) (v : Val) : Bool :=
  if nm = "number" then isNum 4294967295 v else if nm = "numbers" then areNum 32 4294967295 v else if nm = "addresses" then isAddr v else if nm = "cookie" then isCookie v
  else if nm = "stream" then isStream v else if nm = "place" then isNum 4294967295 v else if nm = "message codes" then areNum 200 255 v else areNum 10000 255 v
def nms : List Str := ["number", "numbers", "addresses", "cookie", "stream", "place", "message codes", "frame codes"]
theorem fm_nms : (fm.all fun f => (f.drop 1).all fun x => decide (x ∈ nms)) = true := by decide +kernel
theorem chk_run (k : Nat) (nm : Str) (hm : nm ∈ nms) (v : Val) (h : aF v = true) (hn : nr v = true) :
    ∃ y j, lookM t_CHECKS (.inr nm) = some (.fn y) ∧ pr.nf y = some j ∧ pr.cf (k + 4) j [v] [] = .ok (.bl (chk nm v)) [] := by
  have h1 := aF_aT h
  have h2 := aT_aV h1
  simp only [nms, List.mem_cons, List.not_mem_nil, or_false] at hm
  rcases hm with rfl | rfl | rfl | rfl | rfl | rfl | rfl | rfl
  · exact ⟨"is_four", 2, by kernel_rfl, by simp, is_fourE (k + 2) v [] h2 hn⟩
  · exact ⟨"are_fours", 3, by kernel_rfl, by simp, are_foursE (k + 1) v [] h1 hn⟩
  · exact ⟨"are_addresses", 7, by kernel_rfl, by simp, are_addressesE (k + 1) v [] h1 hn⟩
  · exact ⟨"is_cookie", 8, by kernel_rfl, by simp, is_cookieE k v [] h hn⟩
  · exact ⟨"is_stream", 9, by kernel_rfl, by simp, is_streamE k v [] h1 hn⟩
  · exact ⟨"is_four", 2, by kernel_rfl, by simp, is_fourE (k + 2) v [] h2 hn⟩
  · exact ⟨"is_message_codes", 5, by kernel_rfl, by simp, is_mcodesE k v [] h1 hn⟩
  · exact ⟨"is_frame_codes", 6, by kernel_rfl, by simp, is_fcodesE k v [] h1 hn⟩

def nD (ns : List Str) (i : Nat) : Str := ns.getD i ""
def vD (xs : List Val) (i : Nat) : Val := xs.getD i .non
theorem nD_mem {ns : List Str} {i : Nat} (h : i < ns.length) : nD ns i ∈ ns := by
  unfold nD
  simp only [List.getD_eq_getElem?_getD, List.getElem?_eq_getElem h, Option.getD_some]
  exact List.getElem_mem h
theorem vD_mem {ns : List Val} {i : Nat} (h : i < ns.length) : vD ns i ∈ ns := by
  unfold vD
  simp only [List.getD_eq_getElem?_getD, List.getElem?_eq_getElem h, Option.getD_some]
  exact List.getElem_mem h
def hF (ns : List Str) (xs : List Val) : Bool := decide (xs.length = ns.length) && !(List.range ns.length).any fun j => !chk (nD ns j) (vD xs j)
def EF (c f : Val) (ns : List Str) : Option Val → MEnv
  | some (.int i) => [some c, some f, some (.int i), lookM t_CHECKS (.inr (nD ns (i.toNat - 1)))]
  | _ => [some c, some f, none, none]
theorem at1 {x0 : Val} {xs : List Val} {j : Nat} (h : j < xs.length) : atI (x0 :: xs) (1 + (j : Nat)) = some (vD xs j) := by
  have e := atI_some (xs := x0 :: xs) (n := j + 1) (by simp; omega)
  have e2 : ((j + 1 : Nat) : Int) = 1 + (j : Nat) := by omega
  rw [e2] at e
  rw [e]
  unfold vD
  simp only [List.getD_eq_getElem?_getD, List.getElem?_eq_getElem h, Option.getD_some]
  rfl
theorem has_formE (k : Nat) (x0 : Val) (xs : List Val) (n0 : Str) (ns : List Str) (st : Store) (hns : ∀ n ∈ ns, n ∈ nms) (hnl : ns.length < 1000) (hxl : xs.length < 100000) (h0 : nr x0 = true) (hx : ∀ x ∈ xs, aF x = true ∧ nr x = true) :
    pr.cf (k + 5) i_has_form [.tup (x0 :: xs), fN (n0 :: ns)] st = .ok (.bl (hF ns xs)) st := by
  have hnr : nrs xs = true := by
    clear hxl
    induction xs with
    | nil => rfl
    | cons x xs ih => rw [nrs_cons, (hx x List.mem_cons_self).2, ih fun y hy => hx y (List.mem_cons_of_mem _ hy)]; rfl
  have hnf : nr (fN (n0 :: ns)) = true := by
    unfold fN
    rw [nr_tup]
    generalize n0 :: ns = l
    induction l with
    | nil => rfl
    | cons x xs ih => rw [List.map_cons, nrs_cons, ih]; rfl
  rw [cf_has_form]
  refine kCall_nr rfl (by simp [h0, hnr, hnf]) (s := []) ?_
  generalize hr : runP _ _ _ = r
  unfold runP startM at hr
  have hb : -1152921504606846976 ≤ (xs.length : Int) + 1 ∧ (xs.length : Int) + 1 < 1152921504606846976 := by omega
  have hb2 : -1152921504606846976 ≤ (ns.length : Int) + 1 ∧ (ns.length : Int) + 1 < 1152921504606846976 := by omega
  by_cases c : xs.length = ns.length
  · have c1 : (xs.length : Int) = ns.length := by omega
    have c3 : (1 : Int) + ((ns.length : Int) + 1 - 1) = (ns.length : Int) + 1 := by omega
    simp -implicitDefEqProofs [fEq_v, fNe_v, startM_eq, b_has_form, fN, hb, hb2, c1, c3] at hr
    generalize hL : loopV _ _ _ _ _ = q at hr
    have hrg : rngL 1 ns.length = (List.range ns.length).map (fun j : Nat => Val.int (1 + (j : Nat))) := rfl
    rcases loop_anyq (enc := fun j : Nat => Val.int (1 + (j : Nat))) (xs := List.range ns.length) (q := q) (by rw [← hrg]; exact hL) (fun j => !chk (nD ns j) (vD xs j)) (.bl false) (EF (.tup (x0 :: xs)) (fN (n0 :: ns)) ns) none rfl (by
      intro j hj o q hq
      have hj := List.mem_range.mp hj
      obtain ⟨y, i, q1, q2, q3⟩ := chk_run k (nD ns j) (hns _ (nD_mem hj)) (vD xs j) (hx _ (vD_mem (by omega))).1 (hx _ (vD_mem (by omega))).2
      have a1 := at1 (x0 := x0) (xs := xs) (j := j) (by omega)
      have a2 := at1 (x0 := .str n0) (xs := ns.map .str) (j := j) (by simpa using hj)
      have a3 : vD (ns.map .str) j = .str (nD ns j) := by
        unfold vD nD
        simp [List.getElem?_eq_getElem hj]
      rw [a3] at a2
      have ee : EF (.tup (x0 :: xs)) (fN (n0 :: ns)) ns (some (.int (1 + (j : Nat)))) = [some (.tup (x0 :: xs)), some (fN (n0 :: ns)), some (.int (1 + (j : Nat))), some (.fn y)] := by
        have : ((1 : Int) + (j : Nat)).toNat - 1 = j := by omega
        simp only [EF, this, q1]
      rw [ee]
      have hq : (∃ a b, EF (.tup (x0 :: xs)) (fN (n0 :: ns)) ns o = [some (.tup (x0 :: xs)), some (fN (n0 :: ns)), a, b]) := by
        unfold EF
        split <;> exact ⟨_, _, rfl⟩
      obtain ⟨a, b, hab⟩ := hq
      rename_i hq
      rw [hab] at hq
      cases hc : chk (nD ns j) (vD xs j) <;> rw [hc] at q3 <;> simp -implicitDefEqProofs [fEq_v, fNe_v, startM_eq, fN, a1, a2, q1, q2, q3] at hq <;> (rw [← hq]; try simp [fN])) with ⟨h3, rfl⟩ | ⟨h3, o', rfl⟩
    · simp -implicitDefEqProofs [fEq_v, fNe_v, startM_eq] at hr
      rw [← hr]
      simp [hF, h3]
    · simp -implicitDefEqProofs [fEq_v, fNe_v, startM_eq] at hr
      rw [← hr]
      simp only [hF, h3, c]
      rfl
  · have c1 : ¬ (xs.length : Int) = ns.length := by omega
    simp -implicitDefEqProofs [fEq_v, fNe_v, startM_eq, b_has_form, fN, hb, hb2, c1] at hr
    rw [← hr]
    simp [hF, c]
end Lw

-- M_k42f
set_option linter.all false
set_option maxRecDepth 100000
set_option maxHeartbeats 4000000
namespace Lw
open PySem PySem.Spec PyProof.Rows L2 ML
-- EV: startM_eq
def isCh (x : Str) (xs : List Val) : Bool := match fm.findIdx? (fun f => decide (f.head? = some x)) with
  | none => false
  | some j => hF ((fm.getD j []).drop 1) xs && (decide (x ≠ "data") || plc (vD xs 1) (vD xs 2))
theorem data4 : fm.findIdx? (fun f => decide (f.head? = some ("data" : Str))) = some 4 := by decide +kernel
theorem fm_len : (fm.all fun f => decide (f.length < 100)) = true := by decide +kernel
theorem is_chunkE (k : Nat) (x : Str) (xs : List Val) (st : Store) (hxl : xs.length < 99999) (h0 : okV 40 (.str x) = true) (hx : ∀ x ∈ xs, aF x = true ∧ nr x = true) :
    pr.cf (k + 6) i_is_chunk [.tup (.str x :: xs)] st = .ok (.bl (isCh x xs)) st := by
  have hnr : nrs xs = true := by
    clear hxl
    induction xs with
    | nil => rfl
    | cons x xs ih => rw [nrs_cons, (hx x List.mem_cons_self).2, ih fun y hy => hx y (List.mem_cons_of_mem _ hy)]; rfl
  rw [cf_is_chunk]
  refine kCall_nr rfl (by simp [hnr]) (s := []) ?_
  generalize hr : runP _ _ _ = r
  unfold runP startM at hr
  have hb : -1152921504606846976 ≤ (xs.length : Int) + 1 ∧ (xs.length : Int) + 1 < 1152921504606846976 := by omega
  have hz : ¬ ((xs.length : Int) + 1 = 0) := by omega
  have e1 := fun st => kind_numberE (k + 4) x h0 st
  cases hi : fm.findIdx? (fun f => decide (f.head? = some x)) with
  | none =>
    rw [hi] at e1
    simp -implicitDefEqProofs [fEq_v, fNe_v, startM_eq, b_is_chunk, tyM, isT, hb, hz, e1] at hr
    rw [← hr]
    simp [isCh, hi]
  | some j =>
    rw [hi] at e1
    obtain ⟨hj, hp, _⟩ := List.findIdx?_eq_some_iff_getElem.mp hi
    obtain ⟨n0, ns, hf, ho⟩ := fm_hd fm[j] (List.getElem_mem hj)
    have hn0 : n0 = x := by
      rw [hf] at hp
      simpa using hp
    subst hn0
    have hfl : (n0 :: ns).length < 100 := by
      have := List.all_eq_true.mp fm_len fm[j] (List.getElem_mem hj)
      rw [hf] at this
      simpa using this
    have hnm : ∀ n ∈ ns, n ∈ nms := by
      have := List.all_eq_true.mp fm_nms fm[j] (List.getElem_mem hj)
      rw [hf] at this
      intro n hn
      exact of_decide_eq_true (List.all_eq_true.mp this n hn)
    have a1 := atI_some (xs := fm.map fN) (n := j) (by simpa using hj)
    rw [List.getElem_map, hf] at a1
    have e2 := fun st => has_formE k (.str n0) xs n0 ns st hnm (by simp at hfl; omega) (by omega) rfl hx
    have hg : (fm.getD j []).drop 1 = ns := by
      simp only [List.getD_eq_getElem?_getD, List.getElem?_eq_getElem hj, Option.getD_some, hf]
      rfl
    have hC : isCh n0 xs = (hF ns xs && (decide (n0 ≠ "data") || plc (vD xs 1) (vD xs 2))) := by
      unfold isCh
      rw [hi]
      simp only [hg]
    rw [hC]
    cases hF' : hF ns xs with
    | false =>
      rw [hF'] at e2
      simp -implicitDefEqProofs [fEq_v, fNe_v, startM_eq, b_is_chunk, tyM, isT, hb, hz, e1, -cv_FORMS, cvF, a1, e2] at hr
      rw [← hr]
      simp
    | true =>
      rw [hF'] at e2
      by_cases c : n0 = "data"
      · subst c
        have hj4 : j = 4 := by
          have := hi.symm.trans data4
          exact Option.some.inj this
        subst hj4
        have hns : ns = (["number", "stream", "place", "message codes"] : List Str) := by
          have : fm[4] = ("data" : Str) :: ns := hf
          have h2 : fm[4] = (["data", "number", "stream", "place", "message codes"] : List Str) := rfl
          rw [h2] at this
          injection this with _ this
          exact this.symm
        subst hns
        simp only [hF, Bool.and_eq_true, decide_eq_true_eq] at hF'
        obtain ⟨hl, hany⟩ := hF'
        obtain ⟨v1, v2, v3, v4, rfl⟩ : ∃ v1 v2 v3 v4, xs = [v1, v2, v3, v4] := by
          match xs, hl with
          | [a, b, c, d], _ => exact ⟨a, b, c, d, rfl⟩
        rw [Bool.not_eq_true', List.any_eq_false] at hany
        have h3 := hany 2 (by simp)
        have h3 : isNum 4294967295 v3 = true := by
          have hc : chk (nD ["number", "stream", "place", "message codes"] 2) (vD [v1, v2, v3, v4] 2) = isNum 4294967295 v3 := by rfl
          rw [hc] at h3
          simpa using h3
        cases v3 with
        | int i =>
          have e3 := fun st => is_placedE (k + 1) v2 i st (aF_aT (hx v2 (by simp)).1) (hx v2 (by simp)).2
          have a1 : atI (fm.map fN) 4 = _ := a1
          simp -implicitDefEqProofs [fEq_v, fNe_v, startM_eq, b_is_chunk, tyM, isT, hb, hz, e1, -cv_FORMS, cvF, a1, e2, e3] at hr
          rw [← hr]
          simp [vD]
        | _ => simp [isNum] at h3
      · have c2 : (n0 == ("data" : Str)) = false := beq_eq_false_iff_ne.mpr c
        simp -implicitDefEqProofs [fEq_v, fNe_v, startM_eq, b_is_chunk, tyM, isT, hb, hz, e1, -cv_FORMS, cvF, a1, e2, c2, h0] at hr
        rw [← hr]
        simp [c]
theorem is_chunk_no (k : Nat) (v : Val) (st : Store) (h : (∃ xs, v = .lst xs ∧ nrs xs = true) ∨ v = .tup []) : pr.cf (k + 1) i_is_chunk [v] st = .ok (.bl false) st := by
  rcases h with ⟨xs, rfl, hn⟩ | rfl
  · rw [cf_is_chunk]
    refine kCall_nr rfl (by simp [hn]) (s := []) ?_
    unfold runP startM
    simp -implicitDefEqProofs [fEq_v, fNe_v, startM_eq, b_is_chunk, tyM, isT]
  · rw [cf_is_chunk]
    refine kCall_nr rfl (by simp) (s := []) ?_
    unfold runP startM
    simp -implicitDefEqProofs [fEq_v, fNe_v, startM_eq, b_is_chunk, tyM, isT]
end Lw

-- M_k42g
set_option linter.all false
set_option maxRecDepth 100000
set_option maxHeartbeats 4000000
namespace Lw
open PySem PySem.Spec PyProof.Rows L2 ML
-- EV: startM_eq
def dv (ds : List Int) (n : Nat) : Int := ds.getD n 0
theorem dv_at (ds : List Int) (n : Nat) (h : n < ds.length) : atI (ds.map Val.int) (n : Int) = some (.int (dv ds n)) := by
  rw [atI_map, atI_some h]
  unfold dv
  rw [List.getD_eq_getElem?_getD, List.getElem?_eq_getElem h]
  rfl
@[simp] theorem atI_l4 {a0 a1 a2 a3 a4 : Val} {l : List Val} : atI (a0 :: a1 :: a2 :: a3 :: a4 :: l) 4 = some a4 := by
  have h := atI_some (xs := a0 :: a1 :: a2 :: a3 :: a4 :: l) (n := 4) (by simp)
  exact h
@[simp] theorem atI_l5 {a0 a1 a2 a3 a4 a5 : Val} {l : List Val} : atI (a0 :: a1 :: a2 :: a3 :: a4 :: a5 :: l) 5 = some a5 := by
  have h := atI_some (xs := a0 :: a1 :: a2 :: a3 :: a4 :: a5 :: l) (n := 5) (by simp)
  exact h
@[simp] theorem atI_l6 {a0 a1 a2 a3 a4 a5 a6 : Val} {l : List Val} : atI (a0 :: a1 :: a2 :: a3 :: a4 :: a5 :: a6 :: l) 6 = some a6 := by
  have h := atI_some (xs := a0 :: a1 :: a2 :: a3 :: a4 :: a5 :: a6 :: l) (n := 6) (by simp)
  exact h
@[simp] theorem atI_l7 {a0 a1 a2 a3 a4 a5 a6 a7 : Val} {l : List Val} : atI (a0 :: a1 :: a2 :: a3 :: a4 :: a5 :: a6 :: a7 :: l) 7 = some a7 := by
  have h := atI_some (xs := a0 :: a1 :: a2 :: a3 :: a4 :: a5 :: a6 :: a7 :: l) (n := 7) (by simp)
  exact h
@[simp] theorem atI_l8 {a0 a1 a2 a3 a4 a5 a6 a7 a8 : Val} {l : List Val} : atI (a0 :: a1 :: a2 :: a3 :: a4 :: a5 :: a6 :: a7 :: a8 :: l) 8 = some a8 := by
  have h := atI_some (xs := a0 :: a1 :: a2 :: a3 :: a4 :: a5 :: a6 :: a7 :: a8 :: l) (n := 8) (by simp)
  exact h
@[simp] theorem atI_l9 {a0 a1 a2 a3 a4 a5 a6 a7 a8 a9 : Val} {l : List Val} : atI (a0 :: a1 :: a2 :: a3 :: a4 :: a5 :: a6 :: a7 :: a8 :: a9 :: l) 9 = some a9 := by
  have h := atI_some (xs := a0 :: a1 :: a2 :: a3 :: a4 :: a5 :: a6 :: a7 :: a8 :: a9 :: l) (n := 9) (by simp)
  exact h
@[simp] theorem atI_l10 {a0 a1 a2 a3 a4 a5 a6 a7 a8 a9 a10 : Val} {l : List Val} : atI (a0 :: a1 :: a2 :: a3 :: a4 :: a5 :: a6 :: a7 :: a8 :: a9 :: a10 :: l) 10 = some a10 := by
  have h := atI_some (xs := a0 :: a1 :: a2 :: a3 :: a4 :: a5 :: a6 :: a7 :: a8 :: a9 :: a10 :: l) (n := 10) (by simp)
  exact h
@[simp] theorem atI_l11 {a0 a1 a2 a3 a4 a5 a6 a7 a8 a9 a10 a11 : Val} {l : List Val} : atI (a0 :: a1 :: a2 :: a3 :: a4 :: a5 :: a6 :: a7 :: a8 :: a9 :: a10 :: a11 :: l) 11 = some a11 := by
  have h := atI_some (xs := a0 :: a1 :: a2 :: a3 :: a4 :: a5 :: a6 :: a7 :: a8 :: a9 :: a10 :: a11 :: l) (n := 11) (by simp)
  exact h
@[simp] theorem atI_l12 {a0 a1 a2 a3 a4 a5 a6 a7 a8 a9 a10 a11 a12 : Val} {l : List Val} : atI (a0 :: a1 :: a2 :: a3 :: a4 :: a5 :: a6 :: a7 :: a8 :: a9 :: a10 :: a11 :: a12 :: l) 12 = some a12 := by
  have h := atI_some (xs := a0 :: a1 :: a2 :: a3 :: a4 :: a5 :: a6 :: a7 :: a8 :: a9 :: a10 :: a11 :: a12 :: l) (n := 12) (by simp)
  exact h
@[simp] theorem atI_l13 {a0 a1 a2 a3 a4 a5 a6 a7 a8 a9 a10 a11 a12 a13 : Val} {l : List Val} : atI (a0 :: a1 :: a2 :: a3 :: a4 :: a5 :: a6 :: a7 :: a8 :: a9 :: a10 :: a11 :: a12 :: a13 :: l) 13 = some a13 := by
  have h := atI_some (xs := a0 :: a1 :: a2 :: a3 :: a4 :: a5 :: a6 :: a7 :: a8 :: a9 :: a10 :: a11 :: a12 :: a13 :: l) (n := 13) (by simp)
  exact h
section
variable {st : Store} {n : Nat}
theorem seq_ref {xs : List Val} (h : liveAt st n = some xs) : seqOf st (.ref n) = some xs := by
  unfold liveAt at h
  split at h
  · rename_i e
    show (match st[n]? with
      | some (MObj.lst xs) => some xs
      | _ => none) = _
    rw [e]
    exact h
  · cases h
theorem in_ref {ns : List Int} {x : Int} (h : liveAt st n = some (ns.map .int)) : fIn (.int x) (.ref n) st = .ok (.bl (decide (x ∈ ns))) st := by
  show (match seqOf st (.ref n) with
    | some ys => (match fl (.int x), fls ys with
      | some x, some zs => R.ok (Val.bl (inV x zs)) st
      | _, _ => .stuck)
    | none => .stuck) = _
  rw [seq_ref h]
  exact fIn_tupI x ns st
theorem notin_ref {ns : List Int} {x : Int} (h : liveAt st n = some (ns.map .int)) : fNotIn (.int x) (.ref n) st = .ok (.bl (!decide (x ∈ ns))) st := by
  show (match seqOf st (.ref n) with
    | some ys => (match fl (.int x), fls ys with
      | some x, some zs => R.ok (Val.bl (!inV x zs)) st
      | _, _ => .stuck)
    | none => .stuck) = _
  rw [seq_ref h]
  exact fNotIn_tupI x ns st
end
def bL : List Int := [0, 1, 255, 256, 65535, 65536, 16777216, 4294967295]
def bigF (a b : Int) : Int := if a % 4 = 0 then bL.getD (b % 8).toNat 0 else (a * 4294967 + b * 65537) % 4294967296
theorem bigF_le (a b : Int) : 0 ≤ bigF a b ∧ bigF a b ≤ 4294967295 := by
  unfold bigF
  split
  · have h8 : b % 8 = 0 ∨ b % 8 = 1 ∨ b % 8 = 2 ∨ b % 8 = 3 ∨ b % 8 = 4 ∨ b % 8 = 5 ∨ b % 8 = 6 ∨ b % 8 = 7 := by omega
    rcases h8 with h | h | h | h | h | h | h | h <;> rw [h] <;> decide
  · omega
theorem bigE (k : Nat) (a b : Int) (st : Store) : pr.cf (k + 1) i__law_big [.int a, .int b] st = .ok (.int (bigF a b)) st := by
  rw [cf__law_big]
  refine kCall_nr rfl (by simp) (s := []) ?_
  unfold runP
  by_cases h : a % 4 = 0
  · have h8 : b % 8 = 0 ∨ b % 8 = 1 ∨ b % 8 = 2 ∨ b % 8 = 3 ∨ b % 8 = 4 ∨ b % 8 = 5 ∨ b % 8 = 6 ∨ b % 8 = 7 := by omega
    rcases h8 with h8 | h8 | h8 | h8 | h8 | h8 | h8 | h8 <;> simp -implicitDefEqProofs [fEq_v, fNe_v, startM_eq, b__law_big, h, h8, bigF, bL]
  · have h' : (a % 4 == 0) = false := beq_eq_false_iff_ne.mpr h
    simp -implicitDefEqProofs [fEq_v, fNe_v, startM_eq, b__law_big, h, h', bigF]
/-! ### places -/
def plS (r : List Int) (n : Int) : List Int := if n ∈ r then r else r ++ [n]
def plF (xs : List Int) : List Int := xs.foldl plS []
def byt (ns : List Int) : Prop := ∀ n ∈ ns, 0 ≤ n ∧ n ≤ 255
theorem plF_snoc (xs : List Int) (n : Int) : plF (xs ++ [n]) = plS (plF xs) n := by simp [plF]
theorem plS_ok {r : List Int} {n : Int} (h : r.Nodup ∧ byt r) (hn : 0 ≤ n ∧ n ≤ 255) : (plS r n).Nodup ∧ byt (plS r n) ∧ (plS r n).length ≤ r.length + 1 ∧ n ∈ plS r n ∧ r.length ≤ (plS r n).length := by
  unfold plS
  split
  · rename_i c
    exact ⟨h.1, h.2, by omega, c, Nat.le_refl _⟩
  · rename_i c
    refine ⟨?_, ?_, by simp, by simp, by simp⟩
    · rw [List.nodup_append]
      exact ⟨h.1, by simp, fun a ha b hb e => c (by simp at hb; rw [← hb, ← e]; exact ha)⟩
    · intro m hm
      rcases List.mem_append.mp hm with hm | hm
      · exact h.2 m hm
      · rw [List.mem_singleton.mp hm]; exact hn
theorem places (ds : List Int) (s : Nat) (h : s + 7 < ds.length) : ∃ ns : List Int, ns.Nodup ∧ byt ns ∧ 0 < ns.length ∧ ns.length ≤ 6 ∧ ∀ k st, pr.cf (k + 1) i__law_places [.lst (ds.map .int), .int s] st = .ok (.tup (ns.map .int)) st := by
  have hm : 0 ≤ dv ds s % 6 ∧ dv ds s % 6 ≤ 5 := by omega
  obtain ⟨m, hme⟩ : ∃ m : Nat, dv ds s % 6 = m := ⟨(dv ds s % 6).toNat, by omega⟩
  have hm5 : m ≤ 5 := by omega
  let xs := (List.range (1 + m)).map fun i : Nat => dv ds (s + 1 + i) % 256
  have hall : ∀ j, j ≤ 1 + m → (plF (xs.take j)).Nodup ∧ byt (plF (xs.take j)) ∧ (plF (xs.take j)).length ≤ j ∧ (0 < j → 0 < (plF (xs.take j)).length) := by
    intro j
    induction j with
    | zero => exact fun _ => ⟨by simp [plF], by simp [plF, byt], by simp [plF], by omega⟩
    | succ j ih =>
      intro hj
      obtain ⟨i1, i2, i3, i4⟩ := ih (by omega)
      have hl : j < xs.length := by simp [xs]; omega
      rw [List.take_succ, List.getElem?_eq_getElem hl]
      show (plF (xs.take j ++ [xs[j]])).Nodup ∧ _
      rw [show (some xs[j]).toList = [xs[j]] from rfl, plF_snoc]
      have hb : 0 ≤ xs[j] ∧ xs[j] ≤ 255 := by
        have : xs[j] = dv ds (s + 1 + j) % 256 := by simp [xs]
        rw [this]; omega
      obtain ⟨j1, j2, j3, j4, j5⟩ := plS_ok ⟨i1, i2⟩ hb
      exact ⟨j1, j2, by omega, fun _ => List.length_pos_of_mem j4⟩
  have hxl : xs.length = 1 + m := by simp [xs]
  obtain ⟨q1, q2, q3, q4⟩ := hall (1 + m) (Nat.le_refl _)
  refine ⟨plF (xs.take (1 + m)), q1, q2, q4 (by omega), by omega, fun k st => ?_⟩
  rw [cf__law_places]
  refine kCall_nr rfl (by simp) (s := []) ?_
  generalize hr : runP _ _ _ = r
  unfold runP at hr
  have g1 := dv_at ds s (by omega)
  have hb : -1152921504606846976 ≤ 1 + (m : Int) ∧ 1 + (m : Int) < 1152921504606846976 := by omega
  have ht : (1 + (m : Int)).toNat = 1 + m := by omega
  simp -implicitDefEqProofs [fEq_v, fNe_v, startM_eq, b__law_places, g1, hme, hb, ht] at hr
  generalize hL : loopV _ _ _ _ _ = q at hr
  obtain ⟨e', s', rfl, o3, o4, rfl, rfl⟩ := loop_rngq hL (fun i env st => ∃ (o3 o4 : Option Val), env = [some (.lst (ds.map .int)), some (.int s), some (.ref 0), o3, o4] ∧ st = [.lst ((plF (xs.take i)).map .int)]) ⟨none, none, rfl, rfl⟩ (by
    rintro i env st hi ⟨o3, o4, rfl, rfl⟩ q hq
    have g2 := dv_at ds (s + 1 + i) (by omega)
    have e2 : ((s + 1 + i : Nat) : Int) = (s : Int) + 1 + (i : Int) := by omega
    rw [e2] at g2
    obtain ⟨i1, i2, i3, i4⟩ := hall i (by omega)
    have hl : (plF (xs.take i)).length < 4000 := by omega
    have hx : i < xs.length := by omega
    have hxi : xs[i] = dv ds (s + 1 + i) % 256 := by simp [xs]
    have hst : plF (xs.take (i + 1)) = plS (plF (xs.take i)) (dv ds (s + 1 + i) % 256) := by
      rw [List.take_succ, List.getElem?_eq_getElem hx, show (some xs[i]).toList = [xs[i]] from rfl, plF_snoc, hxi]
    rw [hst]
    generalize plF (xs.take i) = rw' at hq hl ⊢
    generalize dv ds (s + 1 + i) = dd at hq g2 ⊢
    by_cases c : dd % 256 ∈ rw'
    · have e3 : plS rw' (dd % 256) = rw' := by unfold plS; rw [if_pos c]
      have e4 := notin_ref (st := [MObj.lst (rw'.map .int)]) (n := 0) (ns := rw') (x := dd % 256) rfl
      simp -implicitDefEqProofs [fEq_v, fNe_v, startM_eq, g2, c, hl, e4] at hq
      rw [e3]
      exact ⟨_, _, hq.symm, _, _, rfl, rfl⟩
    · have e3 : plS rw' (dd % 256) = rw' ++ [dd % 256] := by unfold plS; rw [if_neg c]
      have e4 := notin_ref (st := [MObj.lst (rw'.map .int)]) (n := 0) (ns := rw') (x := dd % 256) rfl
      have hl2 : rw'.length < 16777216 := by omega
      simp -implicitDefEqProofs [fEq_v, fNe_v, startM_eq, g2, c, hl, hl2, e4] at hq
      rw [e3]
      exact ⟨_, _, hq.symm, _, _, rfl, by simp⟩)
  simp -implicitDefEqProofs [fEq_v, fNe_v, startM_eq] at hr
  exact hr.symm
def cdF (ds : List Int) (s : Nat) (m : Nat) : List Int := (List.range m).map fun k : Nat => (dv ds (s + 1) + 77 * (k : Int) + dv ds (s + 2) * ((k : Int) / 3)) % 256
def szF (ds : List Int) (s : Nat) (most : Nat) : Nat := if dv ds s % 40 = 39 then most else (dv ds s % 5).toNat
theorem codes (ds : List Int) (s : Nat) (most : Nat) (hmo : most < 1000) (h : s + 3 < ds.length) : ∃ ns : List Int, byt ns ∧ (ns.length ≤ 4 ∨ ns.length ≤ most) ∧ ∀ k st, pr.cf (k + 1) i__law_codes [.lst (ds.map .int), .int s, .int most] st = .ok (.tup (ns.map .int)) st := by
  refine ⟨cdF ds s (szF ds s most), ?_, ?_, fun k st => ?_⟩
  · intro n hn
    obtain ⟨i, _, rfl⟩ := List.mem_map.mp hn
    omega
  · unfold cdF szF
    rw [List.length_map, List.length_range]
    split
    · right; omega
    · left; omega
  rw [cf__law_codes]
  refine kCall_nr rfl (by simp) (s := []) ?_
  generalize hr : runP _ _ _ = r
  unfold runP at hr
  have g1 := dv_at ds s (by omega)
  have g2 := dv_at ds (s + 1) (by omega)
  have g3 := dv_at ds (s + 2) (by omega)
  have e2 : ((s + 1 : Nat) : Int) = (s : Int) + 1 := by omega
  have e3 : ((s + 2 : Nat) : Int) = (s : Int) + 2 := by omega
  rw [e2] at g2
  rw [e3] at g3
  have body : ∀ m : Nat, szF ds s most = m → m < 1000 → (b__law_codes.take 2).m (pr.dn k) [some (.lst (ds.map .int)), some (.int s), some (.int most), none, none] [] = .nx [some (.lst (ds.map .int)), some (.int s), some (.int most), some (.int m), none] [] := by
    intro m hm _
    unfold szF at hm
    by_cases c : dv ds s % 40 = 39
    · rw [if_pos c] at hm
      subst hm
      simp -implicitDefEqProofs [fEq_v, fNe_v, startM_eq, b__law_codes, Ss.take, g1, c]
    · rw [if_neg c] at hm
      have : dv ds s % 5 = (m : Int) := by omega
      simp -implicitDefEqProofs [fEq_v, fNe_v, startM_eq, b__law_codes, Ss.take, g1, c, this]
  rw [Ss.split 2] at hr
  have hsz : szF ds s most < 1000 := by unfold szF; split <;> omega
  have hb := body (szF ds s most) rfl hsz
  simp only [startM_eq] at hr
  simp only [List.map, List.length, List.replicate, List.append, List.cons_append, List.nil_append] at hr
  generalize szF ds s most = m at hb hsz ⊢
  simp -implicitDefEqProofs [fEq_v, fNe_v, startM_eq, hb] at hr
  have hb2 : -1152921504606846976 ≤ (m : Int) ∧ (m : Int) < 1152921504606846976 := by omega
  have hrl : (rngL 0 m).length ≤ 16777216 := by simp [rngL]; omega
  simp -implicitDefEqProofs [fEq_v, fNe_v, startM_eq, b__law_codes, Ss.drop, hb2, hrl] at hr
  generalize hC : compV _ _ _ _ _ _ = qc at hr
  obtain rfl := comp_mapq (enc := fun i : Nat => Val.int (0 + (i : Nat))) hC (fun k => .int ((dv ds (s + 1) + 77 * (k : Int) + dv ds (s + 2) * ((k : Int) / 3)) % 256)) (fun i hi => ⟨_, rfl, by
    have hi := List.mem_range.mp hi
    have h9 : -18446744073709551616 < (i : Int) / 3 ∧ (i : Int) / 3 < 18446744073709551616 := by omega
    simp -implicitDefEqProofs [fEq_v, fNe_v, startM_eq, wipeM, g2, g3, h9]⟩)
  clear hC
  have hm : ((List.range m).map fun k : Nat => Val.int ((dv ds (s + 1) + 77 * (k : Int) + dv ds (s + 2) * ((k : Int) / 3)) % 256)) = (cdF ds s m).map .int := by
    unfold cdF
    rw [List.map_map]
    rfl
  rw [hm] at hr
  simp -implicitDefEqProofs [fEq_v, fNe_v, startM_eq] at hr
  exact hr.symm
end Lw

-- M_k42h
set_option linter.all false
set_option maxRecDepth 100000
set_option maxHeartbeats 4000000
namespace Lw
open PySem PySem.Spec PyProof.Rows L2 ML
-- EV: startM_eq
theorem hF_nil : hF [] [] = true := by simp [hF]
theorem hF_cons (n : Str) (ns : List Str) (x : Val) (xs : List Val) : hF (n :: ns) (x :: xs) = (chk n x && hF ns xs) := by
  unfold hF
  rw [List.length_cons, List.length_cons, List.range_succ_eq_map, List.any_cons, List.any_map]
  have h1 : ((fun j => !chk (nD (n :: ns) j) (vD (x :: xs) j)) ∘ Nat.succ) = fun j => !chk (nD ns j) (vD xs j) := by
    funext j
    simp [Function.comp, nD, vD]
  rw [h1]
  have h2 : (decide (xs.length + 1 = ns.length + 1)) = decide (xs.length = ns.length) := by simp
  rw [h2]
  have h3 : nD (n :: ns) 0 = n := by simp [nD]
  have h4 : vD (x :: xs) 0 = x := by simp [vD]
  rw [h3, h4]
  cases chk n x <;> cases decide (xs.length = ns.length) <;> simp
theorem hF_short (n : Str) (ns : List Str) : hF (n :: ns) [] = false := by simp [hF]
theorem hF_long (x : Val) (xs : List Val) : hF [] (x :: xs) = false := by simp [hF]
theorem hF_len {ns : List Str} {xs : List Val} (h : hF ns xs = true) : xs.length = ns.length := by
  unfold hF at h
  rw [Bool.and_eq_true] at h
  exact of_decide_eq_true h.1
theorem hF_nlen {ns : List Str} {xs : List Val} (h : xs.length ≠ ns.length) : hF ns xs = false := by
  unfold hF
  simp [h]
theorem chk_number (v) : chk "number" v = isNum 4294967295 v := by unfold chk; exact if_pos rfl
theorem chk_numbers (v) : chk "numbers" v = areNum 32 4294967295 v := by kernel_rfl
theorem chk_addresses (v) : chk "addresses" v = isAddr v := by kernel_rfl
theorem chk_cookie (v) : chk "cookie" v = isCookie v := by kernel_rfl
theorem chk_stream (v) : chk "stream" v = isStream v := by kernel_rfl
theorem chk_place (v) : chk "place" v = isNum 4294967295 v := by kernel_rfl
theorem chk_mcodes (v) : chk "message codes" v = areNum 200 255 v := by kernel_rfl
theorem chk_fcodes (v) : chk "frame codes" v = areNum 10000 255 v := by kernel_rfl
theorem isCh_at {x : Str} {j : Nat} (h : fm.findIdx? (fun f => decide (f.head? = some x)) = some j) (hd : decide (x ≠ "data") = true) (xs : List Val) : isCh x xs = hF ((fm.getD j []).drop 1) xs := by
  unfold isCh
  rw [h]
  show (hF ((fm.getD j []).drop 1) xs && (decide (x ≠ "data") || plc (vD xs 1) (vD xs 2))) = _
  rw [hd, Bool.true_or, Bool.and_true]
theorem isCh_data (xs : List Val) : isCh "data" xs = (hF ["number", "stream", "place", "message codes"] xs && plc (vD xs 1) (vD xs 2)) := by
  unfold isCh
  rw [data4]
  show (hF ((fm.getD 4 []).drop 1) xs && (decide (("data" : Str) ≠ "data") || plc (vD xs 1) (vD xs 2))) = _
  rw [show decide (("data" : Str) ≠ "data") = false by decide +kernel, Bool.false_or]
  rfl
theorem isCh_none {x : Str} (h : fm.findIdx? (fun f => decide (f.head? = some x)) = none) (xs : List Val) : isCh x xs = false := by
  unfold isCh
  rw [h]
def okF (v : Val) : Bool := aF v && nr v && cl v
theorem okF_int (i : Int) : okF (.int i) = true := rfl
theorem nrs_ints (ns : List Int) : nrs (ns.map Val.int) = true := by
  induction ns with
  | nil => rfl
  | cons n ns ih => rw [List.map_cons, nrs_cons, ih]; rfl
theorem cls_ints (ns : List Int) : cls (ns.map Val.int) = true := cls_map (fun _ => rfl) _
theorem okF_ints (ns : List Int) (h : ns.length < 100000) : okF (.tup (ns.map .int)) = true := by
  unfold okF
  rw [nr_tup, nrs_ints, cl_tup, cls_ints, Bool.and_true, Bool.and_true]
  simp only [aF, Bool.and_eq_true, List.all_eq_true, decide_eq_true_eq, List.length_map]
  refine ⟨fun x hx => ?_, h⟩
  obtain ⟨n, _, rfl⟩ := List.mem_map.mp hx
  exact ⟨rfl, rfl⟩
theorem okF_cookie (a b : Int) (ns : List Int) (h : ns.length < 100000) : okF (.tup [.int a, .int b, .tup (ns.map .int)]) = true := by
  have h1 := okF_ints ns h
  unfold okF at h1 ⊢
  rw [Bool.and_eq_true, Bool.and_eq_true] at h1
  rw [nr_tup, nrs_cons, nrs_cons, nrs_cons, h1.1.2, cl_tup]
  simp only [aF, List.all_cons, List.all_nil, aF_aT h1.1.1, h1.1.2]
  simp only [cls, cl, h1.2]
  simp [cls_ints]
  exact ⟨rfl, rfl⟩
theorem isNum_big (a b : Int) : isNum 4294967295 (.int (bigF a b)) = true := by
  have h := bigF_le a b
  simp [isNum, h.1, h.2]
theorem allNum {m : Int} {ns : List Int} (h : ∀ n ∈ ns, 0 ≤ n ∧ n ≤ m) : (ns.map Val.int).all (isNum m) = true := by
  rw [List.all_map, List.all_eq_true]
  intro n hn
  have := h n hn
  simp [isNum, this.1, this.2]
theorem intsL_map (ns : List Int) : intsL (ns.map Val.int) = some ns := by
  induction ns with
  | nil => rfl
  | cons n ns ih => simp [intsL, ih]
theorem setI_nd {ns : List Int} (h : ns.Nodup) : (setI ns).length = ns.length := by
  have nd : (setI ns).Nodup := (setI_ris ns).imp fun h => Int.ne_of_lt h
  exact ((List.perm_ext_iff_of_nodup nd h).mpr fun k => setI_mem k ns).length_eq
theorem isAddr_ok {ns : List Int} (h1 : ns.Nodup) (h2 : byt ns) (h3 : 0 < ns.length) (h4 : ns.length ≤ 6) : isAddr (.tup (ns.map .int)) = true := by
  simp only [isAddr, intsL_map, List.length_map, allNum h2, setI_nd h1, h3, h4]
  simp
theorem areNum_ok {l : Nat} {m : Int} {ns : List Int} (h1 : ns.length ≤ l) (h : ∀ n ∈ ns, 0 ≤ n ∧ n ≤ m) : areNum l m (.tup (ns.map .int)) = true := by
  unfold areNum
  simp only [List.length_map, allNum h, h1]
  simp
theorem isCookie_ok {ns : List Int} (a b c d : Int) (h : isAddr (.tup (ns.map .int)) = true) : isCookie (.tup [.int (bigF a b), .int (bigF c d), .tup (ns.map .int)]) = true := by
  simp only [isCookie, isNum_big, h]
  rfl
def hdn (j : Nat) : Str := match fm[j]? with
  | some (n :: _) => n
  | _ => ""
theorem hdn_at {j : Nat} (hj : j < 17) : fm.findIdx? (fun f => decide (f.head? = some (hdn j))) = some j := by
  have : ∀ j < 17, fm.findIdx? (fun f => decide (f.head? = some (hdn j))) = some j := by decide +kernel
  exact this j hj
theorem hdn_data {j : Nat} (hj : j < 17) (h4 : j ≠ 4) : decide (hdn j ≠ "data") = true := by
  have : ∀ j < 17, j ≠ 4 → decide (hdn j ≠ "data") = true := by decide +kernel
  exact this j hj h4
/-- the fields of a kind -/
def fld (j : Nat) : List Str := (fm.getD j []).drop 1
theorem isCh_j {j : Nat} (hj : j < 17) (h4 : j ≠ 4) (xs : List Val) : isCh (hdn j) xs = hF (fld j) xs := isCh_at (hdn_at hj) (hdn_data hj h4) xs
theorem isCh_4 (xs : List Val) : isCh (hdn 4) xs = (hF (fld 4) xs && plc (vD xs 1) (vD xs 2)) := isCh_data xs
end Lw

-- M_k42i
set_option linter.all false
set_option maxRecDepth 100000
set_option maxHeartbeats 4000000
namespace Lw
open PySem PySem.Spec PyProof.Rows L2 ML
-- EV: startM_eq
/-- what a drawn chunk of kind j is -/
def Chk (ds : List Int) (j : Nat) : Prop := ∃ xs : List Val, (∀ k st, pr.cf (k + 2) i__law_chunk [.int j, .lst (ds.map .int)] st = .ok (.tup (.str (hdn j) :: xs)) st) ∧ isCh (hdn j) xs = true ∧ ∀ x ∈ xs, okF x = true
theorem ch_0 (ds : List Int) (hl : ds.length = 36) : Chk ds 0 := by
  obtain ⟨nA, a1, a2, a3, a4, a5⟩ := places ds 0 (by omega)
  obtain ⟨nB, b1, b2, b3, b4, b5⟩ := places ds 12 (by omega)
  obtain ⟨nC, c1, c2, c3⟩ := codes ds 22 400 (by decide) (by omega)
  obtain ⟨nD', d1, d2, d3⟩ := codes ds 21 200 (by decide) (by omega)
  have iA := isAddr_ok a1 a2 a3 a4
  have iB := isAddr_ok b1 b2 b3 b4
  have iK := isCookie_ok (dv ds 10) (dv ds 11) (dv ds 8) (dv ds 9) iB
  have oA := okF_ints nA (by omega)
  have oK := okF_cookie (bigF (dv ds 10) (dv ds 11)) (bigF (dv ds 8) (dv ds 9)) nB (by omega)
  have oC := okF_ints nC (by omega)
  have oD := okF_ints nD' (by omega)
  have iC : areNum 10000 255 (.tup (nC.map .int)) = true := areNum_ok (by omega) c1
  have iD : areNum 200 255 (.tup (nD'.map .int)) = true := areNum_ok (by omega) d1
  refine ⟨[.tup (nA.map .int)], fun k st => ?_, ?_, ?_⟩
  · show pr.cf (k + 2) i__law_chunk [.int 0, .lst (ds.map .int)] st = .ok (.tup (.str "init" :: [.tup (nA.map .int)])) st
    have a5 : ∀ st, pr.cf (k + 1) i__law_places [.lst (ds.map .int), .int 0] st = _ := fun st => a5 k st
    have b5 : ∀ st, pr.cf (k + 1) i__law_places [.lst (ds.map .int), .int 12] st = _ := fun st => b5 k st
    have c3 : ∀ st, pr.cf (k + 1) i__law_codes [.lst (ds.map .int), .int 22, .int 400] st = _ := fun st => c3 k st
    have d3 : ∀ st, pr.cf (k + 1) i__law_codes [.lst (ds.map .int), .int 21, .int 200] st = _ := fun st => d3 k st
    have bE := bigE k
    have g8 : atI (ds.map Val.int) 8 = some (.int (dv ds 8)) := dv_at ds 8 (by omega)
    have g9 : atI (ds.map Val.int) 9 = some (.int (dv ds 9)) := dv_at ds 9 (by omega)
    have g10 : atI (ds.map Val.int) 10 = some (.int (dv ds 10)) := dv_at ds 10 (by omega)
    have g11 : atI (ds.map Val.int) 11 = some (.int (dv ds 11)) := dv_at ds 11 (by omega)
    have g20 : atI (ds.map Val.int) 20 = some (.int (dv ds 20)) := dv_at ds 20 (by omega)
    have g21 : atI (ds.map Val.int) 21 = some (.int (dv ds 21)) := dv_at ds 21 (by omega)
    have g22 : atI (ds.map Val.int) 22 = some (.int (dv ds 22)) := dv_at ds 22 (by omega)
    rw [cf__law_chunk]
    refine kCall_nr rfl (by simp) (s := []) ?_
    unfold runP
    simp -implicitDefEqProofs [fEq_v, fNe_v, startM_eq, b__law_chunk, a5, b5, c3, d3, bE, g8, g9, g10, g11, g20, g21, g22]
  · rw [isCh_j (by decide) (by decide)]
    simp only [fld, fm, List.getD_eq_getElem?_getD, List.getElem?_cons_succ, List.getElem?_cons_zero, Option.getD_some, List.drop, hF_nil, hF_cons, chk_number, chk_addresses, chk_cookie, chk_fcodes, isNum_big, iA, iB, iK, iC, Bool.and_true]
  · intro x hx
    simp only [List.mem_cons, List.not_mem_nil, or_false] at hx
    rcases hx with rfl <;> first | exact oA | exact oK | exact oC | rfl
theorem ch_1 (ds : List Int) (hl : ds.length = 36) : Chk ds 1 := by
  obtain ⟨nA, a1, a2, a3, a4, a5⟩ := places ds 0 (by omega)
  obtain ⟨nB, b1, b2, b3, b4, b5⟩ := places ds 12 (by omega)
  obtain ⟨nC, c1, c2, c3⟩ := codes ds 22 400 (by decide) (by omega)
  obtain ⟨nD', d1, d2, d3⟩ := codes ds 21 200 (by decide) (by omega)
  have iA := isAddr_ok a1 a2 a3 a4
  have iB := isAddr_ok b1 b2 b3 b4
  have iK := isCookie_ok (dv ds 10) (dv ds 11) (dv ds 8) (dv ds 9) iB
  have oA := okF_ints nA (by omega)
  have oK := okF_cookie (bigF (dv ds 10) (dv ds 11)) (bigF (dv ds 8) (dv ds 9)) nB (by omega)
  have oC := okF_ints nC (by omega)
  have oD := okF_ints nD' (by omega)
  have iC : areNum 10000 255 (.tup (nC.map .int)) = true := areNum_ok (by omega) c1
  have iD : areNum 200 255 (.tup (nD'.map .int)) = true := areNum_ok (by omega) d1
  refine ⟨[.tup (nA.map .int), .tup [.int (bigF (dv ds 10) (dv ds 11)), .int (bigF (dv ds 8) (dv ds 9)), .tup (nB.map .int)]], fun k st => ?_, ?_, ?_⟩
  · show pr.cf (k + 2) i__law_chunk [.int 1, .lst (ds.map .int)] st = .ok (.tup (.str "init_ack" :: [.tup (nA.map .int), .tup [.int (bigF (dv ds 10) (dv ds 11)), .int (bigF (dv ds 8) (dv ds 9)), .tup (nB.map .int)]])) st
    have a5 : ∀ st, pr.cf (k + 1) i__law_places [.lst (ds.map .int), .int 0] st = _ := fun st => a5 k st
    have b5 : ∀ st, pr.cf (k + 1) i__law_places [.lst (ds.map .int), .int 12] st = _ := fun st => b5 k st
    have c3 : ∀ st, pr.cf (k + 1) i__law_codes [.lst (ds.map .int), .int 22, .int 400] st = _ := fun st => c3 k st
    have d3 : ∀ st, pr.cf (k + 1) i__law_codes [.lst (ds.map .int), .int 21, .int 200] st = _ := fun st => d3 k st
    have bE := bigE k
    have g8 : atI (ds.map Val.int) 8 = some (.int (dv ds 8)) := dv_at ds 8 (by omega)
    have g9 : atI (ds.map Val.int) 9 = some (.int (dv ds 9)) := dv_at ds 9 (by omega)
    have g10 : atI (ds.map Val.int) 10 = some (.int (dv ds 10)) := dv_at ds 10 (by omega)
    have g11 : atI (ds.map Val.int) 11 = some (.int (dv ds 11)) := dv_at ds 11 (by omega)
    have g20 : atI (ds.map Val.int) 20 = some (.int (dv ds 20)) := dv_at ds 20 (by omega)
    have g21 : atI (ds.map Val.int) 21 = some (.int (dv ds 21)) := dv_at ds 21 (by omega)
    have g22 : atI (ds.map Val.int) 22 = some (.int (dv ds 22)) := dv_at ds 22 (by omega)
    rw [cf__law_chunk]
    refine kCall_nr rfl (by simp) (s := []) ?_
    unfold runP
    simp -implicitDefEqProofs [fEq_v, fNe_v, startM_eq, b__law_chunk, a5, b5, c3, d3, bE, g8, g9, g10, g11, g20, g21, g22]
  · rw [isCh_j (by decide) (by decide)]
    simp only [fld, fm, List.getD_eq_getElem?_getD, List.getElem?_cons_succ, List.getElem?_cons_zero, Option.getD_some, List.drop, hF_nil, hF_cons, chk_number, chk_addresses, chk_cookie, chk_fcodes, isNum_big, iA, iB, iK, iC, Bool.and_true]
  · intro x hx
    simp only [List.mem_cons, List.not_mem_nil, or_false] at hx
    rcases hx with rfl | rfl <;> first | exact oA | exact oK | exact oC | rfl
theorem ch_2 (ds : List Int) (hl : ds.length = 36) : Chk ds 2 := by
  obtain ⟨nA, a1, a2, a3, a4, a5⟩ := places ds 0 (by omega)
  obtain ⟨nB, b1, b2, b3, b4, b5⟩ := places ds 12 (by omega)
  obtain ⟨nC, c1, c2, c3⟩ := codes ds 22 400 (by decide) (by omega)
  obtain ⟨nD', d1, d2, d3⟩ := codes ds 21 200 (by decide) (by omega)
  have iA := isAddr_ok a1 a2 a3 a4
  have iB := isAddr_ok b1 b2 b3 b4
  have iK := isCookie_ok (dv ds 10) (dv ds 11) (dv ds 8) (dv ds 9) iB
  have oA := okF_ints nA (by omega)
  have oK := okF_cookie (bigF (dv ds 10) (dv ds 11)) (bigF (dv ds 8) (dv ds 9)) nB (by omega)
  have oC := okF_ints nC (by omega)
  have oD := okF_ints nD' (by omega)
  have iC : areNum 10000 255 (.tup (nC.map .int)) = true := areNum_ok (by omega) c1
  have iD : areNum 200 255 (.tup (nD'.map .int)) = true := areNum_ok (by omega) d1
  refine ⟨[.tup [.int (bigF (dv ds 10) (dv ds 11)), .int (bigF (dv ds 8) (dv ds 9)), .tup (nB.map .int)]], fun k st => ?_, ?_, ?_⟩
  · show pr.cf (k + 2) i__law_chunk [.int 2, .lst (ds.map .int)] st = .ok (.tup (.str "echo" :: [.tup [.int (bigF (dv ds 10) (dv ds 11)), .int (bigF (dv ds 8) (dv ds 9)), .tup (nB.map .int)]])) st
    have a5 : ∀ st, pr.cf (k + 1) i__law_places [.lst (ds.map .int), .int 0] st = _ := fun st => a5 k st
    have b5 : ∀ st, pr.cf (k + 1) i__law_places [.lst (ds.map .int), .int 12] st = _ := fun st => b5 k st
    have c3 : ∀ st, pr.cf (k + 1) i__law_codes [.lst (ds.map .int), .int 22, .int 400] st = _ := fun st => c3 k st
    have d3 : ∀ st, pr.cf (k + 1) i__law_codes [.lst (ds.map .int), .int 21, .int 200] st = _ := fun st => d3 k st
    have bE := bigE k
    have g8 : atI (ds.map Val.int) 8 = some (.int (dv ds 8)) := dv_at ds 8 (by omega)
    have g9 : atI (ds.map Val.int) 9 = some (.int (dv ds 9)) := dv_at ds 9 (by omega)
    have g10 : atI (ds.map Val.int) 10 = some (.int (dv ds 10)) := dv_at ds 10 (by omega)
    have g11 : atI (ds.map Val.int) 11 = some (.int (dv ds 11)) := dv_at ds 11 (by omega)
    have g20 : atI (ds.map Val.int) 20 = some (.int (dv ds 20)) := dv_at ds 20 (by omega)
    have g21 : atI (ds.map Val.int) 21 = some (.int (dv ds 21)) := dv_at ds 21 (by omega)
    have g22 : atI (ds.map Val.int) 22 = some (.int (dv ds 22)) := dv_at ds 22 (by omega)
    rw [cf__law_chunk]
    refine kCall_nr rfl (by simp) (s := []) ?_
    unfold runP
    simp -implicitDefEqProofs [fEq_v, fNe_v, startM_eq, b__law_chunk, a5, b5, c3, d3, bE, g8, g9, g10, g11, g20, g21, g22]
  · rw [isCh_j (by decide) (by decide)]
    simp only [fld, fm, List.getD_eq_getElem?_getD, List.getElem?_cons_succ, List.getElem?_cons_zero, Option.getD_some, List.drop, hF_nil, hF_cons, chk_number, chk_addresses, chk_cookie, chk_fcodes, isNum_big, iA, iB, iK, iC, Bool.and_true]
  · intro x hx
    simp only [List.mem_cons, List.not_mem_nil, or_false] at hx
    rcases hx with rfl <;> first | exact oA | exact oK | exact oC | rfl
theorem ch_3 (ds : List Int) (hl : ds.length = 36) : Chk ds 3 := by
  obtain ⟨nA, a1, a2, a3, a4, a5⟩ := places ds 0 (by omega)
  obtain ⟨nB, b1, b2, b3, b4, b5⟩ := places ds 12 (by omega)
  obtain ⟨nC, c1, c2, c3⟩ := codes ds 22 400 (by decide) (by omega)
  obtain ⟨nD', d1, d2, d3⟩ := codes ds 21 200 (by decide) (by omega)
  have iA := isAddr_ok a1 a2 a3 a4
  have iB := isAddr_ok b1 b2 b3 b4
  have iK := isCookie_ok (dv ds 10) (dv ds 11) (dv ds 8) (dv ds 9) iB
  have oA := okF_ints nA (by omega)
  have oK := okF_cookie (bigF (dv ds 10) (dv ds 11)) (bigF (dv ds 8) (dv ds 9)) nB (by omega)
  have oC := okF_ints nC (by omega)
  have oD := okF_ints nD' (by omega)
  have iC : areNum 10000 255 (.tup (nC.map .int)) = true := areNum_ok (by omega) c1
  have iD : areNum 200 255 (.tup (nD'.map .int)) = true := areNum_ok (by omega) d1
  refine ⟨[], fun k st => ?_, ?_, ?_⟩
  · show pr.cf (k + 2) i__law_chunk [.int 3, .lst (ds.map .int)] st = .ok (.tup (.str "echo_ack" :: [])) st
    have a5 : ∀ st, pr.cf (k + 1) i__law_places [.lst (ds.map .int), .int 0] st = _ := fun st => a5 k st
    have b5 : ∀ st, pr.cf (k + 1) i__law_places [.lst (ds.map .int), .int 12] st = _ := fun st => b5 k st
    have c3 : ∀ st, pr.cf (k + 1) i__law_codes [.lst (ds.map .int), .int 22, .int 400] st = _ := fun st => c3 k st
    have d3 : ∀ st, pr.cf (k + 1) i__law_codes [.lst (ds.map .int), .int 21, .int 200] st = _ := fun st => d3 k st
    have bE := bigE k
    have g8 : atI (ds.map Val.int) 8 = some (.int (dv ds 8)) := dv_at ds 8 (by omega)
    have g9 : atI (ds.map Val.int) 9 = some (.int (dv ds 9)) := dv_at ds 9 (by omega)
    have g10 : atI (ds.map Val.int) 10 = some (.int (dv ds 10)) := dv_at ds 10 (by omega)
    have g11 : atI (ds.map Val.int) 11 = some (.int (dv ds 11)) := dv_at ds 11 (by omega)
    have g20 : atI (ds.map Val.int) 20 = some (.int (dv ds 20)) := dv_at ds 20 (by omega)
    have g21 : atI (ds.map Val.int) 21 = some (.int (dv ds 21)) := dv_at ds 21 (by omega)
    have g22 : atI (ds.map Val.int) 22 = some (.int (dv ds 22)) := dv_at ds 22 (by omega)
    rw [cf__law_chunk]
    refine kCall_nr rfl (by simp) (s := []) ?_
    unfold runP
    simp -implicitDefEqProofs [fEq_v, fNe_v, startM_eq, b__law_chunk, a5, b5, c3, d3, bE, g8, g9, g10, g11, g20, g21, g22]
  · rw [isCh_j (by decide) (by decide)]
    simp only [fld, fm, List.getD_eq_getElem?_getD, List.getElem?_cons_succ, List.getElem?_cons_zero, Option.getD_some, List.drop, hF_nil, hF_cons, chk_number, chk_addresses, chk_cookie, chk_fcodes, isNum_big, iA, iB, iK, iC, Bool.and_true]
  · intro x hx
    cases hx
theorem ch_6 (ds : List Int) (hl : ds.length = 36) : Chk ds 6 := by
  obtain ⟨nA, a1, a2, a3, a4, a5⟩ := places ds 0 (by omega)
  obtain ⟨nB, b1, b2, b3, b4, b5⟩ := places ds 12 (by omega)
  obtain ⟨nC, c1, c2, c3⟩ := codes ds 22 400 (by decide) (by omega)
  obtain ⟨nD', d1, d2, d3⟩ := codes ds 21 200 (by decide) (by omega)
  have iA := isAddr_ok a1 a2 a3 a4
  have iB := isAddr_ok b1 b2 b3 b4
  have iK := isCookie_ok (dv ds 10) (dv ds 11) (dv ds 8) (dv ds 9) iB
  have oA := okF_ints nA (by omega)
  have oK := okF_cookie (bigF (dv ds 10) (dv ds 11)) (bigF (dv ds 8) (dv ds 9)) nB (by omega)
  have oC := okF_ints nC (by omega)
  have oD := okF_ints nD' (by omega)
  have iC : areNum 10000 255 (.tup (nC.map .int)) = true := areNum_ok (by omega) c1
  have iD : areNum 200 255 (.tup (nD'.map .int)) = true := areNum_ok (by omega) d1
  refine ⟨[], fun k st => ?_, ?_, ?_⟩
  · show pr.cf (k + 2) i__law_chunk [.int 6, .lst (ds.map .int)] st = .ok (.tup (.str "probe" :: [])) st
    have a5 : ∀ st, pr.cf (k + 1) i__law_places [.lst (ds.map .int), .int 0] st = _ := fun st => a5 k st
    have b5 : ∀ st, pr.cf (k + 1) i__law_places [.lst (ds.map .int), .int 12] st = _ := fun st => b5 k st
    have c3 : ∀ st, pr.cf (k + 1) i__law_codes [.lst (ds.map .int), .int 22, .int 400] st = _ := fun st => c3 k st
    have d3 : ∀ st, pr.cf (k + 1) i__law_codes [.lst (ds.map .int), .int 21, .int 200] st = _ := fun st => d3 k st
    have bE := bigE k
    have g8 : atI (ds.map Val.int) 8 = some (.int (dv ds 8)) := dv_at ds 8 (by omega)
    have g9 : atI (ds.map Val.int) 9 = some (.int (dv ds 9)) := dv_at ds 9 (by omega)
    have g10 : atI (ds.map Val.int) 10 = some (.int (dv ds 10)) := dv_at ds 10 (by omega)
    have g11 : atI (ds.map Val.int) 11 = some (.int (dv ds 11)) := dv_at ds 11 (by omega)
    have g20 : atI (ds.map Val.int) 20 = some (.int (dv ds 20)) := dv_at ds 20 (by omega)
    have g21 : atI (ds.map Val.int) 21 = some (.int (dv ds 21)) := dv_at ds 21 (by omega)
    have g22 : atI (ds.map Val.int) 22 = some (.int (dv ds 22)) := dv_at ds 22 (by omega)
    rw [cf__law_chunk]
    refine kCall_nr rfl (by simp) (s := []) ?_
    unfold runP
    simp -implicitDefEqProofs [fEq_v, fNe_v, startM_eq, b__law_chunk, a5, b5, c3, d3, bE, g8, g9, g10, g11, g20, g21, g22]
  · rw [isCh_j (by decide) (by decide)]
    simp only [fld, fm, List.getD_eq_getElem?_getD, List.getElem?_cons_succ, List.getElem?_cons_zero, Option.getD_some, List.drop, hF_nil, hF_cons, chk_number, chk_addresses, chk_cookie, chk_fcodes, isNum_big, iA, iB, iK, iC, Bool.and_true]
  · intro x hx
    cases hx
theorem ch_7 (ds : List Int) (hl : ds.length = 36) : Chk ds 7 := by
  obtain ⟨nA, a1, a2, a3, a4, a5⟩ := places ds 0 (by omega)
  obtain ⟨nB, b1, b2, b3, b4, b5⟩ := places ds 12 (by omega)
  obtain ⟨nC, c1, c2, c3⟩ := codes ds 22 400 (by decide) (by omega)
  obtain ⟨nD', d1, d2, d3⟩ := codes ds 21 200 (by decide) (by omega)
  have iA := isAddr_ok a1 a2 a3 a4
  have iB := isAddr_ok b1 b2 b3 b4
  have iK := isCookie_ok (dv ds 10) (dv ds 11) (dv ds 8) (dv ds 9) iB
  have oA := okF_ints nA (by omega)
  have oK := okF_cookie (bigF (dv ds 10) (dv ds 11)) (bigF (dv ds 8) (dv ds 9)) nB (by omega)
  have oC := okF_ints nC (by omega)
  have oD := okF_ints nD' (by omega)
  have iC : areNum 10000 255 (.tup (nC.map .int)) = true := areNum_ok (by omega) c1
  have iD : areNum 200 255 (.tup (nD'.map .int)) = true := areNum_ok (by omega) d1
  refine ⟨[], fun k st => ?_, ?_, ?_⟩
  · show pr.cf (k + 2) i__law_chunk [.int 7, .lst (ds.map .int)] st = .ok (.tup (.str "probe_ack" :: [])) st
    have a5 : ∀ st, pr.cf (k + 1) i__law_places [.lst (ds.map .int), .int 0] st = _ := fun st => a5 k st
    have b5 : ∀ st, pr.cf (k + 1) i__law_places [.lst (ds.map .int), .int 12] st = _ := fun st => b5 k st
    have c3 : ∀ st, pr.cf (k + 1) i__law_codes [.lst (ds.map .int), .int 22, .int 400] st = _ := fun st => c3 k st
    have d3 : ∀ st, pr.cf (k + 1) i__law_codes [.lst (ds.map .int), .int 21, .int 200] st = _ := fun st => d3 k st
    have bE := bigE k
    have g8 : atI (ds.map Val.int) 8 = some (.int (dv ds 8)) := dv_at ds 8 (by omega)
    have g9 : atI (ds.map Val.int) 9 = some (.int (dv ds 9)) := dv_at ds 9 (by omega)
    have g10 : atI (ds.map Val.int) 10 = some (.int (dv ds 10)) := dv_at ds 10 (by omega)
    have g11 : atI (ds.map Val.int) 11 = some (.int (dv ds 11)) := dv_at ds 11 (by omega)
    have g20 : atI (ds.map Val.int) 20 = some (.int (dv ds 20)) := dv_at ds 20 (by omega)
    have g21 : atI (ds.map Val.int) 21 = some (.int (dv ds 21)) := dv_at ds 21 (by omega)
    have g22 : atI (ds.map Val.int) 22 = some (.int (dv ds 22)) := dv_at ds 22 (by omega)
    rw [cf__law_chunk]
    refine kCall_nr rfl (by simp) (s := []) ?_
    unfold runP
    simp -implicitDefEqProofs [fEq_v, fNe_v, startM_eq, b__law_chunk, a5, b5, c3, d3, bE, g8, g9, g10, g11, g20, g21, g22]
  · rw [isCh_j (by decide) (by decide)]
    simp only [fld, fm, List.getD_eq_getElem?_getD, List.getElem?_cons_succ, List.getElem?_cons_zero, Option.getD_some, List.drop, hF_nil, hF_cons, chk_number, chk_addresses, chk_cookie, chk_fcodes, isNum_big, iA, iB, iK, iC, Bool.and_true]
  · intro x hx
    cases hx
theorem ch_8 (ds : List Int) (hl : ds.length = 36) : Chk ds 8 := by
  obtain ⟨nA, a1, a2, a3, a4, a5⟩ := places ds 0 (by omega)
  obtain ⟨nB, b1, b2, b3, b4, b5⟩ := places ds 12 (by omega)
  obtain ⟨nC, c1, c2, c3⟩ := codes ds 22 400 (by decide) (by omega)
  obtain ⟨nD', d1, d2, d3⟩ := codes ds 21 200 (by decide) (by omega)
  have iA := isAddr_ok a1 a2 a3 a4
  have iB := isAddr_ok b1 b2 b3 b4
  have iK := isCookie_ok (dv ds 10) (dv ds 11) (dv ds 8) (dv ds 9) iB
  have oA := okF_ints nA (by omega)
  have oK := okF_cookie (bigF (dv ds 10) (dv ds 11)) (bigF (dv ds 8) (dv ds 9)) nB (by omega)
  have oC := okF_ints nC (by omega)
  have oD := okF_ints nD' (by omega)
  have iC : areNum 10000 255 (.tup (nC.map .int)) = true := areNum_ok (by omega) c1
  have iD : areNum 200 255 (.tup (nD'.map .int)) = true := areNum_ok (by omega) d1
  refine ⟨[.int (bigF (dv ds 8) (dv ds 9)), .tup (nA.map .int)], fun k st => ?_, ?_, ?_⟩
  · show pr.cf (k + 2) i__law_chunk [.int 8, .lst (ds.map .int)] st = .ok (.tup (.str "addresses" :: [.int (bigF (dv ds 8) (dv ds 9)), .tup (nA.map .int)])) st
    have a5 : ∀ st, pr.cf (k + 1) i__law_places [.lst (ds.map .int), .int 0] st = _ := fun st => a5 k st
    have b5 : ∀ st, pr.cf (k + 1) i__law_places [.lst (ds.map .int), .int 12] st = _ := fun st => b5 k st
    have c3 : ∀ st, pr.cf (k + 1) i__law_codes [.lst (ds.map .int), .int 22, .int 400] st = _ := fun st => c3 k st
    have d3 : ∀ st, pr.cf (k + 1) i__law_codes [.lst (ds.map .int), .int 21, .int 200] st = _ := fun st => d3 k st
    have bE := bigE k
    have g8 : atI (ds.map Val.int) 8 = some (.int (dv ds 8)) := dv_at ds 8 (by omega)
    have g9 : atI (ds.map Val.int) 9 = some (.int (dv ds 9)) := dv_at ds 9 (by omega)
    have g10 : atI (ds.map Val.int) 10 = some (.int (dv ds 10)) := dv_at ds 10 (by omega)
    have g11 : atI (ds.map Val.int) 11 = some (.int (dv ds 11)) := dv_at ds 11 (by omega)
    have g20 : atI (ds.map Val.int) 20 = some (.int (dv ds 20)) := dv_at ds 20 (by omega)
    have g21 : atI (ds.map Val.int) 21 = some (.int (dv ds 21)) := dv_at ds 21 (by omega)
    have g22 : atI (ds.map Val.int) 22 = some (.int (dv ds 22)) := dv_at ds 22 (by omega)
    rw [cf__law_chunk]
    refine kCall_nr rfl (by simp) (s := []) ?_
    unfold runP
    simp -implicitDefEqProofs [fEq_v, fNe_v, startM_eq, b__law_chunk, a5, b5, c3, d3, bE, g8, g9, g10, g11, g20, g21, g22]
  · rw [isCh_j (by decide) (by decide)]
    simp only [fld, fm, List.getD_eq_getElem?_getD, List.getElem?_cons_succ, List.getElem?_cons_zero, Option.getD_some, List.drop, hF_nil, hF_cons, chk_number, chk_addresses, chk_cookie, chk_fcodes, isNum_big, iA, iB, iK, iC, Bool.and_true]
  · intro x hx
    simp only [List.mem_cons, List.not_mem_nil, or_false] at hx
    rcases hx with rfl | rfl <;> first | exact oA | exact oK | exact oC | rfl
theorem ch_9 (ds : List Int) (hl : ds.length = 36) : Chk ds 9 := by
  obtain ⟨nA, a1, a2, a3, a4, a5⟩ := places ds 0 (by omega)
  obtain ⟨nB, b1, b2, b3, b4, b5⟩ := places ds 12 (by omega)
  obtain ⟨nC, c1, c2, c3⟩ := codes ds 22 400 (by decide) (by omega)
  obtain ⟨nD', d1, d2, d3⟩ := codes ds 21 200 (by decide) (by omega)
  have iA := isAddr_ok a1 a2 a3 a4
  have iB := isAddr_ok b1 b2 b3 b4
  have iK := isCookie_ok (dv ds 10) (dv ds 11) (dv ds 8) (dv ds 9) iB
  have oA := okF_ints nA (by omega)
  have oK := okF_cookie (bigF (dv ds 10) (dv ds 11)) (bigF (dv ds 8) (dv ds 9)) nB (by omega)
  have oC := okF_ints nC (by omega)
  have oD := okF_ints nD' (by omega)
  have iC : areNum 10000 255 (.tup (nC.map .int)) = true := areNum_ok (by omega) c1
  have iD : areNum 200 255 (.tup (nD'.map .int)) = true := areNum_ok (by omega) d1
  refine ⟨[.int (bigF (dv ds 8) (dv ds 9))], fun k st => ?_, ?_, ?_⟩
  · show pr.cf (k + 2) i__law_chunk [.int 9, .lst (ds.map .int)] st = .ok (.tup (.str "addresses_ack" :: [.int (bigF (dv ds 8) (dv ds 9))])) st
    have a5 : ∀ st, pr.cf (k + 1) i__law_places [.lst (ds.map .int), .int 0] st = _ := fun st => a5 k st
    have b5 : ∀ st, pr.cf (k + 1) i__law_places [.lst (ds.map .int), .int 12] st = _ := fun st => b5 k st
    have c3 : ∀ st, pr.cf (k + 1) i__law_codes [.lst (ds.map .int), .int 22, .int 400] st = _ := fun st => c3 k st
    have d3 : ∀ st, pr.cf (k + 1) i__law_codes [.lst (ds.map .int), .int 21, .int 200] st = _ := fun st => d3 k st
    have bE := bigE k
    have g8 : atI (ds.map Val.int) 8 = some (.int (dv ds 8)) := dv_at ds 8 (by omega)
    have g9 : atI (ds.map Val.int) 9 = some (.int (dv ds 9)) := dv_at ds 9 (by omega)
    have g10 : atI (ds.map Val.int) 10 = some (.int (dv ds 10)) := dv_at ds 10 (by omega)
    have g11 : atI (ds.map Val.int) 11 = some (.int (dv ds 11)) := dv_at ds 11 (by omega)
    have g20 : atI (ds.map Val.int) 20 = some (.int (dv ds 20)) := dv_at ds 20 (by omega)
    have g21 : atI (ds.map Val.int) 21 = some (.int (dv ds 21)) := dv_at ds 21 (by omega)
    have g22 : atI (ds.map Val.int) 22 = some (.int (dv ds 22)) := dv_at ds 22 (by omega)
    rw [cf__law_chunk]
    refine kCall_nr rfl (by simp) (s := []) ?_
    unfold runP
    simp -implicitDefEqProofs [fEq_v, fNe_v, startM_eq, b__law_chunk, a5, b5, c3, d3, bE, g8, g9, g10, g11, g20, g21, g22]
  · rw [isCh_j (by decide) (by decide)]
    simp only [fld, fm, List.getD_eq_getElem?_getD, List.getElem?_cons_succ, List.getElem?_cons_zero, Option.getD_some, List.drop, hF_nil, hF_cons, chk_number, chk_addresses, chk_cookie, chk_fcodes, isNum_big, iA, iB, iK, iC, Bool.and_true]
  · intro x hx
    simp only [List.mem_cons, List.not_mem_nil, or_false] at hx
    rcases hx with rfl <;> first | exact oA | exact oK | exact oC | rfl
theorem ch_10 (ds : List Int) (hl : ds.length = 36) : Chk ds 10 := by
  obtain ⟨nA, a1, a2, a3, a4, a5⟩ := places ds 0 (by omega)
  obtain ⟨nB, b1, b2, b3, b4, b5⟩ := places ds 12 (by omega)
  obtain ⟨nC, c1, c2, c3⟩ := codes ds 22 400 (by decide) (by omega)
  obtain ⟨nD', d1, d2, d3⟩ := codes ds 21 200 (by decide) (by omega)
  have iA := isAddr_ok a1 a2 a3 a4
  have iB := isAddr_ok b1 b2 b3 b4
  have iK := isCookie_ok (dv ds 10) (dv ds 11) (dv ds 8) (dv ds 9) iB
  have oA := okF_ints nA (by omega)
  have oK := okF_cookie (bigF (dv ds 10) (dv ds 11)) (bigF (dv ds 8) (dv ds 9)) nB (by omega)
  have oC := okF_ints nC (by omega)
  have oD := okF_ints nD' (by omega)
  have iC : areNum 10000 255 (.tup (nC.map .int)) = true := areNum_ok (by omega) c1
  have iD : areNum 200 255 (.tup (nD'.map .int)) = true := areNum_ok (by omega) d1
  refine ⟨[], fun k st => ?_, ?_, ?_⟩
  · show pr.cf (k + 2) i__law_chunk [.int 10, .lst (ds.map .int)] st = .ok (.tup (.str "gone" :: [])) st
    have a5 : ∀ st, pr.cf (k + 1) i__law_places [.lst (ds.map .int), .int 0] st = _ := fun st => a5 k st
    have b5 : ∀ st, pr.cf (k + 1) i__law_places [.lst (ds.map .int), .int 12] st = _ := fun st => b5 k st
    have c3 : ∀ st, pr.cf (k + 1) i__law_codes [.lst (ds.map .int), .int 22, .int 400] st = _ := fun st => c3 k st
    have d3 : ∀ st, pr.cf (k + 1) i__law_codes [.lst (ds.map .int), .int 21, .int 200] st = _ := fun st => d3 k st
    have bE := bigE k
    have g8 : atI (ds.map Val.int) 8 = some (.int (dv ds 8)) := dv_at ds 8 (by omega)
    have g9 : atI (ds.map Val.int) 9 = some (.int (dv ds 9)) := dv_at ds 9 (by omega)
    have g10 : atI (ds.map Val.int) 10 = some (.int (dv ds 10)) := dv_at ds 10 (by omega)
    have g11 : atI (ds.map Val.int) 11 = some (.int (dv ds 11)) := dv_at ds 11 (by omega)
    have g20 : atI (ds.map Val.int) 20 = some (.int (dv ds 20)) := dv_at ds 20 (by omega)
    have g21 : atI (ds.map Val.int) 21 = some (.int (dv ds 21)) := dv_at ds 21 (by omega)
    have g22 : atI (ds.map Val.int) 22 = some (.int (dv ds 22)) := dv_at ds 22 (by omega)
    rw [cf__law_chunk]
    refine kCall_nr rfl (by simp) (s := []) ?_
    unfold runP
    simp -implicitDefEqProofs [fEq_v, fNe_v, startM_eq, b__law_chunk, a5, b5, c3, d3, bE, g8, g9, g10, g11, g20, g21, g22]
  · rw [isCh_j (by decide) (by decide)]
    simp only [fld, fm, List.getD_eq_getElem?_getD, List.getElem?_cons_succ, List.getElem?_cons_zero, Option.getD_some, List.drop, hF_nil, hF_cons, chk_number, chk_addresses, chk_cookie, chk_fcodes, isNum_big, iA, iB, iK, iC, Bool.and_true]
  · intro x hx
    cases hx
theorem ch_11 (ds : List Int) (hl : ds.length = 36) : Chk ds 11 := by
  obtain ⟨nA, a1, a2, a3, a4, a5⟩ := places ds 0 (by omega)
  obtain ⟨nB, b1, b2, b3, b4, b5⟩ := places ds 12 (by omega)
  obtain ⟨nC, c1, c2, c3⟩ := codes ds 22 400 (by decide) (by omega)
  obtain ⟨nD', d1, d2, d3⟩ := codes ds 21 200 (by decide) (by omega)
  have iA := isAddr_ok a1 a2 a3 a4
  have iB := isAddr_ok b1 b2 b3 b4
  have iK := isCookie_ok (dv ds 10) (dv ds 11) (dv ds 8) (dv ds 9) iB
  have oA := okF_ints nA (by omega)
  have oK := okF_cookie (bigF (dv ds 10) (dv ds 11)) (bigF (dv ds 8) (dv ds 9)) nB (by omega)
  have oC := okF_ints nC (by omega)
  have oD := okF_ints nD' (by omega)
  have iC : areNum 10000 255 (.tup (nC.map .int)) = true := areNum_ok (by omega) c1
  have iD : areNum 200 255 (.tup (nD'.map .int)) = true := areNum_ok (by omega) d1
  refine ⟨[], fun k st => ?_, ?_, ?_⟩
  · show pr.cf (k + 2) i__law_chunk [.int 11, .lst (ds.map .int)] st = .ok (.tup (.str "abort" :: [])) st
    have a5 : ∀ st, pr.cf (k + 1) i__law_places [.lst (ds.map .int), .int 0] st = _ := fun st => a5 k st
    have b5 : ∀ st, pr.cf (k + 1) i__law_places [.lst (ds.map .int), .int 12] st = _ := fun st => b5 k st
    have c3 : ∀ st, pr.cf (k + 1) i__law_codes [.lst (ds.map .int), .int 22, .int 400] st = _ := fun st => c3 k st
    have d3 : ∀ st, pr.cf (k + 1) i__law_codes [.lst (ds.map .int), .int 21, .int 200] st = _ := fun st => d3 k st
    have bE := bigE k
    have g8 : atI (ds.map Val.int) 8 = some (.int (dv ds 8)) := dv_at ds 8 (by omega)
    have g9 : atI (ds.map Val.int) 9 = some (.int (dv ds 9)) := dv_at ds 9 (by omega)
    have g10 : atI (ds.map Val.int) 10 = some (.int (dv ds 10)) := dv_at ds 10 (by omega)
    have g11 : atI (ds.map Val.int) 11 = some (.int (dv ds 11)) := dv_at ds 11 (by omega)
    have g20 : atI (ds.map Val.int) 20 = some (.int (dv ds 20)) := dv_at ds 20 (by omega)
    have g21 : atI (ds.map Val.int) 21 = some (.int (dv ds 21)) := dv_at ds 21 (by omega)
    have g22 : atI (ds.map Val.int) 22 = some (.int (dv ds 22)) := dv_at ds 22 (by omega)
    rw [cf__law_chunk]
    refine kCall_nr rfl (by simp) (s := []) ?_
    unfold runP
    simp -implicitDefEqProofs [fEq_v, fNe_v, startM_eq, b__law_chunk, a5, b5, c3, d3, bE, g8, g9, g10, g11, g20, g21, g22]
  · rw [isCh_j (by decide) (by decide)]
    simp only [fld, fm, List.getD_eq_getElem?_getD, List.getElem?_cons_succ, List.getElem?_cons_zero, Option.getD_some, List.drop, hF_nil, hF_cons, chk_number, chk_addresses, chk_cookie, chk_fcodes, isNum_big, iA, iB, iK, iC, Bool.and_true]
  · intro x hx
    cases hx
theorem ch_12 (ds : List Int) (hl : ds.length = 36) : Chk ds 12 := by
  obtain ⟨nA, a1, a2, a3, a4, a5⟩ := places ds 0 (by omega)
  obtain ⟨nB, b1, b2, b3, b4, b5⟩ := places ds 12 (by omega)
  obtain ⟨nC, c1, c2, c3⟩ := codes ds 22 400 (by decide) (by omega)
  obtain ⟨nD', d1, d2, d3⟩ := codes ds 21 200 (by decide) (by omega)
  have iA := isAddr_ok a1 a2 a3 a4
  have iB := isAddr_ok b1 b2 b3 b4
  have iK := isCookie_ok (dv ds 10) (dv ds 11) (dv ds 8) (dv ds 9) iB
  have oA := okF_ints nA (by omega)
  have oK := okF_cookie (bigF (dv ds 10) (dv ds 11)) (bigF (dv ds 8) (dv ds 9)) nB (by omega)
  have oC := okF_ints nC (by omega)
  have oD := okF_ints nD' (by omega)
  have iC : areNum 10000 255 (.tup (nC.map .int)) = true := areNum_ok (by omega) c1
  have iD : areNum 200 255 (.tup (nD'.map .int)) = true := areNum_ok (by omega) d1
  refine ⟨[], fun k st => ?_, ?_, ?_⟩
  · show pr.cf (k + 2) i__law_chunk [.int 12, .lst (ds.map .int)] st = .ok (.tup (.str "shutdown" :: [])) st
    have a5 : ∀ st, pr.cf (k + 1) i__law_places [.lst (ds.map .int), .int 0] st = _ := fun st => a5 k st
    have b5 : ∀ st, pr.cf (k + 1) i__law_places [.lst (ds.map .int), .int 12] st = _ := fun st => b5 k st
    have c3 : ∀ st, pr.cf (k + 1) i__law_codes [.lst (ds.map .int), .int 22, .int 400] st = _ := fun st => c3 k st
    have d3 : ∀ st, pr.cf (k + 1) i__law_codes [.lst (ds.map .int), .int 21, .int 200] st = _ := fun st => d3 k st
    have bE := bigE k
    have g8 : atI (ds.map Val.int) 8 = some (.int (dv ds 8)) := dv_at ds 8 (by omega)
    have g9 : atI (ds.map Val.int) 9 = some (.int (dv ds 9)) := dv_at ds 9 (by omega)
    have g10 : atI (ds.map Val.int) 10 = some (.int (dv ds 10)) := dv_at ds 10 (by omega)
    have g11 : atI (ds.map Val.int) 11 = some (.int (dv ds 11)) := dv_at ds 11 (by omega)
    have g20 : atI (ds.map Val.int) 20 = some (.int (dv ds 20)) := dv_at ds 20 (by omega)
    have g21 : atI (ds.map Val.int) 21 = some (.int (dv ds 21)) := dv_at ds 21 (by omega)
    have g22 : atI (ds.map Val.int) 22 = some (.int (dv ds 22)) := dv_at ds 22 (by omega)
    rw [cf__law_chunk]
    refine kCall_nr rfl (by simp) (s := []) ?_
    unfold runP
    simp -implicitDefEqProofs [fEq_v, fNe_v, startM_eq, b__law_chunk, a5, b5, c3, d3, bE, g8, g9, g10, g11, g20, g21, g22]
  · rw [isCh_j (by decide) (by decide)]
    simp only [fld, fm, List.getD_eq_getElem?_getD, List.getElem?_cons_succ, List.getElem?_cons_zero, Option.getD_some, List.drop, hF_nil, hF_cons, chk_number, chk_addresses, chk_cookie, chk_fcodes, isNum_big, iA, iB, iK, iC, Bool.and_true]
  · intro x hx
    cases hx
theorem ch_13 (ds : List Int) (hl : ds.length = 36) : Chk ds 13 := by
  obtain ⟨nA, a1, a2, a3, a4, a5⟩ := places ds 0 (by omega)
  obtain ⟨nB, b1, b2, b3, b4, b5⟩ := places ds 12 (by omega)
  obtain ⟨nC, c1, c2, c3⟩ := codes ds 22 400 (by decide) (by omega)
  obtain ⟨nD', d1, d2, d3⟩ := codes ds 21 200 (by decide) (by omega)
  have iA := isAddr_ok a1 a2 a3 a4
  have iB := isAddr_ok b1 b2 b3 b4
  have iK := isCookie_ok (dv ds 10) (dv ds 11) (dv ds 8) (dv ds 9) iB
  have oA := okF_ints nA (by omega)
  have oK := okF_cookie (bigF (dv ds 10) (dv ds 11)) (bigF (dv ds 8) (dv ds 9)) nB (by omega)
  have oC := okF_ints nC (by omega)
  have oD := okF_ints nD' (by omega)
  have iC : areNum 10000 255 (.tup (nC.map .int)) = true := areNum_ok (by omega) c1
  have iD : areNum 200 255 (.tup (nD'.map .int)) = true := areNum_ok (by omega) d1
  refine ⟨[], fun k st => ?_, ?_, ?_⟩
  · show pr.cf (k + 2) i__law_chunk [.int 13, .lst (ds.map .int)] st = .ok (.tup (.str "shutdown_ack" :: [])) st
    have a5 : ∀ st, pr.cf (k + 1) i__law_places [.lst (ds.map .int), .int 0] st = _ := fun st => a5 k st
    have b5 : ∀ st, pr.cf (k + 1) i__law_places [.lst (ds.map .int), .int 12] st = _ := fun st => b5 k st
    have c3 : ∀ st, pr.cf (k + 1) i__law_codes [.lst (ds.map .int), .int 22, .int 400] st = _ := fun st => c3 k st
    have d3 : ∀ st, pr.cf (k + 1) i__law_codes [.lst (ds.map .int), .int 21, .int 200] st = _ := fun st => d3 k st
    have bE := bigE k
    have g8 : atI (ds.map Val.int) 8 = some (.int (dv ds 8)) := dv_at ds 8 (by omega)
    have g9 : atI (ds.map Val.int) 9 = some (.int (dv ds 9)) := dv_at ds 9 (by omega)
    have g10 : atI (ds.map Val.int) 10 = some (.int (dv ds 10)) := dv_at ds 10 (by omega)
    have g11 : atI (ds.map Val.int) 11 = some (.int (dv ds 11)) := dv_at ds 11 (by omega)
    have g20 : atI (ds.map Val.int) 20 = some (.int (dv ds 20)) := dv_at ds 20 (by omega)
    have g21 : atI (ds.map Val.int) 21 = some (.int (dv ds 21)) := dv_at ds 21 (by omega)
    have g22 : atI (ds.map Val.int) 22 = some (.int (dv ds 22)) := dv_at ds 22 (by omega)
    rw [cf__law_chunk]
    refine kCall_nr rfl (by simp) (s := []) ?_
    unfold runP
    simp -implicitDefEqProofs [fEq_v, fNe_v, startM_eq, b__law_chunk, a5, b5, c3, d3, bE, g8, g9, g10, g11, g20, g21, g22]
  · rw [isCh_j (by decide) (by decide)]
    simp only [fld, fm, List.getD_eq_getElem?_getD, List.getElem?_cons_succ, List.getElem?_cons_zero, Option.getD_some, List.drop, hF_nil, hF_cons, chk_number, chk_addresses, chk_cookie, chk_fcodes, isNum_big, iA, iB, iK, iC, Bool.and_true]
  · intro x hx
    cases hx
theorem ch_14 (ds : List Int) (hl : ds.length = 36) : Chk ds 14 := by
  obtain ⟨nA, a1, a2, a3, a4, a5⟩ := places ds 0 (by omega)
  obtain ⟨nB, b1, b2, b3, b4, b5⟩ := places ds 12 (by omega)
  obtain ⟨nC, c1, c2, c3⟩ := codes ds 22 400 (by decide) (by omega)
  obtain ⟨nD', d1, d2, d3⟩ := codes ds 21 200 (by decide) (by omega)
  have iA := isAddr_ok a1 a2 a3 a4
  have iB := isAddr_ok b1 b2 b3 b4
  have iK := isCookie_ok (dv ds 10) (dv ds 11) (dv ds 8) (dv ds 9) iB
  have oA := okF_ints nA (by omega)
  have oK := okF_cookie (bigF (dv ds 10) (dv ds 11)) (bigF (dv ds 8) (dv ds 9)) nB (by omega)
  have oC := okF_ints nC (by omega)
  have oD := okF_ints nD' (by omega)
  have iC : areNum 10000 255 (.tup (nC.map .int)) = true := areNum_ok (by omega) c1
  have iD : areNum 200 255 (.tup (nD'.map .int)) = true := areNum_ok (by omega) d1
  refine ⟨[], fun k st => ?_, ?_, ?_⟩
  · show pr.cf (k + 2) i__law_chunk [.int 14, .lst (ds.map .int)] st = .ok (.tup (.str "shutdown_done" :: [])) st
    have a5 : ∀ st, pr.cf (k + 1) i__law_places [.lst (ds.map .int), .int 0] st = _ := fun st => a5 k st
    have b5 : ∀ st, pr.cf (k + 1) i__law_places [.lst (ds.map .int), .int 12] st = _ := fun st => b5 k st
    have c3 : ∀ st, pr.cf (k + 1) i__law_codes [.lst (ds.map .int), .int 22, .int 400] st = _ := fun st => c3 k st
    have d3 : ∀ st, pr.cf (k + 1) i__law_codes [.lst (ds.map .int), .int 21, .int 200] st = _ := fun st => d3 k st
    have bE := bigE k
    have g8 : atI (ds.map Val.int) 8 = some (.int (dv ds 8)) := dv_at ds 8 (by omega)
    have g9 : atI (ds.map Val.int) 9 = some (.int (dv ds 9)) := dv_at ds 9 (by omega)
    have g10 : atI (ds.map Val.int) 10 = some (.int (dv ds 10)) := dv_at ds 10 (by omega)
    have g11 : atI (ds.map Val.int) 11 = some (.int (dv ds 11)) := dv_at ds 11 (by omega)
    have g20 : atI (ds.map Val.int) 20 = some (.int (dv ds 20)) := dv_at ds 20 (by omega)
    have g21 : atI (ds.map Val.int) 21 = some (.int (dv ds 21)) := dv_at ds 21 (by omega)
    have g22 : atI (ds.map Val.int) 22 = some (.int (dv ds 22)) := dv_at ds 22 (by omega)
    rw [cf__law_chunk]
    refine kCall_nr rfl (by simp) (s := []) ?_
    unfold runP
    simp -implicitDefEqProofs [fEq_v, fNe_v, startM_eq, b__law_chunk, a5, b5, c3, d3, bE, g8, g9, g10, g11, g20, g21, g22]
  · rw [isCh_j (by decide) (by decide)]
    simp only [fld, fm, List.getD_eq_getElem?_getD, List.getElem?_cons_succ, List.getElem?_cons_zero, Option.getD_some, List.drop, hF_nil, hF_cons, chk_number, chk_addresses, chk_cookie, chk_fcodes, isNum_big, iA, iB, iK, iC, Bool.and_true]
  · intro x hx
    cases hx
theorem ch_15 (ds : List Int) (hl : ds.length = 36) : Chk ds 15 := by
  obtain ⟨nA, a1, a2, a3, a4, a5⟩ := places ds 0 (by omega)
  obtain ⟨nB, b1, b2, b3, b4, b5⟩ := places ds 12 (by omega)
  obtain ⟨nC, c1, c2, c3⟩ := codes ds 22 400 (by decide) (by omega)
  obtain ⟨nD', d1, d2, d3⟩ := codes ds 21 200 (by decide) (by omega)
  have iA := isAddr_ok a1 a2 a3 a4
  have iB := isAddr_ok b1 b2 b3 b4
  have iK := isCookie_ok (dv ds 10) (dv ds 11) (dv ds 8) (dv ds 9) iB
  have oA := okF_ints nA (by omega)
  have oK := okF_cookie (bigF (dv ds 10) (dv ds 11)) (bigF (dv ds 8) (dv ds 9)) nB (by omega)
  have oC := okF_ints nC (by omega)
  have oD := okF_ints nD' (by omega)
  have iC : areNum 10000 255 (.tup (nC.map .int)) = true := areNum_ok (by omega) c1
  have iD : areNum 200 255 (.tup (nD'.map .int)) = true := areNum_ok (by omega) d1
  refine ⟨[.int (bigF (dv ds 8) (dv ds 9)), .int (bigF (dv ds 10) (dv ds 11)), .int (bigF (dv ds 20) (dv ds 9)), .int (bigF (dv ds 21) (dv ds 8)), .tup (nC.map .int)], fun k st => ?_, ?_, ?_⟩
  · show pr.cf (k + 2) i__law_chunk [.int 15, .lst (ds.map .int)] st = .ok (.tup (.str "frame" :: [.int (bigF (dv ds 8) (dv ds 9)), .int (bigF (dv ds 10) (dv ds 11)), .int (bigF (dv ds 20) (dv ds 9)), .int (bigF (dv ds 21) (dv ds 8)), .tup (nC.map .int)])) st
    have a5 : ∀ st, pr.cf (k + 1) i__law_places [.lst (ds.map .int), .int 0] st = _ := fun st => a5 k st
    have b5 : ∀ st, pr.cf (k + 1) i__law_places [.lst (ds.map .int), .int 12] st = _ := fun st => b5 k st
    have c3 : ∀ st, pr.cf (k + 1) i__law_codes [.lst (ds.map .int), .int 22, .int 400] st = _ := fun st => c3 k st
    have d3 : ∀ st, pr.cf (k + 1) i__law_codes [.lst (ds.map .int), .int 21, .int 200] st = _ := fun st => d3 k st
    have bE := bigE k
    have g8 : atI (ds.map Val.int) 8 = some (.int (dv ds 8)) := dv_at ds 8 (by omega)
    have g9 : atI (ds.map Val.int) 9 = some (.int (dv ds 9)) := dv_at ds 9 (by omega)
    have g10 : atI (ds.map Val.int) 10 = some (.int (dv ds 10)) := dv_at ds 10 (by omega)
    have g11 : atI (ds.map Val.int) 11 = some (.int (dv ds 11)) := dv_at ds 11 (by omega)
    have g20 : atI (ds.map Val.int) 20 = some (.int (dv ds 20)) := dv_at ds 20 (by omega)
    have g21 : atI (ds.map Val.int) 21 = some (.int (dv ds 21)) := dv_at ds 21 (by omega)
    have g22 : atI (ds.map Val.int) 22 = some (.int (dv ds 22)) := dv_at ds 22 (by omega)
    rw [cf__law_chunk]
    refine kCall_nr rfl (by simp) (s := []) ?_
    unfold runP
    simp -implicitDefEqProofs [fEq_v, fNe_v, startM_eq, b__law_chunk, a5, b5, c3, d3, bE, g8, g9, g10, g11, g20, g21, g22]
  · rw [isCh_j (by decide) (by decide)]
    simp only [fld, fm, List.getD_eq_getElem?_getD, List.getElem?_cons_succ, List.getElem?_cons_zero, Option.getD_some, List.drop, hF_nil, hF_cons, chk_number, chk_addresses, chk_cookie, chk_fcodes, isNum_big, iA, iB, iK, iC, Bool.and_true]
  · intro x hx
    simp only [List.mem_cons, List.not_mem_nil, or_false] at hx
    rcases hx with rfl | rfl | rfl | rfl | rfl <;> first | exact oA | exact oK | exact oC | rfl
theorem ch_16 (ds : List Int) (hl : ds.length = 36) : Chk ds 16 := by
  obtain ⟨nA, a1, a2, a3, a4, a5⟩ := places ds 0 (by omega)
  obtain ⟨nB, b1, b2, b3, b4, b5⟩ := places ds 12 (by omega)
  obtain ⟨nC, c1, c2, c3⟩ := codes ds 22 400 (by decide) (by omega)
  obtain ⟨nD', d1, d2, d3⟩ := codes ds 21 200 (by decide) (by omega)
  have iA := isAddr_ok a1 a2 a3 a4
  have iB := isAddr_ok b1 b2 b3 b4
  have iK := isCookie_ok (dv ds 10) (dv ds 11) (dv ds 8) (dv ds 9) iB
  have oA := okF_ints nA (by omega)
  have oK := okF_cookie (bigF (dv ds 10) (dv ds 11)) (bigF (dv ds 8) (dv ds 9)) nB (by omega)
  have oC := okF_ints nC (by omega)
  have oD := okF_ints nD' (by omega)
  have iC : areNum 10000 255 (.tup (nC.map .int)) = true := areNum_ok (by omega) c1
  have iD : areNum 200 255 (.tup (nD'.map .int)) = true := areNum_ok (by omega) d1
  refine ⟨[.int (bigF (dv ds 8) (dv ds 9))], fun k st => ?_, ?_, ?_⟩
  · show pr.cf (k + 2) i__law_chunk [.int 16, .lst (ds.map .int)] st = .ok (.tup (.str "frame_ack" :: [.int (bigF (dv ds 8) (dv ds 9))])) st
    have a5 : ∀ st, pr.cf (k + 1) i__law_places [.lst (ds.map .int), .int 0] st = _ := fun st => a5 k st
    have b5 : ∀ st, pr.cf (k + 1) i__law_places [.lst (ds.map .int), .int 12] st = _ := fun st => b5 k st
    have c3 : ∀ st, pr.cf (k + 1) i__law_codes [.lst (ds.map .int), .int 22, .int 400] st = _ := fun st => c3 k st
    have d3 : ∀ st, pr.cf (k + 1) i__law_codes [.lst (ds.map .int), .int 21, .int 200] st = _ := fun st => d3 k st
    have bE := bigE k
    have g8 : atI (ds.map Val.int) 8 = some (.int (dv ds 8)) := dv_at ds 8 (by omega)
    have g9 : atI (ds.map Val.int) 9 = some (.int (dv ds 9)) := dv_at ds 9 (by omega)
    have g10 : atI (ds.map Val.int) 10 = some (.int (dv ds 10)) := dv_at ds 10 (by omega)
    have g11 : atI (ds.map Val.int) 11 = some (.int (dv ds 11)) := dv_at ds 11 (by omega)
    have g20 : atI (ds.map Val.int) 20 = some (.int (dv ds 20)) := dv_at ds 20 (by omega)
    have g21 : atI (ds.map Val.int) 21 = some (.int (dv ds 21)) := dv_at ds 21 (by omega)
    have g22 : atI (ds.map Val.int) 22 = some (.int (dv ds 22)) := dv_at ds 22 (by omega)
    rw [cf__law_chunk]
    refine kCall_nr rfl (by simp) (s := []) ?_
    unfold runP
    simp -implicitDefEqProofs [fEq_v, fNe_v, startM_eq, b__law_chunk, a5, b5, c3, d3, bE, g8, g9, g10, g11, g20, g21, g22]
  · rw [isCh_j (by decide) (by decide)]
    simp only [fld, fm, List.getD_eq_getElem?_getD, List.getElem?_cons_succ, List.getElem?_cons_zero, Option.getD_some, List.drop, hF_nil, hF_cons, chk_number, chk_addresses, chk_cookie, chk_fcodes, isNum_big, iA, iB, iK, iC, Bool.and_true]
  · intro x hx
    simp only [List.mem_cons, List.not_mem_nil, or_false] at hx
    rcases hx with rfl <;> first | exact oA | exact oK | exact oC | rfl
theorem ch_4 (ds : List Int) (hl : ds.length = 36) : Chk ds 4 := by
  obtain ⟨nA, a1, a2, a3, a4, a5⟩ := places ds 0 (by omega)
  obtain ⟨nB, b1, b2, b3, b4, b5⟩ := places ds 12 (by omega)
  obtain ⟨nC, c1, c2, c3⟩ := codes ds 22 400 (by decide) (by omega)
  obtain ⟨nD', d1, d2, d3⟩ := codes ds 21 200 (by decide) (by omega)
  have iA := isAddr_ok a1 a2 a3 a4
  have iB := isAddr_ok b1 b2 b3 b4
  have iK := isCookie_ok (dv ds 10) (dv ds 11) (dv ds 8) (dv ds 9) iB
  have oA := okF_ints nA (by omega)
  have oK := okF_cookie (bigF (dv ds 10) (dv ds 11)) (bigF (dv ds 8) (dv ds 9)) nB (by omega)
  have oC := okF_ints nC (by omega)
  have oD := okF_ints nD' (by omega)
  have iC : areNum 10000 255 (.tup (nC.map .int)) = true := areNum_ok (by omega) c1
  have iD : areNum 200 255 (.tup (nD'.map .int)) = true := areNum_ok (by omega) d1
  by_cases c : dv ds 20 % 3 = 0
  · refine ⟨[.int (bigF (dv ds 8) (dv ds 9)), .non, .int 0, .tup (nD'.map .int)], fun k st => ?_, ?_, ?_⟩
    · show pr.cf (k + 2) i__law_chunk [.int 4, .lst (ds.map .int)] st = .ok (.tup (.str "data" :: [.int (bigF (dv ds 8) (dv ds 9)), .non, .int 0, .tup (nD'.map .int)])) st
      have a5 : ∀ st, pr.cf (k + 1) i__law_places [.lst (ds.map .int), .int 0] st = _ := fun st => a5 k st
      have b5 : ∀ st, pr.cf (k + 1) i__law_places [.lst (ds.map .int), .int 12] st = _ := fun st => b5 k st
      have c3 : ∀ st, pr.cf (k + 1) i__law_codes [.lst (ds.map .int), .int 22, .int 400] st = _ := fun st => c3 k st
      have d3 : ∀ st, pr.cf (k + 1) i__law_codes [.lst (ds.map .int), .int 21, .int 200] st = _ := fun st => d3 k st
      have bE := bigE k
      have g8 : atI (ds.map Val.int) 8 = some (.int (dv ds 8)) := dv_at ds 8 (by omega)
      have g9 : atI (ds.map Val.int) 9 = some (.int (dv ds 9)) := dv_at ds 9 (by omega)
      have g10 : atI (ds.map Val.int) 10 = some (.int (dv ds 10)) := dv_at ds 10 (by omega)
      have g11 : atI (ds.map Val.int) 11 = some (.int (dv ds 11)) := dv_at ds 11 (by omega)
      have g20 : atI (ds.map Val.int) 20 = some (.int (dv ds 20)) := dv_at ds 20 (by omega)
      have g21 : atI (ds.map Val.int) 21 = some (.int (dv ds 21)) := dv_at ds 21 (by omega)
      have g22 : atI (ds.map Val.int) 22 = some (.int (dv ds 22)) := dv_at ds 22 (by omega)
      rw [cf__law_chunk]
      refine kCall_nr rfl (by simp) (s := []) ?_
      unfold runP
      simp -implicitDefEqProofs [fEq_v, fNe_v, startM_eq, b__law_chunk, a5, b5, c3, d3, bE, g8, g9, g10, g11, g20, g21, g22, c]
    · rw [isCh_4]
      simp only [fld, fm, List.getD_eq_getElem?_getD, List.getElem?_cons_succ, List.getElem?_cons_zero, Option.getD_some, List.drop, hF_nil, hF_cons, chk_number, chk_stream, chk_place, chk_mcodes, isNum_big, iD, Bool.and_true]
      rfl
    · intro x hx
      simp only [List.mem_cons, List.not_mem_nil, or_false] at hx
      rcases hx with rfl | rfl | rfl | rfl <;> first | exact oD | rfl
  · have c' : (dv ds 20 % 3 == 0) = false := beq_eq_false_iff_ne.mpr c
    refine ⟨[.int (bigF (dv ds 8) (dv ds 9)), .int (dv ds 20 % 16), .int (bigF (dv ds 10) (dv ds 11)), .tup (nD'.map .int)], fun k st => ?_, ?_, ?_⟩
    · show pr.cf (k + 2) i__law_chunk [.int 4, .lst (ds.map .int)] st = .ok (.tup (.str "data" :: [.int (bigF (dv ds 8) (dv ds 9)), .int (dv ds 20 % 16), .int (bigF (dv ds 10) (dv ds 11)), .tup (nD'.map .int)])) st
      have a5 : ∀ st, pr.cf (k + 1) i__law_places [.lst (ds.map .int), .int 0] st = _ := fun st => a5 k st
      have b5 : ∀ st, pr.cf (k + 1) i__law_places [.lst (ds.map .int), .int 12] st = _ := fun st => b5 k st
      have c3 : ∀ st, pr.cf (k + 1) i__law_codes [.lst (ds.map .int), .int 22, .int 400] st = _ := fun st => c3 k st
      have d3 : ∀ st, pr.cf (k + 1) i__law_codes [.lst (ds.map .int), .int 21, .int 200] st = _ := fun st => d3 k st
      have bE := bigE k
      have g8 : atI (ds.map Val.int) 8 = some (.int (dv ds 8)) := dv_at ds 8 (by omega)
      have g9 : atI (ds.map Val.int) 9 = some (.int (dv ds 9)) := dv_at ds 9 (by omega)
      have g10 : atI (ds.map Val.int) 10 = some (.int (dv ds 10)) := dv_at ds 10 (by omega)
      have g11 : atI (ds.map Val.int) 11 = some (.int (dv ds 11)) := dv_at ds 11 (by omega)
      have g20 : atI (ds.map Val.int) 20 = some (.int (dv ds 20)) := dv_at ds 20 (by omega)
      have g21 : atI (ds.map Val.int) 21 = some (.int (dv ds 21)) := dv_at ds 21 (by omega)
      have g22 : atI (ds.map Val.int) 22 = some (.int (dv ds 22)) := dv_at ds 22 (by omega)
      rw [cf__law_chunk]
      refine kCall_nr rfl (by simp) (s := []) ?_
      unfold runP
      simp -implicitDefEqProofs [fEq_v, fNe_v, startM_eq, b__law_chunk, a5, b5, c3, d3, bE, g8, g9, g10, g11, g20, g21, g22, c, c']
    · rw [isCh_4]
      have iS : isStream (.int (dv ds 20 % 16)) = true := by simp [isStream, isNum]; omega
      simp only [fld, fm, List.getD_eq_getElem?_getD, List.getElem?_cons_succ, List.getElem?_cons_zero, Option.getD_some, List.drop, hF_nil, hF_cons, chk_number, chk_stream, chk_place, chk_mcodes, isNum_big, iD, iS, Bool.and_true]
      rfl
    · intro x hx
      simp only [List.mem_cons, List.not_mem_nil, or_false] at hx
      rcases hx with rfl | rfl | rfl | rfl <;> first | exact oD | rfl
def akF (ds : List Int) : Nat := if dv ds 20 % 30 = 29 then 32 else (dv ds 20 % 4).toNat
theorem ch_5 (ds : List Int) (hl : ds.length = 36) : Chk ds 5 := by
  obtain ⟨nA, a1, a2, a3, a4, a5⟩ := places ds 0 (by omega)
  obtain ⟨nB, b1, b2, b3, b4, b5⟩ := places ds 12 (by omega)
  obtain ⟨nC, c1, c2, c3⟩ := codes ds 22 400 (by decide) (by omega)
  obtain ⟨nD', d1, d2, d3⟩ := codes ds 21 200 (by decide) (by omega)
  have iA := isAddr_ok a1 a2 a3 a4
  have iB := isAddr_ok b1 b2 b3 b4
  have iK := isCookie_ok (dv ds 10) (dv ds 11) (dv ds 8) (dv ds 9) iB
  have oA := okF_ints nA (by omega)
  have oK := okF_cookie (bigF (dv ds 10) (dv ds 11)) (bigF (dv ds 8) (dv ds 9)) nB (by omega)
  have oC := okF_ints nC (by omega)
  have oD := okF_ints nD' (by omega)
  have iC : areNum 10000 255 (.tup (nC.map .int)) = true := areNum_ok (by omega) c1
  have iD : areNum 200 255 (.tup (nD'.map .int)) = true := areNum_ok (by omega) d1
  have hm : akF ds ≤ 32 := by unfold akF; split <;> omega
  have hz : ((List.range (akF ds)).map fun i : Nat => bigF (dv ds 21 + i) (dv ds 22 + 3 * i)).length ≤ 32 := by rw [List.length_map, List.length_range]; exact hm
  have oE := okF_ints ((List.range (akF ds)).map fun i : Nat => bigF (dv ds 21 + i) (dv ds 22 + 3 * i)) (by omega)
  have iE : areNum 32 4294967295 (.tup (((List.range (akF ds)).map fun i : Nat => bigF (dv ds 21 + i) (dv ds 22 + 3 * i)).map .int)) = true := areNum_ok hz (by
    intro n hn
    obtain ⟨i, _, rfl⟩ := List.mem_map.mp hn
    exact bigF_le _ _)
  refine ⟨[.int (bigF (dv ds 8) (dv ds 9)), .tup (((List.range (akF ds)).map fun i : Nat => bigF (dv ds 21 + i) (dv ds 22 + 3 * i)).map .int)], fun k st => ?_, ?_, ?_⟩
  · show pr.cf (k + 2) i__law_chunk [.int 5, .lst (ds.map .int)] st = .ok (.tup (.str "ack" :: [.int (bigF (dv ds 8) (dv ds 9)), .tup (((List.range (akF ds)).map fun i : Nat => bigF (dv ds 21 + i) (dv ds 22 + 3 * i)).map .int)])) st
    have a5 : ∀ st, pr.cf (k + 1) i__law_places [.lst (ds.map .int), .int 0] st = _ := fun st => a5 k st
    have b5 : ∀ st, pr.cf (k + 1) i__law_places [.lst (ds.map .int), .int 12] st = _ := fun st => b5 k st
    have c3 : ∀ st, pr.cf (k + 1) i__law_codes [.lst (ds.map .int), .int 22, .int 400] st = _ := fun st => c3 k st
    have d3 : ∀ st, pr.cf (k + 1) i__law_codes [.lst (ds.map .int), .int 21, .int 200] st = _ := fun st => d3 k st
    have bE := bigE k
    have g8 : atI (ds.map Val.int) 8 = some (.int (dv ds 8)) := dv_at ds 8 (by omega)
    have g9 : atI (ds.map Val.int) 9 = some (.int (dv ds 9)) := dv_at ds 9 (by omega)
    have g10 : atI (ds.map Val.int) 10 = some (.int (dv ds 10)) := dv_at ds 10 (by omega)
    have g11 : atI (ds.map Val.int) 11 = some (.int (dv ds 11)) := dv_at ds 11 (by omega)
    have g20 : atI (ds.map Val.int) 20 = some (.int (dv ds 20)) := dv_at ds 20 (by omega)
    have g21 : atI (ds.map Val.int) 21 = some (.int (dv ds 21)) := dv_at ds 21 (by omega)
    have g22 : atI (ds.map Val.int) 22 = some (.int (dv ds 22)) := dv_at ds 22 (by omega)
    rw [cf__law_chunk]
    refine kCall_nr rfl (by simp) (s := []) ?_
    unfold runP
    generalize hr : Ss.m _ _ _ _ = r
    have fin' : ∀ (m : Nat) (e : MEnv), akF ds = m → m ≤ 32 → ∀ q, compV (gN 10) tYesM (mCall (pr.cf (k + 1) 16) (mCons (mBin fAdd (mCall (one fInt) (mCons (mBin fIxA (mVar 1) (mC (.int 21))) mNil)) (mVar 10)) (mCons (mBin fAdd (mCall (one fInt) (mCons (mBin fIxA (mVar 1) (mC (.int 22))) mNil)) (mBin fMulA (mC (.int 3)) (mVar 10))) mNil))) (wipeM [some (.int 5), some (.lst (ds.map .int)), some (.tup (nA.map .int)), some (.int (bigF (dv ds 8) (dv ds 9))), some (.int (bigF (dv ds 10) (dv ds 11))), some (.tup [.int (bigF (dv ds 10) (dv ds 11)), .int (bigF (dv ds 8) (dv ds 9)), .tup (nB.map .int)]), some (.int m), none, none, none, none] [10]) (rngL 0 m) [] = q → q = .ok (((List.range (akF ds)).map fun i : Nat => bigF (dv ds 21 + i) (dv ds 22 + 3 * i)).map .int) [] := by
      intro m e hmm hm32 q hC
      obtain rfl := comp_mapq (enc := fun i : Nat => Val.int (0 + (i : Nat))) hC (fun i => .int (bigF (dv ds 21 + i) (dv ds 22 + 3 * i))) (fun i hi => ⟨_, rfl, by
        have hi := List.mem_range.mp hi
        have h9 : -18446744073709551616 < (i : Int) ∧ (i : Int) < 18446744073709551616 := by omega
        simp -implicitDefEqProofs [fEq_v, fNe_v, startM_eq, wipeM, g21, g22, h9, bE]⟩)
      rw [hmm, List.map_map]
      rfl
    by_cases c : dv ds 20 % 30 = 29
    · have hk : akF ds = 32 := by unfold akF; rw [if_pos c]
      have hrl : (rngL 0 32).length ≤ 16777216 := by simp [rngL]
      simp -implicitDefEqProofs [fEq_v, fNe_v, startM_eq, b__law_chunk, a5, b5, c3, d3, bE, g8, g9, g10, g11, g20, c, hrl] at hr
      generalize hC : compV _ _ _ _ _ _ = qc at hr
      obtain rfl := fin' 32 [] hk (by omega) _ hC
      rw [← hr]
      generalize ((List.range (akF ds)).map fun i : Nat => bigF (dv ds 21 + i) (dv ds 22 + 3 * i)) = zz
      simp -implicitDefEqProofs [fEq_v, fNe_v, startM_eq]
    · have c' : (dv ds 20 % 30 == 29) = false := beq_eq_false_iff_ne.mpr c
      obtain ⟨m, hmm⟩ : ∃ m : Nat, dv ds 20 % 4 = m := ⟨(dv ds 20 % 4).toNat, by omega⟩
      have hk : akF ds = m := by unfold akF; rw [if_neg c]; omega
      have hb : -1152921504606846976 ≤ (m : Int) ∧ (m : Int) < 1152921504606846976 := by omega
      have hrl : (rngL 0 m).length ≤ 16777216 := by simp [rngL]; omega
      simp -implicitDefEqProofs [fEq_v, fNe_v, startM_eq, b__law_chunk, a5, b5, c3, d3, bE, g8, g9, g10, g11, g20, c, c', hmm, hb, hrl] at hr
      generalize hC : compV _ _ _ _ _ _ = qc at hr
      obtain rfl := fin' m [] hk (by omega) _ hC
      rw [← hr]
      generalize ((List.range (akF ds)).map fun i : Nat => bigF (dv ds 21 + i) (dv ds 22 + 3 * i)) = zz
      simp -implicitDefEqProofs [fEq_v, fNe_v, startM_eq]
  · rw [isCh_j (by decide) (by decide)]
    simp only [fld, fm, List.getD_eq_getElem?_getD, List.getElem?_cons_succ, List.getElem?_cons_zero, Option.getD_some, List.drop, hF_nil, hF_cons, chk_number, chk_numbers, isNum_big, iE, Bool.and_true]
  · intro x hx
    simp only [List.mem_cons, List.not_mem_nil, or_false] at hx
    rcases hx with rfl | rfl <;> first | exact oE | rfl
end Lw

-- M_k42j
set_option linter.all false
set_option maxRecDepth 100000
set_option maxHeartbeats 4000000
namespace Lw
open PySem PySem.Spec PyProof.Rows L2 ML
-- EV: startM_eq
def Wr : List Val := [.bl true, .non, .str "7", .int (-1), .int 4294967296, .tup [], .lst [.int 1], .tup [.int 256], .tup [.int 1, .int 1], .tup [.int 1, .int 2, .int 3, .int 4, .int 5, .int 6, .int 7]]
theorem Wr_all : (Wr.all fun w => okF w && !isAddr w && !isNum 4294967295 w && !isCookie w) = true := by decide +kernel
theorem pick (L : List Val) (i : Int) (h0 : 0 ≤ i) (h1 : i < L.length) : ∃ w, w ∈ L ∧ atI L i = some w := by
  obtain ⟨n, rfl⟩ : ∃ n : Nat, i = n := ⟨i.toNat, by omega⟩
  have hn : n < L.length := by omega
  exact ⟨L[n], List.getElem_mem hn, atI_some hn⟩
theorem wr (n : Int) : ∃ w, atI [.bl true, .non, .str "7", .int (-1), .int 4294967296, .tup [], .lst [.int 1], .tup [.int 256], .tup [.int 1, .int 1], .tup [.int 1, .int 2, .int 3, .int 4, .int 5, .int 6, .int 7]] (n % 10) = some w ∧ okF w = true ∧ isAddr w = false ∧ isNum 4294967295 w = false ∧ isCookie w = false := by
  obtain ⟨w, hw, h⟩ := pick Wr (n % 10) (by omega) (by show n % 10 < 10; omega)
  have := List.all_eq_true.mp Wr_all w hw
  simp only [Bool.and_eq_true, Bool.not_eq_true'] at this
  exact ⟨w, h, this.1.1.1, this.1.1.2, this.1.2, this.2⟩
theorem okF_cl {v : Val} (h : okF v = true) : cl v = true := by unfold okF at h; rw [Bool.and_eq_true] at h; exact h.2
def Bad (j : Nat) (xs : List Val) : Prop := ∀ n : Int, 0 ≤ n → n < 1000 → ∃ ys : List Val, (∀ k st, pr.cf (k + 1) i__law_bad [.tup (.str (hdn j) :: xs), .int n] st = .ok (.tup (.str (hdn j) :: ys)) st) ∧ isCh (hdn j) ys = false ∧ (∀ y ∈ ys, okF y = true) ∧ ys.length < 20
theorem okF_nr {v : Val} (h : okF v = true) : nr v = true := by unfold okF at h; rw [Bool.and_eq_true, Bool.and_eq_true] at h; exact h.1.2
theorem cls_ok {xs : List Val} (h : ∀ x ∈ xs, okF x = true) : cls xs = true := by
  induction xs with
  | nil => rfl
  | cons x xs ih => rw [ML.cls_cons, okF_cl (h x List.mem_cons_self), ih fun y hy => h y (List.mem_cons_of_mem _ hy)]; rfl
theorem nrs_ok {xs : List Val} (h : ∀ x ∈ xs, okF x = true) : nrs xs = true := by
  induction xs with
  | nil => rfl
  | cons x xs ih => rw [nrs_cons, okF_nr (h x List.mem_cons_self), ih fun y hy => h y (List.mem_cons_of_mem _ hy)]; rfl
theorem bad_0 (xs : List Val) (hc : isCh (hdn 0) xs = true) (ho : ∀ x ∈ xs, okF x = true) : Bad 0 xs := by
  intro n n0 n1
  rw [isCh_j (by decide) (by decide)] at hc
  have hln := hF_len hc
  have hnr := nrs_ok ho
  have hcl := cls_ok ho
  obtain ⟨w, w0, w1, w2, w3, w4⟩ := wr n
  have w6 := okF_cl w1
  have : ∃ x, xs = [x] := by
    match xs, hln with
    | [x], _ => exact ⟨x, rfl⟩
  obtain ⟨x, rfl⟩ := this
  simp only [nrs_cons, ML.cls_cons, Bool.and_eq_true] at hnr hcl
  have i1 : ∀ st, fIn (.str "init") (.tup [.str "init", .str "echo"]) st = .ok (.bl true) st := fun _ => by kernel_rfl
  have i2 : ∀ st, fIn (.str "init") (.tup [.str "addresses_ack", .str "frame_ack"]) st = .ok (.bl false) st := fun _ => by kernel_rfl
  have s0 : (("init" : Str) = "init_ack") = False := eq_false (by decide +kernel)
  have t0 : (("init" : Str) == "init_ack") = false := by decide +kernel
  have s1 : (("init" : Str) = "data") = False := eq_false (by decide +kernel)
  have t1 : (("init" : Str) == "data") = false := by decide +kernel
  have s2 : (("init" : Str) = "ack") = False := eq_false (by decide +kernel)
  have t2 : (("init" : Str) == "ack") = false := by decide +kernel
  have s3 : (("init" : Str) = "addresses") = False := eq_false (by decide +kernel)
  have t3 : (("init" : Str) == "addresses") = false := by decide +kernel
  have s4 : (("init" : Str) = "frame") = False := eq_false (by decide +kernel)
  have t4 : (("init" : Str) == "frame") = false := by decide +kernel
  refine ⟨[w], fun k st => ?_, ?_, ?_, by simp⟩
  · show pr.cf (k + 1) i__law_bad [.tup (.str "init" :: _), .int n] st = .ok (.tup (.str "init" :: [w])) st
    rw [cf__law_bad]
    refine kCall_nr rfl (by simp [hnr]) (s := []) ?_
    unfold runP
    simp -implicitDefEqProofs [fEq_v, fNe_v, startM_eq, b__law_bad, i1, i2, s0, s1, s2, s3, s4, t0, t1, t2, t3, t4, w0, w6, hcl]
  · rw [isCh_j (by decide) (by decide)]
    simp only [fld, fm, List.getD_eq_getElem?_getD, List.getElem?_cons_succ, List.getElem?_cons_zero, Option.getD_some, List.drop, hF_nil, hF_cons, hF_short, hF_long, chk_number, chk_numbers, chk_addresses, chk_cookie, chk_fcodes, w2, w3, w4, Bool.false_and, Bool.and_false]
  · intro y hy
    simp only [List.mem_cons, List.not_mem_nil, or_false] at hy
    rcases hy with rfl <;> first | exact w1 | rfl
theorem bad_2 (xs : List Val) (hc : isCh (hdn 2) xs = true) (ho : ∀ x ∈ xs, okF x = true) : Bad 2 xs := by
  intro n n0 n1
  rw [isCh_j (by decide) (by decide)] at hc
  have hln := hF_len hc
  have hnr := nrs_ok ho
  have hcl := cls_ok ho
  obtain ⟨w, w0, w1, w2, w3, w4⟩ := wr n
  have w6 := okF_cl w1
  have : ∃ x, xs = [x] := by
    match xs, hln with
    | [x], _ => exact ⟨x, rfl⟩
  obtain ⟨x, rfl⟩ := this
  simp only [nrs_cons, ML.cls_cons, Bool.and_eq_true] at hnr hcl
  have i1 : ∀ st, fIn (.str "echo") (.tup [.str "init", .str "echo"]) st = .ok (.bl true) st := fun _ => by kernel_rfl
  have i2 : ∀ st, fIn (.str "echo") (.tup [.str "addresses_ack", .str "frame_ack"]) st = .ok (.bl false) st := fun _ => by kernel_rfl
  have s0 : (("echo" : Str) = "init_ack") = False := eq_false (by decide +kernel)
  have t0 : (("echo" : Str) == "init_ack") = false := by decide +kernel
  have s1 : (("echo" : Str) = "data") = False := eq_false (by decide +kernel)
  have t1 : (("echo" : Str) == "data") = false := by decide +kernel
  have s2 : (("echo" : Str) = "ack") = False := eq_false (by decide +kernel)
  have t2 : (("echo" : Str) == "ack") = false := by decide +kernel
  have s3 : (("echo" : Str) = "addresses") = False := eq_false (by decide +kernel)
  have t3 : (("echo" : Str) == "addresses") = false := by decide +kernel
  have s4 : (("echo" : Str) = "frame") = False := eq_false (by decide +kernel)
  have t4 : (("echo" : Str) == "frame") = false := by decide +kernel
  refine ⟨[w], fun k st => ?_, ?_, ?_, by simp⟩
  · show pr.cf (k + 1) i__law_bad [.tup (.str "echo" :: _), .int n] st = .ok (.tup (.str "echo" :: [w])) st
    rw [cf__law_bad]
    refine kCall_nr rfl (by simp [hnr]) (s := []) ?_
    unfold runP
    simp -implicitDefEqProofs [fEq_v, fNe_v, startM_eq, b__law_bad, i1, i2, s0, s1, s2, s3, s4, t0, t1, t2, t3, t4, w0, w6, hcl]
  · rw [isCh_j (by decide) (by decide)]
    simp only [fld, fm, List.getD_eq_getElem?_getD, List.getElem?_cons_succ, List.getElem?_cons_zero, Option.getD_some, List.drop, hF_nil, hF_cons, hF_short, hF_long, chk_number, chk_numbers, chk_addresses, chk_cookie, chk_fcodes, w2, w3, w4, Bool.false_and, Bool.and_false]
  · intro y hy
    simp only [List.mem_cons, List.not_mem_nil, or_false] at hy
    rcases hy with rfl <;> first | exact w1 | rfl
theorem bad_9 (xs : List Val) (hc : isCh (hdn 9) xs = true) (ho : ∀ x ∈ xs, okF x = true) : Bad 9 xs := by
  intro n n0 n1
  rw [isCh_j (by decide) (by decide)] at hc
  have hln := hF_len hc
  have hnr := nrs_ok ho
  have hcl := cls_ok ho
  obtain ⟨w, w0, w1, w2, w3, w4⟩ := wr n
  have w6 := okF_cl w1
  have : ∃ x, xs = [x] := by
    match xs, hln with
    | [x], _ => exact ⟨x, rfl⟩
  obtain ⟨x, rfl⟩ := this
  simp only [nrs_cons, ML.cls_cons, Bool.and_eq_true] at hnr hcl
  have i1 : ∀ st, fIn (.str "addresses_ack") (.tup [.str "init", .str "echo"]) st = .ok (.bl false) st := fun _ => by kernel_rfl
  have i2 : ∀ st, fIn (.str "addresses_ack") (.tup [.str "addresses_ack", .str "frame_ack"]) st = .ok (.bl true) st := fun _ => by kernel_rfl
  have s0 : (("addresses_ack" : Str) = "init_ack") = False := eq_false (by decide +kernel)
  have t0 : (("addresses_ack" : Str) == "init_ack") = false := by decide +kernel
  have s1 : (("addresses_ack" : Str) = "data") = False := eq_false (by decide +kernel)
  have t1 : (("addresses_ack" : Str) == "data") = false := by decide +kernel
  have s2 : (("addresses_ack" : Str) = "ack") = False := eq_false (by decide +kernel)
  have t2 : (("addresses_ack" : Str) == "ack") = false := by decide +kernel
  have s3 : (("addresses_ack" : Str) = "addresses") = False := eq_false (by decide +kernel)
  have t3 : (("addresses_ack" : Str) == "addresses") = false := by decide +kernel
  have s4 : (("addresses_ack" : Str) = "frame") = False := eq_false (by decide +kernel)
  have t4 : (("addresses_ack" : Str) == "frame") = false := by decide +kernel
  refine ⟨[w], fun k st => ?_, ?_, ?_, by simp⟩
  · show pr.cf (k + 1) i__law_bad [.tup (.str "addresses_ack" :: _), .int n] st = .ok (.tup (.str "addresses_ack" :: [w])) st
    rw [cf__law_bad]
    refine kCall_nr rfl (by simp [hnr]) (s := []) ?_
    unfold runP
    simp -implicitDefEqProofs [fEq_v, fNe_v, startM_eq, b__law_bad, i1, i2, s0, s1, s2, s3, s4, t0, t1, t2, t3, t4, w0, w6, hcl]
  · rw [isCh_j (by decide) (by decide)]
    simp only [fld, fm, List.getD_eq_getElem?_getD, List.getElem?_cons_succ, List.getElem?_cons_zero, Option.getD_some, List.drop, hF_nil, hF_cons, hF_short, hF_long, chk_number, chk_numbers, chk_addresses, chk_cookie, chk_fcodes, w2, w3, w4, Bool.false_and, Bool.and_false]
  · intro y hy
    simp only [List.mem_cons, List.not_mem_nil, or_false] at hy
    rcases hy with rfl <;> first | exact w1 | rfl
theorem bad_16 (xs : List Val) (hc : isCh (hdn 16) xs = true) (ho : ∀ x ∈ xs, okF x = true) : Bad 16 xs := by
  intro n n0 n1
  rw [isCh_j (by decide) (by decide)] at hc
  have hln := hF_len hc
  have hnr := nrs_ok ho
  have hcl := cls_ok ho
  obtain ⟨w, w0, w1, w2, w3, w4⟩ := wr n
  have w6 := okF_cl w1
  have : ∃ x, xs = [x] := by
    match xs, hln with
    | [x], _ => exact ⟨x, rfl⟩
  obtain ⟨x, rfl⟩ := this
  simp only [nrs_cons, ML.cls_cons, Bool.and_eq_true] at hnr hcl
  have i1 : ∀ st, fIn (.str "frame_ack") (.tup [.str "init", .str "echo"]) st = .ok (.bl false) st := fun _ => by kernel_rfl
  have i2 : ∀ st, fIn (.str "frame_ack") (.tup [.str "addresses_ack", .str "frame_ack"]) st = .ok (.bl true) st := fun _ => by kernel_rfl
  have s0 : (("frame_ack" : Str) = "init_ack") = False := eq_false (by decide +kernel)
  have t0 : (("frame_ack" : Str) == "init_ack") = false := by decide +kernel
  have s1 : (("frame_ack" : Str) = "data") = False := eq_false (by decide +kernel)
  have t1 : (("frame_ack" : Str) == "data") = false := by decide +kernel
  have s2 : (("frame_ack" : Str) = "ack") = False := eq_false (by decide +kernel)
  have t2 : (("frame_ack" : Str) == "ack") = false := by decide +kernel
  have s3 : (("frame_ack" : Str) = "addresses") = False := eq_false (by decide +kernel)
  have t3 : (("frame_ack" : Str) == "addresses") = false := by decide +kernel
  have s4 : (("frame_ack" : Str) = "frame") = False := eq_false (by decide +kernel)
  have t4 : (("frame_ack" : Str) == "frame") = false := by decide +kernel
  refine ⟨[w], fun k st => ?_, ?_, ?_, by simp⟩
  · show pr.cf (k + 1) i__law_bad [.tup (.str "frame_ack" :: _), .int n] st = .ok (.tup (.str "frame_ack" :: [w])) st
    rw [cf__law_bad]
    refine kCall_nr rfl (by simp [hnr]) (s := []) ?_
    unfold runP
    simp -implicitDefEqProofs [fEq_v, fNe_v, startM_eq, b__law_bad, i1, i2, s0, s1, s2, s3, s4, t0, t1, t2, t3, t4, w0, w6, hcl]
  · rw [isCh_j (by decide) (by decide)]
    simp only [fld, fm, List.getD_eq_getElem?_getD, List.getElem?_cons_succ, List.getElem?_cons_zero, Option.getD_some, List.drop, hF_nil, hF_cons, hF_short, hF_long, chk_number, chk_numbers, chk_addresses, chk_cookie, chk_fcodes, w2, w3, w4, Bool.false_and, Bool.and_false]
  · intro y hy
    simp only [List.mem_cons, List.not_mem_nil, or_false] at hy
    rcases hy with rfl <;> first | exact w1 | rfl
theorem bad_3 (xs : List Val) (hc : isCh (hdn 3) xs = true) (ho : ∀ x ∈ xs, okF x = true) : Bad 3 xs := by
  intro n n0 n1
  rw [isCh_j (by decide) (by decide)] at hc
  have hln := hF_len hc
  have hnr := nrs_ok ho
  have hcl := cls_ok ho
  obtain ⟨w, w0, w1, w2, w3, w4⟩ := wr n
  have w6 := okF_cl w1
  have : xs = [] := by
    match xs, hln with
    | [], _ => rfl
  subst this
  have i1 : ∀ st, fIn (.str "echo_ack") (.tup [.str "init", .str "echo"]) st = .ok (.bl false) st := fun _ => by kernel_rfl
  have i2 : ∀ st, fIn (.str "echo_ack") (.tup [.str "addresses_ack", .str "frame_ack"]) st = .ok (.bl false) st := fun _ => by kernel_rfl
  have s0 : (("echo_ack" : Str) = "init_ack") = False := eq_false (by decide +kernel)
  have t0 : (("echo_ack" : Str) == "init_ack") = false := by decide +kernel
  have s1 : (("echo_ack" : Str) = "data") = False := eq_false (by decide +kernel)
  have t1 : (("echo_ack" : Str) == "data") = false := by decide +kernel
  have s2 : (("echo_ack" : Str) = "ack") = False := eq_false (by decide +kernel)
  have t2 : (("echo_ack" : Str) == "ack") = false := by decide +kernel
  have s3 : (("echo_ack" : Str) = "addresses") = False := eq_false (by decide +kernel)
  have t3 : (("echo_ack" : Str) == "addresses") = false := by decide +kernel
  have s4 : (("echo_ack" : Str) = "frame") = False := eq_false (by decide +kernel)
  have t4 : (("echo_ack" : Str) == "frame") = false := by decide +kernel
  refine ⟨[.int 0], fun k st => ?_, ?_, ?_, by simp⟩
  · show pr.cf (k + 1) i__law_bad [.tup (.str "echo_ack" :: _), .int n] st = .ok (.tup (.str "echo_ack" :: [.int 0])) st
    rw [cf__law_bad]
    refine kCall_nr rfl (by simp [hnr]) (s := []) ?_
    unfold runP
    simp -implicitDefEqProofs [fEq_v, fNe_v, startM_eq, b__law_bad, i1, i2, s0, s1, s2, s3, s4, t0, t1, t2, t3, t4, w0, w6, hcl]
  · rw [isCh_j (by decide) (by decide)]
    simp only [fld, fm, List.getD_eq_getElem?_getD, List.getElem?_cons_succ, List.getElem?_cons_zero, Option.getD_some, List.drop, hF_nil, hF_cons, hF_short, hF_long, chk_number, chk_numbers, chk_addresses, chk_cookie, chk_fcodes, w2, w3, w4, Bool.false_and, Bool.and_false]
  · intro y hy
    simp only [List.mem_cons, List.not_mem_nil, or_false] at hy
    rcases hy with rfl <;> first | exact w1 | rfl
theorem bad_6 (xs : List Val) (hc : isCh (hdn 6) xs = true) (ho : ∀ x ∈ xs, okF x = true) : Bad 6 xs := by
  intro n n0 n1
  rw [isCh_j (by decide) (by decide)] at hc
  have hln := hF_len hc
  have hnr := nrs_ok ho
  have hcl := cls_ok ho
  obtain ⟨w, w0, w1, w2, w3, w4⟩ := wr n
  have w6 := okF_cl w1
  have : xs = [] := by
    match xs, hln with
    | [], _ => rfl
  subst this
  have i1 : ∀ st, fIn (.str "probe") (.tup [.str "init", .str "echo"]) st = .ok (.bl false) st := fun _ => by kernel_rfl
  have i2 : ∀ st, fIn (.str "probe") (.tup [.str "addresses_ack", .str "frame_ack"]) st = .ok (.bl false) st := fun _ => by kernel_rfl
  have s0 : (("probe" : Str) = "init_ack") = False := eq_false (by decide +kernel)
  have t0 : (("probe" : Str) == "init_ack") = false := by decide +kernel
  have s1 : (("probe" : Str) = "data") = False := eq_false (by decide +kernel)
  have t1 : (("probe" : Str) == "data") = false := by decide +kernel
  have s2 : (("probe" : Str) = "ack") = False := eq_false (by decide +kernel)
  have t2 : (("probe" : Str) == "ack") = false := by decide +kernel
  have s3 : (("probe" : Str) = "addresses") = False := eq_false (by decide +kernel)
  have t3 : (("probe" : Str) == "addresses") = false := by decide +kernel
  have s4 : (("probe" : Str) = "frame") = False := eq_false (by decide +kernel)
  have t4 : (("probe" : Str) == "frame") = false := by decide +kernel
  refine ⟨[.int 0], fun k st => ?_, ?_, ?_, by simp⟩
  · show pr.cf (k + 1) i__law_bad [.tup (.str "probe" :: _), .int n] st = .ok (.tup (.str "probe" :: [.int 0])) st
    rw [cf__law_bad]
    refine kCall_nr rfl (by simp [hnr]) (s := []) ?_
    unfold runP
    simp -implicitDefEqProofs [fEq_v, fNe_v, startM_eq, b__law_bad, i1, i2, s0, s1, s2, s3, s4, t0, t1, t2, t3, t4, w0, w6, hcl]
  · rw [isCh_j (by decide) (by decide)]
    simp only [fld, fm, List.getD_eq_getElem?_getD, List.getElem?_cons_succ, List.getElem?_cons_zero, Option.getD_some, List.drop, hF_nil, hF_cons, hF_short, hF_long, chk_number, chk_numbers, chk_addresses, chk_cookie, chk_fcodes, w2, w3, w4, Bool.false_and, Bool.and_false]
  · intro y hy
    simp only [List.mem_cons, List.not_mem_nil, or_false] at hy
    rcases hy with rfl <;> first | exact w1 | rfl
theorem bad_7 (xs : List Val) (hc : isCh (hdn 7) xs = true) (ho : ∀ x ∈ xs, okF x = true) : Bad 7 xs := by
  intro n n0 n1
  rw [isCh_j (by decide) (by decide)] at hc
  have hln := hF_len hc
  have hnr := nrs_ok ho
  have hcl := cls_ok ho
  obtain ⟨w, w0, w1, w2, w3, w4⟩ := wr n
  have w6 := okF_cl w1
  have : xs = [] := by
    match xs, hln with
    | [], _ => rfl
  subst this
  have i1 : ∀ st, fIn (.str "probe_ack") (.tup [.str "init", .str "echo"]) st = .ok (.bl false) st := fun _ => by kernel_rfl
  have i2 : ∀ st, fIn (.str "probe_ack") (.tup [.str "addresses_ack", .str "frame_ack"]) st = .ok (.bl false) st := fun _ => by kernel_rfl
  have s0 : (("probe_ack" : Str) = "init_ack") = False := eq_false (by decide +kernel)
  have t0 : (("probe_ack" : Str) == "init_ack") = false := by decide +kernel
  have s1 : (("probe_ack" : Str) = "data") = False := eq_false (by decide +kernel)
  have t1 : (("probe_ack" : Str) == "data") = false := by decide +kernel
  have s2 : (("probe_ack" : Str) = "ack") = False := eq_false (by decide +kernel)
  have t2 : (("probe_ack" : Str) == "ack") = false := by decide +kernel
  have s3 : (("probe_ack" : Str) = "addresses") = False := eq_false (by decide +kernel)
  have t3 : (("probe_ack" : Str) == "addresses") = false := by decide +kernel
  have s4 : (("probe_ack" : Str) = "frame") = False := eq_false (by decide +kernel)
  have t4 : (("probe_ack" : Str) == "frame") = false := by decide +kernel
  refine ⟨[.int 0], fun k st => ?_, ?_, ?_, by simp⟩
  · show pr.cf (k + 1) i__law_bad [.tup (.str "probe_ack" :: _), .int n] st = .ok (.tup (.str "probe_ack" :: [.int 0])) st
    rw [cf__law_bad]
    refine kCall_nr rfl (by simp [hnr]) (s := []) ?_
    unfold runP
    simp -implicitDefEqProofs [fEq_v, fNe_v, startM_eq, b__law_bad, i1, i2, s0, s1, s2, s3, s4, t0, t1, t2, t3, t4, w0, w6, hcl]
  · rw [isCh_j (by decide) (by decide)]
    simp only [fld, fm, List.getD_eq_getElem?_getD, List.getElem?_cons_succ, List.getElem?_cons_zero, Option.getD_some, List.drop, hF_nil, hF_cons, hF_short, hF_long, chk_number, chk_numbers, chk_addresses, chk_cookie, chk_fcodes, w2, w3, w4, Bool.false_and, Bool.and_false]
  · intro y hy
    simp only [List.mem_cons, List.not_mem_nil, or_false] at hy
    rcases hy with rfl <;> first | exact w1 | rfl
theorem bad_10 (xs : List Val) (hc : isCh (hdn 10) xs = true) (ho : ∀ x ∈ xs, okF x = true) : Bad 10 xs := by
  intro n n0 n1
  rw [isCh_j (by decide) (by decide)] at hc
  have hln := hF_len hc
  have hnr := nrs_ok ho
  have hcl := cls_ok ho
  obtain ⟨w, w0, w1, w2, w3, w4⟩ := wr n
  have w6 := okF_cl w1
  have : xs = [] := by
    match xs, hln with
    | [], _ => rfl
  subst this
  have i1 : ∀ st, fIn (.str "gone") (.tup [.str "init", .str "echo"]) st = .ok (.bl false) st := fun _ => by kernel_rfl
  have i2 : ∀ st, fIn (.str "gone") (.tup [.str "addresses_ack", .str "frame_ack"]) st = .ok (.bl false) st := fun _ => by kernel_rfl
  have s0 : (("gone" : Str) = "init_ack") = False := eq_false (by decide +kernel)
  have t0 : (("gone" : Str) == "init_ack") = false := by decide +kernel
  have s1 : (("gone" : Str) = "data") = False := eq_false (by decide +kernel)
  have t1 : (("gone" : Str) == "data") = false := by decide +kernel
  have s2 : (("gone" : Str) = "ack") = False := eq_false (by decide +kernel)
  have t2 : (("gone" : Str) == "ack") = false := by decide +kernel
  have s3 : (("gone" : Str) = "addresses") = False := eq_false (by decide +kernel)
  have t3 : (("gone" : Str) == "addresses") = false := by decide +kernel
  have s4 : (("gone" : Str) = "frame") = False := eq_false (by decide +kernel)
  have t4 : (("gone" : Str) == "frame") = false := by decide +kernel
  refine ⟨[.int 0], fun k st => ?_, ?_, ?_, by simp⟩
  · show pr.cf (k + 1) i__law_bad [.tup (.str "gone" :: _), .int n] st = .ok (.tup (.str "gone" :: [.int 0])) st
    rw [cf__law_bad]
    refine kCall_nr rfl (by simp [hnr]) (s := []) ?_
    unfold runP
    simp -implicitDefEqProofs [fEq_v, fNe_v, startM_eq, b__law_bad, i1, i2, s0, s1, s2, s3, s4, t0, t1, t2, t3, t4, w0, w6, hcl]
  · rw [isCh_j (by decide) (by decide)]
    simp only [fld, fm, List.getD_eq_getElem?_getD, List.getElem?_cons_succ, List.getElem?_cons_zero, Option.getD_some, List.drop, hF_nil, hF_cons, hF_short, hF_long, chk_number, chk_numbers, chk_addresses, chk_cookie, chk_fcodes, w2, w3, w4, Bool.false_and, Bool.and_false]
  · intro y hy
    simp only [List.mem_cons, List.not_mem_nil, or_false] at hy
    rcases hy with rfl <;> first | exact w1 | rfl
theorem bad_11 (xs : List Val) (hc : isCh (hdn 11) xs = true) (ho : ∀ x ∈ xs, okF x = true) : Bad 11 xs := by
  intro n n0 n1
  rw [isCh_j (by decide) (by decide)] at hc
  have hln := hF_len hc
  have hnr := nrs_ok ho
  have hcl := cls_ok ho
  obtain ⟨w, w0, w1, w2, w3, w4⟩ := wr n
  have w6 := okF_cl w1
  have : xs = [] := by
    match xs, hln with
    | [], _ => rfl
  subst this
  have i1 : ∀ st, fIn (.str "abort") (.tup [.str "init", .str "echo"]) st = .ok (.bl false) st := fun _ => by kernel_rfl
  have i2 : ∀ st, fIn (.str "abort") (.tup [.str "addresses_ack", .str "frame_ack"]) st = .ok (.bl false) st := fun _ => by kernel_rfl
  have s0 : (("abort" : Str) = "init_ack") = False := eq_false (by decide +kernel)
  have t0 : (("abort" : Str) == "init_ack") = false := by decide +kernel
  have s1 : (("abort" : Str) = "data") = False := eq_false (by decide +kernel)
  have t1 : (("abort" : Str) == "data") = false := by decide +kernel
  have s2 : (("abort" : Str) = "ack") = False := eq_false (by decide +kernel)
  have t2 : (("abort" : Str) == "ack") = false := by decide +kernel
  have s3 : (("abort" : Str) = "addresses") = False := eq_false (by decide +kernel)
  have t3 : (("abort" : Str) == "addresses") = false := by decide +kernel
  have s4 : (("abort" : Str) = "frame") = False := eq_false (by decide +kernel)
  have t4 : (("abort" : Str) == "frame") = false := by decide +kernel
  refine ⟨[.int 0], fun k st => ?_, ?_, ?_, by simp⟩
  · show pr.cf (k + 1) i__law_bad [.tup (.str "abort" :: _), .int n] st = .ok (.tup (.str "abort" :: [.int 0])) st
    rw [cf__law_bad]
    refine kCall_nr rfl (by simp [hnr]) (s := []) ?_
    unfold runP
    simp -implicitDefEqProofs [fEq_v, fNe_v, startM_eq, b__law_bad, i1, i2, s0, s1, s2, s3, s4, t0, t1, t2, t3, t4, w0, w6, hcl]
  · rw [isCh_j (by decide) (by decide)]
    simp only [fld, fm, List.getD_eq_getElem?_getD, List.getElem?_cons_succ, List.getElem?_cons_zero, Option.getD_some, List.drop, hF_nil, hF_cons, hF_short, hF_long, chk_number, chk_numbers, chk_addresses, chk_cookie, chk_fcodes, w2, w3, w4, Bool.false_and, Bool.and_false]
  · intro y hy
    simp only [List.mem_cons, List.not_mem_nil, or_false] at hy
    rcases hy with rfl <;> first | exact w1 | rfl
theorem bad_12 (xs : List Val) (hc : isCh (hdn 12) xs = true) (ho : ∀ x ∈ xs, okF x = true) : Bad 12 xs := by
  intro n n0 n1
  rw [isCh_j (by decide) (by decide)] at hc
  have hln := hF_len hc
  have hnr := nrs_ok ho
  have hcl := cls_ok ho
  obtain ⟨w, w0, w1, w2, w3, w4⟩ := wr n
  have w6 := okF_cl w1
  have : xs = [] := by
    match xs, hln with
    | [], _ => rfl
  subst this
  have i1 : ∀ st, fIn (.str "shutdown") (.tup [.str "init", .str "echo"]) st = .ok (.bl false) st := fun _ => by kernel_rfl
  have i2 : ∀ st, fIn (.str "shutdown") (.tup [.str "addresses_ack", .str "frame_ack"]) st = .ok (.bl false) st := fun _ => by kernel_rfl
  have s0 : (("shutdown" : Str) = "init_ack") = False := eq_false (by decide +kernel)
  have t0 : (("shutdown" : Str) == "init_ack") = false := by decide +kernel
  have s1 : (("shutdown" : Str) = "data") = False := eq_false (by decide +kernel)
  have t1 : (("shutdown" : Str) == "data") = false := by decide +kernel
  have s2 : (("shutdown" : Str) = "ack") = False := eq_false (by decide +kernel)
  have t2 : (("shutdown" : Str) == "ack") = false := by decide +kernel
  have s3 : (("shutdown" : Str) = "addresses") = False := eq_false (by decide +kernel)
  have t3 : (("shutdown" : Str) == "addresses") = false := by decide +kernel
  have s4 : (("shutdown" : Str) = "frame") = False := eq_false (by decide +kernel)
  have t4 : (("shutdown" : Str) == "frame") = false := by decide +kernel
  refine ⟨[.int 0], fun k st => ?_, ?_, ?_, by simp⟩
  · show pr.cf (k + 1) i__law_bad [.tup (.str "shutdown" :: _), .int n] st = .ok (.tup (.str "shutdown" :: [.int 0])) st
    rw [cf__law_bad]
    refine kCall_nr rfl (by simp [hnr]) (s := []) ?_
    unfold runP
    simp -implicitDefEqProofs [fEq_v, fNe_v, startM_eq, b__law_bad, i1, i2, s0, s1, s2, s3, s4, t0, t1, t2, t3, t4, w0, w6, hcl]
  · rw [isCh_j (by decide) (by decide)]
    simp only [fld, fm, List.getD_eq_getElem?_getD, List.getElem?_cons_succ, List.getElem?_cons_zero, Option.getD_some, List.drop, hF_nil, hF_cons, hF_short, hF_long, chk_number, chk_numbers, chk_addresses, chk_cookie, chk_fcodes, w2, w3, w4, Bool.false_and, Bool.and_false]
  · intro y hy
    simp only [List.mem_cons, List.not_mem_nil, or_false] at hy
    rcases hy with rfl <;> first | exact w1 | rfl
theorem bad_13 (xs : List Val) (hc : isCh (hdn 13) xs = true) (ho : ∀ x ∈ xs, okF x = true) : Bad 13 xs := by
  intro n n0 n1
  rw [isCh_j (by decide) (by decide)] at hc
  have hln := hF_len hc
  have hnr := nrs_ok ho
  have hcl := cls_ok ho
  obtain ⟨w, w0, w1, w2, w3, w4⟩ := wr n
  have w6 := okF_cl w1
  have : xs = [] := by
    match xs, hln with
    | [], _ => rfl
  subst this
  have i1 : ∀ st, fIn (.str "shutdown_ack") (.tup [.str "init", .str "echo"]) st = .ok (.bl false) st := fun _ => by kernel_rfl
  have i2 : ∀ st, fIn (.str "shutdown_ack") (.tup [.str "addresses_ack", .str "frame_ack"]) st = .ok (.bl false) st := fun _ => by kernel_rfl
  have s0 : (("shutdown_ack" : Str) = "init_ack") = False := eq_false (by decide +kernel)
  have t0 : (("shutdown_ack" : Str) == "init_ack") = false := by decide +kernel
  have s1 : (("shutdown_ack" : Str) = "data") = False := eq_false (by decide +kernel)
  have t1 : (("shutdown_ack" : Str) == "data") = false := by decide +kernel
  have s2 : (("shutdown_ack" : Str) = "ack") = False := eq_false (by decide +kernel)
  have t2 : (("shutdown_ack" : Str) == "ack") = false := by decide +kernel
  have s3 : (("shutdown_ack" : Str) = "addresses") = False := eq_false (by decide +kernel)
  have t3 : (("shutdown_ack" : Str) == "addresses") = false := by decide +kernel
  have s4 : (("shutdown_ack" : Str) = "frame") = False := eq_false (by decide +kernel)
  have t4 : (("shutdown_ack" : Str) == "frame") = false := by decide +kernel
  refine ⟨[.int 0], fun k st => ?_, ?_, ?_, by simp⟩
  · show pr.cf (k + 1) i__law_bad [.tup (.str "shutdown_ack" :: _), .int n] st = .ok (.tup (.str "shutdown_ack" :: [.int 0])) st
    rw [cf__law_bad]
    refine kCall_nr rfl (by simp [hnr]) (s := []) ?_
    unfold runP
    simp -implicitDefEqProofs [fEq_v, fNe_v, startM_eq, b__law_bad, i1, i2, s0, s1, s2, s3, s4, t0, t1, t2, t3, t4, w0, w6, hcl]
  · rw [isCh_j (by decide) (by decide)]
    simp only [fld, fm, List.getD_eq_getElem?_getD, List.getElem?_cons_succ, List.getElem?_cons_zero, Option.getD_some, List.drop, hF_nil, hF_cons, hF_short, hF_long, chk_number, chk_numbers, chk_addresses, chk_cookie, chk_fcodes, w2, w3, w4, Bool.false_and, Bool.and_false]
  · intro y hy
    simp only [List.mem_cons, List.not_mem_nil, or_false] at hy
    rcases hy with rfl <;> first | exact w1 | rfl
theorem bad_14 (xs : List Val) (hc : isCh (hdn 14) xs = true) (ho : ∀ x ∈ xs, okF x = true) : Bad 14 xs := by
  intro n n0 n1
  rw [isCh_j (by decide) (by decide)] at hc
  have hln := hF_len hc
  have hnr := nrs_ok ho
  have hcl := cls_ok ho
  obtain ⟨w, w0, w1, w2, w3, w4⟩ := wr n
  have w6 := okF_cl w1
  have : xs = [] := by
    match xs, hln with
    | [], _ => rfl
  subst this
  have i1 : ∀ st, fIn (.str "shutdown_done") (.tup [.str "init", .str "echo"]) st = .ok (.bl false) st := fun _ => by kernel_rfl
  have i2 : ∀ st, fIn (.str "shutdown_done") (.tup [.str "addresses_ack", .str "frame_ack"]) st = .ok (.bl false) st := fun _ => by kernel_rfl
  have s0 : (("shutdown_done" : Str) = "init_ack") = False := eq_false (by decide +kernel)
  have t0 : (("shutdown_done" : Str) == "init_ack") = false := by decide +kernel
  have s1 : (("shutdown_done" : Str) = "data") = False := eq_false (by decide +kernel)
  have t1 : (("shutdown_done" : Str) == "data") = false := by decide +kernel
  have s2 : (("shutdown_done" : Str) = "ack") = False := eq_false (by decide +kernel)
  have t2 : (("shutdown_done" : Str) == "ack") = false := by decide +kernel
  have s3 : (("shutdown_done" : Str) = "addresses") = False := eq_false (by decide +kernel)
  have t3 : (("shutdown_done" : Str) == "addresses") = false := by decide +kernel
  have s4 : (("shutdown_done" : Str) = "frame") = False := eq_false (by decide +kernel)
  have t4 : (("shutdown_done" : Str) == "frame") = false := by decide +kernel
  refine ⟨[.int 0], fun k st => ?_, ?_, ?_, by simp⟩
  · show pr.cf (k + 1) i__law_bad [.tup (.str "shutdown_done" :: _), .int n] st = .ok (.tup (.str "shutdown_done" :: [.int 0])) st
    rw [cf__law_bad]
    refine kCall_nr rfl (by simp [hnr]) (s := []) ?_
    unfold runP
    simp -implicitDefEqProofs [fEq_v, fNe_v, startM_eq, b__law_bad, i1, i2, s0, s1, s2, s3, s4, t0, t1, t2, t3, t4, w0, w6, hcl]
  · rw [isCh_j (by decide) (by decide)]
    simp only [fld, fm, List.getD_eq_getElem?_getD, List.getElem?_cons_succ, List.getElem?_cons_zero, Option.getD_some, List.drop, hF_nil, hF_cons, hF_short, hF_long, chk_number, chk_numbers, chk_addresses, chk_cookie, chk_fcodes, w2, w3, w4, Bool.false_and, Bool.and_false]
  · intro y hy
    simp only [List.mem_cons, List.not_mem_nil, or_false] at hy
    rcases hy with rfl <;> first | exact w1 | rfl
theorem bad_8 (xs : List Val) (hc : isCh (hdn 8) xs = true) (ho : ∀ x ∈ xs, okF x = true) : Bad 8 xs := by
  intro n n0 n1
  rw [isCh_j (by decide) (by decide)] at hc
  have hln := hF_len hc
  have hnr := nrs_ok ho
  have hcl := cls_ok ho
  obtain ⟨w, w0, w1, w2, w3, w4⟩ := wr n
  have w6 := okF_cl w1
  have : ∃ x y, xs = [x, y] := by
    match xs, hln with
    | [x, y], _ => exact ⟨x, y, rfl⟩
  obtain ⟨x, y, rfl⟩ := this
  have ox := ho x (by simp)
  have oy := ho y (by simp)
  simp only [nrs_cons, ML.cls_cons, Bool.and_eq_true] at hnr hcl
  by_cases c : n / 10 % 2 = 0
  · have i1 : ∀ st, fIn (.str "addresses") (.tup [.str "init", .str "echo"]) st = .ok (.bl false) st := fun _ => by kernel_rfl
    have i2 : ∀ st, fIn (.str "addresses") (.tup [.str "addresses_ack", .str "frame_ack"]) st = .ok (.bl false) st := fun _ => by kernel_rfl
    have s0 : (("addresses" : Str) = "init_ack") = False := eq_false (by decide +kernel)
    have t0 : (("addresses" : Str) == "init_ack") = false := by decide +kernel
    have s1 : (("addresses" : Str) = "data") = False := eq_false (by decide +kernel)
    have t1 : (("addresses" : Str) == "data") = false := by decide +kernel
    have s2 : (("addresses" : Str) = "ack") = False := eq_false (by decide +kernel)
    have t2 : (("addresses" : Str) == "ack") = false := by decide +kernel
    have s3 : (("addresses" : Str) = "addresses") = True := eq_true rfl
    have t3 : (("addresses" : Str) == "addresses") = true := by decide +kernel
    have s4 : (("addresses" : Str) = "frame") = False := eq_false (by decide +kernel)
    have t4 : (("addresses" : Str) == "frame") = false := by decide +kernel
    refine ⟨[w, y], fun k st => ?_, ?_, ?_, by simp⟩
    · show pr.cf (k + 1) i__law_bad [.tup (.str "addresses" :: _), .int n] st = .ok (.tup (.str "addresses" :: [w, y])) st
      rw [cf__law_bad]
      refine kCall_nr rfl (by simp [hnr]) (s := []) ?_
      unfold runP
      simp -implicitDefEqProofs [fEq_v, fNe_v, startM_eq, b__law_bad, i1, i2, s0, s1, s2, s3, s4, t0, t1, t2, t3, t4, w0, w6, hcl, c]
    · rw [isCh_j (by decide) (by decide)]
      simp only [fld, fm, List.getD_eq_getElem?_getD, List.getElem?_cons_succ, List.getElem?_cons_zero, Option.getD_some, List.drop, hF_nil, hF_cons, hF_short, hF_long, chk_number, chk_numbers, chk_addresses, chk_cookie, chk_fcodes, w2, w3, w4, Bool.false_and, Bool.and_false]
    · intro y hy
      simp only [List.mem_cons, List.not_mem_nil, or_false] at hy
      rcases hy with rfl | rfl <;> first | exact w1 | rfl | exact oy
  · have c' : (n / 10 % 2 == 0) = false := beq_eq_false_iff_ne.mpr c
    have i1 : ∀ st, fIn (.str "addresses") (.tup [.str "init", .str "echo"]) st = .ok (.bl false) st := fun _ => by kernel_rfl
    have i2 : ∀ st, fIn (.str "addresses") (.tup [.str "addresses_ack", .str "frame_ack"]) st = .ok (.bl false) st := fun _ => by kernel_rfl
    have s0 : (("addresses" : Str) = "init_ack") = False := eq_false (by decide +kernel)
    have t0 : (("addresses" : Str) == "init_ack") = false := by decide +kernel
    have s1 : (("addresses" : Str) = "data") = False := eq_false (by decide +kernel)
    have t1 : (("addresses" : Str) == "data") = false := by decide +kernel
    have s2 : (("addresses" : Str) = "ack") = False := eq_false (by decide +kernel)
    have t2 : (("addresses" : Str) == "ack") = false := by decide +kernel
    have s3 : (("addresses" : Str) = "addresses") = True := eq_true rfl
    have t3 : (("addresses" : Str) == "addresses") = true := by decide +kernel
    have s4 : (("addresses" : Str) = "frame") = False := eq_false (by decide +kernel)
    have t4 : (("addresses" : Str) == "frame") = false := by decide +kernel
    refine ⟨[x, w], fun k st => ?_, ?_, ?_, by simp⟩
    · show pr.cf (k + 1) i__law_bad [.tup (.str "addresses" :: _), .int n] st = .ok (.tup (.str "addresses" :: [x, w])) st
      rw [cf__law_bad]
      refine kCall_nr rfl (by simp [hnr]) (s := []) ?_
      unfold runP
      simp -implicitDefEqProofs [fEq_v, fNe_v, startM_eq, b__law_bad, i1, i2, s0, s1, s2, s3, s4, t0, t1, t2, t3, t4, w0, w6, hcl, c, c']
    · rw [isCh_j (by decide) (by decide)]
      simp only [fld, fm, List.getD_eq_getElem?_getD, List.getElem?_cons_succ, List.getElem?_cons_zero, Option.getD_some, List.drop, hF_nil, hF_cons, hF_short, hF_long, chk_number, chk_numbers, chk_addresses, chk_cookie, chk_fcodes, w2, w3, w4, Bool.false_and, Bool.and_false]
    · intro y hy
      simp only [List.mem_cons, List.not_mem_nil, or_false] at hy
      rcases hy with rfl | rfl <;> first | exact w1 | rfl | exact ox
theorem bad_1 (xs : List Val) (hc : isCh (hdn 1) xs = true) (ho : ∀ x ∈ xs, okF x = true) : Bad 1 xs := by
  intro n n0 n1
  rw [isCh_j (by decide) (by decide)] at hc
  have hln := hF_len hc
  have hnr := nrs_ok ho
  have hcl := cls_ok ho
  obtain ⟨w, w0, w1, w2, w3, w4⟩ := wr n
  have w6 := okF_cl w1
  have : ∃ x y, xs = [x, y] := by
    match xs, hln with
    | [x, y], _ => exact ⟨x, y, rfl⟩
  obtain ⟨x, y, rfl⟩ := this
  have ox := ho x (by simp)
  have oy := ho y (by simp)
  have : ∃ a b d, y = .tup [a, b, d] := by
    simp only [fld, fm, List.getD_eq_getElem?_getD, List.getElem?_cons_succ, List.getElem?_cons_zero, Option.getD_some, List.drop, hF_nil, hF_cons, chk_addresses, chk_cookie, Bool.and_eq_true] at hc
    have hc := hc.2.1
    unfold isCookie at hc
    split at hc
    · exact ⟨_, _, _, rfl⟩
    · cases hc
  obtain ⟨a, b, d, rfl⟩ := this
  simp only [nrs_cons, nr_tup, ML.cls_cons, cl_tup, Bool.and_eq_true] at hnr hcl
  have ow : okF (.tup [a, w, d]) = true := by
    unfold okF at oy w1 ⊢
    simp only [aF, nr_tup, nrs_cons, cl_tup, ML.cls_cons, List.all_cons, List.all_nil, Bool.and_eq_true] at oy w1 ⊢
    exact ⟨⟨⟨⟨oy.1.1.1.1, ⟨⟨aF_aT w1.1.1, w1.1.2⟩, oy.1.1.1.2.2⟩⟩, by simp⟩, ⟨oy.1.2.1, w1.1.2, oy.1.2.2.2⟩⟩, ⟨oy.2.1, w1.2, oy.2.2.2⟩⟩
  have w5 : isCookie (.tup [a, w, d]) = false := by simp only [isCookie, w3, Bool.and_false, Bool.false_and]
  by_cases c : n / 10 % 2 = 0
  · have i1 : ∀ st, fIn (.str "init_ack") (.tup [.str "init", .str "echo"]) st = .ok (.bl false) st := fun _ => by kernel_rfl
    have i2 : ∀ st, fIn (.str "init_ack") (.tup [.str "addresses_ack", .str "frame_ack"]) st = .ok (.bl false) st := fun _ => by kernel_rfl
    have s0 : (("init_ack" : Str) = "init_ack") = True := eq_true rfl
    have t0 : (("init_ack" : Str) == "init_ack") = true := by decide +kernel
    have s1 : (("init_ack" : Str) = "data") = False := eq_false (by decide +kernel)
    have t1 : (("init_ack" : Str) == "data") = false := by decide +kernel
    have s2 : (("init_ack" : Str) = "ack") = False := eq_false (by decide +kernel)
    have t2 : (("init_ack" : Str) == "ack") = false := by decide +kernel
    have s3 : (("init_ack" : Str) = "addresses") = False := eq_false (by decide +kernel)
    have t3 : (("init_ack" : Str) == "addresses") = false := by decide +kernel
    have s4 : (("init_ack" : Str) = "frame") = False := eq_false (by decide +kernel)
    have t4 : (("init_ack" : Str) == "frame") = false := by decide +kernel
    refine ⟨[w, .tup [a, b, d]], fun k st => ?_, ?_, ?_, by simp⟩
    · show pr.cf (k + 1) i__law_bad [.tup (.str "init_ack" :: _), .int n] st = .ok (.tup (.str "init_ack" :: [w, .tup [a, b, d]])) st
      rw [cf__law_bad]
      refine kCall_nr rfl (by simp [hnr]) (s := []) ?_
      unfold runP
      simp -implicitDefEqProofs [fEq_v, fNe_v, startM_eq, b__law_bad, i1, i2, s0, s1, s2, s3, s4, t0, t1, t2, t3, t4, w0, w6, hcl, c]
    · rw [isCh_j (by decide) (by decide)]
      simp only [fld, fm, List.getD_eq_getElem?_getD, List.getElem?_cons_succ, List.getElem?_cons_zero, Option.getD_some, List.drop, hF_nil, hF_cons, hF_short, hF_long, chk_number, chk_numbers, chk_addresses, chk_cookie, chk_fcodes, w2, w3, w4, Bool.false_and, Bool.and_false]
    · intro y hy
      simp only [List.mem_cons, List.not_mem_nil, or_false] at hy
      rcases hy with rfl | rfl <;> first | exact w1 | rfl | exact oy
  · have c' : (n / 10 % 2 == 0) = false := beq_eq_false_iff_ne.mpr c
    have i1 : ∀ st, fIn (.str "init_ack") (.tup [.str "init", .str "echo"]) st = .ok (.bl false) st := fun _ => by kernel_rfl
    have i2 : ∀ st, fIn (.str "init_ack") (.tup [.str "addresses_ack", .str "frame_ack"]) st = .ok (.bl false) st := fun _ => by kernel_rfl
    have s0 : (("init_ack" : Str) = "init_ack") = True := eq_true rfl
    have t0 : (("init_ack" : Str) == "init_ack") = true := by decide +kernel
    have s1 : (("init_ack" : Str) = "data") = False := eq_false (by decide +kernel)
    have t1 : (("init_ack" : Str) == "data") = false := by decide +kernel
    have s2 : (("init_ack" : Str) = "ack") = False := eq_false (by decide +kernel)
    have t2 : (("init_ack" : Str) == "ack") = false := by decide +kernel
    have s3 : (("init_ack" : Str) = "addresses") = False := eq_false (by decide +kernel)
    have t3 : (("init_ack" : Str) == "addresses") = false := by decide +kernel
    have s4 : (("init_ack" : Str) = "frame") = False := eq_false (by decide +kernel)
    have t4 : (("init_ack" : Str) == "frame") = false := by decide +kernel
    refine ⟨[x, .tup [a, w, d]], fun k st => ?_, ?_, ?_, by simp⟩
    · show pr.cf (k + 1) i__law_bad [.tup (.str "init_ack" :: _), .int n] st = .ok (.tup (.str "init_ack" :: [x, .tup [a, w, d]])) st
      rw [cf__law_bad]
      refine kCall_nr rfl (by simp [hnr]) (s := []) ?_
      unfold runP
      simp -implicitDefEqProofs [fEq_v, fNe_v, startM_eq, b__law_bad, i1, i2, s0, s1, s2, s3, s4, t0, t1, t2, t3, t4, w0, w6, hcl, c, c']
    · rw [isCh_j (by decide) (by decide)]
      simp only [fld, fm, List.getD_eq_getElem?_getD, List.getElem?_cons_succ, List.getElem?_cons_zero, Option.getD_some, List.drop, hF_nil, hF_cons, hF_short, hF_long, chk_number, chk_numbers, chk_addresses, chk_cookie, chk_fcodes, w2, w3, w4, w5, Bool.false_and, Bool.and_false]
    · intro y hy
      simp only [List.mem_cons, List.not_mem_nil, or_false] at hy
      rcases hy with rfl | rfl <;> first | exact w1 | rfl | exact ox | exact ow
end Lw

-- M_k42k
set_option linter.all false
set_option maxRecDepth 100000
set_option maxHeartbeats 4000000
namespace Lw
open PySem PySem.Spec PyProof.Rows L2 ML
-- EV: startM_eq
theorem pk (L : List Val) (f : Val → Bool) (i : Int) (h : (L.all fun w => okF w && !f w) = true) (h0 : 0 ≤ i) (h1 : i < L.length) : ∃ w, atI L i = some w ∧ okF w = true ∧ f w = false := by
  obtain ⟨w, hw, e⟩ := pick L i h0 h1
  have := List.all_eq_true.mp h w hw
  simp only [Bool.and_eq_true, Bool.not_eq_true'] at this
  exact ⟨w, e, this.1, this.2⟩
theorem areNum_long {l : Nat} {m : Int} {ns : List Int} (h : l < ns.length) : areNum l m (.tup (ns.map .int)) = false := by
  have : ¬ ns.length ≤ l := by omega
  simp [areNum, this]
@[simp] theorem ixN_61 : ixN 6 1 = some 1 := by decide +kernel
@[simp] theorem ixN_62 : ixN 6 2 = some 2 := by decide +kernel
@[simp] theorem ixN_63 : ixN 6 3 = some 3 := by decide +kernel
@[simp] theorem ixN_64 : ixN 6 4 = some 4 := by decide +kernel
@[simp] theorem ixN_51 : ixN 5 1 = some 1 := by decide +kernel
@[simp] theorem ixN_52 : ixN 5 2 = some 2 := by decide +kernel
@[simp] theorem ixN_53 : ixN 5 3 = some 3 := by decide +kernel
@[simp] theorem ixN_54 : ixN 5 4 = some 4 := by decide +kernel
def zs (N : Nat) (z : Int) : List Int := List.replicate N z
theorem zs_len (N z) : (zs N z).length = N := List.length_replicate ..
theorem zeros {te : MEnv → Store → R Val} {g : GM} {env : MEnv} {st : Store} {N : Nat} {z : Int} {q : R (List Val)} (hC : compV g tYesM te env (rngL 0 N) st = q) (h : ∀ i : Nat, ∃ e1, g (.int (0 + (i : Nat))) env = some e1 ∧ te e1 st = .ok (.int z) st) : q = .ok ((zs N z).map .int) st := by
  obtain rfl := comp_mapq (enc := fun i : Nat => Val.int (0 + (i : Nat))) (xs := List.range N) hC (fun _ => .int z) (fun i _ => h i)
  congr 1
  rw [List.map_const', List.length_range, zs, List.map_replicate]
theorem bad_15 (xs : List Val) (hc : isCh (hdn 15) xs = true) (ho : ∀ x ∈ xs, okF x = true) : Bad 15 xs := by
  intro n n0 n1
  rw [isCh_j (by decide) (by decide)] at hc
  have hln := hF_len hc
  have hnr := nrs_ok ho
  have hcl := cls_ok ho
  obtain ⟨w, w0, w1, w2, w3, w4⟩ := wr n
  have w6 := okF_cl w1
  have : ∃ x1 x2 x3 x4 x5, xs = [x1, x2, x3, x4, x5] := by
    match xs, hln with
    | [a, b, c, d, e], _ => exact ⟨a, b, c, d, e, rfl⟩
  obtain ⟨x1, x2, x3, x4, x5, rfl⟩ := this
  have o1 := ho x1 (by simp)
  have o2 := ho x2 (by simp)
  have o3 := ho x3 (by simp)
  have o4 := ho x4 (by simp)
  have o5 := ho x5 (by simp)
  simp only [nrs_cons, ML.cls_cons, Bool.and_eq_true] at hnr hcl
  have i1 : ∀ st, fIn (.str "frame") (.tup [.str "init", .str "echo"]) st = .ok (.bl false) st := fun _ => by kernel_rfl
  have i2 : ∀ st, fIn (.str "frame") (.tup [.str "addresses_ack", .str "frame_ack"]) st = .ok (.bl false) st := fun _ => by kernel_rfl
  have s0 : (("frame" : Str) = "init_ack") = False := eq_false (by decide +kernel)
  have t0 : (("frame" : Str) == "init_ack") = false := by decide +kernel
  have s1 : (("frame" : Str) = "data") = False := eq_false (by decide +kernel)
  have t1 : (("frame" : Str) == "data") = false := by decide +kernel
  have s2 : (("frame" : Str) = "ack") = False := eq_false (by decide +kernel)
  have t2 : (("frame" : Str) == "ack") = false := by decide +kernel
  have s3 : (("frame" : Str) = "addresses") = False := eq_false (by decide +kernel)
  have t3 : (("frame" : Str) == "addresses") = false := by decide +kernel
  have s4 : (("frame" : Str) = "frame") = True := eq_true rfl
  have t4 : (("frame" : Str) == "frame") = true := by decide +kernel
  have hp : n / 10 % 4 = 0 ∨ n / 10 % 4 = 1 ∨ n / 10 % 4 = 2 ∨ n / 10 % 4 = 3 := by omega
  by_cases c : n / 40 % 3 = 0
  · have oz := okF_ints (zs 10001 0) (by rw [zs_len]; decide)
    have wz : areNum 10000 255 (.tup ((zs 10001 0).map .int)) = false := areNum_long (by rw [zs_len]; decide)
    have hcz : cls ((zs 10001 0).map .int) = true := cls_ints _
    have hlz : ((zs 10001 0).map Val.int).length = 10001 := by rw [List.length_map, zs_len]
    have hrl : (rngL 0 10001).length ≤ 16777216 := by simp [rngL]
    refine ⟨[x1, x2, x3, x4, .tup ((zs 10001 0).map .int)], fun k st => ?_, ?_, ?_, by simp⟩
    · show pr.cf (k + 1) i__law_bad [.tup (.str "frame" :: _), .int n] st = .ok (.tup (.str "frame" :: [x1, x2, x3, x4, .tup ((zs 10001 0).map .int)])) st
      rw [cf__law_bad]
      refine kCall_nr rfl (by simp [hnr]) (s := []) ?_
      generalize hr : runP _ _ _ = r
      unfold runP at hr
      rcases hp with hp | hp | hp | hp <;>
      · simp -implicitDefEqProofs [fEq_v, fNe_v, startM_eq, b__law_bad, i1, i2, s0, s1, s2, s3, s4, t0, t1, t2, t3, t4, w0, w6, hcl, c, hp, hrl] at hr
        generalize hC : compV _ _ _ _ _ _ = qc at hr
        have hC := zeros (z := 0) hC (fun i => ⟨_, rfl, by simp -implicitDefEqProofs [fEq_v, fNe_v, startM_eq, wipeM]⟩)
        subst hC
        generalize (zs 10001 0).map Val.int = zz at hr hcz hlz ⊢
        rw [← hr]
        simp -implicitDefEqProofs [fEq_v, fNe_v, startM_eq, hcl, hcz]
    · rw [isCh_j (by decide) (by decide)]
      simp only [fld, fm, List.getD_eq_getElem?_getD, List.getElem?_cons_succ, List.getElem?_cons_zero, Option.getD_some, List.drop, hF_nil, hF_cons, hF_short, hF_long, chk_number, chk_numbers, chk_addresses, chk_cookie, chk_fcodes, w2, w3, w4,  Bool.false_and, Bool.and_false]
      simp [wz]
    · intro y hy
      simp only [List.mem_cons, List.not_mem_nil, or_false] at hy
      rcases hy with rfl | rfl | rfl | rfl | rfl <;> first | exact o1 | exact o2 | exact o3 | exact o4 | exact oz
  · have c' : (n / 40 % 3 == 0) = false := beq_eq_false_iff_ne.mpr c
    rcases hp with hp | hp | hp | hp
    · refine ⟨[w, x2, x3, x4, x5], fun k st => ?_, ?_, ?_, by simp⟩
      · show pr.cf (k + 1) i__law_bad [.tup (.str "frame" :: _), .int n] st = .ok (.tup (.str "frame" :: [w, x2, x3, x4, x5])) st
        rw [cf__law_bad]
        refine kCall_nr rfl (by simp [hnr]) (s := []) ?_
        unfold runP
        simp -implicitDefEqProofs [fEq_v, fNe_v, startM_eq, b__law_bad, i1, i2, s0, s1, s2, s3, s4, t0, t1, t2, t3, t4, w0, w6, hcl, c, c', hp]
      · rw [isCh_j (by decide) (by decide)]
        simp only [fld, fm, List.getD_eq_getElem?_getD, List.getElem?_cons_succ, List.getElem?_cons_zero, Option.getD_some, List.drop, hF_nil, hF_cons, hF_short, hF_long, chk_number, chk_numbers, chk_addresses, chk_cookie, chk_fcodes, w2, w3, w4,  Bool.false_and, Bool.and_false]
      · intro y hy
        simp only [List.mem_cons, List.not_mem_nil, or_false] at hy
        rcases hy with rfl | rfl | rfl | rfl | rfl <;> first | exact w1 | exact o1 | exact o2 | exact o3 | exact o4 | exact o5
    · refine ⟨[x1, w, x3, x4, x5], fun k st => ?_, ?_, ?_, by simp⟩
      · show pr.cf (k + 1) i__law_bad [.tup (.str "frame" :: _), .int n] st = .ok (.tup (.str "frame" :: [x1, w, x3, x4, x5])) st
        rw [cf__law_bad]
        refine kCall_nr rfl (by simp [hnr]) (s := []) ?_
        unfold runP
        simp -implicitDefEqProofs [fEq_v, fNe_v, startM_eq, b__law_bad, i1, i2, s0, s1, s2, s3, s4, t0, t1, t2, t3, t4, w0, w6, hcl, c, c', hp]
      · rw [isCh_j (by decide) (by decide)]
        simp only [fld, fm, List.getD_eq_getElem?_getD, List.getElem?_cons_succ, List.getElem?_cons_zero, Option.getD_some, List.drop, hF_nil, hF_cons, hF_short, hF_long, chk_number, chk_numbers, chk_addresses, chk_cookie, chk_fcodes, w2, w3, w4,  Bool.false_and, Bool.and_false]
      · intro y hy
        simp only [List.mem_cons, List.not_mem_nil, or_false] at hy
        rcases hy with rfl | rfl | rfl | rfl | rfl <;> first | exact w1 | exact o1 | exact o2 | exact o3 | exact o4 | exact o5
    · refine ⟨[x1, x2, w, x4, x5], fun k st => ?_, ?_, ?_, by simp⟩
      · show pr.cf (k + 1) i__law_bad [.tup (.str "frame" :: _), .int n] st = .ok (.tup (.str "frame" :: [x1, x2, w, x4, x5])) st
        rw [cf__law_bad]
        refine kCall_nr rfl (by simp [hnr]) (s := []) ?_
        unfold runP
        simp -implicitDefEqProofs [fEq_v, fNe_v, startM_eq, b__law_bad, i1, i2, s0, s1, s2, s3, s4, t0, t1, t2, t3, t4, w0, w6, hcl, c, c', hp]
      · rw [isCh_j (by decide) (by decide)]
        simp only [fld, fm, List.getD_eq_getElem?_getD, List.getElem?_cons_succ, List.getElem?_cons_zero, Option.getD_some, List.drop, hF_nil, hF_cons, hF_short, hF_long, chk_number, chk_numbers, chk_addresses, chk_cookie, chk_fcodes, w2, w3, w4,  Bool.false_and, Bool.and_false]
      · intro y hy
        simp only [List.mem_cons, List.not_mem_nil, or_false] at hy
        rcases hy with rfl | rfl | rfl | rfl | rfl <;> first | exact w1 | exact o1 | exact o2 | exact o3 | exact o4 | exact o5
    · refine ⟨[x1, x2, x3, w, x5], fun k st => ?_, ?_, ?_, by simp⟩
      · show pr.cf (k + 1) i__law_bad [.tup (.str "frame" :: _), .int n] st = .ok (.tup (.str "frame" :: [x1, x2, x3, w, x5])) st
        rw [cf__law_bad]
        refine kCall_nr rfl (by simp [hnr]) (s := []) ?_
        unfold runP
        simp -implicitDefEqProofs [fEq_v, fNe_v, startM_eq, b__law_bad, i1, i2, s0, s1, s2, s3, s4, t0, t1, t2, t3, t4, w0, w6, hcl, c, c', hp]
      · rw [isCh_j (by decide) (by decide)]
        simp only [fld, fm, List.getD_eq_getElem?_getD, List.getElem?_cons_succ, List.getElem?_cons_zero, Option.getD_some, List.drop, hF_nil, hF_cons, hF_short, hF_long, chk_number, chk_numbers, chk_addresses, chk_cookie, chk_fcodes, w2, w3, w4,  Bool.false_and, Bool.and_false]
      · intro y hy
        simp only [List.mem_cons, List.not_mem_nil, or_false] at hy
        rcases hy with rfl | rfl | rfl | rfl | rfl <;> first | exact w1 | exact o1 | exact o2 | exact o3 | exact o4 | exact o5
end Lw

-- M_k42l
set_option linter.all false
set_option maxRecDepth 100000
set_option maxHeartbeats 4000000
namespace Lw
open PySem PySem.Spec PyProof.Rows L2 ML
-- EV: startM_eq
theorem bad_5 (xs : List Val) (hc : isCh (hdn 5) xs = true) (ho : ∀ x ∈ xs, okF x = true) : Bad 5 xs := by
  intro n n0 n1
  rw [isCh_j (by decide) (by decide)] at hc
  have hln := hF_len hc
  have hnr := nrs_ok ho
  have hcl := cls_ok ho
  obtain ⟨w, w0, w1, w2, w3, w4⟩ := wr n
  have w6 := okF_cl w1
  have : ∃ x y, xs = [x, y] := by
    match xs, hln with
    | [x, y], _ => exact ⟨x, y, rfl⟩
  obtain ⟨x, y, rfl⟩ := this
  have ox := ho x (by simp)
  have oy := ho y (by simp)
  simp only [nrs_cons, ML.cls_cons, Bool.and_eq_true] at hnr hcl
  have c33 : (List.range 33).map (fun i : Nat => Val.int (i : Nat)) = (((List.range 33).map fun i : Nat => (i : Int)).map .int) := by rw [List.map_map]; rfl
  obtain ⟨v, v0, v1, v2⟩ := pk [.lst [.int 1], .tup [.int (-1)], .tup [.int 4294967296], .tup (((List.range 33).map fun i : Nat => (i : Int)).map .int), .non] (areNum 32 4294967295) (n % 5) (by decide +kernel) (by omega) (by show n % 5 < 5; omega)
  have hcz : cls (((List.range 33).map fun i : Nat => (i : Int)).map .int) = true := cls_ints _
  have v6 := okF_cl v1
  have hrl : (rngL 0 33).length ≤ 16777216 := by simp [rngL]
  by_cases c : n / 10 % 2 = 0
  · have i1 : ∀ st, fIn (.str "ack") (.tup [.str "init", .str "echo"]) st = .ok (.bl false) st := fun _ => by kernel_rfl
    have i2 : ∀ st, fIn (.str "ack") (.tup [.str "addresses_ack", .str "frame_ack"]) st = .ok (.bl false) st := fun _ => by kernel_rfl
    have s0 : (("ack" : Str) = "init_ack") = False := eq_false (by decide +kernel)
    have t0 : (("ack" : Str) == "init_ack") = false := by decide +kernel
    have s1 : (("ack" : Str) = "data") = False := eq_false (by decide +kernel)
    have t1 : (("ack" : Str) == "data") = false := by decide +kernel
    have s2 : (("ack" : Str) = "ack") = True := eq_true rfl
    have t2 : (("ack" : Str) == "ack") = true := by decide +kernel
    have s3 : (("ack" : Str) = "addresses") = False := eq_false (by decide +kernel)
    have t3 : (("ack" : Str) == "addresses") = false := by decide +kernel
    have s4 : (("ack" : Str) = "frame") = False := eq_false (by decide +kernel)
    have t4 : (("ack" : Str) == "frame") = false := by decide +kernel
    refine ⟨[w, y], fun k st => ?_, ?_, ?_, by simp⟩
    · show pr.cf (k + 1) i__law_bad [.tup (.str "ack" :: _), .int n] st = .ok (.tup (.str "ack" :: [w, y])) st
      rw [cf__law_bad]
      refine kCall_nr rfl (by simp [hnr]) (s := []) ?_
      unfold runP
      simp -implicitDefEqProofs [fEq_v, fNe_v, startM_eq, b__law_bad, i1, i2, s0, s1, s2, s3, s4, t0, t1, t2, t3, t4, w0, w6, hcl, c]
    · rw [isCh_j (by decide) (by decide)]
      simp only [fld, fm, List.getD_eq_getElem?_getD, List.getElem?_cons_succ, List.getElem?_cons_zero, Option.getD_some, List.drop, hF_nil, hF_cons, hF_short, hF_long, chk_number, chk_numbers, chk_addresses, chk_cookie, chk_fcodes, w2, w3, w4, Bool.false_and, Bool.and_false]
    · intro y hy
      simp only [List.mem_cons, List.not_mem_nil, or_false] at hy
      rcases hy with rfl | rfl <;> first | exact w1 | rfl | exact oy
  · have c' : (n / 10 % 2 == 0) = false := beq_eq_false_iff_ne.mpr c
    have i1 : ∀ st, fIn (.str "ack") (.tup [.str "init", .str "echo"]) st = .ok (.bl false) st := fun _ => by kernel_rfl
    have i2 : ∀ st, fIn (.str "ack") (.tup [.str "addresses_ack", .str "frame_ack"]) st = .ok (.bl false) st := fun _ => by kernel_rfl
    have s0 : (("ack" : Str) = "init_ack") = False := eq_false (by decide +kernel)
    have t0 : (("ack" : Str) == "init_ack") = false := by decide +kernel
    have s1 : (("ack" : Str) = "data") = False := eq_false (by decide +kernel)
    have t1 : (("ack" : Str) == "data") = false := by decide +kernel
    have s2 : (("ack" : Str) = "ack") = True := eq_true rfl
    have t2 : (("ack" : Str) == "ack") = true := by decide +kernel
    have s3 : (("ack" : Str) = "addresses") = False := eq_false (by decide +kernel)
    have t3 : (("ack" : Str) == "addresses") = false := by decide +kernel
    have s4 : (("ack" : Str) = "frame") = False := eq_false (by decide +kernel)
    have t4 : (("ack" : Str) == "frame") = false := by decide +kernel
    refine ⟨[x, v], fun k st => ?_, ?_, ?_, by simp⟩
    · show pr.cf (k + 1) i__law_bad [.tup (.str "ack" :: _), .int n] st = .ok (.tup (.str "ack" :: [x, v])) st
      rw [cf__law_bad]
      refine kCall_nr rfl (by simp [hnr]) (s := []) ?_
      generalize hr : runP _ _ _ = r
      unfold runP at hr
      simp -implicitDefEqProofs [fEq_v, fNe_v, startM_eq, hrl, b__law_bad, i1, i2, s0, s1, s2, s3, s4, t0, t1, t2, t3, t4, w0, w6, hcl, c, c'] at hr
      generalize hC : compV _ _ _ _ _ _ = qc at hr
      have hC := comp_mapq (enc := fun i : Nat => Val.int (0 + (i : Nat))) (xs := List.range 33) hC (fun i => .int (i : Nat)) (fun i _ => ⟨_, rfl, by simp -implicitDefEqProofs [fEq_v, fNe_v, startM_eq, wipeM]⟩)
      subst hC
      rw [c33] at hr
      generalize (((List.range 33).map fun i : Nat => (i : Int)).map Val.int) = zz at hr hcz v0
      rw [← hr]
      simp -implicitDefEqProofs [fEq_v, fNe_v, startM_eq, hcl, hcz, v0, v6]
    · rw [isCh_j (by decide) (by decide)]
      simp only [fld, fm, List.getD_eq_getElem?_getD, List.getElem?_cons_succ, List.getElem?_cons_zero, Option.getD_some, List.drop, hF_nil, hF_cons, hF_short, hF_long, chk_number, chk_numbers, chk_addresses, chk_cookie, chk_fcodes, w2, w3, w4, v2, Bool.false_and, Bool.and_false]
    · intro y hy
      simp only [List.mem_cons, List.not_mem_nil, or_false] at hy
      rcases hy with rfl | rfl <;> first | exact w1 | rfl | exact ox | exact v1
theorem bad_4 (xs : List Val) (hc : isCh (hdn 4) xs = true) (ho : ∀ x ∈ xs, okF x = true) : Bad 4 xs := by
  intro n n0 n1
  rw [isCh_4, Bool.and_eq_true] at hc
  have hln := hF_len hc.1
  have hnr := nrs_ok ho
  have hcl := cls_ok ho
  obtain ⟨w, w0, w1, w2, w3, w4⟩ := wr n
  have w6 := okF_cl w1
  have : ∃ x1 x2 x3 x4, xs = [x1, x2, x3, x4] := by
    match xs, hln with
    | [a, b, c, d], _ => exact ⟨a, b, c, d, rfl⟩
  obtain ⟨x1, x2, x3, x4, rfl⟩ := this
  have o1 := ho x1 (by simp)
  have o2 := ho x2 (by simp)
  have o3 := ho x3 (by simp)
  have o4 := ho x4 (by simp)
  simp only [nrs_cons, ML.cls_cons, Bool.and_eq_true] at hnr hcl
  have i1 : ∀ st, fIn (.str "data") (.tup [.str "init", .str "echo"]) st = .ok (.bl false) st := fun _ => by kernel_rfl
  have i2 : ∀ st, fIn (.str "data") (.tup [.str "addresses_ack", .str "frame_ack"]) st = .ok (.bl false) st := fun _ => by kernel_rfl
  have s0 : (("data" : Str) = "init_ack") = False := eq_false (by decide +kernel)
  have t0 : (("data" : Str) == "init_ack") = false := by decide +kernel
  have s1 : (("data" : Str) = "data") = True := eq_true rfl
  have t1 : (("data" : Str) == "data") = true := by decide +kernel
  have s2 : (("data" : Str) = "ack") = False := eq_false (by decide +kernel)
  have t2 : (("data" : Str) == "ack") = false := by decide +kernel
  have s3 : (("data" : Str) = "addresses") = False := eq_false (by decide +kernel)
  have t3 : (("data" : Str) == "addresses") = false := by decide +kernel
  have s4 : (("data" : Str) = "frame") = False := eq_false (by decide +kernel)
  have t4 : (("data" : Str) == "frame") = false := by decide +kernel
  obtain ⟨v, v0, v1, v2⟩ := pk [.int 16, .int 255, .bl true, .str "", .int (-1)] isStream (n % 5) (by decide +kernel) (by omega) (by show n % 5 < 5; omega)
  obtain ⟨t, u0, u1, u2⟩ := pk [.non, .int (-1), .int 4294967296] (isNum 4294967295) (n % 3) (by decide +kernel) (by omega) (by show n % 3 < 3; omega)
  obtain ⟨z, z0, z1, z2⟩ := pk [.tup [.int 256], .lst [.int 1], .tup [.bl true], .tup ((zs 201 1).map .int)] (areNum 200 255) (n % 4) (by decide +kernel) (by omega) (by show n % 4 < 4; omega)
  have hcz : cls ((zs 201 (1 : Int)).map .int) = true := cls_ints _
  have v6 := okF_cl v1
  have u6 := okF_cl u1
  have z6 := okF_cl z1
  have hrl : (rngL 0 201).length ≤ 16777216 := by simp [rngL]
  have hp : n / 10 % 4 = 0 ∨ n / 10 % 4 = 1 ∨ n / 10 % 4 = 2 ∨ n / 10 % 4 = 3 := by omega
  rcases hp with hp | hp | hp | hp
  · refine ⟨[w, x2, x3, x4], fun k st => ?_, ?_, ?_, by simp⟩
    · show pr.cf (k + 1) i__law_bad [.tup (.str "data" :: _), .int n] st = .ok (.tup (.str "data" :: [w, x2, x3, x4])) st
      rw [cf__law_bad]
      refine kCall_nr rfl (by simp [hnr]) (s := []) ?_
      unfold runP
      simp -implicitDefEqProofs [fEq_v, fNe_v, startM_eq, b__law_bad, i1, i2, s0, s1, s2, s3, s4, t0, t1, t2, t3, t4, w0, w6, hcl, hp, v0, v6, u0, u6]
    · rw [isCh_4]
      simp only [fld, fm, List.getD_eq_getElem?_getD, List.getElem?_cons_succ, List.getElem?_cons_zero, Option.getD_some, List.drop, hF_nil, hF_cons, hF_short, hF_long, chk_number, chk_numbers, chk_addresses, chk_cookie, chk_fcodes, chk_stream, chk_place, chk_mcodes, w2, w3, w4, v2, u2, z2, Bool.false_and, Bool.and_false]
    · intro y hy
      simp only [List.mem_cons, List.not_mem_nil, or_false] at hy
      rcases hy with rfl | rfl | rfl | rfl <;> first | exact o1 | exact o2 | exact o3 | exact o4 | exact w1 | exact v1 | exact u1 | exact z1 | rfl
  · refine ⟨[x1, v, x3, x4], fun k st => ?_, ?_, ?_, by simp⟩
    · show pr.cf (k + 1) i__law_bad [.tup (.str "data" :: _), .int n] st = .ok (.tup (.str "data" :: [x1, v, x3, x4])) st
      rw [cf__law_bad]
      refine kCall_nr rfl (by simp [hnr]) (s := []) ?_
      unfold runP
      simp -implicitDefEqProofs [fEq_v, fNe_v, startM_eq, b__law_bad, i1, i2, s0, s1, s2, s3, s4, t0, t1, t2, t3, t4, w0, w6, hcl, hp, v0, v6, u0, u6]
    · rw [isCh_4]
      simp only [fld, fm, List.getD_eq_getElem?_getD, List.getElem?_cons_succ, List.getElem?_cons_zero, Option.getD_some, List.drop, hF_nil, hF_cons, hF_short, hF_long, chk_number, chk_numbers, chk_addresses, chk_cookie, chk_fcodes, chk_stream, chk_place, chk_mcodes, w2, w3, w4, v2, u2, z2, Bool.false_and, Bool.and_false]
    · intro y hy
      simp only [List.mem_cons, List.not_mem_nil, or_false] at hy
      rcases hy with rfl | rfl | rfl | rfl <;> first | exact o1 | exact o2 | exact o3 | exact o4 | exact w1 | exact v1 | exact u1 | exact z1 | rfl
  · by_cases c : n % 4 = 3
    · refine ⟨[x1, .non, .int (1 + n), x4], fun k st => ?_, ?_, ?_, by simp⟩
      · show pr.cf (k + 1) i__law_bad [.tup (.str "data" :: _), .int n] st = .ok (.tup (.str "data" :: [x1, .non, .int (1 + n), x4])) st
        rw [cf__law_bad]
        refine kCall_nr rfl (by simp [hnr]) (s := []) ?_
        unfold runP
        simp -implicitDefEqProofs [fEq_v, fNe_v, startM_eq, b__law_bad, i1, i2, s0, s1, s2, s3, s4, t0, t1, t2, t3, t4, w0, w6, hcl, hp, v0, v6, u0, u6, c]
      · rw [isCh_4]
        have hz : plc .non (.int (1 + n)) = false := by
          have : ¬ (1 + n = 0) := by omega
          simp [plc, this]
        simp only [vD, List.getD_eq_getElem?_getD, List.getElem?_cons_succ, List.getElem?_cons_zero, Option.getD_some, hz, Bool.and_false]
      · intro y hy
        simp only [List.mem_cons, List.not_mem_nil, or_false] at hy
        rcases hy with rfl | rfl | rfl | rfl <;> first | exact o1 | exact o2 | exact o3 | exact o4 | exact w1 | exact v1 | exact u1 | exact z1 | rfl
    · have c' : (n % 4 == 3) = false := beq_eq_false_iff_ne.mpr c
      · refine ⟨[x1, x2, t, x4], fun k st => ?_, ?_, ?_, by simp⟩
        · show pr.cf (k + 1) i__law_bad [.tup (.str "data" :: _), .int n] st = .ok (.tup (.str "data" :: [x1, x2, t, x4])) st
          rw [cf__law_bad]
          refine kCall_nr rfl (by simp [hnr]) (s := []) ?_
          unfold runP
          simp -implicitDefEqProofs [fEq_v, fNe_v, startM_eq, b__law_bad, i1, i2, s0, s1, s2, s3, s4, t0, t1, t2, t3, t4, w0, w6, hcl, hp, v0, v6, u0, u6, c, c']
        · rw [isCh_4]
          simp only [fld, fm, List.getD_eq_getElem?_getD, List.getElem?_cons_succ, List.getElem?_cons_zero, Option.getD_some, List.drop, hF_nil, hF_cons, hF_short, hF_long, chk_number, chk_numbers, chk_addresses, chk_cookie, chk_fcodes, chk_stream, chk_place, chk_mcodes, w2, w3, w4, v2, u2, z2, Bool.false_and, Bool.and_false]
        · intro y hy
          simp only [List.mem_cons, List.not_mem_nil, or_false] at hy
          rcases hy with rfl | rfl | rfl | rfl <;> first | exact o1 | exact o2 | exact o3 | exact o4 | exact w1 | exact v1 | exact u1 | exact z1 | rfl
  · refine ⟨[x1, x2, x3, z], fun k st => ?_, ?_, ?_, by simp⟩
    · show pr.cf (k + 1) i__law_bad [.tup (.str "data" :: _), .int n] st = .ok (.tup (.str "data" :: [x1, x2, x3, z])) st
      rw [cf__law_bad]
      refine kCall_nr rfl (by simp [hnr]) (s := []) ?_
      generalize hr : runP _ _ _ = r
      unfold runP at hr
      simp -implicitDefEqProofs [fEq_v, fNe_v, startM_eq, b__law_bad, i1, i2, s0, s1, s2, s3, s4, t0, t1, t2, t3, t4, w0, w6, hcl, hp, hrl] at hr
      generalize hC : compV _ _ _ _ _ _ = qc at hr
      have hC := zeros (z := 1) hC (fun i => ⟨_, rfl, by simp -implicitDefEqProofs [fEq_v, fNe_v, startM_eq, wipeM]⟩)
      subst hC
      generalize (zs 201 (1 : Int)).map Val.int = zz at hr hcz z0
      rw [← hr]
      simp -implicitDefEqProofs [fEq_v, fNe_v, startM_eq, hcl, hcz, z0, z6]
    · rw [isCh_4]
      simp only [fld, fm, List.getD_eq_getElem?_getD, List.getElem?_cons_succ, List.getElem?_cons_zero, Option.getD_some, List.drop, hF_nil, hF_cons, hF_short, hF_long, chk_number, chk_numbers, chk_addresses, chk_cookie, chk_fcodes, chk_stream, chk_place, chk_mcodes, w2, w3, w4, v2, u2, z2, Bool.false_and, Bool.and_false]
    · intro y hy
      simp only [List.mem_cons, List.not_mem_nil, or_false] at hy
      rcases hy with rfl | rfl | rfl | rfl <;> first | exact o1 | exact o2 | exact o3 | exact o4 | exact w1 | exact v1 | exact u1 | exact z1 | rfl
end Lw

-- M_k42a
set_option linter.all false
set_option maxRecDepth 100000
set_option maxHeartbeats 4000000
namespace Lw
open PySem PySem.Spec PyProof.Rows L2 ML
-- EV: startM_eq
theorem draws (k : Nat) (c m : Int) (h0 : 0 ≤ m) (h1 : m < 2 ^ 20) : ∃ ds : List Int, ds.length = m.toNat ∧ (∀ d ∈ ds, 0 ≤ d ∧ d < 1000) ∧ ∀ st, pr.cf (k + 1) i__law_draws [.int c, .int m] st = .ok (.lst (ds.map .int)) st := by
  have hm : -1152921504606846976 ≤ m ∧ m < 1152921504606846976 := by omega
  -- the first three rows
  have p1 : ∃ (rows : List Int) (rest : Int) (o : Option Val), rows.length ≤ m.toNat ∧ (∀ d ∈ rows, 0 ≤ d ∧ d < 1000) ∧
      (b__law_draws.take 3).m (pr.dn k) [some (Val.int c), some (Val.int m), none, none, none, none] [] = .nx [some (Val.int c), some (Val.int m), some (Val.ref 0), some (Val.int rest), o, none] [.lst (rows.map .int)] := by
    generalize hr : (b__law_draws.take 3).m (pr.dn k) _ _ = r
    simp [b__law_draws, Ss.take] at hr
    by_cases hc : (1000000000000000000 : Int) ≤ c
    · simp [hc, hm] at hr
      generalize hL : loopV _ _ _ _ _ = q at hr
      obtain ⟨e', s', rfl, rows, rest, o, h3, h4, rfl, rfl⟩ := loop_rngq hL (fun i env st => ∃ (rows : List Int) (rest : Int) (o : Option Val), rows.length ≤ i ∧ (∀ d ∈ rows, 0 ≤ d ∧ d < 1000) ∧ env = [some (Val.int c), some (Val.int m), some (Val.ref 0), some (Val.int rest), o, none] ∧ st = [.lst (rows.map .int)])
        ⟨[], c, none, by simp, by simp, rfl, rfl⟩ (by
          rintro i env st hi ⟨rows, rest, o, h3, h4, rfl, rfl⟩ q hq
          have hl : rows.length < 16777216 := by omega
          by_cases hr : 0 < rest
          · simp -implicitDefEqProofs [hr, hl] at hq
            refine ⟨_, _, hq.symm, rows ++ [rest % 1000], rest / 1000, _, by simp; omega, ?_, rfl, by simp⟩
            intro d hd
            rcases List.mem_append.mp hd with hd | hd
            · exact h4 d hd
            · obtain rfl : d = rest % 1000 := by simpa using hd
              omega
          · simp -implicitDefEqProofs [hr] at hq
            exact ⟨_, _, hq.symm, rows, rest, _, by omega, h4, rfl, rfl⟩)
      simp at hr
      exact ⟨rows, rest, o, h3, h4, hr.symm⟩
    · simp [hc] at hr
      exact ⟨[], c, none, by simp, by simp, hr.symm⟩
  obtain ⟨rows, rest, o, h2, h3, h4⟩ := p1
  have key : ∃ ds : List Int, ds.length = m.toNat ∧ (∀ d ∈ ds, 0 ≤ d ∧ d < 1000) ∧ runP 6 (b__law_draws.m (pr.dn k)) [.int c, .int m] = .ok (.lst (ds.map .int)) [] := by
    generalize hr : runP 6 (b__law_draws.m (pr.dn k)) [.int c, .int m] = r
    unfold runP startM at hr
    rw [Ss.split 3] at hr
    simp [h4] at hr
    simp [b__law_draws, Ss.drop, hm] at hr
    generalize hL : loopV _ _ _ _ _ = q at hr
    obtain ⟨e', s', rfl, ds, a, o', b, h5, h6, rfl, rfl⟩ := loop_rngq hL (fun i env st => ∃ (ds : List Int) (a : Int) (o : Option Val) (b : Int), ds.length = min m.toNat (rows.length + i) ∧ (∀ d ∈ ds, 0 ≤ d ∧ d < 1000) ∧ env = [some (Val.int c), some (Val.int m), some (Val.ref 0), some (Val.int a), o, some (Val.int b)] ∧ st = [.lst (ds.map .int)])
        ⟨rows, _, _, _, by omega, h3, rfl, rfl⟩ (by
          rintro i env st hi ⟨ds, a, o, b, h5, h6, rfl, rfl⟩ q hq
          have hl : ds.length < 16777216 := by omega
          by_cases hr : (ds.length : Int) < m
          · simp -implicitDefEqProofs [hr, hl] at hq
            refine ⟨_, _, hq.symm, ds ++ [_], a, _, _, by simp; omega, ?_, rfl, by simp; rfl⟩
            intro d hd
            rcases List.mem_append.mp hd with hd | hd
            · exact h6 d hd
            · have := List.mem_singleton.mp hd
              omega
          · simp -implicitDefEqProofs [hr] at hq
            exact ⟨_, _, hq.symm, ds, a, _, _, by omega, h6, rfl, rfl⟩)
    simp at hr
    exact ⟨ds, by omega, h6, hr.symm⟩
  obtain ⟨ds, h2, h3, h4⟩ := key
  refine ⟨ds, h2, h3, fun st => ?_⟩
  rw [cf__law_draws]
  exact kCall_eq rfl (by simp [argVs_eq]) h4
end Lw

-- M_k42b
set_option linter.all false
set_option maxRecDepth 100000
set_option maxHeartbeats 4000000
namespace Lw
open PySem PySem.Spec PyProof.Rows L2 ML
-- EV: startM_eq
theorem same (n : Nat) : ∀ (t d : Val), Tw n t d → ∀ (k : Nat) (st : Store), pr.cf (k + n + 1) i__law_same [t, d] st = .ok (.bl true) st := by
  intro t d h
  induction h with
  | non n =>
    intro k st
    rw [cf__law_same]
    refine kCall_nr rfl (by simp) (s := []) ?_
    unfold runP startM
    simp -implicitDefEqProofs [fEq_v, fNe_v, startM_eq, b__law_same]
  | bl n b =>
    intro k st
    rw [cf__law_same]
    refine kCall_nr rfl (by simp) (s := []) ?_
    unfold runP startM
    cases b <;> simp -implicitDefEqProofs [fEq_v, fNe_v, startM_eq, b__law_same]
  | int n i =>
    intro k st
    rw [cf__law_same]
    refine kCall_nr rfl (by simp) (s := []) ?_
    unfold runP startM
    simp -implicitDefEqProofs [fEq_v, fNe_v, startM_eq, b__law_same, tyM, isT]
  | str n x hx =>
    intro k st
    rw [cf__law_same]
    refine kCall_nr rfl (by simp) (s := []) ?_
    unfold runP startM
    simp -implicitDefEqProofs [fEq_v, fNe_v, startM_eq, b__law_same, tyM, isT, hx]
  | tup n a b e1 e2 e3 ih =>
    intro k st
    have hnr := (Tw.tup n a b e1 e2 e3).nr
    rw [cf__law_same]
    refine kCall_nr rfl (by simp only [nrs_cons, hnr.1, hnr.2]; rfl) (s := []) ?_
    generalize hr : runP 3 _ _ = r
    unfold runP startM at hr
    have hb : -1152921504606846976 ≤ (b.length : Int) ∧ (b.length : Int) < 1152921504606846976 := by omega
    simp -implicitDefEqProofs [fEq_v, fNe_v, startM_eq, b__law_same, tyM, isT, e1, hb] at hr
    generalize hL : loopV _ _ _ _ _ = q at hr
    obtain ⟨e', s', rfl, o, rfl, rfl⟩ := loop_rngq hL (fun i env st => ∃ o, env = [some (.tup a), some (.tup b), o] ∧ st = []) ⟨_, rfl, rfl⟩ (by
      rintro i env st hi ⟨o, rfl, rfl⟩ q hq
      have h1 := atI_some (xs := a) (n := i) (by omega)
      have h2 := atI_some (xs := b) (n := i) (by omega)
      have ha : i < a.length := by omega
      have h3 : pr.cf (k + (n + 1)) i__law_same [a[i], b[i]] [] = .ok (.bl true) [] := ih i _ _ (List.getElem?_eq_getElem ha) (List.getElem?_eq_getElem hi) k []
      simp -implicitDefEqProofs [fEq_v, fNe_v, startM_eq, h1, h2, h3] at hq
      exact ⟨_, _, hq.symm, _, rfl, rfl⟩)
    simp -implicitDefEqProofs [fEq_v, fNe_v, startM_eq] at hr
    exact hr.symm
  | lst n t d a b h1 h2 e1 e2 e3 ih =>
    intro k st
    have hnr := (Tw.lst n t d a b h1 h2 e1 e2 e3).nr
    rw [cf__law_same]
    refine kCall_nr rfl (by simp only [nrs_cons, hnr.1, hnr.2]; rfl) (s := []) ?_
    generalize hr : runP 3 _ _ = r
    unfold runP startM at hr
    have hb : -1152921504606846976 ≤ (b.length : Int) ∧ (b.length : Int) < 1152921504606846976 := by omega
    have f1 : ∀ st, fLen t st = .ok (.int a.length) st := fun st => by cases t <;> first | (obtain rfl := Option.some.inj h1; rfl) | cases h1
    have f2 : ∀ st, fLen d st = .ok (.int b.length) st := fun st => by cases d <;> first | (obtain rfl := Option.some.inj h2; rfl) | cases h2
    have f3 : ∀ st, tyM st t = some "list" := fun st => by cases t <;> first | rfl | cases h1
    have f4 : ∀ st, tyM st d = some "list" := fun st => by cases d <;> first | rfl | cases h2
    have f5 : isNon d = false := by cases d <;> first | rfl | cases h2
    have f6 : ∀ b, isBl b d = false := fun b => by cases d <;> first | rfl | cases h2
    have f7 : ∀ i st, fIxA t (.int i) st = match atI a i with
      | some d => .ok d st
      | none => .stuck := fun i st => by cases t <;> first | (obtain rfl := Option.some.inj h1; rfl) | cases h1
    have f8 : ∀ i st, fIxA d (.int i) st = match atI b i with
      | some d => .ok d st
      | none => .stuck := fun i st => by cases d <;> first | (obtain rfl := Option.some.inj h2; rfl) | cases h2
    simp -implicitDefEqProofs [fEq_v, fNe_v, startM_eq, b__law_same, f1, f2, f3, f4, f5, f6, isT, e1, hb] at hr
    generalize hL : loopV _ _ _ _ _ = q at hr
    obtain ⟨e', s', rfl, o, rfl, rfl⟩ := loop_rngq hL (fun i env st => ∃ o, env = [some t, some d, o] ∧ st = []) ⟨_, rfl, rfl⟩ (by
      rintro i env st hi ⟨o, rfl, rfl⟩ q hq
      have h1 := atI_some (xs := a) (n := i) (by omega)
      have h2 := atI_some (xs := b) (n := i) (by omega)
      have ha : i < a.length := by omega
      have h3 : pr.cf (k + (n + 1)) i__law_same [a[i], b[i]] [] = .ok (.bl true) [] := ih i _ _ (List.getElem?_eq_getElem ha) (List.getElem?_eq_getElem hi) k []
      simp -implicitDefEqProofs [fEq_v, fNe_v, startM_eq, f7, f8, h1, h2, h3] at hq
      exact ⟨_, _, hq.symm, _, rfl, rfl⟩)
    simp -implicitDefEqProofs [fEq_v, fNe_v, startM_eq] at hr
    exact hr.symm
end Lw

-- M_k42m
set_option linter.all false
set_option maxRecDepth 100000
set_option maxHeartbeats 4000000
namespace Lw
open PySem PySem.Spec PyProof.Rows L2 ML
-- EV: startM_eq
theorem setI_dup {ns : List Int} {n : Int} (h : n ∈ ns) (hd : ns.Nodup) : (setI (ns ++ [n])).length = ns.length := by
  have nd : (setI (ns ++ [n])).Nodup := (setI_ris _).imp fun h => Int.ne_of_lt h
  refine ((List.perm_ext_iff_of_nodup nd hd).mpr fun k => ?_).length_eq
  rw [setI_mem]
  constructor
  · intro hk
    rcases List.mem_append.mp hk with hk | hk
    · exact hk
    · rw [List.mem_singleton.mp hk]; exact h
  · exact fun hk => List.mem_append_left _ hk
theorem isAddr_dup {ns : List Int} {n : Int} (h : n ∈ ns) (hd : ns.Nodup) : isAddr (.tup ((ns ++ [n]).map .int)) = false := by
  simp only [isAddr, intsL_map, List.length_map, setI_dup h hd]
  simp
theorem okF_aF {v : Val} (h : okF v = true) : aF v = true := by unfold okF at h; rw [Bool.and_eq_true, Bool.and_eq_true] at h; exact h.1.1
theorem parts (k : Nat) (ds : List Int) (hl : ds.length = 36) (st : Store) : pr.cf (k + 10) i__law_parts [.lst (ds.map .int)] st = .ok (.bl true) st := by
  obtain ⟨ns, a1, a2, a3, a4, a5⟩ := places ds 0 (by omega)
  have a5 : ∀ st, pr.cf (k + 9) i__law_places [.lst (ds.map .int), .int 0] st = _ := fun st => a5 (k + 8) st
  have b8 : ∀ st, pr.cf (k + 9) i__law_big [.int (dv ds 8), .int (dv ds 9)] st = .ok (.int (bigF (dv ds 8) (dv ds 9))) st := fun st => bigE (k + 8) _ _ st
  have b9 : ∀ st, pr.cf (k + 9) i__law_big [.int (dv ds 9), .int (dv ds 10)] st = .ok (.int (bigF (dv ds 9) (dv ds 10))) st := fun st => bigE (k + 8) _ _ st
  have b11 : ∀ st, pr.cf (k + 9) i__law_big [.int (dv ds 11), .int (dv ds 12)] st = .ok (.int (bigF (dv ds 11) (dv ds 12))) st := fun st => bigE (k + 8) _ _ st
  have b12 : ∀ st, pr.cf (k + 9) i__law_big [.int (dv ds 12), .int (dv ds 13)] st = .ok (.int (bigF (dv ds 12) (dv ds 13))) st := fun st => bigE (k + 8) _ _ st
  have g8 : atI (ds.map Val.int) 8 = some (.int (dv ds 8)) := dv_at ds 8 (by omega)
  have g9 : atI (ds.map Val.int) 9 = some (.int (dv ds 9)) := dv_at ds 9 (by omega)
  have g10 : atI (ds.map Val.int) 10 = some (.int (dv ds 10)) := dv_at ds 10 (by omega)
  have g11 : atI (ds.map Val.int) 11 = some (.int (dv ds 11)) := dv_at ds 11 (by omega)
  have g12 : atI (ds.map Val.int) 12 = some (.int (dv ds 12)) := dv_at ds 12 (by omega)
  have g13 : atI (ds.map Val.int) 13 = some (.int (dv ds 13)) := dv_at ds 13 (by omega)
  have hc := isNum_big (dv ds 8) (dv ds 9)
  have hc2 := isNum_big (dv ds 9) (dv ds 10)
  have hn := isNum_big (dv ds 11) (dv ds 12)
  have hn0 := (bigF_le (dv ds 11) (dv ds 12)).1
  have hn1 := (bigF_le (dv ds 11) (dv ds 12)).2
  have hm0 := (bigF_le (dv ds 12) (dv ds 13)).1
  generalize bigF (dv ds 8) (dv ds 9) = c1 at *
  generalize bigF (dv ds 9) (dv ds 10) = c2 at *
  generalize bigF (dv ds 11) (dv ds 12) = n at *
  generalize bigF (dv ds 12) (dv ds 13) = m at *
  obtain ⟨n0, hn0m, h0⟩ : ∃ n0, n0 ∈ ns ∧ atI (ns.map Val.int) 0 = some (.int n0) := by
    cases ns with
    | nil => simp at a3
    | cons n0 r => exact ⟨n0, by simp, by rw [List.map_cons, atI_0]⟩
  have iR := isAddr_ok a1 a2 a3 a4
  have iR' := isAddr_dup hn0m a1
  have bR' : byt (ns ++ [n0]) := fun x hx => by
    rcases List.mem_append.mp hx with hx | hx
    · exact a2 x hx
    · rw [List.mem_singleton.mp hx]; exact a2 n0 hn0m
  have oR := okF_ints ns (by omega)
  have oR' := okF_ints (ns ++ [n0]) (by simp; omega)
  have oC := okF_cookie c1 c2 ns (by omega)
  have oC' := okF_cookie 1 2 (ns ++ [n0]) (by simp; omega)
  have hRl : ∀ x ∈ ns.map Val.int, aV x = true := fun x hx => by
    obtain ⟨i, _, rfl⟩ := List.mem_map.mp hx
    rfl
  have hnrR : nrs (ns.map Val.int) = true := nrs_ints ns
  have hnrR' : nrs ((ns ++ [n0]).map Val.int) = true := nrs_ints _
  have hlR : (ns.map Val.int).length = ns.length := by simp
  have ea : ∀ st, fAdd (.tup (ns.map .int)) (.tup [.int n0]) st = .ok (.tup ((ns ++ [n0]).map .int)) st := fun st => by
    rw [List.map_append]
    exact fAdd_tup (by simp; omega)
  have cN : areNum ns.length 255 (.tup (ns.map .int)) = true := areNum_ok (Nat.le_refl _) a2
  have cN2 : areNum (ns.length - 1) 255 (.tup (ns.map .int)) = false := by
    have : ¬ ns.length ≤ ns.length - 1 := by omega
    simp [areNum, this]
  have cN3 : areNum 200 255 (.tup (ns.map .int)) = true := areNum_ok (by omega) a2
  have aFR : aF (.tup (ns.map .int)) = true := okF_aF oR
  have nrC : nr (.tup [.int c1, .int c2, .tup (ns.map .int)]) = true := okF_nr oC
  have aFC : aF (.tup [.int c1, .int c2, .tup (ns.map .int)]) = true := okF_aF oC
  have aFR' : aF (.tup ((ns ++ [n0]).map .int)) = true := okF_aF oR'
  have aFC' : aF (.tup [.int 1, .int 2, .tup ((ns ++ [n0]).map .int)]) = true := okF_aF oC'
  have nrC' : nr (.tup [.int 1, .int 2, .tup ((ns ++ [n0]).map .int)]) = true := okF_nr oC'
  have aFb : aF (.tup [.bl true, .int 1, .tup (ns.map .int)]) = true := by
    simp only [aF, List.all_cons, List.all_nil, aF_aT aFR, nr_tup, hnrR]
    rfl
  have hiC : isCookie (.tup [.int c1, .int c2, .tup (ns.map .int)]) = true := by
    simp only [isCookie, hc, hc2, iR]; rfl
  have hiC' : isCookie (.tup [.int 1, .int 2, .tup ((ns ++ [n0]).map .int)]) = false := by
    simp only [isCookie, iR', Bool.and_false]
  have hiC2 : isCookie (.tup [.int c1, .int c2, .tup []]) = false := by
    have : isAddr (.tup []) = false := by simp [isAddr]
    simp only [isCookie, this, Bool.and_false]
  have hcut : cutM [.int c1, .int c2, .tup (ns.map .int)] none (some 2) = [.int c1, .int c2] := cutM_take _ 2
  have q1 : ∀ st, pr.cf (k + 9) i_are_addresses [.tup (ns.map .int)] st = .ok (.bl true) st := fun st => iR ▸ are_addressesE (k + 6) (.tup (ns.map .int)) st (aF_aT aFR) (by simp [hnrR])
  have q2 : ∀ st, pr.cf (k + 9) i_are_addresses [.lst (ns.map .int)] st = .ok (.bl false) st := fun st => are_addressesE (k + 6) (.lst (ns.map .int)) st rfl (by simp [hnrR])
  have q3 : ∀ st, pr.cf (k + 9) i_are_addresses [.tup ((ns ++ [n0]).map .int)] st = .ok (.bl false) st := fun st => iR' ▸ are_addressesE (k + 6) (.tup ((ns ++ [n0]).map .int)) st (aF_aT aFR') (by rw [nr_tup, hnrR'])
  have q4 : ∀ st, pr.cf (k + 9) i_are_addresses [.tup []] st = .ok (.bl false) st := fun st => are_addressesE (k + 6) (.tup []) st rfl rfl
  have q5 : ∀ st, pr.cf (k + 9) i_is_cookie [.tup [.int c1, .int c2, .tup (ns.map .int)]] st = .ok (.bl true) st := fun st => hiC ▸ is_cookieE (k + 5) _ st aFC nrC
  have q6 : ∀ st, pr.cf (k + 9) i_is_cookie [.lst [.int c1, .int c2]] st = .ok (.bl false) st := fun st => is_cookieE (k + 5) (.lst [.int c1, .int c2]) st rfl rfl
  have q7 : ∀ st, pr.cf (k + 9) i_is_cookie [.tup [.bl true, .int 1, .tup (ns.map .int)]] st = .ok (.bl false) st := fun st => is_cookieE (k + 5) (.tup [.bl true, .int 1, .tup (ns.map .int)]) st aFb (by simp [hnrR])
  have q8 : ∀ st, pr.cf (k + 9) i_is_cookie [.int n0] st = .ok (.bl false) st := fun st => is_cookieE (k + 5) (.int n0) st rfl rfl
  have q9 : ∀ st, pr.cf (k + 9) i_is_number [.int n, .int m] st = .ok (.bl (decide (n ≤ m))) st := fun st => by
    have h := is_numberE (k + 8) (.int n) m st rfl rfl
    have e : isNum m (.int n) = decide (n ≤ m) := by simp [isNum, hn0]
    rw [e] at h
    exact h
  have q10 : ∀ st, pr.cf (k + 9) i_is_number [.bl false, .int m] st = .ok (.bl false) st := fun st => is_numberE (k + 8) (.bl false) m st rfl rfl
  have q11 : ∀ st, pr.cf (k + 9) i_is_number [.int (-1), .int m] st = .ok (.bl false) st := fun st => is_numberE (k + 8) (.int (-1)) m st rfl rfl
  have q12 : ∀ x st, pr.cf (k + 9) i_is_number [.str x, .int m] st = .ok (.bl false) st := fun x st => is_numberE (k + 8) (.str x) m st rfl rfl
  have q13 : ∀ st, pr.cf (k + 9) i_is_codes [.tup (ns.map .int), .int ns.length] st = .ok (.bl true) st := fun st => cN ▸ is_codesE (k + 6) _ ns.length st (by omega) (aF_aT aFR) (by simp [hnrR])
  have q14 : ∀ st, pr.cf (k + 9) i_is_codes [.tup (ns.map .int), .int ((ns.length : Int) - 1)] st = .ok (.bl false) st := fun st => by
    have h := is_codesE (k + 6) _ (ns.length - 1) st (by omega) (aF_aT aFR) (by simp [hnrR])
    rw [cN2] at h
    have e : ((ns.length - 1 : Nat) : Int) = (ns.length : Int) - 1 := by omega
    rw [e] at h
    exact h
  have q15 : ∀ st, pr.cf (k + 9) i_is_codes [.tup [], .int 0] st = .ok (.bl true) st := fun st => is_codesE (k + 6) (.tup []) 0 st (by decide) rfl rfl
  have q16 : ∀ st, pr.cf (k + 9) i_is_codes [.non, .int 9] st = .ok (.bl false) st := fun st => is_codesE (k + 6) .non 9 st (by decide) rfl rfl
  have hxs : ∀ i : Int, ∀ x ∈ [Val.int n, .non, .int i, .tup (ns.map .int)], aF x = true ∧ nr x = true := by
    intro i x hx
    simp only [List.mem_cons, List.not_mem_nil, or_false] at hx
    rcases hx with rfl | rfl | rfl | rfl
    · exact ⟨rfl, rfl⟩
    · exact ⟨rfl, rfl⟩
    · exact ⟨rfl, rfl⟩
    · exact ⟨aFR, by simp [hnrR]⟩
  have q17 : ∀ st, pr.cf (k + 9) i_is_chunk [.tup [.str "data", .int n, .non, .int (1 + n % 7), .tup (ns.map .int)]] st = .ok (.bl false) st := fun st => by
    have h := is_chunkE (k + 3) "data" [.int n, .non, .int (1 + n % 7), .tup (ns.map .int)] st (by simp) (by simp) (hxs _)
    have e : isCh "data" [.int n, .non, .int (1 + n % 7), .tup (ns.map .int)] = false := by
      rw [isCh_data]
      have h1 : vD [.int n, .non, .int (1 + n % 7), .tup (ns.map .int)] 1 = .non := rfl
      have h2 : vD [.int n, .non, .int (1 + n % 7), .tup (ns.map .int)] 2 = .int (1 + n % 7) := rfl
      have h3 : ((1 + n % 7) == (0 : Int)) = false := beq_eq_false_iff_ne.mpr (by omega)
      rw [h1, h2]
      simp only [plc, h3, Bool.and_false]
    rw [e] at h
    exact h
  have q18 : ∀ st, pr.cf (k + 9) i_is_chunk [.tup [.str "data", .int n, .non, .int 0, .tup (ns.map .int)]] st = .ok (.bl true) st := fun st => by
    have h := is_chunkE (k + 3) "data" [.int n, .non, .int 0, .tup (ns.map .int)] st (by simp) (by simp) (hxs _)
    have e : isCh "data" [.int n, .non, .int 0, .tup (ns.map .int)] = true := by
      rw [isCh_data]
      have h1 : vD [.int n, .non, .int 0, .tup (ns.map .int)] 1 = .non := rfl
      have h2 : vD [.int n, .non, .int 0, .tup (ns.map .int)] 2 = .int 0 := rfl
      rw [h1, h2]
      simp only [hF_cons, hF_nil, chk_number, chk_stream, chk_place, chk_mcodes, hn, cN3]
      rfl
    rw [e] at h
    exact h
  have q19 : ∀ st, pr.cf (k + 9) i_is_cookie [.tup [.int c1, .int c2, .tup []]] st = .ok (.bl false) st := fun st => hiC2 ▸ is_cookieE (k + 5) _ st rfl rfl
  have q20 : ∀ st, pr.cf (k + 9) i_is_cookie [.lst [.int c1, .int c2, .tup (ns.map .int)]] st = .ok (.bl false) st := fun st => is_cookieE (k + 5) (.lst [.int c1, .int c2, .tup (ns.map .int)]) st rfl (by simp [hnrR])
  have q21 : ∀ st, pr.cf (k + 9) i_is_cookie [.tup [.int 1, .int 2, .tup ((ns ++ [n0]).map .int)]] st = .ok (.bl false) st := fun st => hiC' ▸ is_cookieE (k + 5) _ st aFC' nrC'
  have hs : ∀ (L : List Val), okV 1 (.lst L) = true → lv (.lst L) = true → ∀ st, pr.cf (k + 9) i__law_same [.lst L, .lst L] st = .ok (.bl true) st := fun L h1 h2 st => same 1 _ _ (Tw.self h1 h2) (k + 7) st
  have hs := hs [.bl true, .bl false, .bl false, .bl false, .bl true, .bl false, .bl false, .bl false, .bl (decide (n ≤ m)), .bl false, .bl false, .bl false, .bl true, .bl false, .bl true, .bl false, .bl false, .bl true, .bl false, .bl false, .bl false] (by simp) (by simp [lv, lvs])
  have hlog : n.natAbs.log2 < 1920 := by
    by_cases h : n.natAbs = 0
    · rw [h]; decide
    · rw [Nat.log2_lt h]
      exact Nat.lt_of_lt_of_le (show n.natAbs < 2 ^ 32 by omega) (Nat.pow_le_pow_right (by decide) (by decide))
  have q0 : ∃ x, ∀ st, fStr (.int n) st = .ok (.str x) st := ⟨_, fun st => if_pos hlog⟩
  obtain ⟨x0, q0⟩ := q0
  rw [cf__law_parts]
  refine kCall_nr rfl (by simp) (s := []) ?_
  unfold runP
  generalize (ns ++ [n0]).map Val.int = R' at *
  generalize hRe : ns.map Val.int = R at *
  clear hRe
  simp -implicitDefEqProofs [fEq_v, fNe_v, startM_eq, b__law_parts, a5, b8, b9, b11, b12, g8, g9, g10, g11, g12, g13, h0, ea, q0, q1, q2, q3, q4, q5, q6, q7, q8, q9, q10, q11, q12, q13, q14, q15, q16, q17, q18, q19, q20, q21, hs, hcut, fAdd_lst, hlR]
end Lw

-- M_k42n
set_option linter.all false
set_option maxRecDepth 100000
set_option maxHeartbeats 4000000
namespace Lw
open PySem PySem.Spec PyProof.Rows L2 ML
-- EV: startM_eq
theorem isCh_len {j : Nat} (hj : j < 17) {xs zs : List Val} (h : isCh (hdn j) xs = true) (hl : zs.length ≠ xs.length) : isCh (hdn j) zs = false := by
  by_cases h4 : j = 4
  · subst h4
    rw [isCh_4, Bool.and_eq_true] at h
    rw [isCh_4, hF_nlen (by rw [← hF_len h.1]; exact hl), Bool.false_and]
  · rw [isCh_j hj h4] at h ⊢
    exact hF_nlen (by rw [← hF_len h]; exact hl)
def ini (j : Nat) : Str := ("init_" : Str) ++ hdn j
theorem ini_no {j : Nat} (hj : j < 17) (h5 : j ≠ 5) : fm.findIdx? (fun f => decide (f.head? = some (ini j))) = none := by
  have : ∀ j < 17, j ≠ 5 → fm.findIdx? (fun f => decide (f.head? = some (ini j))) = none := by decide +kernel
  exact this j hj h5
theorem ini_5 : fm.findIdx? (fun f => decide (f.head? = some (ini 5))) = some 1 := by decide +kernel
theorem emp_no : fm.findIdx? (fun f => decide (f.head? = some ("" : Str))) = none := by decide +kernel
theorem ini_ok {j : Nat} (hj : j < 17) : PyData.strOk (ini j) = true ∧ PyData.strOk (hdn j) = true ∧ (hdn j).length < 100 := by
  have : ∀ j < 17, PyData.strOk (ini j) = true ∧ PyData.strOk (hdn j) = true ∧ (hdn j).length < 100 := by decide +kernel
  exact this j hj
theorem isCh_ini {j : Nat} (hj : j < 17) {xs : List Val} (h : isCh (hdn j) xs = true) : isCh (ini j) xs = false := by
  by_cases h5 : j = 5
  · subst h5
    rw [isCh_j (by decide) (by decide)] at h
    have hl := hF_len h
    obtain ⟨a, b, rfl⟩ : ∃ a b, xs = [a, b] := by
      match xs, hl with
      | [a, b], _ => exact ⟨a, b, rfl⟩
    have h : hF ["number", "numbers"] [a, b] = true := h
    rw [hF_cons, chk_number, Bool.and_eq_true] at h
    rw [isCh_at ini_5 (by decide +kernel)]
    show hF ["addresses", "cookie"] [a, b] = false
    rw [hF_cons, chk_addresses]
    cases a <;> first | rfl | (simp [isNum] at h; done)
  · exact isCh_none (ini_no hj h5) _
theorem facts (ds : List Int) (hl : ds.length = 36) (hd : ∀ d ∈ ds, 0 ≤ d ∧ d < 1000) (j : Nat) (hj : j < 17) : ∃ (x y : Str) (xs ys W : List Val),
    (∀ st, pr.cf 40 i__law_chunk [.int j, .lst (ds.map .int)] st = .ok (.tup (.str x :: xs)) st) ∧
    (∀ st, pr.cf 40 i__law_bad [.tup (.str x :: xs), .int (dv ds 32)] st = .ok (.tup (.str x :: ys)) st) ∧
    (∀ st, pr.cf 40 i_is_chunk [.tup (.str x :: xs)] st = .ok (.bl true) st) ∧
    (∀ st, pr.cf 40 i_is_chunk [.tup (.str x :: ys)] st = .ok (.bl false) st) ∧
    (∀ st, pr.cf 40 i_is_chunk [.tup (.str x :: (xs ++ [.int 0]))] st = .ok (.bl false) st) ∧
    (∀ st, pr.cf 40 i_is_chunk [.lst []] st = .ok (.bl false) st) ∧
    (∀ st, pr.cf 40 i_is_chunk [.lst (.str x :: xs)] st = .ok (.bl false) st) ∧
    (∀ st, pr.cf 40 i_is_chunk [.tup W] st = .ok (.bl false) st) ∧
    (∀ st, pr.cf 40 i_is_chunk [.tup (.str "" :: xs)] st = .ok (.bl false) st) ∧
    (∀ st, pr.cf 40 i_is_chunk [.tup (.str y :: xs)] st = .ok (.bl false) st) ∧
    (∀ st, fAdd (.tup (.str x :: xs)) (.tup [.int 0]) st = .ok (.tup (.str x :: (xs ++ [.int 0]))) st) ∧
    cutM (.str x :: xs) none (some 0) = [] ∧ cutM (.str x :: xs) none (some (-1)) = W ∧ cutM (.str x :: xs) (some 1) none = xs ∧
    (∀ st, fAdd (.tup [.str ""]) (.tup xs) st = .ok (.tup (.str "" :: xs)) st) ∧ (∀ st, fAdd (.tup [.str y]) (.tup xs) st = .ok (.tup (.str y :: xs)) st) ∧
    (∀ st, fAdd (.str "init_") (.str x) st = .ok (.str y) st) := by
  obtain ⟨xs, e1, e2, e3⟩ : Chk ds j := by
    have : j = 0 ∨ j = 1 ∨ j = 2 ∨ j = 3 ∨ j = 4 ∨ j = 5 ∨ j = 6 ∨ j = 7 ∨ j = 8 ∨ j = 9 ∨ j = 10 ∨ j = 11 ∨ j = 12 ∨ j = 13 ∨ j = 14 ∨ j = 15 ∨ j = 16 := by omega
    rcases this with rfl | rfl | rfl | rfl | rfl | rfl | rfl | rfl | rfl | rfl | rfl | rfl | rfl | rfl | rfl | rfl | rfl
    · exact ch_0 ds hl
    · exact ch_1 ds hl
    · exact ch_2 ds hl
    · exact ch_3 ds hl
    · exact ch_4 ds hl
    · exact ch_5 ds hl
    · exact ch_6 ds hl
    · exact ch_7 ds hl
    · exact ch_8 ds hl
    · exact ch_9 ds hl
    · exact ch_10 ds hl
    · exact ch_11 ds hl
    · exact ch_12 ds hl
    · exact ch_13 ds hl
    · exact ch_14 ds hl
    · exact ch_15 ds hl
    · exact ch_16 ds hl
  have hB : Bad j xs := by
    have : j = 0 ∨ j = 1 ∨ j = 2 ∨ j = 3 ∨ j = 4 ∨ j = 5 ∨ j = 6 ∨ j = 7 ∨ j = 8 ∨ j = 9 ∨ j = 10 ∨ j = 11 ∨ j = 12 ∨ j = 13 ∨ j = 14 ∨ j = 15 ∨ j = 16 := by omega
    rcases this with rfl | rfl | rfl | rfl | rfl | rfl | rfl | rfl | rfl | rfl | rfl | rfl | rfl | rfl | rfl | rfl | rfl
    · exact bad_0 xs e2 e3
    · exact bad_1 xs e2 e3
    · exact bad_2 xs e2 e3
    · exact bad_3 xs e2 e3
    · exact bad_4 xs e2 e3
    · exact bad_5 xs e2 e3
    · exact bad_6 xs e2 e3
    · exact bad_7 xs e2 e3
    · exact bad_8 xs e2 e3
    · exact bad_9 xs e2 e3
    · exact bad_10 xs e2 e3
    · exact bad_11 xs e2 e3
    · exact bad_12 xs e2 e3
    · exact bad_13 xs e2 e3
    · exact bad_14 xs e2 e3
    · exact bad_15 xs e2 e3
    · exact bad_16 xs e2 e3
  have h32 : dv ds 32 ∈ ds := by
    unfold dv
    simp only [List.getD_eq_getElem?_getD, List.getElem?_eq_getElem (show 32 < ds.length by omega), Option.getD_some]
    exact List.getElem_mem _
  obtain ⟨ys, b1, b2, b3, b4⟩ := hB (dv ds 32) (hd _ h32).1 (hd _ h32).2
  obtain ⟨o1, o2, o3⟩ := ini_ok hj
  have hxl : xs.length < 100 := by
    have : ∀ j < 17, (fld j).length < 100 := by decide +kernel
    have h2 := this j hj
    by_cases h4 : j = 4
    · subst h4
      rw [isCh_4, Bool.and_eq_true] at e2
      rw [hF_len e2.1]; exact h2
    · rw [isCh_j hj h4] at e2
      rw [hF_len e2]; exact h2
  have af : ∀ x ∈ xs, aF x = true ∧ nr x = true := fun x hx => ⟨okF_aF (e3 x hx), okF_nr (e3 x hx)⟩
  have hnr := nrs_ok e3
  refine ⟨hdn j, ini j, xs, ys, (.str (hdn j) :: xs).dropLast, fun st => e1 38 st, fun st => b1 39 st, fun st => e2 ▸ is_chunkE 34 (hdn j) xs st (by omega) (by simpa using o2) af,
    fun st => b2 ▸ is_chunkE 34 (hdn j) ys st (by omega) (by simpa using o2) (fun y hy => ⟨okF_aF (b3 y hy), okF_nr (b3 y hy)⟩), fun st => ?_, fun st => is_chunk_no 39 _ st (.inl ⟨[], rfl, rfl⟩), fun st => is_chunk_no 39 _ st (.inl ⟨_, rfl, by rw [nrs_cons, hnr]; rfl⟩), fun st => ?_,
    fun st => (isCh_none emp_no xs) ▸ is_chunkE 34 "" xs st (by omega) (by simp) af, fun st => (isCh_ini hj e2) ▸ is_chunkE 34 (ini j) xs st (by omega) (by simpa using o1) af, fun st => ?_, ?_, ?_, ?_, fun st => ?_, fun st => ?_, fun st => ?_⟩
  · have h := is_chunkE 34 (hdn j) (xs ++ [.int 0]) st (by simp; omega) (by simpa using o2) (fun y hy => by
      rcases List.mem_append.mp hy with hy | hy
      · exact af y hy
      · rw [List.mem_singleton.mp hy]; exact ⟨rfl, rfl⟩)
    rw [isCh_len hj e2 (by simp)] at h
    exact h
  · cases hx : xs with
    | nil => exact is_chunk_no 39 _ st (.inr rfl)
    | cons z zs =>
      rw [hx] at e2 af hxl
      have h := is_chunkE 34 (hdn j) (z :: zs).dropLast st (by simp at hxl ⊢; omega) (by simpa using o2) (fun y hy => af y ((List.dropLast_sublist _).subset hy))
      rw [isCh_len hj e2 (by simp)] at h
      exact h
  · exact fAdd_tup (a := .str (hdn j) :: xs) (by simp; omega)
  · exact cutM_take _ 0
  · have := cutM_init (Val.str (hdn j) :: xs).dropLast ((Val.str (hdn j) :: xs).getLast (by simp))
    rw [List.dropLast_concat_getLast] at this
    exact this
  · exact cutM_drop _ 1
  · exact fAdd_tup (a := [.str ""]) (by simp; omega)
  · exact fAdd_tup (a := [.str (ini j)]) (by simp; omega)
  · exact if_pos (by show ("init_" : Str).length + (hdn j).length ≤ 16777216; have : ("init_" : Str).length = 5 := by decide +kernel
                     omega)
end Lw

-- M_k42
set_option linter.all false
set_option maxRecDepth 100000
set_option maxHeartbeats 4000000
namespace Lw
open PySem PySem.Spec PyProof.Rows L2 ML
-- EV: startM_eq
def cellB : Ss := match b_law with
  | .cons (.for_ _ _ b) _ => b
  | _ => .nil
def kindB : Ss := match cellB with
  | .cons _ (.cons _ (.cons (.for_ _ _ b) _)) => b
  | _ => .nil
theorem kindS (ds : List Int) (hl : ds.length = 36) (hd : ∀ d ∈ ds, 0 ≤ d ∧ d < 1000) (j : Nat) (hj : j < 17) (a b o3 o4 o5 o6 o7 o8 : Option Val) : ∃ p4 p5 p6, kindB.m (pr.dn 40) [a, b, some (.lst (ds.map .int)), some (.int j), o4, o5, o6, o7, o8] [] = .nx [a, b, some (.lst (ds.map .int)), some (.int j), p4, p5, p6, o7, o8] [] := by
  obtain ⟨x, y, xs, ys, W, f1, f2, f3, f4, f5, f6, f7, f8, f9, f10, f11, f12, f13, f14, f15, f16, f17⟩ := facts ds hl hd j hj
  have g32 : atI (ds.map Val.int) 32 = some (.int (dv ds 32)) := dv_at ds 32 (by omega)
  have hs2 : ∀ (L : List Val), okV 1 (.lst L) = true → lv (.lst L) = true → ∀ st, pr.cf 40 i__law_same [.lst L, .lst L] st = .ok (.bl true) st := fun L h1 h2 st => same 1 _ _ (Tw.self h1 h2) 38 st
  have s1 := hs2 [.bl true, .bl false, .bl false, .bl false, .bl false, .bl false] (by simp) (by simp [lv, lvs])
  have s2 := hs2 [.bl false, .bl false] (by simp) (by simp [lv, lvs])
  clear hs2 hd
  generalize ds.map Val.int = D at *
  generalize hr : kindB.m _ _ _ = r
  simp -implicitDefEqProofs [fEq_v, fNe_v, startM_eq, kindB, cellB, b_law, f1, g32, f2, f3, f4, f5, f6, f7, f8, f9, f10, f11, f12, f13, f14, f15, f16, f17, s1, s2, fAdd_lst] at hr
  exact ⟨_, _, _, hr.symm⟩
theorem cellS (c : Int) (a o2 o3 o4 o5 o6 o7 o8 : Option Val) : ∃ p2 p3 p4 p5 p6, cellB.m (pr.dn 40) [a, some (.int c), o2, o3, o4, o5, o6, o7, o8] [] = .nx [a, some (.int c), p2, p3, p4, p5, p6, o7, o8] [] := by
  obtain ⟨ds, h1, h2, h3⟩ := draws 39 c 36 (by decide) (by decide)
  have h3 : ∀ st, pr.cf 40 i__law_draws [.int c, .int 36] st = _ := h3
  have hl : ds.length = 36 := h1
  have hp := parts 30 ds hl
  have hp : ∀ st, pr.cf 40 i__law_parts [.lst (ds.map .int)] st = _ := hp
  have g30 : atI (ds.map Val.int) 30 = some (.int (dv ds 30)) := dv_at ds 30 (by omega)
  have g31 : atI (ds.map Val.int) 31 = some (.int (dv ds 31)) := dv_at ds 31 (by omega)
  obtain ⟨u, hu⟩ : ∃ u : Nat, dv ds 30 % 17 = u := ⟨(dv ds 30 % 17).toNat, by omega⟩
  obtain ⟨v, hv⟩ : ∃ v : Nat, dv ds 31 % 17 = v := ⟨(dv ds 31 % 17).toNat, by omega⟩
  have hu17 : u < 17 := by omega
  have hv17 : v < 17 := by omega
  have hk : ∀ D : List Val, (∀ j, j < 17 → ∀ o4 o5 o6 : Option Val, ∃ p4 p5 p6, kindB.m (pr.dn 40) [a, some (.int c), some (.lst D), some (.int (j : Nat)), o4, o5, o6, o7, o8] [] = .nx [a, some (.int c), some (.lst D), some (.int (j : Nat)), p4, p5, p6, o7, o8] []) →
      ∀ js : List Nat, (∀ j ∈ js, j < 17) → ∀ o3 o4 o5 o6 : Option Val, ∃ p3 p4 p5 p6, loopV (gN 3) (kindB.m (pr.dn 40)) (js.map fun j : Nat => Val.int (j : Nat)) [a, some (.int c), some (.lst D), o3, o4, o5, o6, o7, o8] [] = .nx [a, some (.int c), some (.lst D), p3, p4, p5, p6, o7, o8] [] := by
    intro D hD js
    induction js with
    | nil => exact fun _ o3 o4 o5 o6 => ⟨o3, o4, o5, o6, rfl⟩
    | cons j js ih =>
      intro hj o3 o4 o5 o6
      obtain ⟨p4, p5, p6, e⟩ := hD j (hj j List.mem_cons_self) o4 o5 o6
      obtain ⟨r3, r4, r5, r6, e2⟩ := ih (fun j h => hj j (List.mem_cons_of_mem _ h)) (some (.int (j : Nat))) p4 p5 p6
      refine ⟨r3, r4, r5, r6, ?_⟩
      rw [List.map_cons, loopV_cons (e1 := [a, some (.int c), some (.lst D), some (.int (j : Nat)), o4, o5, o6, o7, o8]) rfl, e]
      exact e2
  obtain ⟨p3, p4, p5, p6, hL⟩ := hk (ds.map .int) (fun j hj o4 o5 o6 => kindS ds hl h2 j hj a (some (.int c)) none o4 o5 o6 o7 o8) [u, v] (by simp; omega) o3 o4 o5 o6
  clear hk h2
  generalize ds.map Val.int = D at *
  have hL : loopV (gN 3) (kindB.m (pr.dn 40)) [.int u, .int v] _ _ = _ := hL
  generalize hr : cellB.m _ _ _ = r
  have hcb : cellB = .cons (.set 2 (.call 14 (.cons (.var 1) (.cons (.c (.int 36)) .nil)))) (.cons (.ife (.not (.tru (.call 21 (.cons (.var 2) .nil)))) (.cons (.ret (.c (.bl false))) .nil) .nil)
    (.cons (.for_ (.any (.lst (.cons (.op .mod (.bi .int (.cons (.ix (.var 2) (.c (.int 30))) .nil)) (.c (.int 17))) (.cons (.op .mod (.bi .int (.cons (.ix (.var 2) (.c (.int 31))) .nil)) (.c (.int 17))) .nil)))) (.n 3) kindB) .nil)) := rfl
  rw [hcb] at hr
  simp -implicitDefEqProofs [fEq_v, fNe_v, startM_eq, h3, hp, g30, g31, hu, hv, hL] at hr
  exact ⟨_, _, _, _, _, hr.symm⟩
theorem lastE (z : Int) (hz : 0 ≤ z) (n : Nat) (hn : n ≤ 10001) (st : Store) : pr.cf 40 i_is_chunk [.tup [.str "frame", .int 0, .int 1, .int 2, .int 3, .tup (List.replicate n (.int 0))]] st = .ok (.bl (decide (n ≤ 10000))) st := by
  have hm : List.replicate n (Val.int 0) = (List.replicate n (0 : Int)).map .int := by simp
  have h := is_chunkE 34 "frame" [.int 0, .int 1, .int 2, .int 3, .tup (List.replicate n (.int 0))] st (by simp) (by simp) (by
    intro x hx
    simp only [List.mem_cons, List.not_mem_nil, or_false] at hx
    rcases hx with rfl | rfl | rfl | rfl | rfl
    · exact ⟨rfl, rfl⟩
    · exact ⟨rfl, rfl⟩
    · exact ⟨rfl, rfl⟩
    · exact ⟨rfl, rfl⟩
    · rw [hm]
      have := okF_ints (List.replicate n (0 : Int)) (by simp; omega)
      exact ⟨okF_aF this, okF_nr this⟩)
  have e : isCh "frame" [.int 0, .int 1, .int 2, .int 3, .tup (List.replicate n (.int 0))] = decide (n ≤ 10000) := by
    show isCh (hdn 15) _ = _
    rw [isCh_j (by decide) (by decide)]
    show hF ["number", "number", "number", "number", "frame codes"] _ = _
    simp only [hF_cons, hF_nil, chk_number, chk_fcodes]
    have i0 : isNum 4294967295 (.int 0) = true := rfl
    have i1 : isNum 4294967295 (.int 1) = true := rfl
    have i2 : isNum 4294967295 (.int 2) = true := rfl
    have i3 : isNum 4294967295 (.int 3) = true := rfl
    rw [i0, i1, i2, i3, hm]
    by_cases c : n ≤ 10000
    · rw [areNum_ok (by simp; omega) (fun x hx => by rw [(List.mem_replicate.mp hx).2]; decide)]
      simp [c]
    · rw [areNum_long (by simp; omega)]
      simp [c]
  rw [e] at h
  exact h
theorem math : ∀ ns : List Int, ns.length ≤ 63 → (∀ z ∈ ns, Builtin.Int.intBits z ≤ 1048576) → runP f_law.N.length (f_law.body.m (pr.dn 40)) [.fzl (ns.map Val.int)] = .ok (.bl true) [] := by
  intro ns hl hb
  generalize hr : runP _ _ _ = r
  unfold runP at hr
  have h1 : ∀ st, fAdd (.lst [.int 0, .int 1, .int 2, .int 3]) (.lst (ns.map .int)) st = .ok (.lst ((0 :: 1 :: 2 :: 3 :: ns).map .int)) st := fun st => fAdd_lst (by simp; omega)
  have hs2 : ∀ (L : List Val), okV 1 (.lst L) = true → lv (.lst L) = true → ∀ st, pr.cf 40 i__law_same [.lst L, .lst L] st = .ok (.bl true) st := fun L h1 h2 st => same 1 _ _ (Tw.self h1 h2) 38 st
  have s3 := hs2 [.bl true, .bl false] (by simp) (by simp [lv, lvs])
  have e1 := lastE 0 (by decide) 10000 (by decide)
  have e2 := lastE 0 (by decide) 10001 (by decide)
  have d1 : decide (10000 ≤ 10000) = true := by decide
  have d2 : decide (10001 ≤ 10000) = false := by decide
  rw [d1] at e1
  rw [d2] at e2
  have ea : ∀ st, fAdd (.tup (List.replicate 10000 (.int 0))) (.tup [.int 0]) st = .ok (.tup (List.replicate 10001 (.int 0))) st := fun st => by
    rw [fAdd_tup (by simp), List.replicate_succ' (n := 10000)]
  have hcl : cls (List.replicate 10000 (Val.int 0)) = true := cls_iff.mpr fun d hd => by rw [(List.mem_replicate.mp hd).2]; rfl
  generalize hq1 : List.replicate 10000 (Val.int 0) = Q1 at *
  generalize List.replicate 10001 (Val.int 0) = Q2 at *
  have hlw : f_law.body = .cons (.for_ (.any (.op .add (.lst (.cons (.c (.int 0)) (.cons (.c (.int 1)) (.cons (.c (.int 2)) (.cons (.c (.int 3)) .nil))))) (.bn .list (.cons (.var 0) .nil)))) (.n 1) cellB) (b_law.drop 1) := rfl
  rw [hlw] at hr
  simp -implicitDefEqProofs [fEq_v, fNe_v, startM_eq, h1] at hr
  generalize hL : loopV _ _ _ _ _ = q at hr
  have hL' : loopV (gN 1) (cellB.m (pr.dn 40)) ((0 :: 1 :: 2 :: 3 :: ns).map .int) [some (.fzl (ns.map .int)), none, none, none, none, none, none, none, none] [] = q := hL
  obtain ⟨e', s', rfl, p1, p2, p3, p4, p5, p6, rfl, rfl⟩ := loop_outq hL' (fun _ env st => ∃ p1 p2 p3 p4 p5 p6, env = [some (.fzl (ns.map .int)), p1, p2, p3, p4, p5, p6, none, none] ∧ st = []) ⟨_, _, _, _, _, _, rfl, rfl⟩ (by
    rintro don x post env st he ⟨p1, p2, p3, p4, p5, p6, rfl, rfl⟩ q hq
    obtain ⟨q2, q3, q4, q5, q6, e⟩ := cellS x (some (.fzl (ns.map .int))) p2 p3 p4 p5 p6 none none
    exact ⟨_, _, (hq.symm.trans e), _, _, _, _, _, _, rfl, rfl⟩)
  unfold b_law Ss.drop Ss.drop at hr
  simp -implicitDefEqProofs [fEq_v, fNe_v, startM_eq] at hr
  generalize hC : compV _ _ _ _ _ _ = qc at hr
  obtain rfl := comp_mapq (enc := fun i : Nat => Val.int (0 + (i : Nat))) (xs := List.range 10000) hC (fun _ => .int 0) (fun i hi => ⟨_, rfl, by simp -implicitDefEqProofs [fEq_v, fNe_v, startM_eq, wipeM]⟩)
  have hz : (List.range 10000).map (fun _ => Val.int 0) = Q1 := by rw [← hq1]; simp [List.map_const']
  rw [hz] at hr
  have hrl : (rngL 0 10000).length ≤ 16777216 := by simp [rngL]
  simp -implicitDefEqProofs [fEq_v, fNe_v, startM_eq, hrl, ea, e1, e2, s3, fAdd_lst] at hr
  exact hr.symm
end Lw

-- end
namespace Lw
open PySem PySem.Spec PyProof.Rows L2 ML
def top (i : Nat) : Stmt := PySem.Challenge.pw_fardesk_k42_chunks_are_chunks.main.body.getD i (.Pass ⟨0, 0, 0, 0⟩)
def topM (i j : Nat) : Stmt := match top i with
  | .ClassDef _ _ _ b _ _ _ _ _ _ _ => b.getD j (.Pass ⟨0, 0, 0, 0⟩)
  | s => s
def ss : List Stmt := [top 9, top 10, top 11, top 12, top 13, top 14, top 15, top 16, top 17, top 18, top 19, top 21, top 22, top 23, top 25, top 26, top 27, top 28, top 29, top 30, top 31, top 32, top 33]
theorem okB : pr.okB ss = true := by decide +kernel
def loose : List PySem.Str := (["CHECKS", "FORMS", "MOST_ADDRESSES", "MOST_BEYOND", "MOST_FRAME", "MOST_MESSAGE", "MOST_NUMBER", "MOST_OCTET", "MOST_STREAM", "_law_bad", "_law_big", "_law_chunk", "_law_codes", "_law_draws", "_law_parts", "_law_places", "_law_same", "are_addresses", "are_fours", "are_numbers"] : List PySem.Str) ++ (["has_form", "is_chunk", "is_codes", "is_cookie", "is_four", "is_frame_codes", "is_message_codes", "is_number", "is_placed", "is_stream", "kind_number"] : List PySem.Str)
abbrev Rw : PySem.W.OpenRow := PySem.W.OpenLaw.row PySem.Challenge.rw_fardesk_k42_chunks_are_chunks
abbrev hk : PySem.W.Hook := hookK pr.fa (pr.fn ss) pr.cv pr.ct pr.xt
def ob (s : PySem.W.SharedT) : AlK := obsKG pr.fa (pr.fn ss) pr.cv pr.ct pr.xt (HandSHeadRun.getT s)
theorem ob_eq (s : PySem.W.SharedT) : ob s = hk.obs s.abs := obsKG_eq (HandSHeadRun.getT_eq s)
set_option maxHeartbeats 0 in
theorem runF (w : World) : HandSHeadRun.RunEq Rw (PySem.W.view Rw.prog [33]) hk ob 20000 loose (w.withFollow "special-get-raises" false) := by
  intro os
  kernel_rfl
set_option maxHeartbeats 0 in
theorem runT (w : World) : HandSHeadRun.RunEq Rw (PySem.W.view Rw.prog [33]) hk ob 20000 loose (w.withFollow "special-get-raises" true) := by
  intro os
  kernel_rfl
theorem run (w : World) : HandSHeadRun.RunEq Rw (PySem.W.view Rw.prog [33]) hk ob 20000 loose w := by
  have e := World.withFollow_self w "special-get-raises"
  cases hb : w.params.followText "special-get-raises" <;> rw [hb] at e <;> rw [← e]
  · exact runF w
  · exact runT w
end Lw
open PySem PySem.W PySem.Calls PyProof.Rows
set_option maxHeartbeats 0 in
theorem PySem.Challenge.cw_fardesk_k42_chunks_are_chunks_holds : PySem.Challenge.rw_fardesk_k42_chunks_are_chunks.Holds := by
  w_on; o_law
  refine HandSHeadRun.head_any (r := OpenLaw.row PySem.Challenge.rw_fardesk_k42_chunks_are_chunks) (q := view (OpenLaw.row PySem.Challenge.rw_fardesk_k42_chunks_are_chunks).prog [33]) (H := Lw.hk) (ob := Lw.ob) (M := 20000) (loose := Lw.loose) (d := HandSHeadRun.topDef (OpenLaw.row PySem.Challenge.rw_fardesk_k42_chunks_are_chunks).prog 33) (kwd := []) Lw.ob_eq
    (by kernel_rfl) (fun s => by kernel_rfl) Lw.run (by kernel_rfl) (by kernel_rfl) (by kernel_rfl) (by rfl) (by first | assumption | decide +kernel) (by decide +kernel) ⟨rfl, rfl, rfl, rfl, rfl, by decide +kernel⟩ ?hw ?hc
  case hw => w_witness2
  case hc => exact ML.law_end (l := PySem.Challenge.rw_fardesk_k42_chunks_are_chunks) (pr := Lw.pr) (ss := Lw.ss) (d := Lw.f_law) (x := "script") 40 22 rfl (by kernel_rfl) ⟨rfl, by decide, by decide⟩ Lw.okB rfl rfl (by kernel_rfl) rfl Lw.math
