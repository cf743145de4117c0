import PyProof.Rows.All
import Wide.All
import OpenK.AllK
import Wide.FinOn
import HandS.ForMost
import HandS.ForExc
import HandS.Wide
import HandS.Lambda
import HandS.TryMany
import HandS.ExcField
import HandS.ExcInit
import HandS.Gcd
import HandS.IsInst
import HandS.TupAny
import HandS.TupMul
import HandS.TupLe
import HandS.Conv
import HandS.RaiseMore
import HandS.Style
import HandS.WordsExc
import HandS.ExcOwn
import KE.KExcInit
import KE.KMathG
import KE.KMathGC
import HandS.Rev
import PyProof.ReprRoads
import HandS.EndTab
import HandS.Iter
import HandS.Zip
import HandS.SortKw
import HandS.SortInts
import KE.KTupSum
import KE.DatumOrd
import HandS.Property
import HandS.ClsMeth
import HandS.OwnEq
import HandS.TryOnly
import KE.KNestM
import PySem.Challenge.RW_arrowsizes_k09_whole_partitions_and_prod
set_option Elab.async false
set_option linter.all false
set_option maxRecDepth 100000
/-! Ki: a small reckoner over deep values; what it answers, the program does. -/
namespace Ki
open PySem L2

/-- the builtin types that are told as values -/
inductive TyC where
  | int | bool | str | tuple | list | dict | none | float | bytes
def TyC.nm : TyC → String
  | .int => "int" | .bool => "bool" | .str => "str" | .tuple => "tuple" | .list => "list" | .dict => "dict" | .none => "NoneType" | .float => "float" | .bytes => "bytes"
/-- values as trees; ref: an object of the store that may still change -/
inductive D where
  | non
  | bl (b : Bool)
  | int (i : Int)
  | str (x : Str)
  | ty (n : TyC)
  | tup (xs : List D)
  | lst (own : Bool) (xs : List D)
  | scr (ns : List Int)
  | dic (kvs : List (Key × D))
  | obj (c : Nat) (fs : List (Str × D))
  | ref (n : Nat)
  | cls (c : Nat)

/-- an object of the store -/
inductive O where
  | lst (xs : List D)
  | ins (c : Nat) (fs : List (Str × D))
abbrev Sto := List O
abbrev Ev := List (Option D)
/-- an exception: its class's number, its own fields -/
structure Xc where
  c : Nat
  fs : List (Str × D)
inductive Res (α : Type) where
  | ok (a : α) (S : Sto)
  | exc (x : Xc) (S : Sto)
  | bad

/-- what is fixed through a proof: the written part, the classes by number -/
structure Gm where
  K : PySem.W.Frag
  cls : Nat → Addr
  tab : List (Addr × Str)
/-- psi: what this def may change; phi: what some frame may change; rho: the store's objects -/
structure Z where
  psi : Addr → Prop
  phi : Addr → Prop
  rho : List Addr
  hid : Addr → Prop
/-- what no value here is -/
def Z.bar (z : Z) (a : Addr) : Prop := z.psi a ∨ z.hid a

/-- the script: frozen, or written -/
def SqF (K : PySem.W.Frag) (H : Hp) (a : Addr) (xs : List V) : Prop := (∃ o, H a = some (.frz o (.lst xs))) ∨ ∃ (o : Obj) (its : Array Value) (n : Nat), K.lookup a = some o ∧ o.cls = .type "list" ∧ o.dict = none ∧ o.data = .seq its n ∧ its.size ≤ sizeLine ∧ Vals xs its.toList
mutual
def Rep (G : Gm) (z : Z) (H : Hp) : D → V → Prop
  | .non, v => v = .non
  | .bl b, v => v = .bl b
  | .int i, v => v = .int i
  | .str x, v => v = .str x
  | .ty n, v => v = .ty n.nm
  | .tup ds, v => ∃ a vs, v = .ref a ∧ SqT G.K H a vs ∧ RepL G z H ds vs
  | .lst own ds, v => ∃ a vs, v = .ref a ∧ H a = some (.lst vs) ∧ ¬ z.bar a ∧ (own = true → ¬ z.phi a) ∧ RepL G z H ds vs
  | .scr ns, v => ∃ a, v = .ref a ∧ SqF G.K H a (ns.map V.int)
  | .dic kvs, v => ∃ a ws, v = .ref a ∧ H a = some (.dK ws) ∧ ¬ z.psi a ∧ ¬ z.phi a ∧ RepK G z H kvs ws
  | .obj c fs, v => ∃ a dx ws, v = .ref a ∧ H a = some (.ins (G.cls c) dx ws) ∧ ¬ z.psi a ∧ ¬ z.phi a ∧ RepF G z H fs ws
  | .ref n, v => ∃ a, v = .ref a ∧ z.rho[n]? = some a
  | .cls c, v => v = .ref (G.cls c)
def RepL (G : Gm) (z : Z) (H : Hp) : List D → List V → Prop
  | [], vs => vs = []
  | d :: ds, vs => ∃ w ws, vs = w :: ws ∧ Rep G z H d w ∧ RepL G z H ds ws
def RepK (G : Gm) (z : Z) (H : Hp) : List (Key × D) → List (Key × V) → Prop
  | [], vs => vs = []
  | (k, d) :: ds, vs => ∃ w ws, vs = (k, w) :: ws ∧ Rep G z H d w ∧ RepK G z H ds ws
def RepF (G : Gm) (z : Z) (H : Hp) : List (Str × D) → List (Str × V) → Prop
  | [], vs => vs = []
  | (k, d) :: ds, vs => ∃ w ws, vs = (k, w) :: ws ∧ Rep G z H d w ∧ RepF G z H ds ws
end

def RepO (G : Gm) (z : Z) (H : Hp) : O → Option HO → Prop
  | .lst ds, o => ∃ vs, o = some (.lst vs) ∧ RepL G z H ds vs
  | .ins c fs, o => ∃ dx ws, o = some (.ins (G.cls c) dx ws) ∧ RepF G z H fs ws

/-- an object that is no table -/
def Lv (H : Hp) (a : Addr) : Prop := ∃ o, H a = some o ∧ ∀ ps, o ≠ .tbl ps
theorem nlv {H : Hp} {a : Addr} (h : H a = none) : ¬ Lv H a := fun ⟨o, e, _⟩ => by rw [h] at e; cases e
/-- the store stands in the heap -/
structure Stands (G : Gm) (z : Z) (H : Hp) (S : Sto) : Prop where
  rho : ∀ a ∈ z.rho, z.psi a
  psi : ∀ a, z.psi a → z.phi a
  mu : ∀ a, z.phi a → Mut (H a)
  hid : ∀ a, z.hid a → Lv H a
  tab : LamX.Tabs G.tab H
  len : z.rho.length = S.length
  nd : z.rho.Nodup
  at_ : ∀ (n : Nat) (a : Addr) (o : O), z.rho[n]? = some a → S[n]? = some o → RepO G z H o (H a)

theorem mut_some {o : Option HO} (h : Mut o) : ∃ u, o = some u := by
  cases o with
  | none => exact h.elim
  | some u => exact ⟨u, rfl⟩

/-- later: what this def may not change stands as before -/
structure Later (z : Z) (H : Hp) (z' : Z) (H' : Hp) : Prop where
  keep : ∀ a o, H a = some o → ¬ z.psi a → (∀ ps, o ≠ .tbl ps) → H' a = some o
  pre : ∃ t, z'.rho = z.rho ++ t
  psi : ∀ a, z'.psi a → z.psi a ∨ ¬ Lv H a
  phi : ∀ a, z'.phi a → z.phi a ∨ ¬ Lv H a
  psub : ∀ a, z.psi a → z'.psi a
  sub : ∀ a, z.phi a → z'.phi a
  live : ∀ a, Lv H a → Lv H' a
  hid : ∀ a, z'.hid a → z.hid a ∨ ¬ Lv H a
  hsub : ∀ a, z.hid a → z'.hid a

theorem Later.refl {z : Z} {H : Hp} : Later z H z H :=
  ⟨fun _ _ h _ _ => h, ⟨[], (List.append_nil _).symm⟩, fun _ h => .inl h, fun _ h => .inl h, fun _ h => h, fun _ h => h, fun _ h => h, fun _ h => .inl h, fun _ h => h⟩
theorem Later.trans {z z1 z2 : Z} {H H1 H2 : Hp} (a : Later z H z1 H1) (b : Later z1 H1 z2 H2) : Later z H z2 H2 := by
  refine ⟨fun x o h hn ht => b.keep x o (a.keep x o h hn ht) (fun hm => ?_) ht, ?_, fun x hx => ?_, fun x hx => ?_, fun x h => b.psub x (a.psub x h), fun x h => b.sub x (a.sub x h), fun x h => b.live x (a.live x h), fun x hx => ?_, fun x h => b.hsub x (a.hsub x h)⟩
  · rcases a.psi x hm with h1 | h1
    · exact hn h1
    · exact h1 ⟨o, h, ht⟩
  · obtain ⟨t, e⟩ := a.pre
    obtain ⟨u, e2⟩ := b.pre
    exact ⟨t ++ u, by rw [e2, e, List.append_assoc]⟩
  · rcases b.psi x hx with h | h
    · exact a.psi x h
    · exact .inr fun q => h (a.live x q)
  · rcases b.phi x hx with h | h
    · exact a.phi x h
    · exact .inr fun q => h (a.live x q)
  · rcases b.hid x hx with h | h
    · exact a.hid x h
    · exact .inr fun q => h (a.live x q)

section
variable {G : Gm} {z z' : Z} {H H' : Hp} {S : Sto}
theorem Later.at_ (L : Later z H z' H') {n : Nat} {a : Addr} (h : z.rho[n]? = some a) : z'.rho[n]? = some a := by
  obtain ⟨t, e⟩ := L.pre
  rw [e, List.getElem?_append_left (List.getElem?_eq_some_iff.mp h).1]
  exact h
theorem Later.npsi (L : Later z H z' H') {a : Addr} {o : HO} (h : H a = some o) (hn : ¬ z.psi a) (ht : ∀ ps, o ≠ .tbl ps := by intro ps q; cases q) : ¬ z'.psi a := fun hm => by
  rcases L.psi a hm with q | q
  · exact hn q
  · exact q ⟨o, h, ht⟩
theorem Later.nbar (L : Later z H z' H') {a : Addr} {o : HO} (h : H a = some o) (hn : ¬ z.bar a) (ht : ∀ ps, o ≠ .tbl ps := by intro ps q; cases q) : ¬ z'.bar a := fun hm => by
  rcases hm with hm | hm
  · exact L.npsi h (fun q => hn (.inl q)) ht hm
  · rcases L.hid a hm with q | q
    · exact hn (.inr q)
    · exact q ⟨o, h, ht⟩
theorem Later.nphi (L : Later z H z' H') {a : Addr} {o : HO} (h : H a = some o) (hn : ¬ z.phi a) (ht : ∀ ps, o ≠ .tbl ps := by intro ps q; cases q) : ¬ z'.phi a := fun hm => by
  rcases L.phi a hm with q | q
  · exact hn q
  · exact q ⟨o, h, ht⟩
/-- what this def may change is of a kind that changes -/
abbrev MuP (z : Z) (H : Hp) : Prop := ∀ a, z.psi a → Mut (H a)
theorem Stands.mup (st : Stands G z H S) : MuP z H := fun a h => st.mu a (st.psi a h)
theorem Later.sqT (L : Later z H z' H') (M : MuP z H) {K : PySem.W.Frag} {a : Addr} {vs : List V} (h : SqT K H a vs) : SqT K H' a vs := by
  rcases h with (h | ⟨o, h⟩) | h
  · exact .inl (.inl (L.keep _ _ h (fun hm => by have := M _ hm; rw [h] at this; exact this) (by intro ps q; cases q)))
  · exact .inl (.inr ⟨o, L.keep _ _ h (fun hm => by have := M _ hm; rw [h] at this; exact this) (by intro ps q; cases q)⟩)
  · exact .inr h
theorem Later.sqF (L : Later z H z' H') (M : MuP z H) {K : PySem.W.Frag} {a : Addr} {vs : List V} (h : SqF K H a vs) : SqF K H' a vs := by
  rcases h with ⟨o, h⟩ | h
  · exact .inl ⟨o, L.keep _ _ h (fun hm => by have := M _ hm; rw [h] at this; exact this) (by intro ps q; cases q)⟩
  · exact .inr h
theorem SqF.l {K : PySem.W.Frag} {a : Addr} {vs : List V} (h : SqF K H a vs) : SqL K H a vs := by
  rcases h with ⟨o, h⟩ | h
  · exact .inl (.inr ⟨o, h⟩)
  · exact .inr h
mutual
theorem Rep.later (L : Later z H z' H') (M : MuP z H) : ∀ (d : D) (v : V), Rep G z H d v → Rep G z' H' d v
  | .non, _, h => h
  | .bl _, _, h => h
  | .int _, _, h => h
  | .str _, _, h => h
  | .ty _, _, h => h
  | .tup ds, v, h => by
    rw [Rep] at h ⊢
    obtain ⟨a, vs, e, hs, hl⟩ := h
    exact ⟨a, vs, e, L.sqT M hs, RepL.later L M ds vs hl⟩
  | .lst own ds, v, h => by
    rw [Rep] at h ⊢
    obtain ⟨a, vs, e, hs, hn, ho, hl⟩ := h
    exact ⟨a, vs, e, L.keep _ _ hs (fun q => hn (.inl q)) (by intro ps q; cases q), L.nbar hs hn, fun q => L.nphi hs (ho q), RepL.later L M ds vs hl⟩
  | .scr ns, v, h => by
    rw [Rep] at h ⊢
    obtain ⟨a, e, hs⟩ := h
    exact ⟨a, e, L.sqF M hs⟩
  | .dic kvs, v, h => by
    rw [Rep] at h ⊢
    obtain ⟨a, ws, e, hs, hn, ho, hl⟩ := h
    exact ⟨a, ws, e, L.keep _ _ hs hn (by intro ps q; cases q), L.npsi hs hn, L.nphi hs ho, RepK.later L M kvs ws hl⟩
  | .obj c fs, v, h => by
    rw [Rep] at h ⊢
    obtain ⟨a, dx, ws, e, hs, hn, ho, hl⟩ := h
    exact ⟨a, dx, ws, e, L.keep _ _ hs hn (by intro ps q; cases q), L.npsi hs hn, L.nphi hs ho, RepF.later L M fs ws hl⟩
  | .ref n, v, h => by
    rw [Rep] at h ⊢
    obtain ⟨a, e, hn⟩ := h
    exact ⟨a, e, L.at_ hn⟩
  | .cls c, v, h => by
    rw [Rep] at h ⊢
    exact h
theorem RepL.later (L : Later z H z' H') (M : MuP z H) : ∀ (ds : List D) (vs : List V), RepL G z H ds vs → RepL G z' H' ds vs
  | [], _, h => h
  | d :: ds, vs, h => by
    rw [RepL] at h ⊢
    obtain ⟨w, ws, e, h1, h2⟩ := h
    exact ⟨w, ws, e, Rep.later L M d w h1, RepL.later L M ds ws h2⟩
theorem RepK.later (L : Later z H z' H') (M : MuP z H) : ∀ (ds : List (Key × D)) (vs : List (Key × V)), RepK G z H ds vs → RepK G z' H' ds vs
  | [], _, h => h
  | (k, d) :: ds, vs, h => by
    rw [RepK] at h ⊢
    obtain ⟨w, ws, e, h1, h2⟩ := h
    exact ⟨w, ws, e, Rep.later L M d w h1, RepK.later L M ds ws h2⟩
theorem RepF.later (L : Later z H z' H') (M : MuP z H) : ∀ (ds : List (Str × D)) (vs : List (Str × V)), RepF G z H ds vs → RepF G z' H' ds vs
  | [], _, h => h
  | (k, d) :: ds, vs, h => by
    rw [RepF] at h ⊢
    obtain ⟨w, ws, e, h1, h2⟩ := h
    exact ⟨w, ws, e, Rep.later L M d w h1, RepF.later L M ds ws h2⟩
end
theorem RepL.len : ∀ {ds : List D} {vs : List V}, RepL G z H ds vs → vs.length = ds.length
  | [], _, h => by rw [RepL] at h; rw [h] <;> rfl
  | d :: ds, vs, h => by
    rw [RepL] at h
    obtain ⟨w, ws, e, _, h2⟩ := h
    rw [e, List.length_cons, List.length_cons, RepL.len h2]
theorem RepL.at_ : ∀ {ds : List D} {vs : List V} {n : Nat} {d : D}, RepL G z H ds vs → ds[n]? = some d → ∃ v, vs[n]? = some v ∧ Rep G z H d v
  | [], _, n, _, _, e => by simp at e
  | d :: ds, vs, 0, x, h, e => by
    rw [RepL] at h
    obtain ⟨w, ws, ev, h1, _⟩ := h
    simp at e
    subst e
    exact ⟨w, by rw [ev] <;> rfl, h1⟩
  | d :: ds, vs, n + 1, x, h, e => by
    rw [RepL] at h
    obtain ⟨w, ws, ev, _, h2⟩ := h
    obtain ⟨v, q1, q2⟩ := RepL.at_ (n := n) h2 (by simpa using e)
    exact ⟨v, by rw [ev]; simpa using q1, q2⟩
theorem RepL.app : ∀ {ds es : List D} {vs ws : List V}, RepL G z H ds vs → RepL G z H es ws → RepL G z H (ds ++ es) (vs ++ ws)
  | [], _, _, _, h, k => by rw [RepL] at h; subst h; exact k
  | d :: ds, es, vs, ws, h, k => by
    rw [RepL] at h
    obtain ⟨w, us, e, h1, h2⟩ := h
    subst e
    show RepL G z H (d :: (ds ++ es)) (w :: (us ++ ws))
    rw [RepL]
    exact ⟨w, _, rfl, h1, RepL.app h2 k⟩
end

/-! ### names -/
def RepE (G : Gm) (z : Z) (H : Hp) (env : Ev) (σ : L2.St) : Prop :=
  env.length ≤ σ.length ∧ ∀ (i : Nat) (d : D), env[i]? = some (some d) → ∃ v, σ[i]? = some (some v) ∧ Rep G z H d v
section
variable {G : Gm} {z z' : Z} {H H' : Hp} {S : Sto} {env : Ev} {σ : L2.St}
theorem RepE.later (L : Later z H z' H') (M : MuP z H) (h : RepE G z H env σ) : RepE G z' H' env σ :=
  ⟨h.1, fun i d e => let ⟨v, q1, q2⟩ := h.2 i d e; ⟨v, q1, Rep.later L M d v q2⟩⟩
theorem RepE.set (h : RepE G z H env σ) {i : Nat} {d : D} {v : V} (r : Rep G z H d v) : RepE G z H (env.set i (some d)) (σ.set i (some v)) := by
  refine ⟨by simpa using h.1, fun j e hj => ?_⟩
  by_cases q : j = i
  · subst q
    have hl : j < (env.set j (some d)).length := (List.getElem?_eq_some_iff.mp hj).1
    rw [List.length_set] at hl
    rw [List.getElem?_set_self hl] at hj
    cases hj
    exact ⟨v, List.getElem?_set_self (Nat.lt_of_lt_of_le hl h.1), r⟩
  · rw [List.getElem?_set_ne (Ne.symm q)] at hj
    obtain ⟨u, q1, q2⟩ := h.2 j e hj
    exact ⟨u, by rw [List.getElem?_set_ne (Ne.symm q)]; exact q1, q2⟩
end

/-- an exception as it lies: its class, its dict -/
def RepX (G : Gm) (z : Z) (H : Hp) (x : Xc) (cls : Value) (dx : Option Addr) : Prop :=
  cls = .ref (G.cls x.c) ∧ (x.fs = [] ∨ ∃ d ws, dx = some d ∧ H d = some (.xd ws) ∧ RepF G z H x.fs ws)

/-! ### the readings -/
abbrev M (α : Type) := Ev → Sto → Res α
abbrev QO (α : Type) := Z → Hp → Sto → α → Prop
/-- what an answer is worth -/
def Out {α : Type} (G : Gm) (W : WX) (σ : L2.St) (z : Z) (H : Hp) (Q : QO α) : Res α → Prop
  | .ok a S => ∀ z' H', Later z H z' H' → Stands G z' H' S → Q z' H' S a
  | .exc x S => ∀ z' H' cls dx, Later z H z' H' → Stands G z' H' S → RepX G z' H' x cls dx → W cls dx σ H'
  | .bad => False
def rdE (G : Gm) (W : WX) (m : M D) : TE := fun σ H Q => ∃ z env S, Stands G z H S ∧ RepE G z H env σ ∧
  Out G W σ z H (fun z' H' _ d => ∀ v, Rep G z' H' d v → Q v H') (m env S)
def rdA (G : Gm) (W : WX) (m : M (List D)) : TA := fun σ H Q => ∃ z env S, Stands G z H S ∧ RepE G z H env σ ∧
  Out G W σ z H (fun z' H' _ ds => ∀ vs, RepL G z' H' ds vs → Q vs H') (m env S)
def rdT (G : Gm) (W : WX) (m : M Bool) : TT := fun σ H Q => ∃ z env S, Stands G z H S ∧ RepE G z H env σ ∧
  Out G W σ z H (fun _ H' _ b => Q b H') (m env S)
section
variable {α β : Type} {G : Gm} {W : WX} {σ : L2.St} {z z1 : Z} {H H1 : Hp} {Q Q' : QO α} {r : Res α}
theorem Out.mono (L : Later z H z1 H1) (h : Out G W σ z H Q r) : Out G W σ z1 H1 Q r := by
  cases r with
  | ok a S => exact fun z' H' L' s => h z' H' (L.trans L') s
  | exc x S => exact fun z' H' cls dx L' s r => h z' H' cls dx (L.trans L') s r
  | bad => exact h
theorem Out.imp (h : Out G W σ z H Q r) (i : ∀ z' H' S' a, Later z H z' H' → Stands G z' H' S' → Q z' H' S' a → Q' z' H' S' a) : Out G W σ z H Q' r := by
  cases r with
  | ok a S => exact fun z' H' L' s => i _ _ _ _ L' s (h z' H' L' s)
  | exc x S => exact h
  | bad => exact h
end

/-- a weaker reading -/
theorem pe_imp {X : Cx} {e : Expr} {t u : TE} (h : PE X e t) (i : ∀ σ H Q, u σ H Q → t σ H Q) : PE X e u := ⟨fun pins s σ H Q I q => h.run pins s σ H Q I (i σ H Q q)⟩
theorem pt_imp {X : Cx} {e : Expr} {t u : TT} (h : PT X e t) (i : ∀ σ H Q, u σ H Q → t σ H Q) : PT X e u := ⟨fun pins s σ H Q I q => h.run pins s σ H Q I (i σ H Q q)⟩
theorem pa_imp {X : Cx} {e : List Expr} {t u : TA} (h : PA X e t) (i : ∀ σ H Q, u σ H Q → t σ H Q) : PA X e u := ⟨fun pos pins s σ H Q I q => h.run pos pins s σ H Q I (i σ H Q q)⟩
theorem ps_imp {X : Cx} {e : Stmt} {t u : TS} (h : PS X e t) (i : ∀ D σ H, u D σ H → t D σ H) : PS X e u := ⟨fun pins s σ H D I q => h.run pins s σ H D I (i D σ H q)⟩
theorem pss_imp {X : Cx} {e : List Stmt} {t u : TS} (h : PSs X e t) (i : ∀ D σ H, u D σ H → t D σ H) : PSs X e u := ⟨fun pins s σ H D I q => h.run pins s σ H D I (i D σ H q)⟩

/-! ### putting reckonings together -/
def bind {α β : Type} (m : M α) (k : α → M β) : M β := fun env S => match m env S with
  | .ok a S' => k a env S'
  | .exc x S' => .exc x S'
  | .bad => .bad
def ret {α : Type} (a : α) : M α := fun _ S => .ok a S
def lift {α : Type} (r : Option α) : M α := fun _ S => match r with
  | some a => .ok a S
  | none => .bad
section
variable {α β : Type} {G : Gm} {W : WX} {σ : L2.St} {z : Z} {H : Hp} {env : Ev} {S : Sto}
theorem rd_bind {m : M α} {k : α → M β} {Q : QO β} (h : Out G W σ z H Q (bind m k env S)) : Out G W σ z H (fun z' H' S' a => Out G W σ z' H' Q (k a env S')) (m env S) := by
  unfold bind at h
  cases q : m env S with
  | ok a S1 =>
    rw [q] at h
    exact fun z' H' L s => Out.mono L h
  | exc x S1 => rw [q] at h; exact h
  | bad => rw [q] at h; exact h
theorem rd_lift {r : Option α} {Q : QO α} (s : Stands G z H S) (h : Out G W σ z H Q (lift r env S)) : ∃ a, r = some a ∧ Q z H S a := by
  cases r with
  | none => exact h.elim
  | some a => exact ⟨a, rfl, h z H .refl s⟩
theorem rd_ret {a : α} {Q : QO α} (s : Stands G z H S) (h : Out G W σ z H Q (ret a env S)) : Q z H S a := h z H .refl s
/-- the next part of an expression -/
theorem rdE_step {m : M D} {k : D → M β} {Q : QO β} {R : VK} (s : Stands G z H S) (e : RepE G z H env σ) (h : Out G W σ z H Q (bind m k env S))
    (i : ∀ z' H' S' d v, Later z H z' H' → Stands G z' H' S' → RepE G z' H' env σ → Rep G z' H' d v → Out G W σ z' H' Q (k d env S') → R v H') : rdE G W m σ H R :=
  ⟨z, env, S, s, e, (rd_bind h).imp fun z' H' S' d L s' q v r => i z' H' S' d v L s' (e.later L s.mup) r q⟩
theorem rdT_step {m : M Bool} {k : Bool → M β} {Q : QO β} {R : Bool → Hp → Prop} (s : Stands G z H S) (e : RepE G z H env σ) (h : Out G W σ z H Q (bind m k env S))
    (i : ∀ z' H' S' b, Later z H z' H' → Stands G z' H' S' → RepE G z' H' env σ → Out G W σ z' H' Q (k b env S') → R b H') : rdT G W m σ H R :=
  ⟨z, env, S, s, e, (rd_bind h).imp fun z' H' S' d L s' q => i z' H' S' d L s' (e.later L s.mup) q⟩
theorem rdA_step {m : M (List D)} {k : List D → M β} {Q : QO β} {R : List V → Hp → Prop} (s : Stands G z H S) (e : RepE G z H env σ) (h : Out G W σ z H Q (bind m k env S))
    (i : ∀ z' H' S' ds vs, Later z H z' H' → Stands G z' H' S' → RepE G z' H' env σ → RepL G z' H' ds vs → Out G W σ z' H' Q (k ds env S') → R vs H') : rdA G W m σ H R :=
  ⟨z, env, S, s, e, (rd_bind h).imp fun z' H' S' d L s' q v r => i z' H' S' d v L s' (e.later L s.mup) r q⟩
end

/-! ### expressions -/
def mVar (i : Nat) : M D := fun env S => match env[i]? with
  | some (some d) => .ok d S
  | _ => .bad
abbrev mC (d : D) : M D := ret d
section
variable {X : Cx} {G : Gm} {W : WX} {pos : Pos}
theorem ke_var (i : Nat) {x : Str} (hN : X.N[i]? = some x := by rfl) (hv : Vis X.env.scope x := by first | exact Or.inl rfl | exact Or.inr (Or.inl rfl) | exact Or.inr (Or.inr rfl)) (hd : (x == ("__debug__" : Str)) = false := by decide)
    (hcd : (x == ("__classdict__" : Str)) = false := by decide) : PE X (.Name x pos) (rdE G W (mVar i)) := by
  refine pe_imp (pe_var hN hv hd hcd) fun σ H Q ⟨z, env, S, hs, he, h⟩ => ?_
  unfold mVar at h
  split at h
  · rename_i d q
    obtain ⟨v, q1, q2⟩ := he.2 i d q
    exact ⟨v, q1, h z H .refl hs v q2⟩
  · exact h.elim
theorem ke_int {i : Int} {j : Nat} : PE X (.Constant (.int i) j pos) (rdE G W (mC (.int i))) := pe_imp pe_int fun σ H Q ⟨z, env, S, hs, he, h⟩ => h z H .refl hs _ (by rw [Rep])
theorem ke_bl {b : Bool} {j : Nat} : PE X (.Constant (.bool b) j pos) (rdE G W (mC (.bl b))) := pe_imp pe_bl fun σ H Q ⟨z, env, S, hs, he, h⟩ => h z H .refl hs _ (by rw [Rep])
theorem ke_non {j : Nat} : PE X (.Constant .none j pos) (rdE G W (mC .non)) := pe_imp pe_non fun σ H Q ⟨z, env, S, hs, he, h⟩ => h z H .refl hs _ (by rw [Rep])
theorem ke_str {x : Str} {j : Nat} : PE X (.Constant (.str x) j pos) (rdE G W (mC (.str x))) := pe_imp pe_str fun σ H Q ⟨z, env, S, hs, he, h⟩ => h z H .refl hs _ (by rw [Rep])
/-- a module's int -/
theorem ke_gint {x : Str} {i : Int} {t : Tok} (hg : Gl X x) (hm : X.mg x = some (.int i t)) (hd : (x == ("__debug__" : Str)) = false := by decide) : PE X (.Name x pos) (rdE G W (mC (.int i))) :=
  pe_imp (pe_glob hg hm (v := .int i) ⟨t, rfl⟩ hd) fun σ H Q ⟨z, env, S, hs, he, h⟩ => h z H .refl hs _ (by rw [Rep])
end
end Ki

set_option Elab.async false
set_option linter.all false
set_option maxRecDepth 100000
namespace Ki
open PySem L2 PySem.Spec PyProof.Rows

/-! ### statements -/
inductive SRes where
  | nx (env : Ev) (S : Sto)
  | rt (d : D) (S : Sto)
  | bk (env : Ev) (S : Sto)
  | ct (env : Ev) (S : Sto)
  | exc (x : Xc) (env : Ev) (S : Sto)
  | bad
abbrev MS := Ev → Sto → SRes
def OutS (G : Gm) (W : WX) (z : Z) (H : Hp) (E : Ends) : SRes → Prop
  | .nx env S => ∀ z' H' σ', Later z H z' H' → Stands G z' H' S → RepE G z' H' env σ' → E.nx σ' H'
  | .rt d S => ∀ z' H' v, Later z H z' H' → Stands G z' H' S → Rep G z' H' d v → E.rt v H'
  | .bk env S => ∀ z' H' σ', Later z H z' H' → Stands G z' H' S → RepE G z' H' env σ' → E.bk σ' H'
  | .ct env S => ∀ z' H' σ', Later z H z' H' → Stands G z' H' S → RepE G z' H' env σ' → E.ct σ' H'
  | .exc x env S => ∀ z' H' σ' cls dx, Later z H z' H' → Stands G z' H' S → RepE G z' H' env σ' → RepX G z' H' x cls dx → W cls dx σ' H'
  | .bad => False
def rdS (G : Gm) (W : WX) (m : MS) : TS := fun E σ H => ∃ z env S, Stands G z H S ∧ RepE G z H env σ ∧ OutS G W z H E (m env S)
section
variable {G : Gm} {W : WX} {z z1 : Z} {H H1 : Hp} {E : Ends} {r : SRes}
theorem OutS.mono (L : Later z H z1 H1) (h : OutS G W z H E r) : OutS G W z1 H1 E r := by
  cases r with
  | nx env S => exact fun z' H' σ' L' s e => h z' H' σ' (L.trans L') s e
  | rt d S => exact fun z' H' v L' s e => h z' H' v (L.trans L') s e
  | bk env S => exact fun z' H' σ' L' s e => h z' H' σ' (L.trans L') s e
  | ct env S => exact fun z' H' σ' L' s e => h z' H' σ' (L.trans L') s e
  | exc x env S => exact fun z' H' σ' cls dx L' s e q => h z' H' σ' cls dx (L.trans L') s e q
  | bad => exact h
end

/-- an expression's answer, then a statement's end -/
def thenS {α : Type} (m : M α) (k : α → MS) : MS := fun env S => match m env S with
  | .ok a S' => k a env S'
  | .exc x S' => .exc x env S'
  | .bad => .bad
section
variable {α : Type} {G : Gm} {W : WX} {σ : L2.St} {z : Z} {H : Hp} {env : Ev} {S : Sto} {E : Ends}
theorem rd_thenS {m : M α} {k : α → MS} (s : Stands G z H S) (e : RepE G z H env σ) (h : OutS G W z H E (thenS m k env S)) :
    Out G W σ z H (fun z' H' S' a => OutS G W z' H' E (k a env S')) (m env S) := by
  unfold thenS at h
  cases q : m env S with
  | ok a S1 =>
    rw [q] at h
    exact fun z' H' L s => OutS.mono L h
  | exc x S1 =>
    rw [q] at h
    exact fun z' H' cls dx L s' r => h z' H' σ cls dx L s' (e.later L s.mup) r
  | bad => rw [q] at h; exact h
theorem rdE_thenS {m : M D} {k : D → MS} {R : VK} (s : Stands G z H S) (e : RepE G z H env σ) (h : OutS G W z H E (thenS m k env S))
    (i : ∀ z' H' S' d v, Later z H z' H' → Stands G z' H' S' → RepE G z' H' env σ → Rep G z' H' d v → OutS G W z' H' E (k d env S') → R v H') : rdE G W m σ H R :=
  ⟨z, env, S, s, e, (rd_thenS s e h).imp fun z' H' S' d L s' q v r => i z' H' S' d v L s' (e.later L s.mup) r q⟩
theorem rdT_thenS {m : M Bool} {k : Bool → MS} {R : Bool → Hp → Prop} (s : Stands G z H S) (e : RepE G z H env σ) (h : OutS G W z H E (thenS m k env S))
    (i : ∀ z' H' S' b, Later z H z' H' → Stands G z' H' S' → RepE G z' H' env σ → OutS G W z' H' E (k b env S') → R b H') : rdT G W m σ H R :=
  ⟨z, env, S, s, e, (rd_thenS s e h).imp fun z' H' S' b L s' q => i z' H' S' b L s' (e.later L s.mup) q⟩
end

def sNext : MS := fun env S => .nx env S
def sSeq (m k : MS) : MS := fun env S => match m env S with
  | .nx env' S' => k env' S'
  | r => r
def sSet (i : Nat) (m : M D) : MS := thenS m fun d env S => .nx (env.set i (some d)) S
def sRet (m : M D) : MS := thenS m fun d _ S => .rt d S
def sRetN : MS := fun _ S => .rt .non S
def sDrop (m : M D) : MS := thenS m fun _ env S => .nx env S
def sIf (c : M Bool) (a b : MS) : MS := thenS c fun t => match t with
  | true => a
  | false => b
def sBreak : MS := fun env S => .bk env S
def sCont : MS := fun env S => .ct env S
section
variable {X : Cx} {G : Gm} {W : WX} {pos : Pos} {st : Stmt} {rest : List Stmt} {m k : MS} {e : Expr} {me : M D}
theorem ks_nil : PSs X [] (rdS G W sNext) := pss_imp pss_nil fun E σ H ⟨z, env, S, s, he, h⟩ => h z H σ .refl s he
theorem ks_cons (h1 : PS X st (rdS G W m)) (h2 : PSs X rest (rdS G W k)) : PSs X (st :: rest) (rdS G W (sSeq m k)) := by
  refine pss_imp (pss_cons h1 h2) fun E σ H ⟨z, env, S, s, he, h⟩ => ⟨z, env, S, s, he, ?_⟩
  unfold sSeq at h
  cases q : m env S with
  | nx env' S' =>
    rw [q] at h
    exact fun z' H' σ' L s' e' => ⟨z', env', S', s', e', OutS.mono L h⟩
  | rt d S' => rw [q] at h; exact h
  | bk env' S' => rw [q] at h; exact h
  | ct env' S' => rw [q] at h; exact h
  | exc x env' S' => rw [q] at h; exact h
  | bad => rw [q] at h; exact h
theorem ks_one (h1 : PS X st (rdS G W m)) : PSs X [st] (rdS G W m) := pss_one h1
theorem ks_pass : PS X (.Pass pos) (rdS G W sNext) := ps_imp ps_pass fun E σ H ⟨z, env, S, s, he, h⟩ => h z H σ .refl s he
theorem ks_break : PS X (.Break pos) (rdS G W sBreak) := ps_imp ps_break fun E σ H ⟨z, env, S, s, he, h⟩ => h z H σ .refl s he
theorem ks_cont : PS X (.Continue pos) (rdS G W sCont) := ps_imp ps_continue fun E σ H ⟨z, env, S, s, he, h⟩ => h z H σ .refl s he
theorem ks_doc {x j pos'} : PS X (.Expr (.Constant (.str x) j pos) pos') (rdS G W sNext) := ps_imp ps_doc fun E σ H ⟨z, env, S, s, he, h⟩ => h z H σ .refl s he
theorem ks_set (i : Nat) {x : Str} {pos' : Pos} (he : PE X e (rdE G W me)) (hN : X.N.Nodup) (hi : X.N[i]? = some x := by rfl) (hx : Loc X.env.scope x := by first | exact Or.inl rfl | exact Or.inr rfl) (hs : swapsWith e (some (.Name x pos')) pos.line X.env = pure false := by rfl)
    (hf : X.fn x = true ∨ X.env.scope.names.lookup x = some .local := by first | exact .inl rfl | exact .inr rfl) : PS X (.Assign [.Name x pos'] e pos) (rdS G W (sSet i me)) := by
  refine ps_imp (ps_set (i := i) hN hi hx he hs hf) fun E σ H ⟨z, env, S, s, hr, h⟩ => ?_
  exact rdE_thenS s hr h fun z' H' S' d v L s' e' r q => q z' H' _ .refl s' (e'.set r)
theorem ks_ret (he : PE X e (rdE G W me)) : PS X (.Return (some e) pos) (rdS G W (sRet me)) := by
  refine ps_imp (ps_ret he) fun E σ H ⟨z, env, S, s, hr, h⟩ => ?_
  exact rdE_thenS s hr h fun z' H' S' d v L s' e' r q => q z' H' v .refl s' r
theorem ks_retN : PS X (.Return none pos) (rdS G W sRetN) := ps_imp ps_retN fun E σ H ⟨z, env, S, s, he, h⟩ => h z H .non .refl s (by rw [Rep])
theorem ks_expr (he : PE X e (rdE G W me)) (hs : swapsWith e none pos.line X.env = pure false := by rfl) : PS X (.Expr e pos) (rdS G W (sDrop me)) := by
  refine ps_imp (ps_expr he hs) fun E σ H ⟨z, env, S, s, hr, h⟩ => ?_
  exact rdE_thenS s hr h fun z' H' S' d v L s' e' r q => q z' H' σ .refl s' e'
theorem ks_if {c : Expr} {mc : M Bool} {a b : List Stmt} {ma mb : MS} (hc : PT X c (rdT G W mc)) (ha : PSs X a (rdS G W ma)) (hb : PSs X b (rdS G W mb)) : PS X (.If c a b pos) (rdS G W (sIf mc ma mb)) := by
  refine ps_imp (ps_if hc ha hb) fun E σ H ⟨z, env, S, s, hr, h⟩ => ?_
  refine rdT_thenS s hr h fun z' H' S' b L s' e' q => ?_
  cases b with
  | true => exact ⟨z', env, S', s', e', q⟩
  | false => exact ⟨z', env, S', s', e', q⟩
end

/-! ### defs -/
abbrev Fn := List D → Sto → Res D
def OutF (G : Gm) (z : Z) (H : Hp) (Q : VK) (E : XK) : Res D → Prop
  | .ok d S => ∀ z' H' v, Later z H z' H' → Stands G z' H' S → Rep G z' H' d v → Q v H'
  | .exc x S => ∀ z' H' cls dx, Later z H z' H' → Stands G z' H' S → RepX G z' H' x cls dx → E cls dx H'
  | .bad => False
/-- a def of the text does what m reckons -/
structure FnG (P : Program) (w : World) (G : Gm) (mg : Str → Option Value) (base : Heap) (k : Nat) (f : Addr) (fd : FuncData) (ps : List Str) (gd : Bool) (m : Fn) : Prop where
  len : ∀ ds S, ds.length ≠ ps.length → m ds S = .bad
  run : ∀ (A : Around) (outer : List Env) (s : Shared) (H : Hp) (args : Args) (us : List Value) (vs : List V) (Q : VK) (E : XK) (z : Z) (ds : List D) (S : Sto), Room k A → (gd = true → A.guards = some []) → Env0 P w G.K mg base A outer s H →
    BindsTo s fd args (ps.zip us) → Vals vs us → Stands G z H S → RepL G z H ds vs → OutF G z H Q E (m ds S) → codeAny (model P w) A (.call (.ref f) args) (CR (L2.CX P w) outer P w H s Q E) s
theorem FnG.mono {P : Program} {w : World} {G : Gm} {mg : Str → Option Value} {base : Heap} {j k : Nat} {f : Addr} {fd : FuncData} {ps : List Str} {gd : Bool} {m : Fn} (F : FnG P w G mg base j f fd ps gd m) (h : j ≤ k) : FnG P w G mg base k f fd ps gd m :=
  ⟨F.len, fun A outer s H args us vs Q E z ds S hr => F.run A outer s H args us vs Q E z ds S (hr.mono h)⟩
def mFun (nN np : Nat) (mb : MS) : Fn := fun ds S => if ds.length = np then
    match mb (ds.map some ++ List.replicate (nN - np) none) S with
    | .nx _ S' => .ok .non S'
    | .rt d S' => .ok d S'
    | .exc x _ S' => .exc x S'
    | _ => .bad
  else .bad
theorem repE_start {G : Gm} {z : Z} {H : Hp} {N : List Str} {ds : List D} {vs : List V} (r : RepL G z H ds vs) : RepE G z H (ds.map some ++ List.replicate (N.length - ds.length) none) (L2.start N vs) := by
  have hl := r.len
  refine ⟨by unfold L2.start; simp [hl], fun i d e => ?_⟩
  by_cases hi : i < ds.length
  · rw [List.getElem?_append_left (by simpa using hi), List.getElem?_map] at e
    cases q : ds[i]? with
    | none => rw [q] at e; cases e
    | some x =>
      rw [q] at e
      cases e
      obtain ⟨v, q1, q2⟩ := r.at_ q
      refine ⟨v, ?_, q2⟩
      unfold L2.start
      rw [List.getElem?_append_left (by simpa [hl] using hi), List.getElem?_map, q1]
      all_goals rfl
  · rw [List.getElem?_append_right (by simpa using hi), List.getElem?_replicate] at e
    split at e <;> cases e
section
variable {P : Program} {w : World} {G : Gm} {mg : Str → Option Value} {base : Heap}
/-- THE RULE for a def, by its body -/
theorem fnG_of (gd : Bool) {x qual : Str} {st : Stmt} {f : Addr} {fd : FuncData} {N ps : List Str} {k : Nat} {mb : MS} (F : L2.Fun G.K x qual st f fd) (S : FnScope N ps (defScope st))
    (hbody : ∀ (cdv : Value) (A : Around) (outer : List Env) (s : Shared) (H : Hp) (E : XK), Room k (A.deeper (envOfC qual (defScope st) s.heap.objs.size f cdv)) → (gd = true → A.guards = some []) →
      PSs (cxOf (L2.CX P w) P w G.K mg base N qual (defScope st) f cdv A outer s H E) (defBody st) (rdS G (fun cls d _ H => E cls d H) mb)) : FnG P w G mg base (k + 1) f fd ps gd (mFun N.length ps.length mb) := by
  obtain ⟨oc, od, kV, doc, pm, an, cdv, ct, osl, rfl, lk, hcd⟩ := F.ex
  refine ⟨fun ds S' h => if_neg h, fun A outer s H args us vs Q E z ds S' hr hg e0 hb r st' rl h => ?_⟩
  have hl : ds.length = ps.length := by
    apply Classical.byContradiction
    intro q
    unfold mFun at h
    rw [if_neg q] at h
    exact h
  refine LamX.run_ofS lk hcd S hr e0 hb r (by rw [rl.len, hl]) fun hr' => ⟨_, hbody cdv A outer s H E hr' hg, ?_⟩
  refine ⟨z, ds.map some ++ List.replicate (N.length - ds.length) none, S', st', repE_start rl, ?_⟩
  unfold mFun at h
  rw [if_pos hl] at h
  rw [hl]
  cases q : mb (ds.map some ++ List.replicate (N.length - ps.length) none) S' with
  | nx env' S2 =>
    rw [q] at h
    exact fun z' H' σ' L s' e' => h z' H' .non L s' (by rw [Rep])
  | rt d S2 => rw [q] at h; exact h
  | bk env' S2 => rw [q] at h; exact h.elim
  | ct env' S2 => rw [q] at h; exact h.elim
  | exc x env' S2 =>
    rw [q] at h
    exact fun z' H' σ' cls dx L s' e' r' => h z' H' cls dx L s' r'
  | bad => rw [q] at h; exact h
end

/-! ### argument lists -/
def aNil : M (List D) := ret []
def aCons (m : M D) (k : M (List D)) : M (List D) := bind m fun d => bind k fun ds => ret (d :: ds)
section
variable {X : Cx} {G : Gm} {W : WX} {pos : Pos} {e : Expr} {es : List Expr} {m : M D} {k : M (List D)}
theorem ka_nil : PA X [] (rdA G W aNil) := pa_imp pa_nil fun σ H Q ⟨z, env, S, s, he, h⟩ => h z H .refl s [] (by rw [RepL])
theorem ka_cons (ha : PE X e (rdE G W m)) (hr : PA X es (rdA G W k)) (hs : starEach (e :: es) X.env = (false, eval e X.env) :: starEach es X.env := by rfl) : PA X (e :: es) (rdA G W (aCons m k)) := by
  refine pa_imp (pa_cons ha hr hs) fun σ H Q ⟨z, env, S, s, he, h⟩ => ?_
  refine rdE_step s he h fun z1 H1 S1 d v L1 s1 e1 r1 h1 => ?_
  refine rdA_step s1 e1 h1 fun z2 H2 S2 ds vs L2 s2 e2 r2 h2 => ?_
  refine rd_ret s2 h2 (v :: vs) ?_
  rw [RepL]
  exact ⟨v, vs, rfl, Rep.later L2 s1.mup d v r1, r2⟩
end
/-! ### calls -/
def mCall (f : Fn) (args : M (List D)) : M D := bind args fun ds _ S => f ds S
section
variable {X : Cx} {G : Gm} {W : WX} {pos p : Pos} {e : Expr} {es : List Expr} {ma : M (List D)} {k : Nat} {f : Addr} {fd : FuncData} {ps : List Str} {gd : Bool} {m : Fn} {x : Str}
theorem run_fnG {pins : List (Addr × Obj)} {σ : L2.St} {H : Hp} {s : Shared} {Q : VK} {us : List Value} {vs : List V} {z : Z} {ds : List D} {S : Sto} (F : FnG X.prog X.w G X.mg X.base k f fd ps gd m) (hK : X.K = G.K) (hr : Room k X.A) (hgd : gd = true → X.A.guards = some []) (hb : Binds G.K fd ps []) (tk : Takes X W)
    (I : Inv X pins σ H s) (r : Vals vs us) (st : Stands G z H S) (rl : RepL G z H ds vs) (h : OutF G z H Q (WE W σ) (m ds S)) : wpAny (model X.prog X.w) X.A (call (.ref f) us) (EP X pins σ Q) X.xe s := by
  have hl : us.length = ps.length := by
    rw [← r.length, rl.len]
    apply Classical.byContradiction
    intro q
    rw [F.len ds S q] at h
    exact h
  have b := hb s us (hK ▸ I.kIn) (by rw [List.append_nil]; exact hl)
  rw [List.append_nil] at b
  refine wpAny_call (codeAny_mono (F.run X.A X.stack s H ⟨us, []⟩ us vs Q (WE W σ) z ds S hr hgd (hK ▸ I.env0) b r st rl h) fun r s' hq => ?_)
  cases r with
  | error e => exact passAt tk σ pins H s e s' I hq
  | ok fl =>
    cases fl with
    | ret u => exact I.after hq
    | next => exact False.elim hq
    | brk => exact False.elim hq
    | cont => exact False.elim hq
theorem ke_call (F : FnG X.prog X.w G X.mg X.base k f fd ps gd m) (hr : Room k X.A) (hgd : gd = true → X.A.guards = some []) (hm : X.mg x = some (.ref f)) (hk : PySem.W.keepIn G.K (.ref f) = true) (hb : Binds G.K fd ps []) (tk : Takes X W)
    (ha : PA X (e :: es) (rdA G W ma)) (hg : Gl X x := by rfl) (hK : X.K = G.K := by rfl) (hdb : (x == ("__debug__" : Str)) = false := by decide) (he : starEach (e :: es) X.env = (false, eval e X.env) :: starEach es X.env := by rfl) (hpl : (backTo pos (starEach es X.env)).any (·.1) = false := by rfl) :
    PE X (.Call (.Name x p) (e :: es) [] pos) (rdE G W (mCall m ma)) := by
  refine ⟨fun pins s σ H Q I ⟨z, env, S, st, hre, h⟩ => ?_⟩
  refine wpAny_Call_Name_kw (ld_glob I hg hm ?_ hdb)
  have hq : rdA G W ma σ H fun vs H1 => ∃ z ds S, Stands G z H1 S ∧ RepL G z H1 ds vs ∧ OutF G z H1 Q (WE W σ) (m ds S) := by
    refine rdA_step st hre h fun z1 H1 S1 ds vs L1 s1 e1 r1 h1 => ⟨z1, ds, S1, s1, r1, ?_⟩
    cases q : m ds S1 with
    | ok d S2 =>
      rw [q] at h1
      exact fun z' H' v L s' r => h1 z' H' L s' v r
    | exc x S2 => rw [q] at h1; exact h1
    | bad => rw [q] at h1; exact h1
  refine PySem.W.callWith_K (h₀ := X.base) I.ok.mod.kin (hK ▸ hk) (thn (ha.run pos pins s σ H _ I hq) fun us s1 ⟨vs, H1, I1, r, z1, ds, S1, s1', rl, q⟩ => ⟨I1.kIn, ?_⟩) he hpl
  exact run_fnG F hK hr hgd hb tk I1 r s1' rl q
theorem ke_call0 (F : FnG X.prog X.w G X.mg X.base k f fd ps gd m) (hr : Room k X.A) (hgd : gd = true → X.A.guards = some []) (hm : X.mg x = some (.ref f)) (hk : PySem.W.keepIn G.K (.ref f) = true) (hb : Binds G.K fd ps []) (tk : Takes X W)
    (hg : Gl X x := by rfl) (hK : X.K = G.K := by rfl) (hdb : (x == ("__debug__" : Str)) = false := by decide) : PE X (.Call (.Name x p) [] [] pos) (rdE G W (mCall m aNil)) := by
  refine ⟨fun pins s σ H Q I ⟨z, env, S, st, hre, h⟩ => ?_⟩
  refine wpAny_Call_Name_kw (ld_glob I hg hm ?_ hdb)
  refine PySem.W.callWith_K0 I.kIn (hK ▸ hk) (run_fnG (us := []) (vs := []) (ds := []) F hK hr hgd hb tk I .nil st (by rw [RepL]) ?_)
  have h' : Out G W σ z H (fun z' H' _ d => ∀ v, Rep G z' H' d v → Q v H') (m [] S) := h
  cases q : m [] S with
  | ok d S2 =>
    rw [q] at h'
    exact fun z' H' v L s' r => h' z' H' L s' v r
  | exc x S2 => rw [q] at h'; exact h'
  | bad => rw [q] at h'; exact h'
end
end Ki

set_option Elab.async false
set_option linter.all false
set_option maxRecDepth 100000
namespace Ki
open PySem L2 PySem.Spec PyProof.Rows

/-! ### a value as it reads now -/
def vw (S : Sto) : D → D
  | .ref n => match S[n]? with
    | some (.lst xs) => .lst false xs
    | _ => .ref n
  | d => d
section
variable {G : Gm} {z : Z} {H H' : Hp} {S : Sto} {d : D} {v : V}
def Now (G : Gm) (z : Z) (H : Hp) (d : D) (v : V) : Prop := Rep G z H d v ∨ ∃ o xs a vs, d = .lst o xs ∧ v = .ref a ∧ H a = some (.lst vs) ∧ RepL G z H xs vs
theorem now_vw (st : Stands G z H S) (r : Rep G z H d v) : Now G z H (vw S d) v := by
  unfold vw
  split
  · rename_i n
    split
    · rename_i xs q
      rw [Rep] at r
      obtain ⟨a, e, hn⟩ := r
      obtain ⟨vs, h1, h2⟩ := st.at_ n a _ hn q
      exact .inr ⟨false, xs, a, vs, rfl, e, h1, h2⟩
    · exact .inl r
  · exact .inl r
theorem Now.lst {o : Bool} {xs : List D} (h : Now G z H (.lst o xs) v) : ∃ a vs, v = .ref a ∧ H a = some (.lst vs) ∧ RepL G z H xs vs := by
  rcases h with h | ⟨o', xs', a, vs, e, ev, h1, h2⟩
  · rw [Rep] at h
    obtain ⟨a, vs, e, h1, _, _, h2⟩ := h
    exact ⟨a, vs, e, h1, h2⟩
  · cases e
    exact ⟨a, vs, ev, h1, h2⟩
theorem Now.int {i : Int} (h : Now G z H (.int i) v) : v = .int i := by
  rcases h with h | ⟨o', xs', a, vs, e, _⟩
  · rw [Rep] at h; exact h
  · cases e
theorem Now.bl {i : Bool} (h : Now G z H (.bl i) v) : v = .bl i := by
  rcases h with h | ⟨o', xs', a, vs, e, _⟩
  · rw [Rep] at h; exact h
  · cases e
theorem Now.non (h : Now G z H .non v) : v = .non := by
  rcases h with h | ⟨o', xs', a, vs, e, _⟩
  · rw [Rep] at h; exact h
  · cases e
theorem Now.str {i : Str} (h : Now G z H (.str i) v) : v = .str i := by
  rcases h with h | ⟨o', xs', a, vs, e, _⟩
  · rw [Rep] at h; exact h
  · cases e
theorem Now.ty {i : TyC} (h : Now G z H (.ty i) v) : v = .ty i.nm := by
  rcases h with h | ⟨o', xs', a, vs, e, _⟩
  · rw [Rep] at h; exact h
  · cases e
theorem Now.tup {xs : List D} (h : Now G z H (.tup xs) v) : ∃ a vs, v = .ref a ∧ SqT G.K H a vs ∧ RepL G z H xs vs := by
  rcases h with h | ⟨o', xs', a, vs, e, _⟩
  · rw [Rep] at h; exact h
  · cases e
theorem Now.scr {ns : List Int} (h : Now G z H (.scr ns) v) : ∃ a, v = .ref a ∧ SqF G.K H a (ns.map V.int) := by
  rcases h with h | ⟨o', xs', a, vs, e, _⟩
  · rw [Rep] at h; exact h
  · cases e
theorem later_same (h : L2.Same H H') : Later z H z H' :=
  ⟨fun a o e _ _ => h a o e, ⟨[], (List.append_nil _).symm⟩, fun _ h => .inl h, fun _ h => .inl h, fun _ h => h, fun _ h => h, fun a ⟨o, e, t⟩ => ⟨o, h a o e, t⟩, fun _ h => .inl h, fun _ h => h⟩
theorem RepO.later {z' : Z} (L : Later z H z' H') (M : MuP z H) {o : O} {u : Option HO} (h : RepO G z H o u) : RepO G z' H' o u := by
  cases o with
  | lst ds =>
    obtain ⟨vs, e, q⟩ := h
    exact ⟨vs, e, RepL.later L M ds vs q⟩
  | ins c fs =>
    obtain ⟨dx, ws, e, q⟩ := h
    exact ⟨dx, ws, e, RepF.later L M fs ws q⟩
theorem Stands.same (st : Stands G z H S) (h : L2.Same H H') : Stands G z H' S := by
  have eq : ∀ a, z.phi a → H' a = H a := fun a ha => by
    obtain ⟨u, e⟩ := mut_some (st.mu a ha)
    rw [e, h a u e]
  refine ⟨st.rho, st.psi, fun a ha => by rw [eq a ha]; exact st.mu a ha, fun a ha => (later_same (z := z) h).live a (st.hid a ha), st.tab.ext fun b o e => h b o e, st.len, st.nd, fun n a o e1 e2 => ?_⟩
  rw [eq a (st.psi a (st.rho a (List.mem_of_getElem? e1)))]
  exact RepO.later (later_same h) st.mup (st.at_ n a o e1 e2)
theorem same_new {p : Addr} {o : HO} (h : H p = none) : L2.Same H (upd H p o) := fun b u q => by rw [upd_ne (ne_of_none q h)]; exact q
theorem Stands.fresh (st : Stands G z H S) {p : Addr} (h : H p = none) : ¬ z.bar p ∧ ¬ z.phi p := by
  have q : ¬ z.phi p := fun hm => by
    have := st.mu p hm
    rw [h] at this
    exact this
  exact ⟨fun hm => hm.elim (fun hm => q (st.psi p hm)) fun hm => nlv h (st.hid p hm), q⟩
/-- a new tuple, a new list -/
theorem rep_tup (st : Stands G z H S) {p : Addr} {ds : List D} {vs : List V} (h : H p = none) (r : RepL G z H ds vs) : Rep G z (upd H p (.tup vs)) (.tup ds) (.ref p) := by
  rw [Rep]
  exact ⟨p, vs, rfl, SqT.of upd_same, RepL.later (later_same (same_new h)) st.mup ds vs r⟩
theorem rep_lst (st : Stands G z H S) {p : Addr} {ds : List D} {vs : List V} (h : H p = none) (r : RepL G z H ds vs) : Rep G z (upd H p (.lst vs)) (.lst true ds) (.ref p) := by
  rw [Rep]
  exact ⟨p, vs, rfl, upd_same, (st.fresh h).1, fun _ => (st.fresh h).2, RepL.later (later_same (same_new h)) st.mup ds vs r⟩
end

/-! ### what a value tells at once: its data -/
mutual
def toPy : D → Option PyData
  | .non => some .none
  | .bl b => some (.bool b)
  | .int i => some (.int i)
  | .str x => some (.str x)
  | .tup ds => (toPyL ds).map .tuple
  | .lst _ ds => (toPyL ds).map .list
  | .ty _ => none
  | .scr _ => none
  | .dic _ => none
  | .obj _ _ => none
  | .cls _ => none
  | .ref _ => none
def toPyL : List D → Option (List PyData)
  | [] => some []
  | d :: ds => match toPy d, toPyL ds with
    | some x, some xs => some (x :: xs)
    | _, _ => none
end
section
variable {G : Gm} {z : Z} {H : Hp}
mutual
theorem dp_of : ∀ (d : D) (v : V) (p : PyData), Rep G z H d v → toPy d = some p → Dp G.K H v p
  | .non, v, p, h, e => by rw [Rep] at h; rw [toPy] at e; cases e; subst h; exact .non
  | .bl b, v, p, h, e => by rw [Rep] at h; rw [toPy] at e; cases e; subst h; exact .bl b
  | .int i, v, p, h, e => by rw [Rep] at h; rw [toPy] at e; cases e; subst h; exact .int i
  | .str x, v, p, h, e => by rw [Rep] at h; rw [toPy] at e; cases e; subst h; exact .str x
  | .tup ds, v, p, h, e => by
    rw [Rep] at h
    rw [toPy] at e
    obtain ⟨a, vs, ev, hs, hl⟩ := h
    cases q : toPyL ds with
    | none => rw [q] at e; cases e
    | some ps =>
      rw [q] at e
      cases e
      subst ev
      exact .tup hs (dpL_of ds vs ps hl q)
  | .lst o ds, v, p, h, e => by
    rw [Rep] at h
    rw [toPy] at e
    obtain ⟨a, vs, ev, hs, _, _, hl⟩ := h
    cases q : toPyL ds with
    | none => rw [q] at e; cases e
    | some ps =>
      rw [q] at e
      cases e
      subst ev
      exact .lst (SqL.of hs) (dpL_of ds vs ps hl q)
  | .ty _, _, _, _, e => by rw [toPy] at e; cases e
  | .scr _, _, _, _, e => by rw [toPy] at e; cases e
  | .dic _, _, _, _, e => by rw [toPy] at e; cases e
  | .obj _ _, _, _, _, e => by rw [toPy] at e; cases e
  | .cls _, _, _, _, e => by rw [toPy] at e; cases e
  | .ref _, _, _, _, e => by rw [toPy] at e; cases e
theorem dpL_of : ∀ (ds : List D) (vs : List V) (ps : List PyData), RepL G z H ds vs → toPyL ds = some ps → DpAll G.K H vs ps
  | [], vs, ps, h, e => by
    rw [RepL] at h
    rw [toPyL] at e
    cases e
    subst h
    exact .nil
  | d :: ds, vs, ps, h, e => by
    rw [RepL] at h
    rw [toPyL] at e
    obtain ⟨w, ws, ev, h1, h2⟩ := h
    subst ev
    cases q1 : toPy d with
    | none => rw [q1] at e; cases e
    | some x =>
      cases q2 : toPyL ds with
      | none => rw [q1, q2] at e; cases e
      | some xs =>
        rw [q1, q2] at e
        cases e
        exact .cons (dp_of d w x h1 q1) (dpL_of ds ws xs h2 q2)
end
theorem dp_now {d : D} {v : V} {p : PyData} (h : Now G z H d v) (e : toPy d = some p) : Dp G.K H v p := by
  rcases h with h | ⟨o, xs, a, vs, rfl, rfl, h1, h2⟩
  · exact dp_of d v p h e
  · rw [toPy] at e
    cases q : toPyL xs with
    | none => rw [q] at e; cases e
    | some ps =>
      rw [q] at e
      cases e
      exact .lst (SqL.of h1) (dpL_of xs vs ps h2 q)
end

/-! ### operations on values: f is done by op -/
abbrev Op2 := D → D → Option D
def OpK (X : Cx) (G : Gm) (f : Value → Value → Sem Value) (op : Op2) : Prop := ∃ r : R2, OpR X f r ∧
  ∀ (z : Z) (H : Hp) (S : Sto) (x y : V) (d1 d2 d : D) (Q : VK), Stands G z H S → Now G z H d1 x → Now G z H d2 y → op d1 d2 = some d →
    (∀ H' v, L2.Same H H' → Rep G z H' d v → Q v H') → r x y H Q
def mOp (op : Op2) (ma mb : M D) : M D := bind ma fun x => bind mb fun y => fun env S => lift (op (vw S x) (vw S y)) env S
section
variable {X : Cx} {G : Gm} {W : WX} {pos : Pos} {a b : Expr} {ma mb : M D} {op : Op2}
theorem rd_op {f : Value → Value → Sem Value} (ho : OpK X G f op) : ∃ r : R2, OpR X f r ∧ ∀ σ H Q, rdE G W (mOp op ma mb) σ H Q → tOp r (rdE G W ma) (rdE G W mb) σ H Q := by
  obtain ⟨r, h1, h2⟩ := ho
  refine ⟨r, h1, fun σ H Q ⟨z, env, S, s, he, h⟩ => ?_⟩
  refine rdE_step s he h fun z1 H1 S1 d1 x L1 s1 e1 r1 q1 => ?_
  refine rdE_step s1 e1 q1 fun z2 H2 S2 d2 y L2' s2 e2 r2 q2 => ?_
  obtain ⟨d, ed, q3⟩ := rd_lift s2 q2
  refine h2 z2 H2 S2 x y _ _ d Q s2 (now_vw s2 (Rep.later L2' s1.mup d1 x r1)) (now_vw s2 r2) ed fun H' v sm rv => ?_
  -- the heap may have grown by what is new
  have q4 : Out G W σ z2 H2 (fun z' H' _ d => ∀ v, Rep G z' H' d v → Q v H') (lift (op (vw S2 d1) (vw S2 d2)) env S2) := q2
  unfold lift at q4
  rw [ed] at q4
  exact q4 z2 H' (later_same sm) (s2.same sm) v rv
theorem ke_op {o : Operator} (ho : OpK X G (binaryOp o) op) (ha : PE X a (rdE G W ma)) (hb : PE X b (rdE G W mb)) : PE X (.BinOp a o b pos) (rdE G W (mOp op ma mb)) := by
  obtain ⟨r, h1, h2⟩ := rd_op (W := W) (ma := ma) (mb := mb) ho
  exact pe_imp (pe_op h1 ha hb) h2
theorem ke_cmp {o : CmpOp} (ho : OpK X G (compareOp o) op) (ha : PE X a (rdE G W ma)) (hb : PE X b (rdE G W mb)) (hm : behindInMarks o b = false := by first | exact nomark _ | with_unfolding_all rfl) : PE X (.Compare a [o] [b] pos) (rdE G W (mOp op ma mb)) := by
  obtain ⟨r, h1, h2⟩ := rd_op (W := W) (ma := ma) (mb := mb) ho
  exact pe_imp (pe_cmpR h1 ha hb hm) h2

theorem OpK.or {f : Value → Value → Sem Value} {op' : Op2} (h : OpK X G f op) (h' : OpK X G f op') : OpK X G f (fun x y => (op x y).or (op' x y)) := by
  obtain ⟨r, h1, h2⟩ := h
  obtain ⟨r', h1', h2'⟩ := h'
  refine ⟨_, h1.or h1', fun z H S x y d1 d2 d Q s n1 n2 e q => ?_⟩
  cases e1 : op d1 d2 with
  | some z =>
    have e' : (op d1 d2).or (op' d1 d2) = some d := e
    rw [e1] at e'
    cases e'
    exact .inl (h2 z H S x y d1 d2 _ Q s n1 n2 e1 q)
  | none =>
    have e' : (op d1 d2).or (op' d1 d2) = some d := e
    rw [e1] at e'
    exact .inr (h2' z H S x y d1 d2 _ Q s n1 n2 e' q)
end

/-! ### ints -/
def iOp (C : Int → Int → Bool) (g : Int → Int → Int) : Op2
  | .int i, .int j => if C i j then some (.int (g i j)) else none
  | _, _ => none
def iCmp (g : Int → Int → Bool) : Op2
  | .int i, .int j => some (.bl (g i j))
  | _, _ => none
section
variable {X : Cx} {G : Gm}
theorem ok_iOp {f : Value → Value → Sem Value} {C : Int → Int → Prop} {c : Int → Int → Bool} {g : Int → Int → Int} (h : OpR X f (rI C fun i j => .int (g i j))) (hc : ∀ i j, c i j = true → C i j) : OpK X G f (iOp c g) := by
  refine ⟨_, h, fun z H S x y d1 d2 d Q s n1 n2 e q => ?_⟩
  unfold iOp at e
  split at e
  · rename_i i j
    split at e
    · rename_i hcc
      cases e
      exact ⟨i, j, n1.int, n2.int, hc i j hcc, q H _ (L2.Same.refl H) (by rw [Rep])⟩
    · cases e
  · cases e
theorem ok_iOp0 {f : Value → Value → Sem Value} {g : Int → Int → Int} (h : OpR X f (rI0 fun i j => .int (g i j))) : OpK X G f (iOp (fun _ _ => true) g) := by
  refine ⟨_, h, fun z H S x y d1 d2 d Q s n1 n2 e q => ?_⟩
  unfold iOp at e
  split at e
  · rename_i i j
    cases e
    exact ⟨i, j, n1.int, n2.int, q H _ (L2.Same.refl H) (by rw [Rep])⟩
  · cases e
theorem ok_iCmp {f : Value → Value → Sem Value} {g : Int → Int → Bool} (h : OpR X f (rI0 fun i j => .bl (g i j))) : OpK X G f (iCmp g) := by
  refine ⟨_, h, fun z H S x y d1 d2 d Q s n1 n2 e q => ?_⟩
  unfold iCmp at e
  split at e
  · rename_i i j
    cases e
    exact ⟨i, j, n1.int, n2.int, q H _ (L2.Same.refl H) (by rw [Rep])⟩
  · cases e
end
def cMul (i j : Int) : Bool := decide (i.natAbs.log2 + j.natAbs.log2 < 1000000)
def cDiv (_ j : Int) : Bool := decide (j ≠ 0) && decide (j.natAbs.log2 < 9000)
def cMod (_ j : Int) : Bool := decide (0 < j)
def cPow (i j : Int) : Bool := decide (0 ≤ j) && decide (j ≤ 1000000) && decide (i.natAbs < 18446744073709551616)
def dMul : Op2 := iOp cMul (· * ·)
def dSub : Op2 := iOp (fun _ _ => true) (· - ·)
def dDiv : Op2 := iOp cDiv Int.fdiv
def dMod : Op2 := iOp cMod (· % ·)
def dPow : Op2 := iOp cPow fun i j => i ^ j.toNat
def dLt : Op2 := iCmp fun i j => decide (i < j)
def dLe : Op2 := iCmp fun i j => decide (i ≤ j)
def dGt : Op2 := iCmp fun i j => decide (j < i)
def dGe : Op2 := iCmp fun i j => decide (j ≤ i)
section
variable {X : Cx} {G : Gm}
theorem ko_sub : OpK X G (binaryOp .Sub) dSub := ok_iOp0 op_sub
theorem ko_mul : OpK X G (binaryOp .Mult) dMul := ok_iOp op_mulW fun i j h => (of_decide_eq_true h : i.natAbs.log2 + j.natAbs.log2 < 1000000)
theorem op_fdivA : OpR X (binaryOp .FloorDiv) (rI (fun _ j => j ≠ 0 ∧ j.natAbs.log2 < 9000) fun i j => .int (i.fdiv j)) := opI fun _ _ _ _ _ _ _ hc q => floordiv_int hc.1 q (.inl (PyProof.noPylong_of_log2 hc.2))
theorem ko_div : OpK X G (binaryOp .FloorDiv) dDiv := ok_iOp op_fdivA fun _ _ h => by
  have := Bool.and_eq_true_iff.mp h
  exact ⟨of_decide_eq_true this.1, of_decide_eq_true this.2⟩
theorem ko_mod : OpK X G (binaryOp .Mod) dMod := ok_iOp op_mod fun _ _ h => of_decide_eq_true h
theorem ko_pow : OpK X G (binaryOp .Pow) dPow := ok_iOp op_pow fun i j h => by
  have h1 := Bool.and_eq_true_iff.mp h
  have h2 := Bool.and_eq_true_iff.mp h1.1
  exact ⟨of_decide_eq_true h2.1, of_decide_eq_true h2.2, of_decide_eq_true h1.2⟩
theorem ko_lt : OpK X G (compareOp .Lt) dLt := ok_iCmp op_lt
theorem ko_le : OpK X G (compareOp .LtE) dLe := ok_iCmp op_le
theorem ko_gt : OpK X G (compareOp .Gt) dGt := ok_iCmp op_gt
theorem ko_ge : OpK X G (compareOp .GtE) dGe := ok_iCmp op_ge
end

/-! ### + -/
def sAdd : Op2
  | .str x, .str y => if x.length + y.length ≤ 100000 then some (.str (x ++ y)) else none
  | _, _ => none
def lAdd : Op2
  | .lst _ xs, .lst _ ys => if xs.length + ys.length ≤ 100000 then some (.lst true (xs ++ ys)) else none
  | _, _ => none
def tAdd' : Op2
  | .tup xs, .tup ys => if xs.length + ys.length ≤ 100000 then some (.tup (xs ++ ys)) else none
  | _, _ => none
theorem line5 {n : Nat} (h : n ≤ 100000) : n ≤ sizeLine := Nat.le_trans h (by rw [sizeLine_eq]; decide)
section
variable {X : Cx} {G : Gm}
theorem ko_addS : OpK X G (binaryOp .Add) sAdd := by
  refine ⟨_, op_add_str, fun z H S x y d1 d2 d Q s n1 n2 e q => ?_⟩
  unfold sAdd at e
  split at e
  · rename_i i j
    split at e
    · rename_i hc
      cases e
      exact ⟨i, j, n1.str, n2.str, line5 hc, q H _ (L2.Same.refl H) (by rw [Rep])⟩
    · cases e
  · cases e
theorem ko_addL : OpK X G (binaryOp .Add) lAdd := by
  refine ⟨_, op_cat, fun z H S x y d1 d2 d Q s n1 n2 e q => ?_⟩
  unfold lAdd at e
  split at e
  · rename_i o1 xs o2 ys
    split at e
    · rename_i hc
      cases e
      obtain ⟨a, vs, e1, h1, r1⟩ := n1.lst
      obtain ⟨b, ws, e2, h2, r2⟩ := n2.lst
      exact ⟨a, b, vs, ws, e1, e2, h1, h2, by rw [r1.len, r2.len]; exact line5 hc, fun p hp => q _ _ (same_new hp) (rep_lst s hp (r1.app r2))⟩
    · cases e
  · cases e
theorem ko_addT (hK : X.K = G.K) : OpK X G (binaryOp .Add) tAdd' := by
  refine ⟨_, op_catA, fun z H S x y d1 d2 d Q s n1 n2 e q => ?_⟩
  unfold tAdd' at e
  split at e
  · rename_i xs ys
    split at e
    · rename_i hc
      cases e
      obtain ⟨a, vs, e1, h1, r1⟩ := n1.tup
      obtain ⟨b, ws, e2, h2, r2⟩ := n2.tup
      rw [← hK] at h1 h2
      refine ⟨a, b, vs, ws, e1, e2, h1, h2, by rw [r1.len, r2.len]; exact line5 hc, fun q0 => ?_, fun q0 q1 => ?_, fun _ _ p hp => q _ _ (same_new hp) (rep_tup s hp (r1.app r2))⟩
      · subst q0
        cases xs with
        | nil =>
          refine q H _ (L2.Same.refl H) ?_
          rw [Rep]
          exact ⟨b, ws, rfl, hK ▸ h2, r2⟩
        | cons d ds =>
          rw [RepL] at r1
          obtain ⟨w, us, e, _⟩ := r1
          cases e
      · subst q1
        cases ys with
        | nil =>
          refine q H _ (L2.Same.refl H) ?_
          rw [Rep, List.append_nil]
          exact ⟨a, vs, rfl, hK ▸ h1, r1⟩
        | cons d ds =>
          rw [RepL] at r2
          obtain ⟨w, us, e, _⟩ := r2
          cases e
    · cases e
  · cases e
end
end Ki

set_option Elab.async false
set_option linter.all false
set_option maxRecDepth 100000
namespace Ki
open PySem L2 PySem.Spec PyProof.Rows

def dAdd : Op2 := fun x y => (iOp (fun _ _ => true) (· + ·) x y).or ((sAdd x y).or ((lAdd x y).or (tAdd' x y)))
section
variable {X : Cx} {G : Gm}
theorem ko_add (hK : X.K = G.K := by rfl) : OpK X G (binaryOp .Add) dAdd := (ok_iOp0 op_add).or (ko_addS.or (ko_addL.or (ko_addT hK)))
end

/-! ### == and != -/
def dEqv : D → D → Option Bool := fun x y => match toPy x, toPy y with
  | some p, some q => if SeqAt.shaped p && SeqAt.shaped q then some (PyData.eqv p q) else none
  | _, _ => none
def dEq : Op2 := fun x y => (dEqv x y).map D.bl
def dNe : Op2 := fun x y => (dEqv x y).map fun b => D.bl (!b)
section
variable {X : Cx} {G : Gm}
theorem dEqv_ok {x y : D} {b : Bool} (h : dEqv x y = some b) : ∃ p q, toPy x = some p ∧ toPy y = some q ∧ SeqAt.shaped p = true ∧ SeqAt.shaped q = true ∧ b = PyData.eqv p q := by
  unfold dEqv at h
  split at h
  · rename_i p q e1 e2
    split at h
    · rename_i hc
      have hc' := Bool.and_eq_true_iff.mp hc
      cases h
      exact ⟨p, q, e1, e2, hc'.1, hc'.2, rfl⟩
    · cases h
  · cases h
theorem ko_eq (hu : X.A.units + 64 < cLine) (hK : X.K = G.K := by rfl) : OpK X G (compareOp .Eq) dEq := by
  refine ⟨_, op_eqD hu, fun z H S x y d1 d2 d Q s n1 n2 e q => ?_⟩
  unfold dEq at e
  cases h : dEqv d1 d2 with
  | none => rw [h] at e; cases e
  | some b =>
    rw [h] at e
    cases e
    obtain ⟨p, r, e1, e2, s1, s2, rfl⟩ := dEqv_ok h
    exact ⟨p, r, hK ▸ dp_now n1 e1, hK ▸ dp_now n2 e2, s1, s2, q H _ (L2.Same.refl H) (by rw [Rep])⟩
theorem ko_ne (hu : X.A.units + 64 < cLine) (hK : X.K = G.K := by rfl) : OpK X G (compareOp .NotEq) dNe := by
  refine ⟨_, op_neD hu, fun z H S x y d1 d2 d Q s n1 n2 e q => ?_⟩
  unfold dNe at e
  cases h : dEqv d1 d2 with
  | none => rw [h] at e; cases e
  | some b =>
    rw [h] at e
    cases e
    obtain ⟨p, r, e1, e2, s1, s2, rfl⟩ := dEqv_ok h
    exact ⟨p, r, hK ▸ dp_now n1 e1, hK ▸ dp_now n2 e2, s1, s2, q H _ (L2.Same.refl H) (by rw [Rep])⟩
/-- in, not in: scalars among scalars -/
def flatD : D → Option V
  | .int i => some (.int i)
  | .str x => some (.str x)
  | _ => none
end

/-! ### tests, and, or, not -/
def dTru : D → Option Bool
  | .non => some false
  | .bl b => some b
  | .int i => some (i != 0)
  | .str x => if x.length ≤ 100000 then some ((x.length : Int) != 0) else none
  | .tup xs => some (!xs.isEmpty)
  | .lst _ xs => some (!xs.isEmpty)
  | _ => none
def mBl (m : M D) : M Bool := bind m fun d => match d with
  | .bl b => ret b
  | _ => lift none
def mTru (m : M D) : M Bool := bind m fun d => fun env S => lift (dTru (vw S d)) env S
def tAnd' (a b : M Bool) : M Bool := bind a fun t => match t with
  | true => b
  | false => ret false
def tOr' (a b : M Bool) : M Bool := bind a fun t => match t with
  | true => ret true
  | false => b
def tNot' (a : M Bool) : M Bool := bind a fun t => ret (!t)
def mAnd (a b : M D) : M D := bind a fun d => match d with
  | .bl true => b
  | .bl false => ret (.bl false)
  | _ => lift none
def mOr (a b : M D) : M D := bind a fun d => match d with
  | .bl true => ret (.bl true)
  | .bl false => b
  | _ => lift none
def mNot (a : M D) : M D := bind a fun d => match d with
  | .bl b => ret (.bl (!b))
  | _ => lift none
def mIf (c : M Bool) (a b : M D) : M D := bind c fun t => match t with
  | true => a
  | false => b
section
variable {X : Cx} {G : Gm} {W : WX} {pos : Pos} {a b : Expr} {ma mb : M D} {rest : List Expr} {ta tb : M Bool}
theorem isEmpty_repL {z : Z} {H : Hp} {ds : List D} {vs : List V} (h : RepL G z H ds vs) : vs.isEmpty = ds.isEmpty := by
  have := h.len
  cases vs <;> cases ds <;> first | rfl | (simp at this)
theorem tru_now {z : Z} {H : Hp} {d : D} {v : V} {k : Bool} (hK : X.K = G.K) (n : Now G z H d v) (e : dTru d = some k) : TruV X.K v H k := by
  cases d with
  | non => rw [n.non]; cases e; rfl
  | bl b => rw [n.bl]; cases e; rfl
  | int i => rw [n.int]; cases e; rfl
  | str x =>
    rw [n.str]
    have e' : (if x.length ≤ 100000 then some ((x.length : Int) != 0) else none) = some k := e
    split at e'
    · rename_i h
      cases e'
      exact ⟨line5 h, rfl⟩
    · cases e'
  | tup xs =>
    obtain ⟨p, vs, rfl, h1, h2⟩ := n.tup
    cases e
    exact .inr (.inl ⟨vs, hK ▸ h1, by rw [isEmpty_repL h2]⟩)
  | lst o xs =>
    obtain ⟨p, vs, rfl, h1, h2⟩ := n.lst
    cases e
    exact .inl ⟨vs, SqL.of h1, by rw [isEmpty_repL h2]⟩
  | ty n => cases e
  | scr ns => cases e
  | dic k => cases e
  | obj c f => cases e
  | ref n => cases e
  | cls n => cases e
theorem rd_bl {σ : L2.St} {H : Hp} {Q : Bool → Hp → Prop} (h : rdT G W (mBl ma) σ H Q) : rdE G W ma σ H fun x H' => ∃ k, x = .bl k ∧ Q k H' := by
  obtain ⟨z, env, S, s, he, h⟩ := h
  refine rdE_step s he h fun z1 H1 S1 d v L1 s1 e1 r1 q1 => ?_
  cases d <;> first | exact q1.elim | skip
  rw [Rep] at r1
  exact ⟨_, r1, rd_ret s1 q1⟩
/-- a comparison as a test -/
theorem kt_cmp {o : CmpOp} {op : Op2} (ho : OpK X G (compareOp o) op) (ha : PE X a (rdE G W ma)) (hb : PE X b (rdE G W mb)) (hm : behindInMarks o b = false := by first | exact nomark _ | with_unfolding_all rfl) : PT X (.Compare a [o] [b] pos) (rdT G W (mBl (mOp op ma mb))) := by
  obtain ⟨r, h1, h2⟩ := rd_op (W := W) (ma := ma) (mb := mb) ho
  exact pt_imp (pt_cmpR h1 ha hb hm) fun σ H Q h => h2 _ _ _ (rd_bl h)
/-- a name, a call, a subscript .. whose value is a bool -/
theorem kt_val (ha : PE X a (rdE G W ma)) (he : ∀ whole, isTrue a X.env whole = (do let v ← whole; standAt a.pos; holding [v] (truthy v)) := by intro _; rfl) : PT X a (rdT G W (mBl ma)) :=
  pt_imp (pt_val ha he) fun σ H Q h => rd_bl h
/-- .. of another kind -/
theorem kt_tru (ha : PE X a (rdE G W ma)) (he : ∀ whole, isTrue a X.env whole = (do let v ← whole; standAt a.pos; holding [v] (truthy v)) := by intro _; rfl) (hK : X.K = G.K := by rfl) : PT X a (rdT G W (mTru ma)) := by
  refine pt_imp (pt_truth ha he) fun σ H Q ⟨z, env, S, s, hr, h⟩ => ?_
  refine rdE_step s hr h fun z1 H1 S1 d v L1 s1 e1 r1 q1 => ?_
  obtain ⟨k, e, q2⟩ := rd_lift s1 q1
  exact ⟨k, tru_now hK (now_vw s1 r1) e, q2⟩
theorem kt_not (ha : PT X a (rdT G W ta)) : PT X (.UnaryOp .Not a pos) (rdT G W (tNot' ta)) := by
  refine pt_imp (pt_not ha) fun σ H Q ⟨z, env, S, s, hr, h⟩ => ?_
  exact rdT_step s hr h fun z1 H1 S1 t L1 s1 e1 q1 => rd_ret s1 q1
theorem kw_and1 (ha : PT X a (rdT G W ta)) : PW X (.BoolOp .And [a] pos) (rdT G W ta) := pw_and1 ha
theorem kw_or1 (ha : PT X a (rdT G W ta)) : PW X (.BoolOp .Or [a] pos) (rdT G W ta) := pw_or1 ha
theorem pw_imp {e : Expr} {t u : TT} (h : PW X e t) (i : ∀ σ H Q, u σ H Q → t σ H Q) : PW X e u := ⟨fun wh pins s σ H Q I q => h.run wh pins s σ H Q I (i σ H Q q)⟩
theorem kw_and (ha : PT X a (rdT G W ta)) (hb : PW X (.BoolOp .And (b :: rest) pos) (rdT G W tb)) : PW X (.BoolOp .And (a :: b :: rest) pos) (rdT G W (tAnd' ta tb)) := by
  refine pw_imp (pw_and ha hb) fun σ H Q ⟨z, env, S, s, hr, h⟩ => ?_
  refine rdT_step s hr h fun z1 H1 S1 t L1 s1 e1 q1 => ?_
  cases t with
  | true => exact ⟨z1, env, S1, s1, e1, q1⟩
  | false => exact rd_ret s1 q1
theorem kw_or (ha : PT X a (rdT G W ta)) (hb : PW X (.BoolOp .Or (b :: rest) pos) (rdT G W tb)) : PW X (.BoolOp .Or (a :: b :: rest) pos) (rdT G W (tOr' ta tb)) := by
  refine pw_imp (pw_or ha hb) fun σ H Q ⟨z, env, S, s, hr, h⟩ => ?_
  refine rdT_step s hr h fun z1 H1 S1 t L1 s1 e1 q1 => ?_
  cases t with
  | true => exact rd_ret s1 q1
  | false => exact ⟨z1, env, S1, s1, e1, q1⟩
theorem kt_w {e : Expr} (h : PW X e (rdT G W ta)) : PT X e (rdT G W ta) := h.pt
theorem ke_b1 {op} (h : PE X a (rdE G W ma)) : PE X (.BoolOp op [a] pos) (rdE G W ma) := pe_one h
theorem ke_and (ha : PE X a (rdE G W ma)) (hb : PE X (.BoolOp .And (b :: rest) pos) (rdE G W mb)) : PE X (.BoolOp .And (a :: b :: rest) pos) (rdE G W (mAnd ma mb)) := by
  refine pe_imp (pe_and ha hb) fun σ H Q ⟨z, env, S, s, hr, h⟩ => ?_
  refine rdE_step s hr h fun z1 H1 S1 d v L1 s1 e1 r1 q1 => ?_
  cases d <;> first | exact q1.elim | skip
  rename_i t
  rw [Rep] at r1
  refine ⟨t, r1, ?_⟩
  cases t with
  | true => exact ⟨z1, env, S1, s1, e1, q1⟩
  | false => exact rd_ret s1 q1 _ (by rw [Rep])
theorem ke_or (ha : PE X a (rdE G W ma)) (hb : PE X (.BoolOp .Or (b :: rest) pos) (rdE G W mb)) : PE X (.BoolOp .Or (a :: b :: rest) pos) (rdE G W (mOr ma mb)) := by
  refine pe_imp (pe_or ha hb) fun σ H Q ⟨z, env, S, s, hr, h⟩ => ?_
  refine rdE_step s hr h fun z1 H1 S1 d v L1 s1 e1 r1 q1 => ?_
  cases d <;> first | exact q1.elim | skip
  rename_i t
  rw [Rep] at r1
  refine ⟨t, r1, ?_⟩
  cases t with
  | true => exact rd_ret s1 q1 _ (by rw [Rep])
  | false => exact ⟨z1, env, S1, s1, e1, q1⟩
theorem ke_not (ha : PE X a (rdE G W ma)) : PE X (.UnaryOp .Not a pos) (rdE G W (mNot ma)) := by
  refine pe_imp (pe_not ha) fun σ H Q ⟨z, env, S, s, hr, h⟩ => ?_
  refine rdE_step s hr h fun z1 H1 S1 d v L1 s1 e1 r1 q1 => ?_
  cases d <;> first | exact q1.elim | skip
  rw [Rep] at r1
  exact ⟨_, r1, rd_ret s1 q1 _ (by rw [Rep])⟩
theorem ke_if {c : Expr} (hc : PT X c (rdT G W ta)) (ha : PE X a (rdE G W ma)) (hb : PE X b (rdE G W mb)) : PE X (.IfExp c a b pos) (rdE G W (mIf ta ma mb)) := by
  refine pe_imp (pe_ifExp hc ha hb) fun σ H Q ⟨z, env, S, s, hr, h⟩ => ?_
  refine rdT_step s hr h fun z1 H1 S1 t L1 s1 e1 q1 => ?_
  cases t with
  | true => exact ⟨z1, env, S1, s1, e1, q1⟩
  | false => exact ⟨z1, env, S1, s1, e1, q1⟩
end

/-! ### unary minus -/
def mNeg (a : M D) : M D := bind a fun d => match d with
  | .int i => ret (.int (-i))
  | _ => lift none
/-! ### displays -/
def mTup (a : M (List D)) : M D := bind a fun ds => if ds.length ≤ 100000 then ret (.tup ds) else lift none
def mLst (a : M (List D)) : M D := bind a fun ds => if ds.length ≤ 100000 then ret (.lst true ds) else lift none
def mNew (a : M (List D)) : M D := bind a fun ds => if ds.length ≤ 100000 then (fun _ S => .ok (.ref S.length) (S ++ [.lst ds])) else lift none
section
variable {X : Cx} {G : Gm} {W : WX} {pos : Pos} {a b : Expr} {ma mb : M D} {es : List Expr} {mas : M (List D)}
theorem ke_neg (ha : PE X a (rdE G W ma)) : PE X (.UnaryOp .USub a pos) (rdE G W (mNeg ma)) := by
  refine pe_imp (pe_un un_neg ha) fun σ H Q ⟨z, env, S, s, hr, h⟩ => ?_
  refine rdE_step s hr h fun z1 H1 S1 d v L1 s1 e1 r1 q1 => ?_
  cases d <;> first | exact q1.elim | skip
  rw [Rep] at r1
  exact ⟨_, r1, rd_ret s1 q1 _ (by rw [Rep])⟩
theorem ke_tup {x1} (h : PA X es (rdA G W mas)) : PE X (.Tuple es x1 pos) (rdE G W (mTup mas)) := by
  refine pe_imp (pe_tup h) fun σ H Q ⟨z, env, S, s, hr, h⟩ => ?_
  refine rdA_step s hr h fun z1 H1 S1 ds vs L1 s1 e1 r1 q1 => ?_
  by_cases hc : ds.length ≤ 100000
  · rw [if_pos hc] at q1
    refine ⟨by rw [r1.len]; exact line5 hc, fun p hp => ?_⟩
    exact rd_ret (s1.same (same_new hp)) (Out.mono (later_same (same_new hp)) q1) _ (rep_tup s1 hp r1)
  · rw [if_neg hc] at q1
    exact q1.elim
theorem ke_lst (h : PA X es (rdA G W mas)) : PE X (.List es pos) (rdE G W (mLst mas)) := by
  refine pe_imp (pe_lst h) fun σ H Q ⟨z, env, S, s, hr, h⟩ => ?_
  refine rdA_step s hr h fun z1 H1 S1 ds vs L1 s1 e1 r1 q1 => ?_
  by_cases hc : ds.length ≤ 100000
  · rw [if_pos hc] at q1
    refine ⟨by rw [r1.len]; exact line5 hc, fun p hp => ?_⟩
    exact rd_ret (s1.same (same_new hp)) (Out.mono (later_same (same_new hp)) q1) _ (rep_lst s1 hp r1)
  · rw [if_neg hc] at q1
    exact q1.elim
/-- a new object of the store -/
def Z.add (z : Z) (p : Addr) : Z := ⟨fun a => z.psi a ∨ a = p, fun a => z.phi a ∨ a = p, z.rho ++ [p], z.hid⟩
theorem later_add {z : Z} {H : Hp} {p : Addr} {o : HO} (hp : H p = none) : Later z H (z.add p) (upd H p o) := by
  refine ⟨fun a u e _ _ => same_new hp a u e, ⟨[p], rfl⟩, fun a h => ?_, fun a h => ?_, fun _ h => .inl h, fun _ h => .inl h, fun a ⟨u, e, t⟩ => ⟨u, same_new hp a u e, t⟩, fun a h => ?_, fun a h => ?_⟩
  · rcases h with h | h
    · exact .inl h
    · exact .inr (by rw [h]; exact nlv hp)
  · rcases h with h | h
    · exact .inl h
    · exact .inr (by rw [h]; exact nlv hp)
  · exact .inl h
  · exact h
theorem stands_add {z : Z} {H : Hp} {S : Sto} {p : Addr} {ds : List D} {vs : List V} (s : Stands G z H S) (hp : H p = none) (r : RepL G z H ds vs) : Stands G (z.add p) (upd H p (.lst vs)) (S ++ [.lst ds]) := by
  have L : Later z H (z.add p) (upd H p (.lst vs)) := later_add hp
  have f := s.fresh hp
  refine ⟨fun a h => ?_, fun a h => ?_, fun a h => ?_, fun a h => L.live a (s.hid a h), s.tab.ext (same_new hp), by show (z.rho ++ [p]).length = _; rw [List.length_append, List.length_append, s.len] <;> rfl, ?_, fun n a o e1 e2 => ?_⟩
  · rcases List.mem_append.mp h with h | h
    · exact .inl (s.rho a h)
    · exact .inr (by simpa using h)
  · rcases h with h | h
    · exact .inl (s.psi a h)
    · exact .inr h
  · by_cases ha : a = p
    · rw [ha, upd_same]; exact True.intro
    · rw [upd_ne ha]
      rcases h with h | h
      · exact s.mu a h
      · exact absurd h ha
  · show (z.rho ++ [p]).Nodup
    rw [List.nodup_append]
    refine ⟨s.nd, by simp, fun a ha b hb => ?_⟩
    rw [List.mem_singleton.mp hb]
    exact fun e => f.1 (.inl (e ▸ s.rho a ha))
  · have e1' : (z.rho ++ [p])[n]? = some a := e1
    by_cases hn : n < z.rho.length
    · rw [List.getElem?_append_left hn] at e1'
      rw [List.getElem?_append_left (by rw [← s.len]; exact hn)] at e2
      have ha : a ≠ p := fun e => f.1 (.inl (e ▸ s.rho a (List.mem_of_getElem? e1')))
      rw [upd_ne ha]
      exact RepO.later L s.mup (s.at_ n a o e1' e2)
    · have hl : n < (z.rho ++ [p]).length := (List.getElem?_eq_some_iff.mp e1').1
      rw [List.length_append, List.length_singleton] at hl
      have hn' : n = z.rho.length := by omega
      subst hn'
      rw [List.getElem?_append_right (Nat.le_refl _), Nat.sub_self] at e1'
      rw [List.getElem?_append_right (by rw [s.len] <;> exact Nat.le_refl _), s.len, Nat.sub_self] at e2
      cases e1'
      cases e2
      rw [upd_same]
      exact ⟨vs, rfl, RepL.later L s.mup ds vs r⟩
theorem ke_new (h : PA X es (rdA G W mas)) : PE X (.List es pos) (rdE G W (mNew mas)) := by
  refine pe_imp (pe_lst h) fun σ H Q ⟨z, env, S, s, hr, h⟩ => ?_
  refine rdA_step s hr h fun z1 H1 S1 ds vs L1 s1 e1 r1 q1 => ?_
  by_cases hc : ds.length ≤ 100000
  · rw [if_pos hc] at q1
    refine ⟨by rw [r1.len]; exact line5 hc, fun p hp => ?_⟩
    refine q1 (z1.add p) _ (later_add hp) (stands_add s1 hp r1) _ ?_
    rw [Rep]
    refine ⟨p, rfl, ?_⟩
    show (z1.rho ++ [p])[S1.length]? = some p
    rw [← s1.len, List.getElem?_append_right (Nat.le_refl _), Nat.sub_self] <;> rfl
  · rw [if_neg hc] at q1
    exact q1.elim
end

/-! ### subscripts -/
def dIx : Op2
  | .lst _ xs, .int i => atI xs i
  | .tup xs, .int i => atI xs i
  | .scr ns, .int i => (atI ns i).map D.int
  | .str x, .int i => if x.length ≤ 100000 then (atI x.cps.toList i).map fun c => D.str ⟨#[c]⟩ else none
  | _, _ => none
section
variable {X : Cx} {G : Gm} {W : WX} {pos : Pos} {a b : Expr} {ma mb : M D}
theorem atI_repL {z : Z} {H : Hp} {ds : List D} {vs : List V} {i : Int} {d : D} (h : RepL G z H ds vs) (e : atI ds i = some d) : ∃ v, atI vs i = some v ∧ Rep G z H d v := by
  unfold atI at e ⊢
  rw [h.len]
  cases q : ixN ds.length i with
  | none => rw [q] at e; cases e
  | some j =>
    rw [q] at e
    exact h.at_ e
theorem rd_ix {z : Z} {H : Hp} {S : Sto} {x y : V} {d1 d2 d : D} {Q : VK} (hK : X.K = G.K) (n1 : Now G z H d1 x) (n2 : Now G z H d2 y) (e : dIx d1 d2 = some d) (q : ∀ v, Rep G z H d v → Q v H) : rIx X.K x y H Q := by
  unfold dIx at e
  split at e
  · rename_i o xs i
    obtain ⟨p, vs, e1, h1, h2⟩ := n1.lst
    obtain ⟨v, e2, r⟩ := atI_repL h2 e
    exact .inl ⟨p, vs, i, v, e1, n2.int, SqL.of h1, e2, q v r⟩
  · rename_i xs i
    obtain ⟨p, vs, e1, h1, h2⟩ := n1.tup
    obtain ⟨v, e2, r⟩ := atI_repL h2 e
    exact .inr (.inl ⟨p, vs, i, v, e1, n2.int, hK ▸ h1, e2, q v r⟩)
  · rename_i ns i
    obtain ⟨p, e1, h1⟩ := n1.scr
    unfold atI at e
    cases h : ixN ns.length i with
    | none => rw [h] at e; cases e
    | some j =>
      rw [h] at e
      cases g : ns[j]? with
      | none =>
        have e' : (ns[j]?).map D.int = some d := e
        rw [g] at e'; cases e'
      | some k =>
        have e' : (ns[j]?).map D.int = some d := e
        rw [g] at e'
        cases e'
        refine .inl ⟨p, ns.map V.int, i, .int k, e1, n2.int, hK ▸ h1.l, ?_, q _ (by rw [Rep])⟩
        unfold atI
        rw [List.length_map, h]
        show (ns.map V.int)[j]? = _
        rw [List.getElem?_map, g]
        all_goals rfl
  · rename_i w i
    split at e
    · rename_i hc
      cases h : atI w.cps.toList i with
      | none => rw [h] at e; cases e
      | some c =>
        rw [h] at e
        cases e
        exact .inr (.inr ⟨w, i, c, n1.str, n2.int, line5 hc, h, q _ (by rw [Rep])⟩)
    · cases e
  · cases e
theorem ke_ix (ha : PE X a (rdE G W ma)) (hb : PE X b (rdE G W mb)) (hs : PlainIx b := by intro _ _; rfl) (hK : X.K = G.K := by rfl) : PE X (.Subscript a b pos) (rdE G W (mOp dIx ma mb)) := by
  refine pe_imp (pe_ix ix_seq ha hb hs) fun σ H Q ⟨z, env, S, s, he, h⟩ => ?_
  refine rdE_step s he h fun z1 H1 S1 d1 x L1 s1 e1 r1 q1 => ?_
  refine rdE_step s1 e1 q1 fun z2 H2 S2 d2 y L2' s2 e2 r2 q2 => ?_
  obtain ⟨d, ed, q3⟩ := rd_lift s2 q2
  exact rd_ix (S := S2) hK (now_vw s2 (Rep.later L2' s1.mup d1 x r1)) (now_vw s2 r2) ed q3
end

/-! ### built-in functions by values -/
abbrev OpL := List D → Option D
def CallK (X : Cx) (G : Gm) (f : Value) (op : OpL) : Prop := ∃ r : List V → Hp → VK → Prop, CallR X f r ∧
  ∀ (z : Z) (H : Hp) (S : Sto) (xs : List V) (ds : List D) (d : D) (Q : VK), Stands G z H S → Paired (Now G z H) ds xs → op ds = some d →
    (∀ H' v, L2.Same H H' → Rep G z H' d v → Q v H') → r xs H Q
def mBlt (op : OpL) (a : M (List D)) : M D := bind a fun ds => fun env S => lift (op (ds.map (vw S))) env S
section
variable {X : Cx} {G : Gm} {W : WX} {pos p : Pos} {e : Expr} {es : List Expr} {ma : M (List D)} {op op' : OpL} {x : Str} {id T : String}
theorem nows {z : Z} {H : Hp} {S : Sto} (s : Stands G z H S) : ∀ {ds : List D} {vs : List V}, RepL G z H ds vs → Paired (Now G z H) (ds.map (vw S)) vs
  | [], vs, h => by rw [RepL] at h; subst h; exact .nil
  | d :: ds, vs, h => by
    rw [RepL] at h
    obtain ⟨w, ws, e, h1, h2⟩ := h
    subst e
    exact .cons (now_vw s h1) (nows s h2)
theorem rd_blt {f : Value} (hc : CallK X G f op) : ∃ r, CallR X f r ∧ ∀ σ H Q, rdE G W (mBlt op ma) σ H Q → tCB r (rdA G W ma) σ H Q := by
  obtain ⟨r, h1, h2⟩ := hc
  refine ⟨r, h1, fun σ H Q ⟨z, env, S, s, he, h⟩ => ?_⟩
  refine rdA_step s he h fun z1 H1 S1 ds vs L1 s1 e1 r1 q1 => ?_
  obtain ⟨d, ed, _⟩ := rd_lift s1 q1
  refine h2 z1 H1 S1 vs _ d Q s1 (nows s1 r1) ed fun H' v sm rv => ?_
  have q4 : Out G W σ z1 H1 (fun z' H' _ d => ∀ v, Rep G z' H' d v → Q v H') (lift (op (ds.map (vw S1))) env S1) := q1
  unfold lift at q4
  rw [ed] at q4
  exact q4 z1 H' (later_same sm) (s1.same sm) v rv
theorem ke_blt (hc : CallK X G (.builtin id) op) (hm : X.mg x = none) (ha : PA X (e :: es) (rdA G W ma)) (hg : Gl X x := by rfl) (hv : bootBuiltins x = some (.builtin id) := by decide +kernel) (hn : x ≠ "__name__" := by decide) (hdb : (x == ("__debug__" : Str)) = false := by decide)
    (he : starEach (e :: es) X.env = (false, eval e X.env) :: starEach es X.env := by rfl) (hpl : (backTo pos (starEach es X.env)).any (·.1) = false := by rfl) : PE X (.Call (.Name x p) (e :: es) [] pos) (rdE G W (mBlt op ma)) := by
  obtain ⟨r, h1, h2⟩ := rd_blt (W := W) (ma := ma) hc
  exact pe_imp (pe_callB h1 hg hm hv ha hn hdb he hpl) h2
theorem ke_bltT (hc : CallK X G (.type T) op) (hm : X.mg x = none) (ha : PA X (e :: es) (rdA G W ma)) (hg : Gl X x := by rfl) (hv : bootBuiltins x = some (.type T) := by decide +kernel) (hn : x ≠ "__name__" := by decide) (hdb : (x == ("__debug__" : Str)) = false := by decide)
    (he : starEach (e :: es) X.env = (false, eval e X.env) :: starEach es X.env := by rfl) (hpl : (backTo pos (starEach es X.env)).any (·.1) = false := by rfl) : PE X (.Call (.Name x p) (e :: es) [] pos) (rdE G W (mBlt op ma)) := by
  obtain ⟨r, h1, h2⟩ := rd_blt (W := W) (ma := ma) hc
  exact pe_imp (pe_callTy h1 hg hm hv ha hn hdb he hpl) h2
/-- a built-in that the module imported -/
theorem ke_bltM (hc : CallK X G (.builtin id) op) (hm : X.mg x = some (.builtin id)) (ha : PA X (e :: es) (rdA G W ma)) (hg : Gl X x := by rfl) (hdb : (x == ("__debug__" : Str)) = false := by decide)
    (he : starEach (e :: es) X.env = (false, eval e X.env) :: starEach es X.env := by rfl) (hpl : (backTo pos (starEach es X.env)).any (·.1) = false := by rfl) : PE X (.Call (.Name x p) (e :: es) [] pos) (rdE G W (mBlt op ma)) := by
  obtain ⟨r, h1, h2⟩ := rd_blt (W := W) (ma := ma) hc
  exact pe_imp (pe_callBfun h1 hg hm ha hdb he hpl) h2
theorem CallK.or {f : Value} (h : CallK X G f op) (h' : CallK X G f op') : CallK X G f (fun ds => (op ds).or (op' ds)) := by
  obtain ⟨r, h1, h2⟩ := h
  obtain ⟨r', h1', h2'⟩ := h'
  refine ⟨_, h1.or h1', fun z H S xs ds d Q s n e q => ?_⟩
  cases e1 : op ds with
  | some y =>
    have e' : (op ds).or (op' ds) = some d := e
    rw [e1] at e'
    cases e'
    exact .inl (h2 z H S xs ds _ Q s n e1 q)
  | none =>
    have e' : (op ds).or (op' ds) = some d := e
    rw [e1] at e'
    exact .inr (h2' z H S xs ds _ Q s n e' q)
end
def dLen : OpL
  | [.str x] => if x.length ≤ 100000 then some (.int x.length) else none
  | [.lst _ xs] => some (.int xs.length)
  | [.tup xs] => some (.int xs.length)
  | [.scr ns] => some (.int ns.length)
  | _ => none
def dAbs : OpL
  | [.int i] => some (.int (if i < 0 then -i else i))
  | _ => none
def dMax2 : OpL
  | [.int i, .int j] => some (.int (if j > i then j else i))
  | _ => none
def dMin2 : OpL
  | [.int i, .int j] => some (.int (if j < i then j else i))
  | _ => none
def dInt : OpL
  | [.int i] => some (.int i)
  | [.bl b] => some (.int (if b then 1 else 0))
  | _ => none
section
variable {X : Cx} {G : Gm}
theorem p1 {α β : Type} {F : α → β → Prop} {a : α} {bs : List β} (h : Paired F [a] bs) : ∃ b, bs = [b] ∧ F a b := by
  cases h with
  | cons r t => cases t; exact ⟨_, rfl, r⟩
theorem p2 {α β : Type} {F : α → β → Prop} {a a' : α} {bs : List β} (h : Paired F [a, a'] bs) : ∃ b b', bs = [b, b'] ∧ F a b ∧ F a' b' := by
  cases h with
  | cons r t =>
    obtain ⟨b', e, r'⟩ := p1 t
    subst e
    exact ⟨_, _, rfl, r, r'⟩
theorem kc_len (hK : X.K = G.K := by rfl) : CallK X G (.builtin "len") dLen := by
  refine ⟨_, call_len, fun z H S xs ds d Q s n e q => ?_⟩
  unfold dLen at e
  split at e
  · rename_i x
    obtain ⟨v, rfl, n1⟩ := p1 n
    split at e
    · rename_i hc
      cases e
      exact ⟨v, x.length, rfl, by rw [n1.str]; exact ⟨line5 hc, rfl⟩, q H _ (L2.Same.refl H) (by rw [Rep])⟩
    · cases e
  · rename_i o xs'
    obtain ⟨v, rfl, n1⟩ := p1 n
    obtain ⟨p, vs, rfl, h1, h2⟩ := n1.lst
    cases e
    exact ⟨_, xs'.length, rfl, .inl ⟨vs, SqL.of h1, h2.len.symm⟩, q H _ (L2.Same.refl H) (by rw [Rep])⟩
  · rename_i xs'
    obtain ⟨v, rfl, n1⟩ := p1 n
    obtain ⟨p, vs, rfl, h1, h2⟩ := n1.tup
    cases e
    exact ⟨_, xs'.length, rfl, .inr ⟨vs, hK ▸ h1, h2.len.symm⟩, q H _ (L2.Same.refl H) (by rw [Rep])⟩
  · rename_i ns
    obtain ⟨v, rfl, n1⟩ := p1 n
    obtain ⟨p, rfl, h1⟩ := n1.scr
    cases e
    exact ⟨_, ns.length, rfl, .inl ⟨ns.map V.int, hK ▸ h1.l, (List.length_map _).symm⟩, q H _ (L2.Same.refl H) (by rw [Rep])⟩
  · cases e
theorem kc_abs : CallK X G (.builtin "abs") dAbs := by
  refine ⟨_, call_abs, fun z H S xs ds d Q s n e q => ?_⟩
  unfold dAbs at e
  split at e
  · rename_i i
    obtain ⟨v, rfl, n1⟩ := p1 n
    cases e
    exact ⟨i, by rw [n1.int], q H _ (L2.Same.refl H) (by rw [Rep])⟩
  · cases e
theorem kc_max2 (hc : X.calm = true) : CallK X G (.builtin "max") dMax2 := by
  refine ⟨_, call_max2 hc, fun z H S xs ds d Q s n e q => ?_⟩
  unfold dMax2 at e
  split at e
  · rename_i i j
    obtain ⟨v, w, rfl, n1, n2⟩ := p2 n
    cases e
    exact ⟨i, j, by rw [n1.int, n2.int], q H _ (L2.Same.refl H) (by rw [Rep])⟩
  · cases e
theorem kc_min2 (hc : X.calm = true) : CallK X G (.builtin "min") dMin2 := by
  refine ⟨_, call_min2 hc, fun z H S xs ds d Q s n e q => ?_⟩
  unfold dMin2 at e
  split at e
  · rename_i i j
    obtain ⟨v, w, rfl, n1, n2⟩ := p2 n
    cases e
    exact ⟨i, j, by rw [n1.int, n2.int], q H _ (L2.Same.refl H) (by rw [Rep])⟩
  · cases e
theorem kc_int : CallK X G (.type "int") dInt := by
  refine ⟨_, call_int1, fun z H S xs ds d Q s n e q => ?_⟩
  unfold dInt at e
  split at e
  · rename_i i
    obtain ⟨v, rfl, n1⟩ := p1 n
    cases e
    exact .inl ⟨i, by rw [n1.int], q H _ (L2.Same.refl H) (by rw [Rep])⟩
  · rename_i b
    obtain ⟨v, rfl, n1⟩ := p1 n
    cases e
    exact .inr ⟨b, by rw [n1.bl], q H _ (L2.Same.refl H) (by rw [Rep])⟩
  · cases e
end
end Ki

set_option Elab.async false
set_option linter.all false
set_option maxRecDepth 100000
namespace Ki
open PySem L2 PySem.Spec PyProof.Rows

/-! ### for -/
abbrev Tg := D → Ev → Option Ev
def gNm (i : Nat) : Tg := fun d env => some (env.set i (some d))
/-- (a, b, ..): names alone -/
def gNms : List Nat → List D → Ev → Option Ev
  | [], [], env => some env
  | i :: is, d :: ds, env => gNms is ds (env.set i (some d))
  | _, _, _ => none
def gTp (is : List Nat) : Tg := fun d env => match d with
  | .tup ds => gNms is ds env
  | _ => none
def forL (g : Tg) (body : MS) : List D → MS
  | [] => sNext
  | d :: ds => fun env S => match g d env with
    | none => .bad
    | some env' => match body env' S with
      | .nx e S' => forL g body ds e S'
      | .ct e S' => forL g body ds e S'
      | .bk e S' => .nx e S'
      | .rt x S' => .rt x S'
      | .exc x e S' => .exc x e S'
      | .bad => .bad
/-- what a target does -/
structure PGk (X : Cx) (G : Gm) (tg : Expr) (g : Tg) : Prop where
  ex : ∃ t : TG, PG X tg t ∧ ∀ (z : Z) (H : Hp) (S : Sto) (σ : L2.St) (env env' : Ev) (d : D) (v : V) (Q : L2.St → Hp → Prop), Stands G z H S → RepE G z H env σ → Rep G z H d v → g d env = some env' → (∀ σ', RepE G z H env' σ' → Q σ' H) → t v σ H Q
section
variable {X : Cx} {G : Gm} {W : WX} {pos : Pos}
theorem kg_name (i : Nat) {x : Str} (hN : X.N.Nodup) (hi : X.N[i]? = some x := by rfl) (hx : Loc X.env.scope x := by first | exact Or.inl rfl | exact Or.inr rfl) (hf : X.fn x = true ∨ X.env.scope.names.lookup x = some .local := by first | exact .inl rfl | exact .inr rfl) : PGk X G (.Name x pos) (gNm i) :=
  ⟨⟨_, pg_name (i := i) hN hi hx hf, fun z H S σ env env' d v Q s e r h q => by
    cases h
    exact q _ (e.set r)⟩⟩
structure PGks (X : Cx) (G : Gm) (ts : List Expr) (is : List Nat) : Prop where
  ex : ∃ t : TGs, PGs X ts t ∧ ∀ (z : Z) (H : Hp) (S : Sto) (σ : L2.St) (env env' : Ev) (ds : List D) (vs : List V) (Q : L2.St → Hp → Prop), Stands G z H S → RepE G z H env σ → RepL G z H ds vs → gNms is ds env = some env' → (∀ σ', RepE G z H env' σ' → Q σ' H) → t vs σ H Q
theorem kgs_nil : PGks X G [] [] := ⟨⟨_, pgs_nil, fun z H S σ env env' ds vs Q s e r h q => by
  cases ds with
  | nil =>
    rw [RepL] at r
    rw [gNms] at h
    cases h
    exact ⟨r, q σ e⟩
  | cons d ds => rw [gNms] at h <;> first | cases h | (intros; simp)⟩⟩
theorem kgs_cons {tg : Expr} {ts : List Expr} {i : Nat} {is : List Nat} (h1 : PGk X G tg (gNm i)) (h2 : PGks X G ts is) (hs : (assignEach (tg :: ts) X.env).map (·.2) = assign tg X.env :: (assignEach ts X.env).map (·.2) := by rfl) : PGks X G (tg :: ts) (i :: is) := by
  obtain ⟨t1, p1, q1⟩ := h1.ex
  obtain ⟨t2, p2, q2⟩ := h2.ex
  refine ⟨⟨_, pgs_cons p1 p2 hs, fun z H S σ env env' ds vs Q s e r h q => ?_⟩⟩
  cases ds with
  | nil => rw [gNms] at h <;> first | cases h | (intros; simp)
  | cons d ds =>
    rw [RepL] at r
    obtain ⟨w, ws, ev, r1, r2⟩ := r
    rw [gNms] at h
    exact ⟨w, ws, ev, q1 z H S σ env _ d w _ s e r1 rfl fun σ' e' => q2 z H S σ' _ _ ds ws Q s e' r2 h q⟩
theorem gNms_len : ∀ {is : List Nat} {ds : List D} {env env' : Ev}, gNms is ds env = some env' → ds.length = is.length
  | [], [], _, _, _ => rfl
  | [], _ :: _, _, _, h => by rw [gNms] at h <;> first | cases h | (intros; simp)
  | _ :: _, [], _, _, h => by rw [gNms] at h <;> first | cases h | (intros; simp)
  | i :: is, d :: ds, env, env', h => by
    rw [gNms] at h
    rw [List.length_cons, List.length_cons, gNms_len h]
theorem kg_tup {es : List Expr} {k : Nat} {is : List Nat} (hc : X.calm = true) (h : PGks X G es is) (hn : (assignEach es X.env).length = is.length := by rfl) (hst : (assignEach es X.env).findIdx? (·.1) = none := by rfl) (hK : X.K = G.K := by rfl) : PGk X G (.Tuple es k pos) (gTp is) := by
  obtain ⟨t, p, q⟩ := h.ex
  refine ⟨⟨_, pg_tup (n := is.length) hc p hn hst, fun z H S σ env env' d v Q s e r h q' => ?_⟩⟩
  cases d <;> first | (cases h; done) | skip
  rename_i ds
  rw [Rep] at r
  obtain ⟨a, vs, rfl, h1, h2⟩ := r
  have hl := gNms_len (show gNms is ds env = some env' from h)
  exact ⟨a, vs, rfl, hK ▸ h1, by rw [h2.len, hl], q z H S σ env env' ds vs Q s e h2 h q'⟩

/-- one turn, told by the rest -/
theorem turn_ends {E : Ends} {z : Z} {H : Hp} {g : Tg} {body : MS} {d : D} {ds : List D} {env env' : Ev} {S : Sto} {N : L2.St → Hp → Prop} (e : g d env = some env') (h : OutS G W z H E (forL g body (d :: ds) env S))
    (hN : ∀ z' H' σ' e' S', Later z H z' H' → Stands G z' H' S' → RepE G z' H' e' σ' → OutS G W z' H' E (forL g body ds e' S') → N σ' H') : OutS G W z H { E with nx := N, ct := N, bk := E.nx } (body env' S) := by
  rw [forL] at h
  simp only [e] at h
  cases q : body env' S with
  | nx e' S' =>
    rw [q] at h
    exact fun z' H' σ' L s r => hN z' H' σ' e' S' L s r (OutS.mono L h)
  | ct e' S' =>
    rw [q] at h
    exact fun z' H' σ' L s r => hN z' H' σ' e' S' L s r (OutS.mono L h)
  | bk e' S' => rw [q] at h; exact h
  | rt x S' => rw [q] at h; exact h
  | exc x e' S' => rw [q] at h; exact h
  | bad => rw [q] at h; exact h
def rgD (lo : Int) (n : Nat) : List D := (List.range' 0 n).map fun (i : Nat) => D.int (lo + i)
/-- J walks the items ds, as things stand -/
def Wk (G : Gm) (J : It) (ds : List D) (z : Z) (H : Hp) : Prop := (∀ i, ds.length ≤ i → J.stop i H) ∧ ∀ i d, ds[i]? = some d → J.go i H ∧ ∀ x H', J.yld i H x H' → L2.Same H H' ∧ Rep G z H' d x
theorem wk_of {G : Gm} {z : Z} {H H' : Hp} {d : D} {x : V} (h : H' = H ∧ Rep G z H d x) : L2.Same H H' ∧ Rep G z H' d x := by
  obtain ⟨rfl, h⟩ := h
  exact ⟨L2.Same.refl _, h⟩
theorem wk_rg {lo : Int} {n : Nat} {z : Z} {H : Hp} : Wk G (Itr lo n) (rgD lo n) z H := by
  refine ⟨fun i h => by
    have h' : n ≤ i := by simpa [rgD] using h
    exact h', fun i d h => ?_⟩
  have hi : i < n := by
    have := (List.getElem?_eq_some_iff.mp h).1
    simpa [rgD] using this
  refine ⟨hi, fun x H' y => wk_of ⟨y.1, ?_⟩⟩
  have e : (rgD lo n)[i]? = some (D.int (lo + i)) := by
    unfold rgD
    rw [List.getElem?_map, List.getElem?_range' hi]
    simp
  rw [e] at h
  cases h
  rw [Rep]
  exact y.2
theorem for_any {E : Ends} {z : Z} {H : Hp} {σ : L2.St} {env : Ev} {S : Sto} {J : It} {ds : List D} {g : Tg} {body : MS} {t : TG} (hw : ∀ z' H' S', Later z H z' H' → Stands G z' H' S' → Wk G J ds z' H')
    (ht : ∀ (z : Z) (H : Hp) (S : Sto) (σ : L2.St) (env env' : Ev) (d : D) (v : V) (Q : L2.St → Hp → Prop), Stands G z H S → RepE G z H env σ → Rep G z H d v → g d env = some env' → (∀ σ', RepE G z H env' σ' → Q σ' H) → t v σ H Q)
    (s : Stands G z H S) (r : RepE G z H env σ) (h : OutS G W z H E (forL g body ds env S)) :
    ∃ W' : Nat → Nat → L2.St → Hp → Prop, (∃ m, W' 0 m σ H) ∧ ∀ i m σ H, W' i m σ H →
      (J.stop i H ∧ E.nx σ H) ∨ (J.go i H ∧ ∃ N : L2.St → Hp → Prop, (∀ σ' H', N σ' H' → ∃ m', m' < m ∧ W' (i + 1) m' σ' H') ∧ ∀ x H', J.yld i H x H' → t x σ H' fun σ2 H2 => rdS G W body { E with nx := N, ct := N, bk := E.nx } σ2 H2) := by
  refine ⟨fun i m σ' H' => m = ds.length - i ∧ i ≤ ds.length ∧ ∃ z' env S, Later z H z' H' ∧ Stands G z' H' S ∧ RepE G z' H' env σ' ∧ OutS G W z' H' E (forL g body (ds.drop i) env S), ⟨ds.length, by simp, Nat.zero_le _, z, env, S, .refl, s, r, h⟩, ?_⟩
  rintro i m σ1 H1 ⟨rfl, hi, z1, env1, S1, L, s, r, h⟩
  have w := hw z1 H1 S1 L s
  by_cases hlt : i < ds.length
  · rw [List.drop_eq_getElem_cons hlt] at h
    obtain ⟨go, gv⟩ := w.2 i ds[i] (List.getElem?_eq_getElem hlt)
    cases e : g ds[i] env1 with
    | none =>
      rw [forL] at h
      simp only [e] at h
      exact h.elim
    | some env' =>
      refine .inr ⟨go, fun σ' H' => ∃ z' env S, Later z H z' H' ∧ Stands G z' H' S ∧ RepE G z' H' env σ' ∧ OutS G W z' H' E (forL g body (ds.drop (i + 1)) env S), fun σ' H' p' => ⟨ds.length - (i + 1), by omega, rfl, hlt, p'⟩, fun x H' y => ?_⟩
      obtain ⟨sm, rx⟩ := gv x H' y
      have LS : Later z1 H1 z1 H' := later_same sm
      refine ht z1 _ S1 σ1 env1 env' _ _ _ (s.same sm) (r.later LS s.mup) rx e fun σ' r' => ⟨z1, env', S1, s.same sm, r', ?_⟩
      exact turn_ends e (OutS.mono LS h) fun z' H' σ' e' S' L' s' r' h' => ⟨z', e', S', L.trans (LS.trans L'), s', r', h'⟩
  · have e : i = ds.length := by omega
    subst e
    rw [List.drop_eq_nil_of_le (Nat.le_refl _)] at h
    exact .inl ⟨w.1 _ (Nat.le_refl _), h z1 H1 σ1 .refl s r⟩
def sForR1 (g : Tg) (m : M (List D)) (body : MS) : MS := thenS m fun ds => match ds with
  | [.int j] => if decide (-(2 ^ 62) ≤ j) && decide (j < 2 ^ 62) then forL g body (rgD 0 j.toNat) else fun _ _ => .bad
  | _ => fun _ _ => .bad
def sForR2 (g : Tg) (m : M (List D)) (body : MS) : MS := thenS m fun ds => match ds with
  | [.int i, .int j] => if decide (-(2 ^ 62) ≤ i) && decide (i < 2 ^ 62) && (decide (-(2 ^ 62) ≤ j) && decide (j < 2 ^ 62)) then forL g body (rgD i (j - i).toNat) else fun _ _ => .bad
  | _ => fun _ _ => .bad
theorem rdA_thenS {m : M (List D)} {k : List D → MS} {R : List V → Hp → Prop} {z : Z} {H : Hp} {env : Ev} {S : Sto} {E : Ends} {σ : L2.St} (s : Stands G z H S) (e : RepE G z H env σ) (h : OutS G W z H E (thenS m k env S))
    (i : ∀ z' H' S' ds vs, Later z H z' H' → Stands G z' H' S' → RepE G z' H' env σ → RepL G z' H' ds vs → OutS G W z' H' E (k ds env S') → R vs H') : rdA G W m σ H R :=
  ⟨z, env, S, s, e, (rd_thenS s e h).imp fun z' H' S' ds L s' q vs r => i z' H' S' ds vs L s' (e.later L s.mup) r q⟩
theorem repL1 {z : Z} {H : Hp} {d : D} {vs : List V} (h : RepL G z H [d] vs) : ∃ v, vs = [v] ∧ Rep G z H d v := by
  rw [RepL] at h
  obtain ⟨w, ws, rfl, h1, h2⟩ := h
  rw [RepL] at h2
  subst h2
  exact ⟨w, rfl, h1⟩
theorem repL2 {z : Z} {H : Hp} {d d' : D} {vs : List V} (h : RepL G z H [d, d'] vs) : ∃ v v', vs = [v, v'] ∧ Rep G z H d v ∧ Rep G z H d' v' := by
  rw [RepL] at h
  obtain ⟨w, ws, rfl, h1, h2⟩ := h
  obtain ⟨v', rfl, h3⟩ := repL1 h2
  exact ⟨w, v', rfl, h1, h3⟩
theorem ks_forR1 {tg a : Expr} {body : List Stmt} {g : Tg} {m : M (List D)} {mb : MS} {p p' : Pos} (hp : PassesOwn (model X.prog X.w) X.A X.env X.xe) (hc : X.calm = true) (hm : X.mg "range" = none) (ha : PA X [a] (rdA G W m)) (hg : PGk X G tg g) (hb : PSs X body (rdS G W mb))
    (hgl : Gl X "range" := by rfl) (hs : starEach [a] X.env = [(false, eval a X.env)] := by rfl) (hf : ∀ x, foldedSetIterable (.Call (.Name "range" p) [a] [] p') X.env x = pure x := by intro _; rfl) :
    PS X (.For tg (.Call (.Name "range" p) [a] [] p') body [] pos) (rdS G W (sForR1 g m mb)) := by
  obtain ⟨t, hpg, ht⟩ := hg.ex
  refine ps_imp (ps_for hp hc (pi_range1 hgl hm ha hs) hpg hb hf) fun E σ H ⟨z, env, S, s, r, h⟩ => ?_
  refine rdA_thenS s r h fun z1 H1 S1 ds vs L s1 r1 rl h1 => ?_
  split at h1
  · rename_i j
    split at h1
    · rename_i hj
      have hj' := Bool.and_eq_true_iff.mp hj
      obtain ⟨v, rfl, rv⟩ := repL1 rl
      rw [Rep] at rv
      exact ⟨j, by rw [rv], of_decide_eq_true hj'.1, of_decide_eq_true hj'.2, for_any (fun _ _ _ _ _ => wk_rg) ht s1 r1 h1⟩
    · exact h1.elim
  · exact h1.elim
theorem ks_forR2 {tg a b : Expr} {body : List Stmt} {g : Tg} {m : M (List D)} {mb : MS} {p p' : Pos} (hp : PassesOwn (model X.prog X.w) X.A X.env X.xe) (hc : X.calm = true) (hm : X.mg "range" = none) (ha : PA X [a, b] (rdA G W m)) (hg : PGk X G tg g) (hb : PSs X body (rdS G W mb))
    (hgl : Gl X "range" := by rfl) (hs : starEach [a, b] X.env = [(false, eval a X.env), (false, eval b X.env)] := by rfl) (hs2 : starEach [b] X.env = [(false, eval b X.env)] := by rfl) (hf : ∀ x, foldedSetIterable (.Call (.Name "range" p) [a, b] [] p') X.env x = pure x := by intro _; rfl) :
    PS X (.For tg (.Call (.Name "range" p) [a, b] [] p') body [] pos) (rdS G W (sForR2 g m mb)) := by
  obtain ⟨t, hpg, ht⟩ := hg.ex
  refine ps_imp (ps_for hp hc (pi_range2 hgl hm ha hs hs2) hpg hb hf) fun E σ H ⟨z, env, S, s, r, h⟩ => ?_
  refine rdA_thenS s r h fun z1 H1 S1 ds vs L s1 r1 rl h1 => ?_
  split at h1
  · rename_i i j
    split at h1
    · rename_i hj
      have hj' := Bool.and_eq_true_iff.mp hj
      have ha' := Bool.and_eq_true_iff.mp hj'.1
      have hb' := Bool.and_eq_true_iff.mp hj'.2
      obtain ⟨v, w, rfl, rv, rw'⟩ := repL2 rl
      rw [Rep] at rv rw'
      exact ⟨i, j, by rw [rv, rw'], ⟨of_decide_eq_true ha'.1, of_decide_eq_true ha'.2, of_decide_eq_true hb'.1, of_decide_eq_true hb'.2⟩, for_any (fun _ _ _ _ _ => wk_rg) ht s1 r1 h1⟩
    · exact h1.elim
  · exact h1.elim
end

/-! ### over a list, a tuple, the script -/
/-- the items, as they are walked -/
def items : D → Option (List D)
  | .lst _ xs => some xs
  | .tup xs => some xs
  | .scr ns => some (ns.map D.int)
  | _ => none
section
variable {X : Cx} {G : Gm} {W : WX} {pos : Pos}
/-- what walks it -/
def It2 (K : PySem.W.Frag) (a : Addr) (b : Bool) : It := if b then Itl K a else Itt K a
def iSq (K : PySem.W.Frag) (tl : TE) : TI := fun σ H R => tl σ H fun x H1 => ∃ a, x = .ref a ∧ (((∃ xs, SqL K H1 a xs) ∧ R (It2 K a true) H1) ∨ ((∃ xs, SqT K H1 a xs) ∧ R (It2 K a false) H1))
theorem pi_sq {tg l : Expr} {tl : TE} (hl : PE X l tl) : PI X tg l (iSq X.K tl) := by
  refine ⟨fun pins s σ H R I h => thn (hl.run pins s σ H _ I h) fun v s1 ⟨x, H1, I1, rx, w⟩ => ?_⟩
  obtain ⟨a, ex, w⟩ := w
  subst ex
  cases rx
  rcases w with ⟨⟨xs, hq⟩, q⟩ | ⟨⟨xs, hq⟩, q⟩
  · obtain ⟨its, rv, p, hz⟩ := I1.list hq
    refine wpAny_pyIter_list p.isList ⟨_, [s1.heap.objs.size], _, _, H1, rfl, I1.kept (t' := s1.toks) fun b o e => Heap.get?_push_of_some _ e, turn_list a _, ⟨_, Heap.get?_push_size _ rfl, rfl, rfl⟩, fun b hb => ?_, q⟩
    cases List.mem_singleton.mp hb
    exact I1.fpOk (Nat.le_refl _) (I1.hok.fresh (Nat.le_refl _))
  · obtain ⟨its, rv, p, hz⟩ := I1.tuple hq
    refine wpAny_pyIter_tuple (show s1.heap.IsTuple a its.toArray from p) ⟨_, [s1.heap.objs.size], _, _, H1, rfl, I1.kept (t' := s1.toks) fun b o e => Heap.get?_push_of_some _ e, turn_tuple a _, ⟨_, Heap.get?_push_size _ rfl, rfl, rfl⟩, fun b hb => ?_, q⟩
    cases List.mem_singleton.mp hb
    exact I1.fpOk (Nat.le_refl _) (I1.hok.fresh (Nat.le_refl _))
/-- what a walker gives of such a sequence -/
def isT : D → Bool
  | .tup _ => true
  | _ => false
theorem wk_sq {z : Z} {H : Hp} {d : D} {ds : List D} {a : Addr} (hK : X.K = G.K) (e : items d = some ds) (r : Rep G z H d (.ref a)) :
    (isT d = false → (∃ xs, SqL X.K H a xs) ∧ Wk G (It2 X.K a true) ds z H) ∧ (isT d = true → (∃ xs, SqT X.K H a xs) ∧ Wk G (It2 X.K a false) ds z H) := by
  cases d <;> first | (cases e; done) | skip
  · rename_i xs
    cases e
    rw [Rep] at r
    obtain ⟨b, vs, ev, h1, h2⟩ := r
    cases ev
    rw [← hK] at h1
    refine ⟨fun q => (Bool.noConfusion q), fun _ => ?_⟩
    refine ⟨⟨vs, h1⟩, fun i h => ⟨vs, h1, by rw [h2.len]; exact h⟩, fun i d h => ?_⟩
    obtain ⟨v, q1, q2⟩ := h2.at_ h
    refine ⟨⟨vs, v, h1, q1⟩, fun x H' y => wk_of ⟨y.1, ?_⟩⟩
    have q3 := y.2 vs h1
    rw [q1] at q3
    cases q3
    exact q2
  · rename_i o xs
    cases e
    rw [Rep] at r
    obtain ⟨b, vs, ev, h1, _, _, h2⟩ := r
    cases ev
    have h1 : SqL X.K H a vs := SqL.of h1
    refine ⟨fun _ => ?_, fun q => (Bool.noConfusion q)⟩
    refine ⟨⟨vs, h1⟩, fun i h => ⟨vs, h1, by rw [h2.len]; exact h⟩, fun i d h => ?_⟩
    obtain ⟨v, q1, q2⟩ := h2.at_ h
    refine ⟨⟨vs, v, h1, q1⟩, fun x H' y => wk_of ⟨y.1, ?_⟩⟩
    have q3 := y.2 vs h1
    rw [q1] at q3
    cases q3
    exact q2
  · rename_i ns
    cases e
    rw [Rep] at r
    obtain ⟨b, ev, h1⟩ := r
    cases ev
    have h1 : SqL X.K H a (ns.map V.int) := hK ▸ h1.l
    refine ⟨fun _ => ?_, fun q => (Bool.noConfusion q)⟩
    refine ⟨⟨_, h1⟩, fun i h => ⟨_, h1, by simpa using h⟩, fun i d h => ?_⟩
    rw [List.getElem?_map] at h
    cases q : ns[i]? with
    | none => rw [q] at h; cases h
    | some k =>
      rw [q] at h
      cases h
      have q1 : (ns.map V.int)[i]? = some (V.int k) := by rw [List.getElem?_map, q] <;> rfl
      refine ⟨⟨_, _, h1, q1⟩, fun x H' y => wk_of ⟨y.1, ?_⟩⟩
      have q3 := y.2 _ h1
      rw [q1] at q3
      cases q3
      rw [Rep]
def sForS (g : Tg) (m : M D) (body : MS) : MS := thenS m fun d => match items d with
  | some ds => forL g body ds
  | none => fun _ _ => .bad
theorem rep_ref {z : Z} {H : Hp} {d : D} {ds : List D} {v : V} (e : items d = some ds) (r : Rep G z H d v) : ∃ a, v = .ref a := by
  cases d <;> first | (cases e; done) | skip
  all_goals
    rw [Rep] at r
    obtain ⟨a, h⟩ := r
    first | exact ⟨a, h.1⟩ | (obtain ⟨_, h⟩ := h; exact ⟨a, h.1⟩)
theorem ks_forS {tg iter : Expr} {body : List Stmt} {g : Tg} {m : M D} {mb : MS} (hp : PassesOwn (model X.prog X.w) X.A X.env X.xe) (hc : X.calm = true) (ha : PE X iter (rdE G W m)) (hg : PGk X G tg g) (hb : PSs X body (rdS G W mb))
    (hf : ∀ x, foldedSetIterable iter X.env x = pure x := by intro _; rfl) (hK : X.K = G.K := by rfl) : PS X (.For tg iter body [] pos) (rdS G W (sForS g m mb)) := by
  obtain ⟨t, hpg, ht⟩ := hg.ex
  refine ps_imp (ps_for hp hc (pi_sq ha) hpg hb hf) fun E σ H ⟨z, env, S, s, r, h⟩ => ?_
  refine rdE_thenS s r h fun z1 H1 S1 d v L s1 r1 rv h1 => ?_
  cases e : items d with
  | none =>
    simp only [e] at h1
    exact h1.elim
  | some ds =>
    simp only [e] at h1
    obtain ⟨a, rfl⟩ := rep_ref e rv
    refine ⟨a, rfl, ?_⟩
    cases hb : isT d with
    | false =>
      refine .inl ⟨((wk_sq (X := X) hK e rv).1 hb).1, for_any (fun z' H' S' L' s' => ?_) ht s1 r1 h1⟩
      exact ((wk_sq (X := X) hK e (rv.later L' s1.mup)).1 hb).2
    | true =>
      refine .inr ⟨((wk_sq (X := X) hK e rv).2 hb).1, for_any (fun z' H' S' L' s' => ?_) ht s1 r1 h1⟩
      exact ((wk_sq (X := X) hK e (rv.later L' s1.mup)).2 hb).2
end
end Ki

set_option Elab.async false
set_option linter.all false
set_option maxRecDepth 100000
namespace Ki
open PySem L2 PySem.Spec PyProof.Rows

/-! ### while -/
def whL (c : M Bool) (body : MS) : Nat → MS
  | 0 => fun _ _ => .bad
  | n + 1 => fun env S => match c env S with
    | .ok true S' => match body env S' with
      | .nx e S2 => whL c body n e S2
      | .ct e S2 => whL c body n e S2
      | .bk e S2 => .nx e S2
      | .rt x S2 => .rt x S2
      | .exc x e S2 => .exc x e S2
      | .bad => .bad
    | .ok false S' => .nx env S'
    | .exc x S' => .exc x env S'
    | .bad => .bad
section
variable {X : Cx} {G : Gm} {W : WX} {pos : Pos}
theorem ks_while (n : Nat) {c : Expr} {body : List Stmt} {mc : M Bool} {mb : MS} (hp : PassesOwn (model X.prog X.w) X.A X.env X.xe) (hc : PT X c (rdT G W mc)) (hb : PSs X body (rdS G W mb)) : PS X (.While c body [] pos) (rdS G W (whL mc mb n)) := by
  refine ps_imp (ps_while hp hc hb) fun E σ H ⟨z, env, S, s, r, h⟩ => ?_
  refine ⟨fun m σ H => ∃ z env S, Stands G z H S ∧ RepE G z H env σ ∧ OutS G W z H E (whL mc mb m env S), ⟨n, z, env, S, s, r, h⟩, ?_⟩
  rintro m σ H ⟨z, env, S, s, r, h⟩
  cases m with
  | zero => exact h.elim
  | succ m =>
    rw [whL] at h
    refine ⟨z, env, S, s, r, ?_⟩
    cases q : mc env S with
    | ok b S' =>
      simp only [q] at h
      intro z1 H1 L1 s1
      cases b with
      | true =>
        refine ⟨fun σ' H' => ∃ z env S, Stands G z H' S ∧ RepE G z H' env σ' ∧ OutS G W z H' E (whL mc mb m env S), fun σ' H' p => ⟨m, Nat.lt_succ_self m, p⟩, ?_⟩
        refine ⟨z1, env, S', s1, r.later L1 s.mup, ?_⟩
        cases q2 : mb env S' with
        | nx e S2 =>
          simp only [q2] at h
          exact fun z' H' σ' L' s' r' => ⟨z', e, S2, s', r', OutS.mono (L1.trans L') h⟩
        | ct e S2 =>
          simp only [q2] at h
          exact fun z' H' σ' L' s' r' => ⟨z', e, S2, s', r', OutS.mono (L1.trans L') h⟩
        | bk e S2 => simp only [q2] at h; exact fun z' H' σ' L' s' r' => h z' H' σ' (L1.trans L') s' r'
        | rt x S2 => simp only [q2] at h; exact fun z' H' σ' L' s' r' => h z' H' σ' (L1.trans L') s' r'
        | exc x e S2 => simp only [q2] at h; exact fun z' H' σ' cls dx L' s' r' rx => h z' H' σ' cls dx (L1.trans L') s' r' rx
        | bad => simp only [q2] at h; exact h
      | false => exact h z1 H1 σ L1 s1 (r.later L1 s.mup)
    | exc x S' =>
      simp only [q] at h
      exact fun z' H' cls dx L' s' rx => h z' H' σ cls dx L' s' (r.later L' s.mup) rx
    | bad => simp only [q] at h; exact h

/-! ### more stores to names -/
def sPar2 (i j : Nat) (m : M (List D)) : MS := thenS m fun ds => match ds with
  | [a, b] => fun env S => .nx ((env.set i (some a)).set j (some b)) S
  | _ => fun _ _ => .bad
theorem ks_par2 (i j : Nat) {x y : Str} {a b : Expr} {m : M (List D)} {px py pt : Pos} {kt k2 pt2} (hc : X.calm = true) (hN : X.N.Nodup) (ha : PA X [a, b] (rdA G W m)) (hi : X.N[i]? = some x := by rfl) (hj : X.N[j]? = some y := by rfl) (hij : i ≠ j := by decide)
    (hx : X.env.scope.names.lookup x = some .local := by rfl) (hy : X.env.scope.names.lookup y = some .local := by rfl)
    (hw : swappedStores [.Tuple [.Name x px, .Name y py] kt pt] (.Tuple [a, b] k2 pt2) X.env = pure (some [x, y]) := by rfl)
    (hs : swapsWithSole [.Tuple [.Name x px, .Name y py] kt pt] (.Tuple [a, b] k2 pt2) pos.line X.env = pure false := by rfl) :
    PS X (.Assign [.Tuple [.Name x px, .Name y py] kt pt] (.Tuple [a, b] k2 pt2) pos) (rdS G W (sPar2 i j m)) := by
  refine ps_imp (ps_par hc hN hi hj hij hx hy ha hw hs) fun E σ H ⟨z, env, S, s, r, h⟩ => ?_
  refine rdA_thenS s r h fun z1 H1 S1 ds vs L s1 r1 rl h1 => ?_
  split at h1
  · obtain ⟨v, w, rfl, r2, r3⟩ := repL2 rl
    exact ⟨v, w, rfl, h1 z1 H1 _ .refl s1 ((r1.set r2).set r3)⟩
  · exact h1.elim
def sAsg (g : Tg) (m : M D) : MS := thenS m fun d env S => match g d env with
  | some env' => .nx env' S
  | none => .bad
/-- target = value -/
theorem ks_asg {tg e : Expr} {g : Tg} {m : M D} (he : PE X e (rdE G W m)) (hg : PGk X G tg g) (hs : swapsWithSole [tg] e pos.line X.env = pure false := by rfl) (hw : swappedStores [tg] e X.env = pure none := by rfl)
    (h1 : (assignEach [tg] X.env).map (·.2) = [assign tg X.env] := by rfl) : PS X (.Assign [tg] e pos) (rdS G W (sAsg g m)) := by
  obtain ⟨t, hpg, ht⟩ := hg.ex
  refine ps_imp (ps_asg he hpg hs hw h1) fun E σ H ⟨z, env, S, s, r, h⟩ => ?_
  refine rdE_thenS s r h fun z1 H1 S1 d v L s1 r1 rv h2 => ?_
  cases q : g d env with
  | none => simp only [q] at h2; exact h2.elim
  | some env' =>
    simp only [q] at h2
    exact ht z1 H1 S1 σ env env' d v _ s1 r1 rv q fun σ' r' => h2 z1 H1 σ' .refl s1 r'
/-- name op= e -/
def sAug (i : Nat) (op : Op2) (m : M D) : MS := fun env S => match env[i]? with
  | some (some x) => thenS m (fun y env S => match op (vw S x) (vw S y) with
    | some d => .nx (env.set i (some d)) S
    | none => .bad) env S
  | _ => .bad
theorem ks_aug (i : Nat) {x : Str} {e : Expr} {m : M D} {o : Operator} {op : Op2} {pos' : Pos} (hN : X.N.Nodup) (ho : OpK X G (inplaceOp o) op) (he : PE X e (rdE G W m)) (hi : X.N[i]? = some x := by rfl) (hx : Loc X.env.scope x := by first | exact Or.inl rfl | exact Or.inr rfl)
    (hf : X.fn x = true ∨ X.env.scope.names.lookup x = some .local := by first | exact .inl rfl | exact .inr rfl) : PS X (.AugAssign (.Name x pos') o e pos) (rdS G W (sAug i op m)) := by
  obtain ⟨r, h1, h2⟩ := ho
  refine ps_imp (ps_aug (ti := r) hN hi hx he (fun pins s σ H x y v u Q I rx ry q => h1 pins s σ H x y v u Q I rx ry q) hf) fun E σ H ⟨z, env, S, s, hr, h⟩ => ?_
  unfold sAug at h
  split at h
  · rename_i d q
    obtain ⟨v, e1, rv⟩ := hr.2 i d q
    refine ⟨v, e1, rdE_thenS s hr h fun z1 H1 S1 d2 w L s1 r1 rw' h3 => ?_⟩
    cases ed : op (vw S1 d) (vw S1 d2) with
    | none => simp only [ed] at h3; exact h3.elim
    | some y =>
      simp only [ed] at h3
      refine h2 z1 H1 S1 v w _ _ y _ s1 (now_vw s1 (rv.later L s.mup)) (now_vw s1 rw') ed fun H' u sm ru => ?_
      exact h3 z1 H' _ (later_same sm) (s1.same sm) ((r1.later (later_same sm) s1.mup).set ru)
  · exact h.elim

/-! ### the store's objects change -/
theorem tabs_put {T : List (Addr × Str)} {H : Hp} {a : Addr} {vs : List V} {o : HO} (h : LamX.Tabs T H) (ha : H a = some (.lst vs)) : LamX.Tabs T (upd H a o) := fun p hp => by
  obtain ⟨ps, e, t, c⟩ := h p hp
  refine ⟨ps, by rw [upd_ne (fun q => by rw [q, ha] at e; cases e)]; exact e, t, fun pos cv hc => ?_⟩
  obtain ⟨c', e1, e2⟩ := c pos cv hc
  exact ⟨c', e1, by rw [upd_ne (fun q => by rw [q, ha] at e2; unfold LamX.CodeO at e2; cases e2)]; exact e2⟩
theorem later_put {z : Z} {H : Hp} {a : Addr} {o : HO} (ha : z.psi a) (ht : ∀ ps, o ≠ .tbl ps := by intro ps q; cases q) : Later z H z (upd H a o) := by
  refine ⟨fun b u e hn _ => by rw [upd_ne (fun q => hn (by rw [q]; exact ha))]; exact e, ⟨[], (List.append_nil _).symm⟩, fun _ h => .inl h, fun _ h => .inl h, fun _ h => h, fun _ h => h, fun b h => ?_, fun _ h => .inl h, fun _ h => h⟩
  by_cases hb : b = a
  · exact ⟨o, by rw [hb, upd_same], ht⟩
  · obtain ⟨u, e, t⟩ := h
    exact ⟨u, by rw [upd_ne hb]; exact e, t⟩
theorem stands_put {z : Z} {H : Hp} {S : Sto} {n : Nat} {a : Addr} {ds : List D} {vs : List V} (s : Stands G z H S) (hn : z.rho[n]? = some a) {us : List V} (hu : H a = some (.lst us)) (r : RepL G z H ds vs) : Stands G z (upd H a (.lst vs)) (S.set n (.lst ds)) := by
  have ha := s.rho a (List.mem_of_getElem? hn)
  have L : Later z H z (upd H a (.lst vs)) := later_put ha
  refine ⟨s.rho, s.psi, fun b h => ?_, fun b h => L.live b (s.hid b h), tabs_put s.tab hu, by rw [List.length_set]; exact s.len, s.nd, fun m b o e1 e2 => ?_⟩
  · by_cases hb : b = a
    · rw [hb, upd_same]; exact True.intro
    · rw [upd_ne hb]; exact s.mu b h
  · by_cases hm : m = n
    · subst hm
      rw [hn] at e1
      cases e1
      have hl := (List.getElem?_eq_some_iff.mp e2).1
      rw [List.length_set] at hl
      rw [List.getElem?_set_self hl] at e2
      cases e2
      rw [upd_same]
      exact ⟨vs, rfl, r.later L s.mup⟩
    · rw [List.getElem?_set_ne (Ne.symm hm)] at e2
      have hb : b ≠ a := fun q => by
        subst q
        obtain ⟨h1, q1⟩ := List.getElem?_eq_some_iff.mp e1
        obtain ⟨h2, q2⟩ := List.getElem?_eq_some_iff.mp hn
        exact hm ((List.getElem_inj s.nd).mp (q1.trans q2.symm))
      rw [upd_ne hb]
      exact RepO.later L s.mup (s.at_ m b o e1 e2)
/-- what a list's method makes of its items and of the arguments: the new items, the answer -/
abbrev OpM := List D → List D → Option (List D × D)
def MutK (X : Cx) (G : Gm) (id : String) (f : OpM) : Prop := ∃ r : V → List V → Hp → VK → Prop, MtR X id r ∧
  ∀ (z : Z) (H : Hp) (S : Sto) (l : Addr) (vs ws : List V) (xs ds ys : List D) (d : D) (Q : VK), Stands G z H S → H l = some (.lst vs) → RepL G z H xs vs → RepL G z H ds ws → f xs ds = some (ys, d) →
    (∀ vs' u, RepL G z H ys vs' → Rep G z H d u → Q u (upd H l (.lst vs'))) → r (.ref l) ws H Q
def mMut (f : OpM) (mo : M D) (mas : M (List D)) : M D := bind mo fun o env S => match o with
  | .ref n => match S[n]? with
    | some (.lst _) => bind mas (fun ds _ S => match S[n]? with
      | some (.lst xs) => match f xs ds with
        | some (ys, d) => .ok d (S.set n (.lst ys))
        | none => .bad
      | _ => .bad) env S
    | _ => .bad
  | _ => .bad
theorem rd_mut {f : OpM} {mo : M D} {mas : M (List D)} {r : V → List V → Hp → VK → Prop} (hK : X.K = G.K)
    (hr : ∀ (z : Z) (H : Hp) (S : Sto) (l : Addr) (vs ws : List V) (xs ds ys : List D) (d : D) (Q : VK), Stands G z H S → H l = some (.lst vs) → RepL G z H xs vs → RepL G z H ds ws → f xs ds = some (ys, d) →
      (∀ vs' u, RepL G z H ys vs' → Rep G z H d u → Q u (upd H l (.lst vs'))) → r (.ref l) ws H Q) :
    ∀ σ H Q, rdE G W (mMut f mo mas) σ H Q → tBM X.K "list" r (rdE G W mo) (rdA G W mas) σ H Q := by
  intro σ H Q ⟨z, env, S, s, he, h⟩
  refine rdE_step s he h fun z1 H1 S1 d v L s1 r1 rv h1 => ?_
  cases d with
  | ref n =>
    rw [Rep] at rv
    obtain ⟨a, rfl, hn⟩ := rv
    cases q : S1[n]? with
    | none => simp only [q] at h1; exact h1.elim
    | some u =>
      cases u with
      | ins c fs => simp only [q] at h1; exact h1.elim
      | lst xs0 =>
        simp only [q] at h1
        obtain ⟨vs0, e0, _⟩ := s1.at_ n a _ hn q
        refine ⟨.inl ⟨rfl, vs0, SqL.of e0⟩, ?_⟩
        refine rdA_step s1 r1 h1 fun z2 H2 S2 ds ws L2' s2 r2 rl h2 => ?_
        have hn2 := L2'.at_ hn
        cases q2 : S2[n]? with
        | none => simp only [q2] at h2; exact h2.elim
        | some u =>
          cases u with
          | ins c fs => simp only [q2] at h2; exact h2.elim
          | lst xs =>
            simp only [q2] at h2
            obtain ⟨vs, e2, rx⟩ := s2.at_ n a _ hn2 q2
            cases q3 : f xs ds with
            | none => simp only [q3] at h2; exact h2.elim
            | some p =>
              obtain ⟨ys, d⟩ := p
              simp only [q3] at h2
              refine hr z2 H2 S2 a vs ws xs ds ys d Q s2 e2 rx rl q3 fun vs' u ry ru => ?_
              have ha := s2.rho a (List.mem_of_getElem? hn2)
              exact h2 z2 _ (later_put ha) (stands_put s2 hn2 e2 ry) u (ru.later (later_put ha) s2.mup)
  | _ => exact h1.elim
theorem ke_mut {f : OpM} {o e : Expr} {es : List Expr} {mo : M D} {mas : M (List D)} {p p' : Pos} {name : Str} {id : String} (slot : Slot "list" name id) (hty : typeOf (.builtin id) = pure (.type "method_descriptor")) (hm : MutK X G id f) (ho : PE X o (rdE G W mo)) (ha : PA X (e :: es) (rdA G W mas))
    (hs : starEach (e :: es) X.env = (false, eval e X.env) :: starEach es X.env := by rfl) (hbase : attributeBase o name X.env (eval o X.env) = eval o X.env := by rfl)
    (hfew : ((backTo p' (starEach (e :: es) X.env)).all (fun x => !x.1) && (backToKw p' (keywordEach [] X.env)).all (fun x => x.1.isSome) && decide ((e :: es).length + ([] : List Keyword).length + (if ([] : List Keyword).isEmpty then 0 else 1) < 30)) = true := by rfl)
    (hline : (p.endLine == p'.line) = true := by rfl) (hpl : (backTo p' (starEach es X.env)).any (·.1) = false := by rfl) (hK : X.K = G.K := by rfl) : PE X (.Call (.Attribute o name p) (e :: es) [] p') (rdE G W (mMut f mo mas)) := by
  obtain ⟨r, h1, h2⟩ := hm
  exact pe_imp (pe_bm PySem.F.plainAttrs_list slot hty h1 ho ha hbase hfew hline hs hpl) (rd_mut hK h2)
def oApp : OpM
  | xs, [y] => if xs.length < 100000 then some (xs ++ [y], .non) else none
  | _, _ => none
theorem km_app : MutK X G "list.append" oApp := by
  refine ⟨_, mt_append, fun z H S l vs ws xs ds ys d Q s hl rx rd e q => ?_⟩
  unfold oApp at e
  split at e
  · rename_i xs y
    split at e
    · rename_i hc
      cases e
      obtain ⟨w, rfl, ry⟩ := repL1 rd
      refine ⟨l, vs, w, rfl, rfl, hl, by rw [rx.len]; exact Nat.lt_of_lt_of_le hc (line5 (Nat.le_refl _)), q _ _ (rx.app (by rw [RepL]; exact ⟨w, [], rfl, ry, by rw [RepL]⟩)) (by rw [Rep])⟩
    · cases e
  · cases e
/-- xs.append(e) -/
theorem ke_app {o e : Expr} {mo : M D} {mas : M (List D)} {p p' : Pos} (ho : PE X o (rdE G W mo)) (ha : PA X [e] (rdA G W mas))
    (hs : starEach [e] X.env = (false, eval e X.env) :: starEach [] X.env := by rfl) (hbase : attributeBase o "append" X.env (eval o X.env) = eval o X.env := by rfl)
    (hfew : ((backTo p' (starEach [e] X.env)).all (fun x => !x.1) && (backToKw p' (keywordEach [] X.env)).all (fun x => x.1.isSome) && decide ([e].length + ([] : List Keyword).length + (if ([] : List Keyword).isEmpty then 0 else 1) < 30)) = true := by rfl)
    (hline : (p.endLine == p'.line) = true := by rfl) (hK : X.K = G.K := by rfl) : PE X (.Call (.Attribute o "append" p) [e] [] p') (rdE G W (mMut oApp mo mas)) :=
  ke_mut PySem.F.slot_list_append PySem.F.type_list_append km_app ho ha hs hbase hfew hline rfl hK

/-! ### xs[i] = v -/
def sPut (mo mi mv : M D) : MS := thenS mv fun v => thenS mo fun o => thenS mi fun i env S => match o, i with
  | .ref n, .int k => match S[n]? with
    | some (.lst xs) => match ixN xs.length k with
      | some j => .nx env (S.set n (.lst (xs.set j v)))
      | none => .bad
    | _ => .bad
  | _, _ => .bad
theorem repL_set {z : Z} {H : Hp} {d : D} {v : V} (r : Rep G z H d v) : ∀ {ds : List D} {vs : List V} (j : Nat), RepL G z H ds vs → RepL G z H (ds.set j d) (vs.set j v)
  | [], vs, j, h => by rw [RepL] at h; subst h; simp [RepL]
  | x :: ds, vs, 0, h => by
    rw [RepL] at h
    obtain ⟨w, ws, rfl, h1, h2⟩ := h
    show RepL G z H (d :: ds) (v :: ws)
    rw [RepL]
    exact ⟨v, ws, rfl, r, h2⟩
  | x :: ds, vs, j + 1, h => by
    rw [RepL] at h
    obtain ⟨w, ws, rfl, h1, h2⟩ := h
    show RepL G z H (x :: ds.set j d) (w :: ws.set j v)
    rw [RepL]
    exact ⟨w, _, rfl, h1, repL_set r j h2⟩
theorem ks_put {o i e : Expr} {mo mi me : M D} {p : Pos} (he : PE X e (rdE G W me)) (ho : PE X o (rdE G W mo)) (hi : PE X i (rdE G W mi))
    (ha : ∀ v, assign (.Subscript o i p) X.env v = (do
      let ov ← holding [v] (eval o X.env)
      let iv ← holding [v, ov] (eval i X.env)
      standAt p
      holding [v, ov, iv] (setItem ov iv v)
      release [v, ov, iv] []) := by intro _; rfl)
    (hs : swapsWithSole [.Subscript o i p] e pos.line X.env = pure false := by rfl) (hw : swappedStores [.Subscript o i p] e X.env = pure none := by rfl)
    (h1 : (assignEach [.Subscript o i p] X.env).map (·.2) = [assign (.Subscript o i p) X.env] := by rfl) : PS X (.Assign [.Subscript o i p] e pos) (rdS G W (sPut mo mi me)) := by
  refine ps_imp (ps_asg he (pg_sub ho hi set_list ha) hs hw h1) fun E σ H ⟨z, env, S, s, r, h⟩ => ?_
  refine rdE_thenS s r h fun z1 H1 S1 d v L1 s1 r1 rv h1 => ?_
  refine rdE_thenS s1 r1 h1 fun z2 H2 S2 d2 v2 L2' s2 r2 rv2 h2 => ?_
  refine rdE_thenS s2 r2 h2 fun z3 H3 S3 d3 v3 L3 s3 r3 rv3 h3 => ?_
  cases d2 with
  | ref n =>
    cases d3 with
    | int k =>
      simp only at h3
      rw [Rep] at rv3
      have rv2' := rv2.later L3 s2.mup
      rw [Rep] at rv2'
      obtain ⟨a, rfl, hn⟩ := rv2'
      cases q : S3[n]? with
      | none => simp only [q] at h3; exact h3.elim
      | some u =>
        cases u with
        | ins c fs => simp only [q] at h3; exact h3.elim
        | lst xs =>
          simp only [q] at h3
          obtain ⟨vs, e2, rx⟩ := s3.at_ n a _ hn q
          cases q3 : ixN xs.length k with
          | none => simp only [q3] at h3; exact h3.elim
          | some j =>
            simp only [q3] at h3
            have ha := s3.rho a (List.mem_of_getElem? hn)
            refine ⟨a, vs, k, j, rfl, rv3, e2, by rw [rx.len]; exact q3, ?_⟩
            exact h3 z3 _ σ (later_put ha) (stands_put s3 hn e2 (repL_set ((rv.later L2' s1.mup).later L3 s2.mup) j rx)) (r3.later (later_put ha) s3.mup)
    | _ => exact h3.elim
  | _ => exact h3.elim
end
end Ki

set_option Elab.async false
set_option linter.all false
set_option maxRecDepth 100000
namespace Ki
open PySem L2 PySem.Spec PyProof.Rows

/-! ### what a comprehension goes over -/
structure PIk (X : Cx) (G : Gm) (W : WX) (tg iter : Expr) (mi : M (List D)) : Prop where
  ex : ∃ wi : TI, PI X tg iter wi ∧ ∀ (z : Z) (H : Hp) (S : Sto) (σ : L2.St) (env : Ev) (R : It → Hp → Prop), Stands G z H S → RepE G z H env σ →
    Out G W σ z H (fun z' H' _ ds => ∀ J, (∀ z2 H2 S2, (∀ d v, Rep G z' H' d v → Rep G z2 H2 d v) → Stands G z2 H2 S2 → Wk G J ds z2 H2) → R J H') (mi env S) → wi σ H R
def mRg1 (m : M (List D)) : M (List D) := bind m fun ds => match ds with
  | [.int j] => if decide (-(2 ^ 62) ≤ j) && decide (j < 2 ^ 62) then ret (rgD 0 j.toNat) else fun _ _ => .bad
  | _ => fun _ _ => .bad
def mRg2 (m : M (List D)) : M (List D) := bind m fun ds => match ds with
  | [.int i, .int j] => if decide (-(2 ^ 62) ≤ i) && decide (i < 2 ^ 62) && (decide (-(2 ^ 62) ≤ j) && decide (j < 2 ^ 62)) then ret (rgD i (j - i).toNat) else fun _ _ => .bad
  | _ => fun _ _ => .bad
def mSq (m : M D) : M (List D) := bind m fun d => lift (items d)
section
variable {X : Cx} {G : Gm} {W : WX} {pos : Pos} {tg : Expr}
theorem rdA_bind {β : Type} {m : M (List D)} {k : List D → M β} {R : List V → Hp → Prop} {z : Z} {H : Hp} {env : Ev} {S : Sto} {Q : QO β} {σ : L2.St} (s : Stands G z H S) (e : RepE G z H env σ) (h : Out G W σ z H Q (bind m k env S))
    (i : ∀ z' H' S' ds vs, Later z H z' H' → Stands G z' H' S' → RepE G z' H' env σ → RepL G z' H' ds vs → Out G W σ z' H' Q (k ds env S') → R vs H') : rdA G W m σ H R :=
  ⟨z, env, S, s, e, (rd_bind h).imp fun z' H' S' ds L s' q vs r => i z' H' S' ds vs L s' (e.later L s.mup) r q⟩
theorem rdE_bind {β : Type} {m : M D} {k : D → M β} {R : VK} {z : Z} {H : Hp} {env : Ev} {S : Sto} {Q : QO β} {σ : L2.St} (s : Stands G z H S) (e : RepE G z H env σ) (h : Out G W σ z H Q (bind m k env S))
    (i : ∀ z' H' S' d v, Later z H z' H' → Stands G z' H' S' → RepE G z' H' env σ → Rep G z' H' d v → Out G W σ z' H' Q (k d env S') → R v H') : rdE G W m σ H R :=
  ⟨z, env, S, s, e, (rd_bind h).imp fun z' H' S' d L s' q v r => i z' H' S' d v L s' (e.later L s.mup) r q⟩
theorem ik_r1 {a : Expr} {m : M (List D)} {p p' : Pos} (hm : X.mg "range" = none) (ha : PA X [a] (rdA G W m)) (hgl : Gl X "range" := by rfl) (hs : starEach [a] X.env = [(false, eval a X.env)] := by rfl) :
    PIk X G W tg (.Call (.Name "range" p) [a] [] p') (mRg1 m) := by
  refine ⟨⟨_, pi_range1 hgl hm ha hs, fun z H S σ env R s r h => ?_⟩⟩
  refine rdA_bind s r h fun z1 H1 S1 ds vs L s1 r1 rl h1 => ?_
  split at h1
  · rename_i j
    split at h1
    · rename_i hj
      have hj' := Bool.and_eq_true_iff.mp hj
      obtain ⟨v, rfl, rv⟩ := repL1 rl
      rw [Rep] at rv
      exact ⟨j, by rw [rv], of_decide_eq_true hj'.1, of_decide_eq_true hj'.2, rd_ret s1 h1 _ fun _ _ _ _ _ => wk_rg⟩
    · exact h1.elim
  · exact h1.elim
theorem ik_r2 {a b : Expr} {m : M (List D)} {p p' : Pos} (hm : X.mg "range" = none) (ha : PA X [a, b] (rdA G W m)) (hgl : Gl X "range" := by rfl) (hs : starEach [a, b] X.env = [(false, eval a X.env), (false, eval b X.env)] := by rfl) (hs2 : starEach [b] X.env = [(false, eval b X.env)] := by rfl) :
    PIk X G W tg (.Call (.Name "range" p) [a, b] [] p') (mRg2 m) := by
  refine ⟨⟨_, pi_range2 hgl hm ha hs hs2, fun z H S σ env R s r h => ?_⟩⟩
  refine rdA_bind s r h fun z1 H1 S1 ds vs L s1 r1 rl h1 => ?_
  split at h1
  · rename_i i j
    split at h1
    · rename_i hj
      have hj' := Bool.and_eq_true_iff.mp hj
      have ha' := Bool.and_eq_true_iff.mp hj'.1
      have hb' := Bool.and_eq_true_iff.mp hj'.2
      obtain ⟨v, w, rfl, rv, rw'⟩ := repL2 rl
      rw [Rep] at rv rw'
      exact ⟨i, j, by rw [rv, rw'], ⟨of_decide_eq_true ha'.1, of_decide_eq_true ha'.2, of_decide_eq_true hb'.1, of_decide_eq_true hb'.2⟩, rd_ret s1 h1 _ fun _ _ _ _ _ => wk_rg⟩
    · exact h1.elim
  · exact h1.elim
theorem ik_sq {iter : Expr} {m : M D} (ha : PE X iter (rdE G W m)) (hK : X.K = G.K := by rfl) : PIk X G W tg iter (mSq m) := by
  refine ⟨⟨_, pi_sq ha, fun z H S σ env R s r h => ?_⟩⟩
  refine rdE_bind s r h fun z1 H1 S1 d v L s1 r1 rv h1 => ?_
  obtain ⟨ds, e, q⟩ := rd_lift s1 h1
  obtain ⟨a, rfl⟩ := rep_ref e rv
  refine ⟨a, rfl, ?_⟩
  cases hb : isT d with
  | false => exact .inl ⟨((wk_sq (X := X) hK e rv).1 hb).1, q _ fun z' H' S' L' s' => ((wk_sq (X := X) hK e (L' _ _ rv)).1 hb).2⟩
  | true => exact .inr ⟨((wk_sq (X := X) hK e rv).2 hb).1, q _ fun z' H' S' L' s' => ((wk_sq (X := X) hK e (L' _ _ rv)).2 hb).2⟩
end

/-! ### comprehensions -/
def wipeD (env : Ev) : List Nat → Ev
  | [] => env
  | v :: vs => (wipeD env vs).set v none
theorem repE_none {G : Gm} {z : Z} {H : Hp} {env : Ev} {σ : L2.St} (h : RepE G z H env σ) (i : Nat) : RepE G z H (env.set i none) (σ.set i none) := by
  refine ⟨by simpa using h.1, fun j e hj => ?_⟩
  by_cases q : j = i
  · subst q
    have hl : j < (env.set j none).length := (List.getElem?_eq_some_iff.mp hj).1
    rw [List.length_set] at hl
    rw [List.getElem?_set_self hl] at hj
    cases hj
  · rw [List.getElem?_set_ne (Ne.symm q)] at hj
    obtain ⟨u, q1, q2⟩ := h.2 j e hj
    exact ⟨u, by rw [List.getElem?_set_ne (Ne.symm q)]; exact q1, q2⟩
theorem repE_wipe {G : Gm} {z : Z} {H : Hp} {env : Ev} {σ : L2.St} (h : RepE G z H env σ) : ∀ vs : List Nat, RepE G z H (wipeD env vs) (wipe σ vs)
  | [] => h
  | v :: vs => by
    rw [wipeD, wipe]
    exact repE_none (repE_wipe h vs) v
theorem wipe_set (σ : L2.St) (i : Nat) (o : Option V) : ∀ vs : List Nat, i ∈ vs → wipe (σ.set i o) vs = wipe σ vs
  | [], h => by simp at h
  | v :: vs, h => by
    rw [wipe, wipe]
    by_cases hv : i ∈ vs
    · rw [wipe_set σ i o vs hv]
    · have e : v = i := by
        rcases List.mem_cons.mp h with q | q
        · exact q.symm
        · exact absurd q hv
      subst e
      apply List.ext_getElem?
      intro j
      by_cases hj : j = v
      · subst hj
        by_cases hl : j < σ.length
        · rw [List.getElem?_set_self (by rw [wipe_length, List.length_set]; exact hl), List.getElem?_set_self (by rw [wipe_length]; exact hl)]
        · rw [List.getElem?_eq_none (by rw [List.length_set, wipe_length, List.length_set]; omega), List.getElem?_eq_none (by rw [List.length_set, wipe_length]; omega)]
      · rw [List.getElem?_set_ne (Ne.symm hj), List.getElem?_set_ne (Ne.symm hj)]
        by_cases hm : j ∈ vs
        · cases q1 : (wipe (σ.set v o) vs)[j]? with
          | none =>
            have := List.getElem?_eq_none_iff.mp q1
            rw [wipe_length, List.length_set] at this
            rw [List.getElem?_eq_none (by rw [wipe_length]; exact this)]
          | some u =>
            cases u with
            | none =>
              have hl := (List.getElem?_eq_some_iff.mp q1).1
              rw [wipe_length, List.length_set] at hl
              cases q2 : (wipe σ vs)[j]? with
              | none =>
                have := List.getElem?_eq_none_iff.mp q2
                rw [wipe_length] at this
                omega
              | some u2 =>
                cases u2 with
                | none => rfl
                | some x => exact absurd hm (wipe_some q2).2
            | some x => exact absurd hm (wipe_some q1).2
        · rw [wipe_out hm, wipe_out hm, List.getElem?_set_ne (Ne.symm hj)]
/-- a target of a comprehension: its names alone change -/
structure PGo (X : Cx) (G : Gm) (vs : List Nat) (tg : Expr) (g : Tg) : Prop where
  ex : ∃ t : TG, PG X tg t ∧ ∀ (z : Z) (H : Hp) (S : Sto) (σ : L2.St) (env env' : Ev) (d : D) (v : V) (Q : L2.St → Hp → Prop), Stands G z H S → RepE G z H env σ → Rep G z H d v → g d env = some env' → (∀ σ', RepE G z H env' σ' → wipe σ' vs = wipe σ vs → Q σ' H) → t v σ H Q
structure PGos (X : Cx) (G : Gm) (vs : List Nat) (ts : List Expr) (is : List Nat) : Prop where
  ex : ∃ t : TGs, PGs X ts t ∧ ∀ (z : Z) (H : Hp) (S : Sto) (σ : L2.St) (env env' : Ev) (ds : List D) (us : List V) (Q : L2.St → Hp → Prop), Stands G z H S → RepE G z H env σ → RepL G z H ds us → gNms is ds env = some env' → (∀ σ', RepE G z H env' σ' → wipe σ' vs = wipe σ vs → Q σ' H) → t us σ H Q
section
variable {X : Cx} {G : Gm} {W : WX} {pos : Pos} {vs : List Nat}
theorem kg_own (i : Nat) {x : Str} (hN : X.N.Nodup) (hi : X.N[i]? = some x := by rfl) (hx : Loc X.env.scope x := by first | exact Or.inl rfl | exact Or.inr rfl) (hf : X.fn x = true ∨ X.env.scope.names.lookup x = some .local := by first | exact .inl rfl | exact .inr rfl) (hv : i ∈ vs := by decide) : PGo X G vs (.Name x pos) (gNm i) :=
  ⟨⟨_, pg_name (i := i) hN hi hx hf, fun z H S σ env env' d v Q s e r h q => by
    cases h
    exact q _ (e.set r) (wipe_set σ i _ vs hv)⟩⟩
theorem kgo_nil : PGos X G vs [] [] := ⟨⟨_, pgs_nil, fun z H S σ env env' ds us Q s e r h q => by
  cases ds with
  | nil =>
    rw [RepL] at r
    rw [gNms] at h
    cases h
    exact ⟨r, q σ e rfl⟩
  | cons d ds => rw [gNms] at h <;> first | cases h | (intros; simp)⟩⟩
theorem kgo_cons {tg : Expr} {ts : List Expr} {i : Nat} {is : List Nat} (h1 : PGo X G vs tg (gNm i)) (h2 : PGos X G vs ts is) (hs : (assignEach (tg :: ts) X.env).map (·.2) = assign tg X.env :: (assignEach ts X.env).map (·.2) := by rfl) : PGos X G vs (tg :: ts) (i :: is) := by
  obtain ⟨t1, p1, q1⟩ := h1.ex
  obtain ⟨t2, p2, q2⟩ := h2.ex
  refine ⟨⟨_, pgs_cons p1 p2 hs, fun z H S σ env env' ds us Q s e r h q => ?_⟩⟩
  cases ds with
  | nil => rw [gNms] at h <;> first | cases h | (intros; simp)
  | cons d ds =>
    rw [RepL] at r
    obtain ⟨w, ws, ev, r1, r2⟩ := r
    rw [gNms] at h
    exact ⟨w, ws, ev, q1 z H S σ env _ d w _ s e r1 rfl fun σ' e' w' => q2 z H S σ' _ _ ds ws Q s e' r2 h fun σ2 e2 w2 => q σ2 e2 (w2.trans w')⟩
theorem kgo_tup {es : List Expr} {k : Nat} {is : List Nat} (hc : X.calm = true) (h : PGos X G vs es is) (hn : (assignEach es X.env).length = is.length := by rfl) (hst : (assignEach es X.env).findIdx? (·.1) = none := by rfl) (hK : X.K = G.K := by rfl) : PGo X G vs (.Tuple es k pos) (gTp is) := by
  obtain ⟨t, p, q⟩ := h.ex
  refine ⟨⟨_, pg_tup (n := is.length) hc p hn hst, fun z H S σ env env' d v Q s e r h q' => ?_⟩⟩
  cases d <;> first | (cases h; done) | skip
  rename_i ds
  rw [Rep] at r
  obtain ⟨a, vs, rfl, h1, h2⟩ := r
  have hl := gNms_len (show gNms is ds env = some env' from h)
  exact ⟨a, vs, rfl, hK ▸ h1, by rw [h2.len, hl], q z H S σ env env' ds vs Q s e h2 h q'⟩

/-- the turns of a comprehension -/
def lcL (g : Tg) (mt : M Bool) (me : M D) (env : Ev) : List D → Sto → Res (List D)
  | [], S => .ok [] S
  | d :: ds, S => match g d env with
    | none => .bad
    | some env' => match mt env' S with
      | .ok true S1 => match me env' S1 with
        | .ok y S2 => match lcL g mt me env ds S2 with
          | .ok ys S3 => .ok (y :: ys) S3
          | .exc x S3 => .exc x S3
          | .bad => .bad
        | _ => .bad
      | .ok false S1 => lcL g mt me env ds S1
      | _ => .bad
def mLc (vs : List Nat) (g : Tg) (mi : M (List D)) (mt : M Bool) (me : M D) : M D := fun env S => match mi env S with
  | .ok ds S1 => if ds.length ≤ 100000 then match lcL g mt me (wipeD env vs) ds S1 with
    | .ok ys S2 => .ok (.lst true ys) S2
    | _ => .bad else .bad
  | .exc x S1 => .exc x S1
  | .bad => .bad
/-- no test -/
def mYes : M Bool := ret true
def rdYes (G : Gm) (W : WX) : TT := rdT G W mYes
theorem kts_nil : PTs X [] (rdT G W mYes) := ⟨fun pins s σ H Q I ⟨z, env, S, st, e, h⟩ => pts_nil.run pins s σ H Q I (rd_ret st h)⟩
theorem kts_one {c : Expr} {m : M Bool} (h : PT X c (rdT G W m)) : PTs X [c] (rdT G W m) := pts_one h

/-- the list that grows is hidden -/
def Z.hide (z : Z) (p : Addr) : Z := { z with hid := fun a => z.hid a ∨ a = p }
def Z.show (z : Z) (p : Addr) : Z := { z with hid := fun a => z.hid a ∧ a ≠ p }
theorem later_hide {z : Z} {H : Hp} {p : Addr} {o : HO} (hp : H p = none) : Later z H (z.hide p) (upd H p o) := by
  refine ⟨fun a u e _ _ => same_new hp a u e, ⟨[], (List.append_nil _).symm⟩, fun _ h => .inl h, fun _ h => .inl h, fun _ h => h, fun _ h => h, fun a ⟨u, e, t⟩ => ⟨u, same_new hp a u e, t⟩, fun a h => ?_, fun _ h => .inl h⟩
  · rcases h with h | h
    · exact .inl h
    · exact .inr (by rw [h]; exact nlv hp)
/-- the hidden list is written -/
structure HidAt (G : Gm) (z : Z) (H : Hp) (p : Addr) (vs : List V) : Prop where
  hid : z.hid p
  psi : ¬ z.psi p
  phi : ¬ z.phi p
  at_ : H p = some (.lst vs)
theorem HidAt.later {z z' : Z} {H H' : Hp} {p : Addr} {us : List V} (h : HidAt G z H p us) (L : Later z H z' H') : HidAt G z' H' p us :=
  ⟨L.hsub p h.hid, L.npsi h.at_ h.psi, L.nphi h.at_ h.phi, L.keep _ _ h.at_ h.psi (by intro ps q; cases q)⟩
section
variable {z : Z} {H : Hp} {S : Sto} {p : Addr} {us ws : List V}
theorem hid_sqT (h : HidAt G z H p us) {K : PySem.W.Frag} {a : Addr} {xs : List V} (q : SqT K H a xs) : SqT K (upd H p (.lst ws)) a xs := by
  have ne : ∀ o, H a = some o → (∀ ys, o ≠ .lst ys) → a ≠ p := fun o e n x => by
    subst x
    rw [h.at_] at e
    cases e
    exact n _ rfl
  rcases q with (q | ⟨o, q⟩) | q
  · exact .inl (.inl (by rw [upd_ne (ne _ q (by intro ys; simp))]; exact q))
  · exact .inl (.inr ⟨o, by rw [upd_ne (ne _ q (by intro ys; simp))]; exact q⟩)
  · exact .inr q
theorem hid_sqF (h : HidAt G z H p us) {K : PySem.W.Frag} {a : Addr} {xs : List V} (q : SqF K H a xs) : SqF K (upd H p (.lst ws)) a xs := by
  rcases q with ⟨o, q⟩ | q
  · exact .inl ⟨o, by rw [upd_ne (fun x => by subst x; rw [h.at_] at q; cases q)]; exact q⟩
  · exact .inr q
mutual
theorem Rep.hid (h : HidAt G z H p us) : ∀ (d : D) (v : V), Rep G z H d v → Rep G z (upd H p (.lst ws)) d v
  | .non, _, q => q
  | .bl _, _, q => q
  | .int _, _, q => q
  | .str _, _, q => q
  | .ty _, _, q => q
  | .tup ds, v, q => by
    rw [Rep] at q ⊢
    obtain ⟨a, vs, e, hs, hl⟩ := q
    exact ⟨a, vs, e, hid_sqT h hs, RepL.hid h ds vs hl⟩
  | .lst own ds, v, q => by
    rw [Rep] at q ⊢
    obtain ⟨a, vs, e, hs, hn, ho, hl⟩ := q
    exact ⟨a, vs, e, by rw [upd_ne (fun x => hn (.inr (by rw [x]; exact h.hid)))]; exact hs, hn, ho, RepL.hid h ds vs hl⟩
  | .scr ns, v, q => by
    rw [Rep] at q ⊢
    obtain ⟨a, e, hs⟩ := q
    exact ⟨a, e, hid_sqF h hs⟩
  | .dic kvs, v, q => by
    rw [Rep] at q ⊢
    obtain ⟨a, ws', e, hs, hn, ho, hl⟩ := q
    exact ⟨a, ws', e, by rw [upd_ne (fun x => by subst x; rw [h.at_] at hs; cases hs)]; exact hs, hn, ho, RepK.hid h kvs ws' hl⟩
  | .obj c fs, v, q => by
    rw [Rep] at q ⊢
    obtain ⟨a, dx, ws', e, hs, hn, ho, hl⟩ := q
    exact ⟨a, dx, ws', e, by rw [upd_ne (fun x => by subst x; rw [h.at_] at hs; cases hs)]; exact hs, hn, ho, RepF.hid h fs ws' hl⟩
  | .ref n, v, q => by
    rw [Rep] at q ⊢
    exact q
  | .cls n, v, q => by
    rw [Rep] at q ⊢
    exact q
theorem RepL.hid (h : HidAt G z H p us) : ∀ (ds : List D) (vs : List V), RepL G z H ds vs → RepL G z (upd H p (.lst ws)) ds vs
  | [], _, q => q
  | d :: ds, vs, q => by
    rw [RepL] at q ⊢
    obtain ⟨w, ws', e, h1, h2⟩ := q
    exact ⟨w, ws', e, Rep.hid h d w h1, RepL.hid h ds ws' h2⟩
theorem RepK.hid (h : HidAt G z H p us) : ∀ (ds : List (Key × D)) (vs : List (Key × V)), RepK G z H ds vs → RepK G z (upd H p (.lst ws)) ds vs
  | [], _, q => q
  | (k, d) :: ds, vs, q => by
    rw [RepK] at q ⊢
    obtain ⟨w, ws', e, h1, h2⟩ := q
    exact ⟨w, ws', e, Rep.hid h d w h1, RepK.hid h ds ws' h2⟩
theorem RepF.hid (h : HidAt G z H p us) : ∀ (ds : List (Str × D)) (vs : List (Str × V)), RepF G z H ds vs → RepF G z (upd H p (.lst ws)) ds vs
  | [], _, q => q
  | (k, d) :: ds, vs, q => by
    rw [RepF] at q ⊢
    obtain ⟨w, ws', e, h1, h2⟩ := q
    exact ⟨w, ws', e, Rep.hid h d w h1, RepF.hid h ds ws' h2⟩
end
theorem RepO.hid (h : HidAt G z H p us) {o : O} {u : Option HO} (q : RepO G z H o u) : RepO G z (upd H p (.lst ws)) o u := by
  cases o with
  | lst ds =>
    obtain ⟨vs, e, q⟩ := q
    exact ⟨vs, e, RepL.hid h ds vs q⟩
  | ins c fs =>
    obtain ⟨dx, ws, e, q⟩ := q
    exact ⟨dx, ws, e, RepF.hid h fs ws q⟩
theorem Stands.hid_ (h : HidAt G z H p us) (s : Stands G z H S) : Stands G z (upd H p (.lst ws)) S := by
  have ne : ∀ a, z.phi a → a ≠ p := fun a ha x => h.phi (x ▸ ha)
  refine ⟨s.rho, s.psi, fun a ha => by rw [upd_ne (ne a ha)]; exact s.mu a ha, fun a ha => ?_, tabs_put s.tab h.at_, s.len, s.nd, fun n a o e1 e2 => ?_⟩
  · by_cases x : a = p
    · exact ⟨_, by rw [x, upd_same], by intro ps q; cases q⟩
    · obtain ⟨u, e, t⟩ := s.hid a ha
      exact ⟨u, by rw [upd_ne x]; exact e, t⟩
  · have hm := s.psi a (s.rho a (List.mem_of_getElem? e1))
    rw [upd_ne (ne a hm)]
    exact RepO.hid h (s.at_ n a o e1 e2)
theorem RepE.hid (h : HidAt G z H p us) {env : Ev} {σ : L2.St} (e : RepE G z H env σ) : RepE G z (upd H p (.lst ws)) env σ :=
  ⟨e.1, fun i d q => let ⟨v, q1, q2⟩ := e.2 i d q; ⟨v, q1, Rep.hid h d v q2⟩⟩
theorem HidAt.put (h : HidAt G z H p us) : HidAt G z (upd H p (.lst ws)) p ws := ⟨h.hid, h.psi, h.phi, upd_same⟩
theorem later_upd {z0 : Z} {H0 : Hp} (L : Later z0 H0 z H) (hp : H0 p = none) (h : HidAt G z H p us) : Later z0 H0 z (upd H p (.lst ws)) := by
  refine ⟨fun a o e hn ht => ?_, L.pre, L.psi, L.phi, L.psub, L.sub, fun a e => ?_, L.hid, L.hsub⟩
  · rw [upd_ne (fun x => by subst x; rw [hp] at e; cases e)]
    exact L.keep a o e hn ht
  · by_cases x : a = p
    · exact ⟨_, by rw [x, upd_same], by intro ps q; cases q⟩
    · obtain ⟨u, e, t⟩ := L.live a e
      exact ⟨u, by rw [upd_ne x]; exact e, t⟩
/-- the list is done: it is seen -/
theorem later_show {z0 : Z} {H0 : Hp} (L : Later z0 H0 z H) (hp : H0 p = none) (s0 : Stands G z0 H0 S) : Later z0 H0 (z.show p) H :=
  ⟨L.keep, L.pre, L.psi, L.phi, L.psub, L.sub, L.live, fun a h => L.hid a h.1, fun a h => ⟨L.hsub a h, fun x => nlv hp (x ▸ s0.hid a h)⟩⟩
mutual
theorem Rep.shw : ∀ (d : D) (v : V), Rep G z H d v → Rep G (z.show p) H d v
  | .non, _, q => q
  | .bl _, _, q => q
  | .int _, _, q => q
  | .str _, _, q => q
  | .ty _, _, q => q
  | .tup ds, v, q => by
    rw [Rep] at q ⊢
    obtain ⟨a, vs, e, hs, hl⟩ := q
    exact ⟨a, vs, e, hs, RepL.shw ds vs hl⟩
  | .lst own ds, v, q => by
    rw [Rep] at q ⊢
    obtain ⟨a, vs, e, hs, hn, ho, hl⟩ := q
    exact ⟨a, vs, e, hs, fun x => hn (x.elim .inl fun x => .inr x.1), ho, RepL.shw ds vs hl⟩
  | .scr ns, v, q => by
    rw [Rep] at q ⊢
    exact q
  | .dic kvs, v, q => by
    rw [Rep] at q ⊢
    obtain ⟨a, ws', e, hs, hn, ho, hl⟩ := q
    exact ⟨a, ws', e, hs, hn, ho, RepK.shw kvs ws' hl⟩
  | .obj c fs, v, q => by
    rw [Rep] at q ⊢
    obtain ⟨a, dx, ws', e, hs, hn, ho, hl⟩ := q
    exact ⟨a, dx, ws', e, hs, hn, ho, RepF.shw fs ws' hl⟩
  | .ref n, v, q => by
    rw [Rep] at q ⊢
    exact q
  | .cls n, v, q => by
    rw [Rep] at q ⊢
    exact q
theorem RepL.shw : ∀ (ds : List D) (vs : List V), RepL G z H ds vs → RepL G (z.show p) H ds vs
  | [], _, q => q
  | d :: ds, vs, q => by
    rw [RepL] at q ⊢
    obtain ⟨w, ws', e, h1, h2⟩ := q
    exact ⟨w, ws', e, Rep.shw d w h1, RepL.shw ds ws' h2⟩
theorem RepK.shw : ∀ (ds : List (Key × D)) (vs : List (Key × V)), RepK G z H ds vs → RepK G (z.show p) H ds vs
  | [], _, q => q
  | (k, d) :: ds, vs, q => by
    rw [RepK] at q ⊢
    obtain ⟨w, ws', e, h1, h2⟩ := q
    exact ⟨w, ws', e, Rep.shw d w h1, RepK.shw ds ws' h2⟩
theorem RepF.shw : ∀ (ds : List (Str × D)) (vs : List (Str × V)), RepF G z H ds vs → RepF G (z.show p) H ds vs
  | [], _, q => q
  | (k, d) :: ds, vs, q => by
    rw [RepF] at q ⊢
    obtain ⟨w, ws', e, h1, h2⟩ := q
    exact ⟨w, ws', e, Rep.shw d w h1, RepF.shw ds ws' h2⟩
end
theorem stands_show (s : Stands G z H S) : Stands G (z.show p) H S :=
  ⟨s.rho, s.psi, s.mu, fun a h => s.hid a h.1, s.tab, s.len, s.nd, fun n a o e1 e2 => by
    have q := s.at_ n a o e1 e2
    cases o with
    | lst ds =>
      obtain ⟨vs, e, q⟩ := q
      exact ⟨vs, e, RepL.shw ds vs q⟩
    | ins c fs =>
      obtain ⟨dx, ws, e, q⟩ := q
      exact ⟨dx, ws, e, RepF.shw fs ws q⟩⟩
theorem rep_show (h : HidAt G z H p us) {ds : List D} (r : RepL G z H ds us) : Rep G (z.show p) H (.lst true ds) (.ref p) := by
  rw [Rep]
  exact ⟨p, us, rfl, h.at_, fun x => x.elim h.psi fun x => x.2 rfl, fun _ => h.phi, RepL.shw ds us r⟩
end
end
end Ki

set_option Elab.async false
set_option linter.all false
set_option maxRecDepth 100000
namespace Ki
open PySem L2 PySem.Spec PyProof.Rows

section
variable {X : Cx} {G : Gm} {W : WX} {pos : Pos} {vs : List Nat}
abbrev W0 : WX := fun _ _ _ _ => False
theorem out_ok {α β : Type} {W : WX} {σ : L2.St} {z : Z} {H : Hp} {Q : QO β} {r : Res α} {f : α → Sto → Res β} (h : Out G W σ z H Q (match r with | .ok a S => f a S | _ => .bad)) : ∃ a S, r = .ok a S ∧ Out G W σ z H Q (f a S) := by
  cases r with
  | ok a S => exact ⟨a, S, rfl, h⟩
  | exc x S => exact h.elim
  | bad => exact h.elim

theorem lc_any {z : Z} {H : Hp} {σ : L2.St} {env : Ev} {S : Sto} {J : It} {ds : List D} {g : Tg} {mt : M Bool} {me : M D} {tg : TG} {Q : VK} (s : Stands G z H S) (e : RepE G z H env σ) (hl : ds.length ≤ 100000)
    (ht : ∀ (z : Z) (H : Hp) (S : Sto) (σ : L2.St) (env env' : Ev) (d : D) (v : V) (Q : L2.St → Hp → Prop), Stands G z H S → RepE G z H env σ → Rep G z H d v → g d env = some env' → (∀ σ', RepE G z H env' σ' → wipe σ' vs = wipe σ vs → Q σ' H) → tg v σ H Q)
    (hw : ∀ z' H' S', Later z H z' H' → Stands G z' H' S' → Wk G J ds z' H') {ys : List D} {S' : Sto} (hr : lcL g mt me (wipeD env vs) ds S = .ok ys S')
    (h : ∀ p z' H' us, H p = none → Later z H z' H' → Stands G z' H' S' → HidAt G z' H' p us → RepL G z' H' ys us → Q (.ref p) H') :
    ∀ p, H p = none → ∃ W : Nat → Nat → Hp → Prop, (∃ m, W 0 m (upd H p (.lst []))) ∧ ∀ i m H, W i m H →
      (J.stop i H ∧ Q (.ref p) H) ∨ (J.go i H ∧ ∃ Nx : Hp → Prop, (∀ H', Nx H' → ∃ m', m' < m ∧ W (i + 1) m' H') ∧ ∀ x H', J.yld i H x H' → tg x (wipe σ vs) H' fun σ2 H2 => wipe σ2 vs = wipe σ vs ∧ rdT G W0 mt σ2 H2 fun b H3 =>
        if b = true then rdE G W0 me σ2 H3 fun y H4 => ∃ acc, H4 p = some (.lst acc) ∧ acc.length < sizeLine ∧ Nx (upd H4 p (.lst (acc ++ [y]))) else Nx H3) := by
  intro p hp
  refine ⟨fun i m H' => m = ds.length - i ∧ i ≤ ds.length ∧ ∃ z' S1 us ac rest, Later z H z' H' ∧ Stands G z' H' S1 ∧ HidAt G z' H' p us ∧ us.length ≤ i ∧ RepL G z' H' ac us ∧ RepE G z' H' (wipeD env vs) (wipe σ vs) ∧ lcL g mt me (wipeD env vs) (ds.drop i) S1 = .ok rest S' ∧ ac ++ rest = ys,
    ⟨ds.length, by simp, Nat.zero_le _, z.hide p, S, [], [], ys, later_hide hp, ?_, ⟨.inr rfl, fun q => (s.fresh hp).1 (.inl q), (s.fresh hp).2, upd_same⟩, Nat.le_refl _, by rw [RepL], repE_wipe (e.later (later_hide hp) s.mup) vs, hr, rfl⟩, ?_⟩
  · have q := s.same (same_new (o := .lst []) hp)
    exact ⟨q.rho, q.psi, q.mu, fun a ha => by
      rcases ha with ha | ha
      · exact q.hid a ha
      · exact ⟨_, by rw [ha, upd_same], by intro ps q; cases q⟩, q.tab, q.len, q.nd, fun n a o e1 e2 => RepO.later (later_hide (o := .lst []) hp) s.mup (by
        have f := s.at_ n a o e1 e2
        have hne : a ≠ p := fun x => (s.fresh hp).1 (.inl (x ▸ s.rho a (List.mem_of_getElem? e1)))
        rw [upd_ne hne]
        exact f)⟩
  · rintro i m H1 ⟨rfl, hi, z1, S1, us, ac, rest, L, s1, hh, hul, ra, e1, h1, hys⟩
    have w := hw z1 H1 S1 L s1
    by_cases hlt : i < ds.length
    · rw [List.drop_eq_getElem_cons hlt, lcL] at h1
      obtain ⟨go, gv⟩ := w.2 i ds[i] (List.getElem?_eq_getElem hlt)
      cases eg : g ds[i] (wipeD env vs) with
      | none => simp only [eg] at h1; cases h1
      | some env' =>
        simp only [eg] at h1
        refine .inr ⟨go, fun H' => ∃ z' S2 us ac rest, Later z H z' H' ∧ Stands G z' H' S2 ∧ HidAt G z' H' p us ∧ us.length ≤ i + 1 ∧ RepL G z' H' ac us ∧ RepE G z' H' (wipeD env vs) (wipe σ vs) ∧ lcL g mt me (wipeD env vs) (ds.drop (i + 1)) S2 = .ok rest S' ∧ ac ++ rest = ys, fun H' q => ⟨ds.length - (i + 1), by omega, rfl, hlt, q⟩, fun x H' y => ?_⟩
        obtain ⟨sm, rx⟩ := gv x H' y
        have LS : Later z1 H1 z1 H' := later_same sm
        have mu1 := s1.mup
        have e1 := e1.later LS mu1
        have hh := hh.later LS
        have ra := ra.later LS mu1
        have L := L.trans LS
        have s1 := s1.same sm
        refine ht z1 _ S1 (wipe σ vs) (wipeD env vs) env' _ _ _ s1 e1 rx eg fun σ' e' hwp => ⟨?_, z1, env', S1, s1, e', ?_⟩
        · rw [hwp]
          clear hwp e' eg
          have : ∀ (us : List Nat) (τ : L2.St), (∀ i ∈ us, ∀ x, τ[i]? ≠ some (some x)) → wipe τ us = τ := by
            intro us
            induction us with
            | nil => intros; rfl
            | cons u us ih =>
              intro τ hτ
              rw [wipe, ih τ fun i hi => hτ i (List.mem_cons_of_mem _ hi)]
              apply List.ext_getElem?
              intro j
              by_cases hj : j = u
              · subst hj
                by_cases hl : j < τ.length
                · rw [List.getElem?_set_self hl]
                  cases q : τ[j]? with
                  | none => have := List.getElem?_eq_none_iff.mp q; omega
                  | some o =>
                    cases o with
                    | none => rfl
                    | some x => exact absurd q (hτ j List.mem_cons_self x)
                · rw [List.getElem?_eq_none (by rw [List.length_set]; omega), List.getElem?_eq_none (by omega)]
              · rw [List.getElem?_set_ne (Ne.symm hj)]
          exact this vs (wipe σ vs) fun i hi x q => (wipe_some q).2 hi
        · cases et : mt env' S1 with
          | exc x S2 => rw [et] at h1; cases h1
          | bad => rw [et] at h1; cases h1
          | ok b S2 =>
            rw [et] at h1
            intro z2 H2 L2 s2
            cases b with
            | false =>
              simp only [Bool.false_eq_true, if_false] at h1 ⊢
              exact ⟨z2, S2, us, ac, rest, L.trans L2, s2, hh.later L2, by omega, ra.later L2 s1.mup, e1.later L2 s1.mup, h1, hys⟩
            | true =>
              simp only [if_true] at h1 ⊢
              refine ⟨z2, env', S2, s2, e'.later L2 s1.mup, ?_⟩
              cases ee : me env' S2 with
              | exc x S3 => rw [ee] at h1; cases h1
              | bad => rw [ee] at h1; cases h1
              | ok yv S3 =>
                rw [ee] at h1
                dsimp only at h1
                cases er : lcL g mt me (wipeD env vs) (ds.drop (i + 1)) S3 with
                | exc x S4 => rw [er] at h1; cases h1
                | bad => rw [er] at h1; cases h1
                | ok ys' S4 =>
                  rw [er] at h1
                  cases h1
                  intro z3 H3 L3 s3 v rv
                  have hh3 := (hh.later L2).later L3
                  have L23 := L2.trans L3
                  refine ⟨us, hh3.at_, by have := hul; show us.length < sizeLine; have : (100000 : Nat) < sizeLine := by (show _ < _; decide)
                                          omega, z3, S3, us ++ [v], ac ++ [yv], ys', later_upd (L.trans L23) hp hh3, s3.hid_ hh3, hh3.put, by rw [List.length_append, List.length_singleton]; omega, ?_, (e1.later L23 s1.mup).hid hh3, er, by rw [List.append_assoc]; exact hys⟩
                  refine RepL.app ((ra.later L23 s1.mup).hid hh3) ?_
                  rw [RepL]
                  exact ⟨v, [], rfl, rv.hid hh3, by rw [RepL]⟩
    · have ei : i = ds.length := by omega
      subst ei
      rw [List.drop_eq_nil_of_le (Nat.le_refl _), lcL] at h1
      cases h1
      rw [List.append_nil] at hys
      subst hys
      exact .inl ⟨w.1 _ (Nat.le_refl _), h p z1 H1 us hp L s1 hh ra⟩

theorem lc_rd {z : Z} {H : Hp} {σ : L2.St} {env : Ev} {S : Sto} {g : Tg} {mi : M (List D)} {mt : M Bool} {me : M D} {wi : TI} {tg : TG} {Q : VK} (s : Stands G z H S) (e : RepE G z H env σ)
    (hi : ∀ (z : Z) (H : Hp) (S : Sto) (σ : L2.St) (env : Ev) (R : It → Hp → Prop), Stands G z H S → RepE G z H env σ →
      Out G W σ z H (fun z' H' _ ds => ∀ J, (∀ z2 H2 S2, (∀ d v, Rep G z' H' d v → Rep G z2 H2 d v) → Stands G z2 H2 S2 → Wk G J ds z2 H2) → R J H') (mi env S) → wi σ H R)
    (ht : ∀ (z : Z) (H : Hp) (S : Sto) (σ : L2.St) (env env' : Ev) (d : D) (v : V) (Q : L2.St → Hp → Prop), Stands G z H S → RepE G z H env σ → Rep G z H d v → g d env = some env' → (∀ σ', RepE G z H env' σ' → wipe σ' vs = wipe σ vs → Q σ' H) → tg v σ H Q)
    (h : Out G W σ z H (fun z' H' _ d => ∀ v, Rep G z' H' d v → Q v H') (mLc vs g mi mt me env S)) : tLc wi tg (rdT G W0 mt) (rdE G W0 me) vs σ H Q := by
  refine hi z H S σ env _ s e ?_
  unfold mLc at h
  cases em : mi env S with
  | bad => rw [em] at h; exact h.elim
  | exc x S1 => rw [em] at h; exact h
  | ok ds S1 =>
    rw [em] at h
    intro z1 H1 L1 s1 J hJ
    dsimp only at h
    split at h
    · rename_i hl
      cases er : lcL g mt me (wipeD env vs) ds S1 with
      | exc x S2 => rw [er] at h; exact h.elim
      | bad => rw [er] at h; exact h.elim
      | ok ys S2 =>
        rw [er] at h
        exact lc_any s1 (e.later L1 s.mup) hl ht (fun z2 H2 S2 L s2 => hJ z2 H2 S2 (fun d v r => r.later L s1.mup) s2) er fun p z' H' us hp L' s' hh ra => h (z'.show p) H' (L1.trans (later_show L' hp s1)) (stands_show s') _ (rep_show hh ra)
    · exact h.elim
/-- a block's target -/
structure PGb (X : Cx) (G : Gm) (scope : Scope) (vs : List Nat) (tg : Expr) (g : Tg) : Prop where
  ex : ∃ t : TG, (∀ (s : Shared) (H : Hp) (C : Addr) (cl : List (Str × Addr)) (fp : List Addr), PG (X.blk s H scope (compEnvC scope cl C X.env) fp) tg t) ∧ ∀ (z : Z) (H : Hp) (S : Sto) (σ : L2.St) (env env' : Ev) (d : D) (v : V) (Q : L2.St → Hp → Prop), Stands G z H S → RepE G z H env σ → Rep G z H d v → g d env = some env' → (∀ σ', RepE G z H env' σ' → wipe σ' vs = wipe σ vs → Q σ' H) → t v σ H Q
structure PGbs (X : Cx) (G : Gm) (scope : Scope) (vs : List Nat) (ts : List Expr) (is : List Nat) : Prop where
  ex : ∃ t : TGs, (∀ (s : Shared) (H : Hp) (C : Addr) (cl : List (Str × Addr)) (fp : List Addr), PGs (X.blk s H scope (compEnvC scope cl C X.env) fp) ts t) ∧ ∀ (z : Z) (H : Hp) (S : Sto) (σ : L2.St) (env env' : Ev) (ds : List D) (us : List V) (Q : L2.St → Hp → Prop), Stands G z H S → RepE G z H env σ → RepL G z H ds us → gNms is ds env = some env' → (∀ σ', RepE G z H env' σ' → wipe σ' vs = wipe σ vs → Q σ' H) → t us σ H Q
theorem kb_name {scope : Scope} (i : Nat) {x : Str} (hN : X.N.Nodup) (hi : X.N[i]? = some x := by rfl) (hx : ∀ cl C, Loc (compEnvC scope cl C X.env).scope x := by first | exact fun _ _ => Or.inl rfl | exact fun _ _ => Or.inr rfl)
    (hf : (fun x => scope.names.lookup x == some .cell) x = true ∨ ∀ cl C, (compEnvC scope cl C X.env).scope.names.lookup x = some .local := by first | exact .inl rfl | exact .inr (fun _ _ => rfl)) (hv : i ∈ vs := by decide) : PGb X G scope vs (.Name x pos) (gNm i) := by
  refine ⟨⟨_, fun s H C cl fp => pg_name (i := i) hN hi (hx cl C) ?_, fun z H S σ env env' d v Q s e r h q => ?_⟩⟩
  · rcases hf with hf | hf
    · exact .inl hf
    · exact .inr (hf cl C)
  · cases h
    exact q _ (e.set r) (wipe_set σ i _ vs hv)
theorem kb_nil {scope : Scope} : PGbs X G scope vs [] [] := ⟨⟨_, fun s H C cl fp => pgs_nil, fun z H S σ env env' ds us Q s e r h q => by
  cases ds with
  | nil =>
    rw [RepL] at r
    rw [gNms] at h
    cases h
    exact ⟨r, q σ e rfl⟩
  | cons d ds => rw [gNms] at h <;> first | cases h | (intros; simp)⟩⟩
theorem kb_cons {scope : Scope} {tg : Expr} {ts : List Expr} {i : Nat} {is : List Nat} (h1 : PGb X G scope vs tg (gNm i)) (h2 : PGbs X G scope vs ts is) (hs : ∀ cl C, (assignEach (tg :: ts) (compEnvC scope cl C X.env)).map (·.2) = assign tg (compEnvC scope cl C X.env) :: (assignEach ts (compEnvC scope cl C X.env)).map (·.2) := by intros; rfl) : PGbs X G scope vs (tg :: ts) (i :: is) := by
  obtain ⟨t1, p1, q1⟩ := h1.ex
  obtain ⟨t2, p2, q2⟩ := h2.ex
  refine ⟨⟨_, fun s H C cl fp => pgs_cons (p1 s H C cl fp) (p2 s H C cl fp) (hs cl C), fun z H S σ env env' ds us Q s e r h q => ?_⟩⟩
  cases ds with
  | nil => rw [gNms] at h <;> first | cases h | (intros; simp)
  | cons d ds =>
    rw [RepL] at r
    obtain ⟨w, ws, ev, r1, r2⟩ := r
    rw [gNms] at h
    exact ⟨w, ws, ev, q1 z H S σ env _ d w _ s e r1 rfl fun σ' e' w' => q2 z H S σ' _ _ ds ws Q s e' r2 h fun σ2 e2 w2 => q σ2 e2 (w2.trans w')⟩
theorem kb_tup {scope : Scope} {es : List Expr} {k : Nat} {is : List Nat} (hc : X.calm = true) (h : PGbs X G scope vs es is) (hn : ∀ cl C, (assignEach es (compEnvC scope cl C X.env)).length = is.length := by intros; rfl) (hst : ∀ cl C, (assignEach es (compEnvC scope cl C X.env)).findIdx? (·.1) = none := by intros; rfl) (hK : X.K = G.K := by rfl) : PGb X G scope vs (.Tuple es k pos) (gTp is) := by
  obtain ⟨t, p, q⟩ := h.ex
  refine ⟨⟨gTup X.K is.length t, fun s H C cl fp => pg_tup (X := X.blk s H scope (compEnvC scope cl C X.env) fp) (n := is.length) hc (p s H C cl fp) (hn cl C) (hst cl C), fun z H S σ env env' d v Q s e r h q' => ?_⟩⟩
  cases d <;> first | (cases h; done) | skip
  rename_i ds
  rw [Rep] at r
  obtain ⟨a, vs, rfl, h1, h2⟩ := r
  have hl := gNms_len (show gNms is ds env = some env' from h)
  exact ⟨a, vs, rfl, hK ▸ h1, by rw [h2.len, hl], q z H S σ env env' ds vs Q s e h2 h q'⟩
/-- [elt for target in iter if ..] -/
theorem ke_lc {elt tg iter : Expr} {ifs : List Expr} {scope : Scope} {own : List (Str × Nat)} {g : Tg} {mi : M (List D)} {mt : M Bool} {me : M D} (hc : X.calm = true) (hN : X.N.Nodup) (hi : PIk X G W tg iter mi) (ok : BlkOk X.N X.env.scope scope own)
    (hg : PGb X G scope (own.map (·.2)) tg g)
    (ht : ∀ (s : Shared) (H : Hp) (C : Addr) (cl : List (Str × Addr)) (fp : List Addr), PTs (X.blk s H scope (compEnvC scope cl C X.env) fp) ifs (rdT G W0 mt))
    (he : ∀ (s : Shared) (H : Hp) (C : Addr) (cl : List (Str × Addr)) (fp : List Addr), PE (X.blk s H scope (compEnvC scope cl C X.env) fp) elt (rdE G W0 me)) (hs : ∀ x, foldedSetIterable iter X.env x = pure x := by intro _; rfl) :
    PE X (.ListComp elt [⟨tg, iter, ifs, 0⟩] scope pos) (rdE G W (mLc (own.map (·.2)) g mi mt me)) := by
  obtain ⟨wi, pi, hwi⟩ := hi.ex
  obtain ⟨t, pg, htg⟩ := hg.ex
  exact pe_imp (pe_lc hc hN pi ok pg ht he hs) fun σ H Q ⟨z, env, S, s, e, h⟩ => lc_rd s e hwi htg h
theorem ks_setLc (i : Nat) {y : Str} {py : Pos} {elt tg iter : Expr} {ifs : List Expr} {scope : Scope} {own : List (Str × Nat)} {spos : Pos} {g : Tg} {mi : M (List D)} {mt : M Bool} {me : M D} (hc : X.calm = true) (hN : X.N.Nodup) (hi : PIk X G W tg iter mi) (ok : BlkOk X.N X.env.scope scope own)
    (hg : PGb X G scope (own.map (·.2)) tg g)
    (ht : ∀ (s : Shared) (H : Hp) (C : Addr) (cl : List (Str × Addr)) (fp : List Addr), PTs (X.blk s H scope (compEnvC scope cl C X.env) fp) ifs (rdT G W0 mt))
    (he : ∀ (s : Shared) (H : Hp) (C : Addr) (cl : List (Str × Addr)) (fp : List Addr), PE (X.blk s H scope (compEnvC scope cl C X.env) fp) elt (rdE G W0 me)) (hs : ∀ x, foldedSetIterable iter X.env x = pure x := by intro _; rfl)
    (hy : X.N[i]? = some y := by rfl) (hyl : X.env.scope.names.lookup y = some .local := by rfl)
    (hsw : swapsWith (.ListComp elt [⟨tg, iter, ifs, 0⟩] scope pos) (some (.Name y py)) spos.line X.env = pure true := by rfl) :
    PS X (.Assign [.Name y py] (.ListComp elt [⟨tg, iter, ifs, 0⟩] scope pos) spos) (rdS G W (sSet i (mLc (own.map (·.2)) g mi mt me))) := by
  obtain ⟨wi, pi, hwi⟩ := hi.ex
  obtain ⟨t, pg, htg⟩ := hg.ex
  refine ps_imp (ps_setLc (i := i) hc hN hy hyl hsw pi ok pg ht he hs) fun E σ H ⟨z, env, S, s, e, h⟩ => ?_
  refine lc_rd s e hwi htg ((rd_thenS s e h).imp fun z' H' S' d L s' q v r => ?_)
  exact q z' H' _ .refl s' ((e.later L s.mup).set r)
end
end Ki

set_option Elab.async false
set_option linter.all false
set_option maxRecDepth 100000
/-! Ki9: except clauses one by one, named or not; own exceptions that keep their argument, over any built-in base. -/
namespace Ki
open PySem L2 PySem.Spec PyProof.Rows

/-! ### an exception that has come down to this frame -/
structure Got (X : Cx) (pins : List (Addr × Obj)) (a : Addr) (cls : Value) (d : Option Addr) (σ : L2.St) (H : Hp) (B : Heap) (s0 s : Shared) : Prop where
  inv : Inv X pins σ H s0
  low : ∀ b o, s0.heap.get? b = some o → b ∉ frs X.stack → B.get? b = some o
  fly : HandSPX.FlyingZ B (X.env :: X.outer) a (Zc cls d) s.heap
  up : s0.heap.UpToSlots s.heap
  free : H a = none
  os : s.os = s0.os
  bare : AllBare s.gens
  stk : X.stack = X.env :: X.outer
  frm : X.env.frame = some X.env.locals
section
variable {X : Cx} {pins : List (Addr × Obj)} {a : Addr} {cls : Value} {d : Option Addr} {σ : L2.St} {H : Hp} {B : Heap} {s0 s : Shared}
theorem Got.now (g : Got X pins a cls d σ H B s0 s) : Inv X pins σ H s := Inv.landed g.inv g.low g.fly.1 g.up g.os g.bare
/-- it is no frame of the stack -/
theorem Got.apart (g : Got X pins a cls d σ H B s0 s) : a ∉ frs (X.env :: X.outer) := by
  obtain ⟨o, vs, e, _, ed⟩ := g.fly.there
  intro m
  obtain ⟨_, p, ep, np⟩ := Heap.FunFrames.mem g.fly.2.2.1 m
  have q := e.symm.trans ep
  cases q
  exact np vs ed
theorem Got.suite (g : Got X pins a cls d σ H B s0 s) : ∃ o, Zc cls d o ∧ (∃ vs, o.data = .fields vs) ∧ s.heap.get? a = some o ∧ Inv (X.suite a ((a, o) :: (X.pn ++ pins))) [] σ H s := by
  obtain ⟨o, vs, e, zc, ed⟩ := g.fly.there
  have ap := g.apart
  refine ⟨o, zc, ⟨vs, ed⟩, e, g.now.suite e ed g.free (fun q => ap ?_) fun q => ap ?_⟩
  · rw [q]
    exact List.mem_filterMap.mpr ⟨X.env, .head _, g.frm⟩
  · obtain ⟨v, m, ev⟩ := List.mem_filterMap.mp q
    exact List.mem_filterMap.mpr ⟨v, .tail _ m, ev⟩
theorem Got.moved {h : Heap} (g : Got X pins a cls d σ H B s0 s) (f : HandSPX.FlyingZ B (X.env :: X.outer) a (Zc cls d) h) (u : s.heap.UpToSlots h) : Got X pins a cls d σ H B s0 { s with heap := h } :=
  { g with fly := f, up := g.up.trans u }
/-- its class is asked for -/
theorem Got.asks {x : Str} {c : Value} {b : Bool} {np : Pos} {Q : Bool → Shared → Prop} {E E' : Value → Shared → Prop} (g : Got X pins a cls d σ H B s0 s) (hn : Names X x c) (hb : PySem.W.exmOne X.K cls c = some b) (q : Q b s) :
    wpAny (model X.prog X.w) (X.A.mark (some (.ref a))) (eval (.Name x np) X.env) (fun c s₁ => wpAny (model X.prog X.w) (X.A.mark (some (.ref a))) (excMatches (.ref a) c) Q E' s₁) E s := by
  obtain ⟨o, zc, _, e, J⟩ := g.suite
  have ty : PySem.W.Looks (model X.prog X.w) s.heap (typeOf (.ref a)) cls := fun _ _ _ _ k r => wpAny_typeOf_ref (k _ _ e) (by rw [zc.1]; exact r)
  have ans := (PySem.W.exm_one (M := model X.prog X.w) g.now.kIn ty hb).here (A := X.A.mark (some (.ref a))) (E := E') q
  obtain ⟨gl, db, m | ⟨m, bt, nn⟩⟩ := hn
  · exact ld_glob J gl m ans db
  · exact ld_blt J gl m bt ans nn db
end
/-- what a list of clauses does with what comes down -/
def Hds (X : Cx) (hds : List ExceptHandler) (t : Ends → WX) : Prop := ∀ (pins : List (Addr × Obj)) (D : Ends) (a : Addr) (cls : Value) (d : Option Addr) (σ : L2.St) (H : Hp) (B : Heap) (s0 s : Shared),
  Got X pins a cls d σ H B s0 s → t D cls d σ H → wpAny (model X.prog X.w) X.A (handleBy (.ref a) X.env hds) (SP X pins D) X.xe s
def wCl (K : PySem.W.Frag) (c : Value) (ts : Addr → Value → Option Addr → TS) (t : Ends → WX) : Ends → WX := fun D cls d σ H => ∃ b, PySem.W.exmOne K cls c = some b ∧ match b with
  | true => ∀ a, H a = none → ts a cls d D σ H
  | false => t D cls d σ H
/-- the ends of a suite whose name goes afterwards -/
def gone (i : Nat) (D : Ends) : Ends := ⟨fun τ => D.nx (τ.set i none), D.rt, fun τ => D.bk (τ.set i none), fun τ => D.ct (τ.set i none)⟩
def wClAs (K : PySem.W.Frag) (c : Value) (i : Nat) (ts : Addr → Value → Option Addr → TS) (t : Ends → WX) : Ends → WX := fun D cls d σ H => ∃ b, PySem.W.exmOne K cls c = some b ∧ match b with
  | true => ∀ a, H a = none → ts a cls d (gone i D) (σ.set i (some (.ref a))) H
  | false => t D cls d σ H
section
variable {X : Cx} {W : WX} {x n : Str} {c : Value} {np pos : Pos} {ts : Addr → Value → Option Addr → TS} {b₀ : Stmt} {su : List Stmt} {hds : List ExceptHandler} {t : Ends → WX}
theorem hds_nil (tk : Takes X W) : Hds X [] fun _ => W := by
  intro pins D a cls d σ H B s0 s g w
  obtain ⟨_, _, _, o, vs, T, _, _, e, _, ed, e1, _⟩ := id g.fly
  apply wpAny_handleBy_nil
  unfold PySem.passOn
  have last : wpAny (model X.prog X.w) X.A (setFlight (.ref a) X.env.frame) (fun _ r => wpAny (model X.prog X.w) X.A (throw (.ref a) : Sem Flow) (SP X pins D) X.xe r) X.xe s := by
    rw [g.frm]
    exact HandSPX.setFlight_upZ g.fly fun h hl u => wpAny_throw (tk _ _ ⟨a, B, s0, pins, σ, H, cls, d, rfl, g.inv, g.low, g.up.trans u, .inr (.inr (g.stk ▸ hl)), g.free, g.os, g.bare, w⟩)
  have nz : (Value.ref T == Value.none) = false := rfl
  refine wpAny_bind (wpAny_field e ed e1 ?_)
  simp only [nz, Bool.false_eq_true, if_false]
  first | exact wpAny_bind (wpAny_pure (wpAny_bind last)) | exact wpAny_bind last
theorem hds_cls (hn : Names X x c) (hs : ∀ (a : Addr) (o : Obj) (cls : Value) (d : Option Addr) (pn : List (Addr × Obj)), Zc cls d o → (∃ vs, o.data = .fields vs) → PSs (X.suite a ((a, o) :: pn)) (b₀ :: su) (ts a cls d)) (r : Hds X hds t) :
    Hds X (.ExceptHandler (some (.Name x np)) none (b₀ :: su) pos :: hds) (wCl X.K c ts t) := by
  intro pins D a cls d σ H B s0 s g ⟨b, hb, w⟩
  have ok := g.inv.ok
  refine wpAny_handleBy_cons (codeAny_handlers_test (g.asks hn hb ?_)) (fun q => nomatch q)
  cases b with
  | false => exact r pins D a cls d σ H B s0 s g w
  | true =>
    refine codeAny_handlers_suite (HandSPX.lands_againZ g.fly fun h f u => ?_)
    obtain ⟨o, zc, hf, _, J⟩ := (g.moved f u).suite
    refine wpAny_mono ((hs a o cls d _ zc hf).run [] _ σ H D J (w a g.free)) (fun fl s1 q => ?_) fun _ _ no => no.elim
    cases fl <;> (first | (obtain ⟨τ, H1, J1, z⟩ := q; exact ⟨τ, H1, J1.unsuite ok, z⟩) | (obtain ⟨v, τ, H1, J1, rv, z⟩ := q; exact ⟨v, τ, H1, J1.unsuite ok, rv, z⟩))
theorem hds_as {i : Nat} (hN : X.N.Nodup) (hi : X.N[i]? = some n) (hl : X.env.kindOf n = some .local) (hn : Names X x c)
    (hs : ∀ (a : Addr) (o : Obj) (cls : Value) (d : Option Addr) (pn : List (Addr × Obj)), Zc cls d o → (∃ vs, o.data = .fields vs) → PSs (X.suite a ((a, o) :: pn)) (b₀ :: su) (ts a cls d)) (r : Hds X hds t) :
    Hds X (.ExceptHandler (some (.Name x np)) (some n) (b₀ :: su) pos :: hds) (wClAs X.K c i ts t) := by
  intro pins D a cls d σ H B s0 s g ⟨b, hb, w⟩
  have ok := g.inv.ok
  refine wpAny_handleBy_cons (codeAny_handlers_test (g.asks hn hb ?_)) (fun q => nomatch q)
  cases b with
  | false => exact r pins D a cls d σ H B s0 s g w
  | true =>
    refine codeAny_handlers_suite_as (HandSPX.lands_againZ g.fly fun h f u => ?_)
    obtain ⟨o, zc, hf, _, J⟩ := (g.moved f u).suite
    refine store_ok (X := X.suite a ((a, o) :: (X.pn ++ pins))) (v := .ref a) J hN hi (.inl hl) rfl (fun s5 J5 => ?_) (.inr hl)
    refine wpAny_mono ((hs a o cls d _ zc hf).run [] s5 _ H (gone i D) J5 (w a g.free)) (fun fl s1 q => ?_) fun _ _ no => no.elim
    cases fl <;> (first | (obtain ⟨τ, H1, J1, z⟩ := q; exact gone_ok (J1.unsuite ok) hN hi hl fun s7 J7 => ⟨_, H1, J7, z⟩) | (obtain ⟨v, τ, H1, J1, rv, z⟩ := q; exact gone_ok (J1.unsuite ok) hN hi hl fun s7 J7 => ⟨v, _, H1, J7, rv, z⟩))
/-- try: body / except ..: .. -/
theorem ps_tryH {body : List Stmt} {h₀ : ExceptHandler} {tb : WX → TS} (hk : X.stack = X.env :: X.outer) (hf : X.env.frame = some X.env.locals) (r : Hds X (h₀ :: hds) t)
    (hb : ∀ (W : WX) (pn : List (Addr × Obj)) (xe : Value → Shared → Prop), Takes (X.tr pn xe) W → PassesOwn (model X.prog X.w) X.A X.env xe → PSs (X.tr pn xe) body (tb W)) :
    PS X (.Try body (h₀ :: hds) [] [] pos) (fun D σ H => tb (t D) D σ H) := by
  constructor
  intro pins s σ H D I w
  have ok := I.ok
  have fr : X.A.frames = some (X.env :: X.outer) := ok.frames.trans (congrArg some hk)
  let xe' : Value → Shared → Prop := fun e r1 => wpAny (model X.prog X.w) X.A (noteFrame e X.env) (fun _ r2 => wpAny (model X.prog X.w) X.A (setFlight e none) (fun _ r3 => wpAny (model X.prog X.w) X.A (handleBy e X.env (h₀ :: hds)) (SP X pins D) X.xe r3) X.xe r2) X.xe r1
  have takes : Takes (X.tr (X.pn ++ pins) xe') (t D) := by
    intro u s1 ⟨a, B, s0, ps, τ, H1, cls, d, eu, J, low, up, sky, na, os, ag, q⟩
    subst eu
    have sky' : Sky B (X.env :: X.outer) a (Zc cls d) X.env.locals s1.heap := by rw [← hk]; exact sky
    exact sky'.land Zc.steady fr hf fun h f u => r pins D a cls d τ H1 B s0 _ ⟨J.ofTry ok, low, f, up.trans u, na, os, ag, hk, hf⟩ q
  refine wpAny_Try_except (wpAny_mono ((hb (t D) (X.pn ++ pins) xe' takes PassesOwn.looking).run [] s σ H D (I.toTry _) w) (fun fl s1 q => ?_) fun _ _ q => q)
  cases fl <;> (first | (obtain ⟨τ, H1, J1, z⟩ := q; first | exact wpAny_execs_nil ⟨τ, H1, J1.ofTry ok, z⟩ | exact ⟨τ, H1, J1.ofTry ok, z⟩) | (obtain ⟨v, τ, H1, J1, rv, z⟩ := q; exact ⟨v, τ, H1, J1.ofTry ok, rv, z⟩))
end

/-! ### own exceptions that keep their argument, over any built-in base -/
structure BaseT (B newId initId : String) (bmB : List Value) : Prop where
  F : ExcBaseFacts B newId initId bmB
  S : StoreFacts B bmB "object.__setattr__" "object"
abbrev lineIndex : List Value := [.type "IndexError", .type "LookupError", .type "Exception", .type "BaseException", .type "object"]
abbrev lineOverflow : List Value := [.type "OverflowError", .type "ArithmeticError", .type "Exception", .type "BaseException", .type "object"]
abbrev lineValue : List Value := [.type "ValueError", .type "Exception", .type "BaseException", .type "object"]
abbrev lineRuntime : List Value := [.type "RuntimeError", .type "Exception", .type "BaseException", .type "object"]
abbrev lineArith : List Value := [.type "ArithmeticError", .type "Exception", .type "BaseException", .type "object"]
theorem baseIndex : BaseT "IndexError" "IndexError.__new__" "IndexError.__init__" lineIndex := ⟨F.excBase_IndexError, F.store_IndexError⟩
theorem baseOverflow : BaseT "OverflowError" "OverflowError.__new__" "OverflowError.__init__" lineOverflow := ⟨F.excBase_OverflowError, F.store_OverflowError⟩
theorem baseValue : BaseT "ValueError" "ValueError.__new__" "ValueError.__init__" lineValue := ⟨F.excBase_ValueError, F.store_ValueError⟩
theorem baseRuntime : BaseT "RuntimeError" "RuntimeError.__new__" "RuntimeError.__init__" lineRuntime := ⟨F.excBase_RuntimeError, F.store_RuntimeError⟩
theorem baseArith : BaseT "ArithmeticError" "ArithmeticError.__new__" "ArithmeticError.__init__" lineArith := ⟨F.excBase_ArithmeticError, F.store_ArithmeticError⟩
/-- what the written part says of such a class -/
structure OexT (K : PySem.W.Frag) (newId : String) (bmB : List Value) (C : Addr) : Prop where
  made : PySem.W.excInitIn K C bmB newId = true
  over : PySem.W.excOver K C bmB = true
  dct : PySem.W.hasDictIn K C = true
  sa : PySem.W.findIn K (.ref C) "__setattr__" = some (some (.builtin "object.__setattr__"))
  sub : PySem.W.subIn K (.ref C) (.type "BaseException") = some true
  typ : PySem.W.typeIn K (.ref C) = some (.type "type")
  keep : PySem.W.keepIn K (.ref C) = true
section
variable {B newId initId : String} {bmB : List Value} {X : Cx} {pins : List (Addr × Obj)} {σ : L2.St} {H : Hp} {s : Shared} {a C : Addr} {f : Str} {y : V} {u : Value}
/-- the first field of an exception that is being made: its dict is laid, then filled -/
theorem keeps_first {Q : Unit → Shared → Prop} {A : Around} {E : Value → Shared → Prop} (BT : BaseT B newId initId bmB) (T : OexT X.K newId bmB C) (I : Inv X pins σ H s) (e : H a = some (exo a C none)) (ht : PySem.W.takerIn X.K C f = some none) (ry : RelV y u)
    (h : ∀ dx s', H dx = none → dx ≠ a → Inv X pins σ (upd (upd H a (exo a C (some dx))) dx (exd dx [(f, y)])) s' → Q () s') : wpAny (model X.prog X.w) A (setAttr (.ref a) f u) Q E s := by
  obtain ⟨t1, ho⟩ := exo_at I.hok e
  obtain ⟨cd, hcd, hd⟩ := PySem.W.any_some T.dct
  obtain ⟨hp, g, dr, tk, os⟩ := s
  have it : PySem.W.InstAt hp a { cls := .ref C, dict := none, data := .fields #[.ref t1, .none, .none, .none, .bool false, .none] } C none := ⟨ho, rfl, rfl, trivial⟩
  refine PySem.W.set_plain I.kIn it T.sa (PySem.W.osa_openX BT.S I.kIn it T.over ht fun b => ?_)
  refine wpAny_bind (wpAny_pure (wpAny_bind (PySem.W.instanceDict_exc (c2 := .none) ho (PySem.W.looks_clsIn I.kIn hcd) hd ?_)))
  have dn : H hp.objs.size = none := I.hok.fresh (Nat.le_refl _)
  have ne : hp.objs.size ≠ a := fun q => by rw [q, e] at dn; cases dn
  -- the empty dict
  have E1 : (hp.push (PySem.W.dictOf [] 0)).Ns hp.objs.size fun _ => none := ⟨_, #[], 0, Heap.get?_push_size _ rfl, rfl, fun _ q => absurd q (by simp), fun _ => rfl⟩
  have I1 := I.laid (t' := tk) (fun b o q => Heap.get?_push_of_some (PySem.W.dictOf [] 0) q) (Nat.le_refl _) (exd_ok (P := X.prog) (w := X.w) (H := upd H hp.objs.size (exd hp.objs.size [])) (Heap.Ns1.of_empty E1) fun _ => True.intro)
  -- it is the exception's
  have ga : (hp.push (PySem.W.dictOf [] 0)).get? a = some { cls := .ref C, dict := none, data := .fields #[.ref t1, .none, .none, .none, .bool false, .none] } := Heap.get?_push_of_some _ ho
  have gx := Heap.get?_update_self (fun o => { o with dict := some hp.objs.size }) ga rfl
  have I2 := I1.write (t' := tk) (x := a) (e := a) (h' := (hp.push (PySem.W.dictOf [] 0)).update a fun o => { o with dict := some hp.objs.size }) (o := exo a C (some hp.objs.size)) (by rw [upd_ne ne.symm, e]; exact True.intro) (.inl rfl)
    (fun b o q w => (Heap.get?_update_ne _ _ _ _ q).trans w) ⟨_, gx⟩ (exo_ok (P := X.prog) (w := X.w) gx)
  have E2 : ((hp.push (PySem.W.dictOf [] 0)).update a fun o => { o with dict := some hp.objs.size }).Ns hp.objs.size fun _ => none := ⟨_, #[], 0, (Heap.get?_update_ne _ _ _ _ ne).trans (Heap.get?_push_size _ rfl), rfl, fun _ q => absurd q (by simp), fun _ => rfl⟩
  refine PySem.HandSPX.store_in_new E2 fun h' tk' hn hs => ?_
  -- it is filled
  have I3 := I2.write (t' := tk') (x := hp.objs.size) (e := hp.objs.size) (h' := h') (o := exd hp.objs.size [(f, y)]) (by rw [upd_ne ne, upd_same]; exact True.intro) (.inl rfl) (fun b o q w => (hs.2 b q).trans w)
    (let ⟨o, _, _, q, _⟩ := hn; ⟨o, q⟩) (exd_ok (P := X.prog) (w := X.w) hn (relO_put (fs := []) ry fun _ => True.intro))
  refine h hp.objs.size _ dn ne ?_
  have eq : upd (upd (upd H hp.objs.size (exd hp.objs.size [])) a (exo a C (some hp.objs.size))) hp.objs.size (exd hp.objs.size [(f, y)]) = upd (upd H a (exo a C (some hp.objs.size))) hp.objs.size (exd hp.objs.size [(f, y)]) := by
    funext b
    by_cases q : b = hp.objs.size
    · rw [q, upd_same, upd_same]
    · rw [upd_ne q, upd_ne q]
      by_cases r : b = a
      · rw [r, upd_same, upd_same]
      · rw [upd_ne r, upd_ne r, upd_ne q]
  rw [eq] at I3
  exact I3
/-- self.f = e in the __init__ of an exception that is being made -/
def tKeep (K : PySem.W.Frag) (newId : String) (bmB : List Value) (f : Str) (to te : TE) : TS := fun D σ H => te σ H fun y H1 => to σ H1 fun x H2 => ∃ a C : Addr, x = .ref a ∧ OexT K newId bmB C ∧ PySem.W.takerIn K C f = some none ∧
  H2 a = some (exo a C none) ∧ ∀ dx, H2 dx = none → dx ≠ a → D.nx σ (upd (upd H2 a (exo a C (some dx))) dx (exd dx [(f, y)]))
theorem ps_keep {o e : Expr} {to te : TE} {p' pos : Pos} (BT : BaseT B newId initId bmB) (ho : PE X o to) (he : PE X e te) (hs : swapsWith e (some (.Attribute o f p')) pos.line X.env = pure false := by rfl) : PS X (.Assign [.Attribute o f p'] e pos) (tKeep X.K newId bmB f to te) := by
  constructor
  intro pins s σ H D I h
  refine plainObj_wpAny_Assign_Attribute (thn (he.run pins s σ H _ I h) fun v s1 q1 => ?_) hs
  obtain ⟨y, H1, I1, r1, q1⟩ := q1
  refine thn (ho.run pins s1 σ H1 _ I1 q1) fun u s2 q2 => ?_
  obtain ⟨x, H2, I2, r2, a, C, rfl, T, ht, ea, q⟩ := q2
  cases (show u = Value.ref a from r2)
  exact keeps_first BT T I2 ea ht r1 fun dx s' dn ne J => ⟨σ, _, J, q dx dn ne⟩
/-- what such an __init__ does -/
def spI (K : PySem.W.Frag) (newId : String) (bmB : List Value) (f : Str) : Sp := fun vs H Q _ => ∃ (a C : Addr) (y : V), vs = [.ref a, y] ∧ OexT K newId bmB C ∧ PySem.W.takerIn K C f = some none ∧ H a = some (exo a C none) ∧
  ∀ dx, H dx = none → dx ≠ a → Q .non (upd (upd H a (exo a C (some dx))) dx (exd dx [(f, y)]))
end
section
variable {B newId initId : String} {bmB : List Value} {P : Program} {w : World} {K : PySem.W.Frag} {mg : Str → Option Value} {base : Heap}
theorem init_ok {qual sf vl f : Str} {st : Stmt} {fI : Addr} {fd : FuncData} {k : Nat} {p1 p2 p3 p4 : Pos} (BT : BaseT B newId initId bmB) (F : L2.Fun K "__init__" qual st fI fd) (S : FnScope [sf, vl] [sf, vl] (defScope st)) (hbd : defBody st = [.Assign [.Attribute (.Name sf p1) f p2] (.Name vl p3) p4])
    (h1 : Vis (defScope st) sf) (h2 : Vis (defScope st) vl) (d1 : (sf == ("__debug__" : Str)) = false := by decide) (d2 : (vl == ("__debug__" : Str)) = false := by decide) (c1 : (sf == ("__classdict__" : Str)) = false := by decide) (c2 : (vl == ("__classdict__" : Str)) = false := by decide) :
    FnOk P w K mg base C8.CX0 (k + 1) fI fd [sf, vl] (spI K newId bmB f) := by
  refine L2.Fun.ok F S (fun vs H Q E ⟨a, C, y, e, _⟩ => by rw [e] <;> rfl) fun cdv A outer s H vs Q E hr ⟨a, C, y, e, T, ht, ha, hq⟩ => ?_
  subst e
  rw [hbd]
  exact ⟨_, pss_one (ps_keep BT (pe_var (i := 0) rfl h1 d1 c1) (pe_var (i := 1) rfl h2 d2 c2)), y, rfl, .ref a, rfl, a, C, rfl, T, ht, ha, hq⟩
end
section
variable {B newId initId : String} {bmB : List Value} {X : Cx} {e : Expr} {ta : TA} {p pos : Pos} {f : Str}
/-- C(e): the exception is made; its dict holds what it keeps -/
theorem pmk_T {x : Str} {C fI : Addr} {k : Nat} {fd : FuncData} {ps : List Str} (BT : BaseT B newId initId bmB) (T : OexT X.K newId bmB C) (iC : PySem.W.findIn X.K (.ref C) "__init__" = some (some (.ref fI))) (tI : PySem.W.typeIn X.K (.ref fI) = some (.type "function"))
    (ht : PySem.W.takerIn X.K C f = some none) (F1 : FnOk X.prog X.w X.K X.mg X.base C8.CX0 k fI fd ps (spI X.K newId bmB f)) (hr : Room (k + 1) X.A) (hb : L2.Binds X.K fd ps []) (hg : Gl X x) (hm : X.mg x = some (.ref C)) (ha : PA X [e] ta)
    (hdb : (x == ("__debug__" : Str)) = false := by decide) (he : starEach [e] X.env = (false, eval e X.env) :: starEach [] X.env := by rfl) :
    PMk X (.Call (.Name x p) [e] [] pos) (fun σ H Q => ta σ H fun vs H1 => ∃ y, vs = [y] ∧ ∀ d, H1 d = none → Q (.ref C) (some d) (upd H1 d (.xd [(f, y)]))) := by
  intro pins s σ H Q I w
  apply wpAny_Call_Name_kw
  refine ld_glob I hg hm (PySem.W.callWith_K (h₀ := X.base) I.ok.mod.kin T.keep (thn (ha.run pos pins s σ H _ I w) fun us s1 q => ?_) he (by rfl)) hdb
  obtain ⟨_, H1, I1, rv, y, rfl, q1⟩ := q
  refine ⟨I1.kIn, ?_⟩
  obtain ⟨nm, N, qn, bs, bm, hdct, sn, sub, ab, col, dd, k0, k1, k2, k3, k5, hC, hT⟩ := PySem.W.excInit_of I1.kIn T.made
  obtain ⟨hp, g, dr, tk, os⟩ := s1
  let a := hp.objs.size + 1
  let hp2 := (hp.push (PySem.W.kdv_tup us)).push (PySem.HandSPX.excO C hp.objs.size)
  have le : hp.objs.size ≤ a := Nat.le_succ _
  have fresh : H1 a = none := I1.hok.fresh le
  have kp : ∀ b o, hp.get? b = some o → hp2.get? b = some o := fun b o q => Heap.get?_push_of_some _ (Heap.get?_push_of_some _ q)
  have there : hp2.get? a = some (PySem.HandSPX.excO C hp.objs.size) := by
    show ((hp.push (PySem.W.kdv_tup us)).push (PySem.HandSPX.excO C hp.objs.size)).get? (hp.objs.size + 1) = _
    heap_get
  have I2 : Inv X pins σ (upd H1 a (exo a C none)) ⟨hp2, g, dr, tk, os⟩ := I1.laid (t' := tk) kp le (exo_ok there)
  have wish : spI X.K newId bmB f [V.ref a, y] (upd H1 a (exo a C none)) (fun v H2 => v = .non ∧ ∃ d : Addr, H1 d = none ∧ d ≠ a ∧ H2 = upd (upd (upd H1 a (exo a C none)) a (exo a C (some d))) d (exd d [(f, y)])) (fun _ _ _ => False) :=
    ⟨a, C, y, rfl, T, ht, upd_same, fun d hd ne => ⟨rfl, d, by rw [upd_ne ne] at hd; exact hd, ne, rfl⟩⟩
  have vals : Vals [V.ref a, y] (Value.ref a :: us) := .cons rfl rv
  have lu : us.length = 1 := (Paired.length rv).symm
  have lp : ps.length = 2 := (F1.len _ _ _ _ wish).symm
  have binds := hb ⟨hp2, g, dr, tk, os⟩ (Value.ref a :: us) I2.kIn (by rw [List.append_nil, List.length_cons, lu, lp])
  rw [List.append_nil] at binds
  have run := F1.run _ X.stack _ _ ⟨Value.ref a :: us, []⟩ (Value.ref a :: us) _ _ _ (hr.make C us []) (I2.env0.make C us []) binds vals wish
  show wpAny _ _ (call (.ref C) us) _ _ _
  refine wpAny_call (PySem.HandSPX.call_own BT.F hT hC (PySem.W.looks_findIn I1.kIn iC) (fun self => PySem.W.bind_fn I1.kIn self tI) (by rw [lu, sizeLine_eq]; omega) (codeAny_mono run fun r s' back => ?_))
  match r, back with
  | .ok (.ret u), back =>
    obtain ⟨v, H2, os2, bare2, un2, hok2, rv2, rfl, d, d1, dne, eH2⟩ := back
    obtain ⟨h2, g2, d2, t2, os'⟩ := s'
    have ea : H2 a = some (exo a C (some d)) := by rw [eH2, upd_ne (Ne.symm dne), upd_same]
    have ed : H2 d = some (exd d [(f, y)]) := by rw [eH2, upd_same]
    have same : upd (del H2 a) d (.xd [(f, y)]) = upd H1 d (.xd [(f, y)]) := by
      funext b
      by_cases q : b = d
      · rw [q, upd_same, upd_same]
      · rw [upd_ne q, upd_ne q]
        by_cases r : b = a
        · rw [r, del_same, fresh]
        · rw [del_ne r, eH2, upd_ne q, upd_ne r, upd_ne r]
    refine ⟨rv2, mk_end (raises_own T.sub T.typ) I1 le kp un2 hok2 os2 bare2 ea ed d1 ?_⟩
    rw [same]
    exact q1 d d1
  | .ok .next, back => exact back.elim
  | .ok .brk, back => exact back.elim
  | .ok .cont, back => exact back.elim
  | .error er, back => exact (show False from back).elim
end
end Ki

set_option Elab.async false
set_option linter.all false
set_option maxRecDepth 100000
namespace Ki
open PySem L2 PySem.Spec PyProof.Rows

/-! ### repr -/
def pOk (p : PyData) : Bool := p.showable && !p.hasDict && decide (p.depth ≤ 20) && decide (p.shown.length ≤ 100000)
def dRepr : OpL
  | [.dic []] => some (.str "{}")
  | [d] => match toPy d with
    | some p => if pOk p then some (.str p.shown) else none
    | none => none
  | _ => none
section
variable {X : Cx} {G : Gm} {W : WX} {pos p : Pos} {e : Expr} {es : List Expr} {tg : Expr}
def rReprD (K : PySem.W.Frag) : List V → Hp → VK → Prop := fun xs H Q => ∃ (v : V) (p : PyData), xs = [v] ∧ Dp K H v p ∧ pOk p = true ∧ Q (.str p.shown) H
theorem line_ok : (100000 : Nat) ≤ sizeLine := by rw [sizeLine_eq]; omega
theorem call_reprD (hgd : X.A.guards = some []) (hu : X.A.units + 64 < cLine) : CallR X (.builtin "repr") (rReprD X.K) := by
  intro pins s σ H xs us Q I r h
  obtain ⟨v, p, rfl, hd, ok, q⟩ := h
  obtain ⟨u, rfl, rv⟩ : ∃ u, us = [u] ∧ RelV v u := by
    cases r with
    | cons h t => cases t; exact ⟨_, rfl, h⟩
  unfold pOk at ok
  simp only [Bool.and_eq_true, Bool.not_eq_true', decide_eq_true_eq] at ok
  obtain ⟨⟨⟨hs, hnd⟩, hdp⟩, hsz⟩ := ok
  have hsz' := Nat.le_trans hsz line_ok
  cases hd with
  | non => cases (show u = Value.none from rv); exact PySem.P.repr_of_none ⟨.str _, H, I.tok _, ⟨_, rfl⟩, q⟩
  | bl b => cases (show u = Value.bool b from rv); exact PySem.P.repr_of_bool ⟨.str _, H, I.tok _, ⟨_, rfl⟩, by rw [PyData.shown] at q; exact q⟩
  | int i =>
    obtain ⟨t, rfl⟩ := (show ∃ t, u = Value.int i t from rv)
    have hs' : i.natAbs.log2 < 1920 := by rw [PyData.showable] at hs; exact of_decide_eq_true hs
    exact PySem.P.repr_of_int hs' ⟨.str _, H, I.tok _, ⟨_, rfl⟩, by rw [PyData.shown] at q; exact q⟩
  | str x =>
    obtain ⟨t, rfl⟩ := (show ∃ t, u = Value.str x t from rv)
    rw [PyData.shown] at q hsz'
    exact PySem.P.repr_of_str ⟨.str _, H, I.tok _, ⟨_, rfl⟩, q⟩ hsz'
  | @lst a xs ds hq hall =>
    cases (show u = Value.ref a from rv)
    obtain ⟨as, hr⟩ := Dp.reads I _ _ _ (.lst hq hall) rv
    refine repr_of_reads' hr hs (noDict_hsm' hnd) hgd (by omega) (fun b o e => e) (fun h' u tk hk => ⟨.str _, H, I.kept hk, ⟨_, rfl⟩, q⟩) hsz'
  | @tup a xs ds hq hall =>
    cases (show u = Value.ref a from rv)
    obtain ⟨as, hr⟩ := Dp.reads I _ _ _ (.tup hq hall) rv
    refine repr_of_reads' hr hs (noDict_hsm' hnd) hgd (by omega) (fun b o e => e) (fun h' u tk hk => ⟨.str _, H, I.kept hk, ⟨_, rfl⟩, q⟩) hsz'
where
  noDict_hsm' {d : PyData} {as : List Addr} (h : d.hasDict = false) : d.hasDict = true → sysModules ∉ as := fun h' => by rw [h] at h'; cases h'
def rRepr0 : List V → Hp → VK → Prop := fun xs H Q => ∃ a, xs = [.ref a] ∧ H a = some (.dK []) ∧ Q (.str "{}") H
theorem call_repr0 (hgd : X.A.guards = some []) (hu : X.A.units + 64 < cLine) : CallR X (.builtin "repr") rRepr0 := by
  intro pins s σ H xs us Q I r h
  obtain ⟨a, rfl, ha, q⟩ := h
  obtain ⟨u, rfl, rv⟩ : ∃ u, us = [u] ∧ RelV (V.ref a) u := by
    cases r with
    | cons h t => cases t; exact ⟨_, rfl, h⟩
  cases (show u = Value.ref a from rv)
  obtain ⟨_, hsm, vs, kv, o, es, ep, h1, h2, h3, h4, h5, h6⟩ := dk_of I.hok ha
  cases kv
  have he : es.toList = [] := by
    generalize es.toList = l at h5
    cases h5
    rfl
  have hr : Reads s.heap (.ref a) (.dict []) _ := .dict h1 h2.1 h3 (by rw [he]; exact .nil) (by rw [he]; exact .nil)
  refine repr_of_reads' hr rfl (fun _ hm => ?_) hgd (by show _ + (0 + 1 + 1) < _; omega) (fun b o e => e) (fun h' u tk hk => ⟨.str _, H, I.kept hk, ⟨_, rfl⟩, q⟩) (Nat.le_trans (by decide) line_ok)
  have : sysModules = a := by simpa using hm
  rw [← this] at hsm
  simp at hsm
theorem kc_repr (hgd : X.A.guards = some []) (hu : X.A.units + 64 < cLine) (hK : X.K = G.K := by rfl) : CallK X G (.builtin "repr") dRepr := by
  refine ⟨_, (call_repr0 hgd hu).or (call_reprD hgd hu), fun z H S xs ds d Q s n e0 q => ?_⟩
  have gen : ∀ (x : D), ds = [x] → (match toPy x with | some p => if pOk p then some (D.str p.shown) else none | none => none) = some d → rRepr0 xs H Q ∨ rReprD X.K xs H Q := fun x ed e => by
    subst ed
    cases n with
    | cons n1 n2 =>
      cases n2
      cases hp : toPy x with
      | none => rw [hp] at e; cases e
      | some p =>
        rw [hp] at e
        dsimp only at e
        split at e
        · rename_i ok
          cases e
          exact .inr ⟨_, p, rfl, hK ▸ dp_now n1 hp, ok, q _ _ (fun _ _ h => h) (by rw [Rep])⟩
        · cases e
  unfold dRepr at e0
  split at e0
  · cases e0
    cases n with
    | cons n1 n2 =>
      cases n2
      rcases n1 with h | ⟨o, xs', a, vs, ed, _⟩
      · rw [Rep] at h
        obtain ⟨a, ws, rfl, h1, _, _, h2⟩ := h
        rw [RepK] at h2
        subst h2
        exact .inl ⟨a, rfl, h1, q _ _ (fun _ _ h => h) (by rw [Rep])⟩
      · cases ed
  · rename_i x _
    exact gen x rfl e0
  · cases e0

/-! ### isinstance with built-in types -/
def tyOf : D → Option TyC
  | .non => some .none
  | .bl _ => some .bool
  | .int _ => some .int
  | .str _ => some .str
  | .tup _ => some .tuple
  | .lst _ _ => some .list
  | .dic _ => some .dict
  | _ => none
def subT : TyC → TyC → Option Bool
  | .bool, .int => some true
  | .int, .int => some true
  | .bool, .bool => some true
  | .str, .str => some true
  | .tuple, .tuple => some true
  | .list, .list => some true
  | .dict, .dict => some true
  | .none, .int => some false | .none, .bool => some false | .none, .str => some false | .none, .tuple => some false | .none, .list => some false | .none, .dict => some false
  | .bool, .str => some false | .bool, .tuple => some false | .bool, .list => some false | .bool, .dict => some false
  | .int, .bool => some false | .int, .str => some false | .int, .tuple => some false | .int, .list => some false | .int, .dict => some false
  | .str, .int => some false | .str, .bool => some false | .str, .tuple => some false | .str, .list => some false | .str, .dict => some false
  | .tuple, .int => some false | .tuple, .bool => some false | .tuple, .str => some false | .tuple, .list => some false | .tuple, .dict => some false
  | .list, .int => some false | .list, .bool => some false | .list, .str => some false | .list, .tuple => some false | .list, .dict => some false
  | .dict, .int => some false | .dict, .bool => some false | .dict, .str => some false | .dict, .tuple => some false | .dict, .list => some false
  | _, _ => none
def dIsi : OpL
  | [d, .ty c] => match tyOf d with
    | some t => (subT t c).map D.bl
    | none => none
  | _ => none
theorem subT_ok : ∀ (a b : TyC) (r : Bool), subT a b = some r → kitB a.nm b.nm = some r := by
  intro a b r h
  cases a <;> cases b <;> first | (cases h; done) | (cases h; decide +kernel)
theorem tyX_now {z : Z} {H : Hp} {d : D} {v : V} {t : TyC} (h : Now G z H d v) (e : tyOf d = some t) : TyX G.K H v (.type t.nm) := by
  rcases h with h | ⟨o, xs, a, vs, rfl, rfl, h1, h2⟩
  · cases d <;> first | (cases e; done) | skip
    · cases e; rw [Rep] at h; subst h; exact .base .non
    · cases e; rw [Rep] at h; subst h; exact .base (.bl _)
    · cases e; rw [Rep] at h; subst h; exact .base (.int _)
    · cases e; rw [Rep] at h; subst h; exact .base (.str _)
    · cases e
      rw [Rep] at h
      obtain ⟨a, vs, rfl, hs, _⟩ := h
      rcases hs with (hs | ⟨o, hs⟩) | ⟨o, its, n, hk, hc, _⟩
      · exact .base (.tup hs)
      · exact .fTuple hs
      · exact .kTuple hk hc
    · cases e
      rw [Rep] at h
      obtain ⟨a, vs, rfl, hs, _⟩ := h
      exact .base (.lst hs)
    · cases e
      rw [Rep] at h
      obtain ⟨a, vs, rfl, hs, _⟩ := h
      exact .base (.dK hs)
  · cases e
    exact .base (.lst h1)
theorem kc_isi (hK : X.K = G.K := by rfl) : CallK X G (.builtin "isinstance") dIsi := by
  refine ⟨_, call_isi, fun z H S xs ds d Q s n e q => ?_⟩
  unfold dIsi at e
  split at e
  · rename_i x c
    cases n with
    | cons n1 n2 =>
      cases n2 with
      | cons n2 n3 =>
        cases n3
        cases ht : tyOf x with
        | none => simp only [ht] at e; cases e
        | some t =>
          simp only [ht] at e
          cases hb : subT t c with
          | none => rw [hb] at e; cases e
          | some b =>
            rw [hb] at e
            cases e
            rcases n2 with h | ⟨o, xs', a, vs, ed, _⟩
            · rw [Rep] at h
              subst h
              exact ⟨_, _, _, _, b, rfl, .ty _, hK ▸ tyX_now n1 ht, kit_ty (subT_ok _ _ _ hb), q _ _ (fun _ _ h => h) (by rw [Rep])⟩
            · cases ed
  · cases e
/-- a built-in type as a value -/
theorem ke_ty (c : TyC) {x : Str} (hg : Gl X x := by rfl) (hm : X.mg x = none) (hv : bootBuiltins x = some (.type c.nm) := by decide +kernel) (hn : x ≠ "__name__" := by decide) (hd : (x == ("__debug__" : Str)) = false := by decide) : PE X (.Name x pos) (rdE G W (ret (.ty c))) :=
  pe_imp (pe_bltn hg hm hv (v := .ty c.nm) rfl hn hd) fun σ H Q ⟨z, env, S, s, he, h⟩ => rd_ret s h _ (by rw [Rep])

/-! ### a op b op c -/
def mChain (op op' : Op2) (ma mb mc : M D) : M D := bind ma fun x => bind mb fun y => fun env S => match op (vw S x) (vw S y) with
  | some (.bl true) => bind mc (fun w env S' => lift (op' (vw S' y) (vw S' w)) env S') env S
  | some (.bl false) => .ok (.bl false) S
  | _ => .bad
theorem rd_chain {o o' : CmpOp} {op op' : Op2} {a b c : Expr} {ma mb mc : M D} (ho : OpK X G (compareOp o) op) (ho' : OpK X G (compareOp o') op') :
    ∃ r r', OpR X (compareOp o) r ∧ OpR X (compareOp o') r' ∧ ∀ σ H Q, rdE G W (mChain op op' ma mb mc) σ H Q → tChain r r' (rdE G W ma) (rdE G W mb) (rdE G W mc) σ H Q := by
  obtain ⟨r, h1, h2⟩ := ho
  obtain ⟨r', h1', h2'⟩ := ho'
  refine ⟨r, r', h1, h1', fun σ H Q ⟨z, env, S, s, he, h⟩ => ?_⟩
  refine rdE_step s he h fun z1 H1 S1 x vx L1 s1 e1 r1 q1 => ?_
  refine rdE_step s1 e1 q1 fun z2 H2 S2 y vy L2' s2 e2 r2 q2 => ?_
  have n1 := now_vw s2 (r1.later L2' s1.mup)
  have n2 := now_vw s2 r2
  cases hx : op (vw S2 x) (vw S2 y) with
  | none => rw [hx] at q2; exact q2.elim
  | some d =>
    rw [hx] at q2
    cases d with
    | bl b =>
      refine h2 z2 H2 S2 _ _ _ _ _ _ s2 n1 n2 hx fun H3 v sm rv => ?_
      rw [Rep] at rv
      refine ⟨b, rv, ?_⟩
      have L3 : Later z2 H2 z2 H3 := later_same sm
      cases b with
      | false =>
        simp only [Bool.false_eq_true, if_false]
        exact q2 z2 H3 L3 (s2.same sm) _ (by rw [Rep])
      | true =>
        simp only [if_true]
        refine rdE_step (s2.same sm) (e2.later L3 s2.mup) (Out.mono L3 q2) fun z4 H4 S4 w vw' L4 s4 e4 r4 q4 => ?_
        obtain ⟨d, ed, q5⟩ := rd_lift s4 q4
        refine h2' z4 H4 S4 _ _ _ _ d Q s4 (now_vw s4 ((r2.later L3 s2.mup).later L4 (s2.same sm).mup)) (now_vw s4 r4) ed fun H' v sm' rv => ?_
        unfold lift at q4
        rw [ed] at q4
        exact q4 z4 H' (later_same sm') (s4.same sm') v rv
    | _ => exact q2.elim
theorem ke_chain {o o' : CmpOp} {op op' : Op2} {a b c : Expr} {ma mb mc : M D} (ho : OpK X G (compareOp o) op) (ho' : OpK X G (compareOp o') op') (ha : PE X a (rdE G W ma)) (hb : PE X b (rdE G W mb)) (hc : PE X c (rdE G W mc))
    (hm : lastMarks [o, o'] [b, c] = false := by with_unfolding_all rfl) : PE X (.Compare a [o, o'] [b, c] pos) (rdE G W (mChain op op' ma mb mc)) := by
  obtain ⟨r, r', h1, h2, h3⟩ := rd_chain (W := W) (a := a) (b := b) (c := c) (ma := ma) (mb := mb) (mc := mc) ho ho'
  exact pe_imp (pe_chain h1 h2 ha hb hc hm) h3
theorem kt_chain {o o' : CmpOp} {op op' : Op2} {a b c : Expr} {ma mb mc : M D} (ho : OpK X G (compareOp o) op) (ho' : OpK X G (compareOp o') op') (ha : PE X a (rdE G W ma)) (hb : PE X b (rdE G W mb)) (hc : PE X c (rdE G W mc))
    (hm : lastMarks [o, o'] [b, c] = false := by with_unfolding_all rfl) : PT X (.Compare a [o, o'] [b, c] pos) (rdT G W (mBl (mChain op op' ma mb mc))) := by
  obtain ⟨r, r', h1, h2, h3⟩ := rd_chain (W := W) (a := a) (b := b) (c := c) (ma := ma) (mb := mb) (mc := mc) ho ho'
  exact pt_imp (pt_chain h1 h2 ha hb hc hm) fun σ H Q h => h3 _ _ _ (rd_bl h)
end
end Ki

set_option Elab.async false
set_option linter.all false
set_option maxRecDepth 100000
namespace Ki
open PySem L2 PySem.Spec PyProof.Rows

section
variable {X : Cx} {G : Gm} {W : WX} {pos p p' : Pos} {e : Expr} {es : List Expr} {tg : Expr}
/-! ### raise -/
def sRaise1 (c : Nat) (f : Str) (m : M (List D)) : MS := thenS m fun ds env S => match ds with
  | [d] => .exc ⟨c, [(f, d)]⟩ env S
  | _ => .bad
def sRaise0 (c : Nat) : MS := fun env S => .exc ⟨c, []⟩ env S
theorem ks_never {st : Stmt} : PS X st (rdS G W fun _ _ => .bad) := ⟨fun pins s σ H E I ⟨z, env, S, _, _, h⟩ => h.elim⟩
theorem ke_never : PE X e (rdE G W fun _ _ => .bad) := ⟨fun pins s σ H Q I ⟨z, env, S, _, _, h⟩ => h.elim⟩
theorem ks_raise1 (c : Nat) {f : Str} {m : M (List D)} {B newId initId : String} {bmB : List Value} {x : Str} {C fI : Addr} {k : Nat} {fd : FuncData} {ps : List Str} (hC : G.cls c = C) (hc : X.calm = true) (tk : Takes X W) (BT : BaseT B newId initId bmB) (T : OexT X.K newId bmB C)
    (iC : PySem.W.findIn X.K (.ref C) "__init__" = some (some (.ref fI))) (tI : PySem.W.typeIn X.K (.ref fI) = some (.type "function")) (ht : PySem.W.takerIn X.K C f = some none)
    (F1 : FnOk X.prog X.w X.K X.mg X.base C8.CX0 k fI fd ps (spI X.K newId bmB f)) (hr : Room (k + 1) X.A) (hb : L2.Binds X.K fd ps []) (hm : X.mg x = some (.ref C)) (ha : PA X [e] (rdA G W m))
    (hg : Gl X x := by rfl) (hdb : (x == ("__debug__" : Str)) = false := by decide) (he : starEach [e] X.env = (false, eval e X.env) :: starEach [] X.env := by rfl) :
    PS X (.Raise (some (.Call (.Name x p) [e] [] p')) none pos) (rdS G W (sRaise1 c f m)) := by
  refine ps_imp (ps_raise hc tk (pmk_T BT T iC tI ht F1 hr hb hg hm ha hdb he)) fun E σ H ⟨z, env, S, s, hre, h⟩ => ?_
  refine rdA_thenS s hre h fun z1 H1 S1 ds vs L1 s1 e1 rl h1 => ?_
  split at h1
  · rename_i d
    obtain ⟨v, rfl, rv⟩ := repL1 rl
    refine ⟨v, rfl, fun dx hd => ?_⟩
    have L2' : Later z1 H1 z1 (upd H1 dx (.xd [(f, v)])) := later_same (same_new hd)
    refine h1 z1 _ σ _ _ L2' (s1.same (same_new hd)) (e1.later L2' s1.mup) ⟨by rw [hC], .inr ⟨dx, [(f, v)], rfl, upd_same, ?_⟩⟩
    rw [RepF]
    exact ⟨v, [], rfl, rv.later L2' s1.mup, by rw [RepF]⟩
  · exact h1.elim
theorem ks_raise0 (c : Nat) {m x : Str} {j : Nat} {p2 : Pos} {B newId initId : String} {bmB : List Value} {C : Addr} (hC : G.cls c = C) (hc : X.calm = true) (tk : Takes X W) (F : ExcBaseFacts B newId initId bmB) (q : PySem.W.excIn X.K C bmB newId = true) (hm : X.mg x = some (.ref C))
    (kC : PySem.W.keepIn X.K (.ref C) = true) (r1 : PySem.W.subIn X.K (.ref C) (.type "BaseException") = some true) (r2 : PySem.W.typeIn X.K (.ref C) = some (.type "type")) (hg : Gl X x := by rfl) (hdb : (x == ("__debug__" : Str)) = false := by decide) :
    PS X (.Raise (some (.Call (.Name x p) [.Constant (.str m) j p2] [] p')) none pos) (rdS G W (sRaise0 c)) := by
  refine ps_imp (ps_raise hc tk (pmk_own F q hm kC (raises_own r1 r2) hg hdb)) fun E σ H ⟨z, env, S, s, hre, h⟩ => ?_
  exact h z H σ _ _ .refl s hre ⟨by rw [hC], .inl rfl⟩

/-! ### more built-ins -/
def blsOf : List D → Option (List Bool)
  | [] => some []
  | .bl b :: ds => (blsOf ds).map (b :: ·)
  | _ => none
theorem blsOf_rep {z : Z} {H : Hp} : ∀ {ds : List D} {vs : List V} {bs : List Bool}, RepL G z H ds vs → blsOf ds = some bs → vs = bs.map V.bl
  | [], vs, bs, h, e => by rw [RepL] at h; rw [blsOf] at e; cases e; subst h; rfl
  | d :: ds, vs, bs, h, e => by
    rw [RepL] at h
    obtain ⟨w, ws, rfl, h1, h2⟩ := h
    cases d <;> first | (rw [blsOf] at e; first | (cases e; done) | skip) | skip
    all_goals first
      | (cases q : blsOf ds with
         | none => rw [q] at e; cases e
         | some cs =>
           rw [q] at e
           cases e
           rw [Rep] at h1
           subst h1
           rw [blsOf_rep h2 q]
           rfl)
      | (intros; simp_all)
def intsOf : List D → Option (List Int)
  | [] => some []
  | .int b :: ds => (intsOf ds).map (b :: ·)
  | _ => none
theorem intsOf_rep {z : Z} {H : Hp} : ∀ {ds : List D} {vs : List V} {bs : List Int}, RepL G z H ds vs → intsOf ds = some bs → vs = bs.map V.int
  | [], vs, bs, h, e => by rw [RepL] at h; rw [intsOf] at e; cases e; subst h; rfl
  | d :: ds, vs, bs, h, e => by
    rw [RepL] at h
    obtain ⟨w, ws, rfl, h1, h2⟩ := h
    cases d <;> first | (rw [intsOf] at e; first | (cases e; done) | skip) | skip
    all_goals first
      | (cases q : intsOf ds with
         | none => rw [q] at e; cases e
         | some cs =>
           rw [q] at e
           cases e
           rw [Rep] at h1
           subst h1
           rw [intsOf_rep h2 q]
           rfl)
      | (intros; simp_all)
theorem now_lst {z : Z} {H : Hp} {o : Bool} {xs : List D} {v : V} (h : Now G z H (.lst o xs) v) : ∃ a vs, v = .ref a ∧ H a = some (.lst vs) ∧ RepL G z H xs vs := by
  rcases h with h | ⟨o', xs', a, vs, e, rfl, h1, h2⟩
  · rw [Rep] at h
    obtain ⟨a, vs, rfl, h1, _, _, h2⟩ := h
    exact ⟨a, vs, rfl, h1, h2⟩
  · cases e
    exact ⟨a, vs, rfl, h1, h2⟩
def dAll : OpL
  | [.lst _ xs] => (blsOf xs).map fun bs => .bl (bs.all id)
  | _ => none
def dAny : OpL
  | [.lst _ xs] => (blsOf xs).map fun bs => .bl (bs.any id)
  | _ => none
def dSum : OpL
  | [.lst _ xs] => (intsOf xs).map fun bs => .int bs.sum
  | _ => none
theorem kc_all (hc : X.calm = true) (hK : X.K = G.K := by rfl) : CallK X G (.builtin "all") dAll := by
  refine ⟨_, cr_all hc, fun z H S xs ds d Q s n e q => ?_⟩
  unfold dAll at e
  split at e
  · rename_i o ys
    cases n with
    | cons n1 n2 =>
      cases n2
      cases h : blsOf ys with
      | none => rw [h] at e; cases e
      | some bs =>
        rw [h] at e
        cases e
        obtain ⟨a, vs, rfl, h1, h2⟩ := now_lst n1
        exact ⟨a, bs, rfl, blsOf_rep h2 h ▸ SqL.of h1, q _ _ (fun _ _ h => h) (by rw [Rep])⟩
  · cases e
theorem kc_any (hc : X.calm = true) (hK : X.K = G.K := by rfl) : CallK X G (.builtin "any") dAny := by
  refine ⟨_, cr_any hc, fun z H S xs ds d Q s n e q => ?_⟩
  unfold dAny at e
  split at e
  · rename_i o ys
    cases n with
    | cons n1 n2 =>
      cases n2
      cases h : blsOf ys with
      | none => rw [h] at e; cases e
      | some bs =>
        rw [h] at e
        cases e
        obtain ⟨a, vs, rfl, h1, h2⟩ := now_lst n1
        exact ⟨a, bs, rfl, blsOf_rep h2 h ▸ SqL.of h1, q _ _ (fun _ _ h => h) (by rw [Rep])⟩
  · cases e
theorem kc_sum (hc : X.calm = true) (hK : X.K = G.K := by rfl) : CallK X G (.builtin "sum") dSum := by
  refine ⟨_, cr_sum hc, fun z H S xs ds d Q s n e q => ?_⟩
  unfold dSum at e
  split at e
  · rename_i o ys
    cases n with
    | cons n1 n2 =>
      cases n2
      cases h : intsOf ys with
      | none => rw [h] at e; cases e
      | some bs =>
        rw [h] at e
        cases e
        obtain ⟨a, vs, rfl, h1, h2⟩ := now_lst n1
        exact ⟨a, bs, rfl, intsOf_rep h2 h ▸ SqL.of h1, q _ _ (fun _ _ h => h) (by rw [Rep])⟩
  · cases e
def dGcd : OpL
  | [.int a, .int b] => some (.int ((Nat.gcd a.natAbs b.natAbs : Nat) : Int))
  | _ => none
theorem kc_gcd : CallK X G (.builtin "math.gcd") dGcd := by
  refine ⟨_, cr_gcd, fun z H S xs ds d Q s n e q => ?_⟩
  unfold dGcd at e
  split at e
  · cases e
    cases n with
    | cons n1 n2 =>
      cases n2 with
      | cons n2 n3 =>
        cases n3
        rw [n1.int, n2.int]
        exact ⟨_, _, rfl, q _ _ (fun _ _ h => h) (by rw [Rep])⟩
  · cases e
def dIsqrt : OpL
  | [.int a] => if decide (0 ≤ a) && decide (a < 2 ^ 64) then some (.int ((Float64.isqrt a.toNat : Nat) : Int)) else none
  | _ => none
def rIsqrt : List V → Hp → VK → Prop := fun xs H Q => ∃ a : Int, xs = [.int a] ∧ 0 ≤ a ∧ a < 2 ^ 64 ∧ Q (.int ((Float64.isqrt a.toNat : Nat) : Int)) H
theorem cr_isqrt : CallR X (.builtin "math.isqrt") rIsqrt := by
  intro pins s σ H xs us Q I r h
  obtain ⟨a, rfl, h0, h1, q⟩ := h
  obtain ⟨u, rfl, t, rfl⟩ : ∃ u, us = [u] ∧ ∃ t, u = Value.int a t := by
    cases r with
    | cons h t => cases t; exact ⟨_, rfl, h⟩
  exact PySem.W.mg_isqrt h0 h1 ⟨.int _, H, I.tok _, ⟨_, rfl⟩, q⟩
theorem kc_isqrt : CallK X G (.builtin "math.isqrt") dIsqrt := by
  refine ⟨_, cr_isqrt, fun z H S xs ds d Q s n e q => ?_⟩
  unfold dIsqrt at e
  split at e
  · split at e
    · rename_i h
      have h' := Bool.and_eq_true_iff.mp h
      cases e
      cases n with
      | cons n1 n2 =>
        cases n2
        rw [n1.int]
        exact ⟨_, rfl, of_decide_eq_true h'.1, of_decide_eq_true h'.2, q _ _ (fun _ _ h => h) (by rw [Rep])⟩
    · cases e
  · cases e
def dComb : OpL
  | [.int a, .int b] => if decide (0 ≤ a) && decide (0 ≤ b) && (decide (a < 2 ^ 64) && decide (b ≤ 9000)) then some (.int (PySem.W.mcComb a b)) else none
  | _ => none
def rComb : List V → Hp → VK → Prop := fun xs H Q => ∃ a b : Int, xs = [.int a, .int b] ∧ 0 ≤ a ∧ 0 ≤ b ∧ a < 2 ^ 64 ∧ b ≤ 9000 ∧ Q (.int (PySem.W.mcComb a b)) H
theorem cr_comb : CallR X (.builtin "math.comb") rComb := by
  intro pins s σ H xs us Q I r h
  obtain ⟨a, b, rfl, h0, h1, h2, h3, q⟩ := h
  obtain ⟨u, v, rfl, ⟨t, rfl⟩, ⟨t', rfl⟩⟩ : ∃ u v, us = [u, v] ∧ (∃ t, u = Value.int a t) ∧ ∃ t, v = Value.int b t := by
    cases r with
    | cons h t =>
      cases t with
      | cons h' t' => cases t'; exact ⟨_, _, rfl, h, h'⟩
  exact PySem.W.mc_comb h0 h1 h2 (.inl h3) fun _ => ⟨.int _, H, I.tok _, ⟨_, rfl⟩, q⟩
theorem kc_comb : CallK X G (.builtin "math.comb") dComb := by
  refine ⟨_, cr_comb, fun z H S xs ds d Q s n e q => ?_⟩
  unfold dComb at e
  split at e
  · split at e
    · rename_i h
      have h' := Bool.and_eq_true_iff.mp h
      have ha := Bool.and_eq_true_iff.mp h'.1
      have hb := Bool.and_eq_true_iff.mp h'.2
      cases e
      cases n with
      | cons n1 n2 =>
        cases n2 with
        | cons n2 n3 =>
          cases n3
          rw [n1.int, n2.int]
          exact ⟨_, _, rfl, of_decide_eq_true ha.1, of_decide_eq_true ha.2, of_decide_eq_true hb.1, of_decide_eq_true hb.2, q _ _ (fun _ _ h => h) (by rw [Rep])⟩
    · cases e
  · cases e

/-! ### tuple(x), list(range(..)), {} -/
def dTup : D → Option D
  | .lst _ xs => some (.tup xs)
  | .tup xs => some (.tup xs)
  | _ => none
def mTupOf (m : M D) : M D := bind m fun d => fun env S => lift (dTup (vw S d)) env S
theorem ke_tupOf (hm : X.mg "tuple" = none) (ha : PE X e (rdE G W m)) (hg : Gl X "tuple" := by rfl) (hK : X.K = G.K := by rfl) (na : starEach [e] X.env = (false, eval e X.env) :: starEach [] X.env := by rfl) : PE X (.Call (.Name "tuple" p) [e] [] pos) (rdE G W (mTupOf m)) := by
  refine pe_imp (pe_tupleOf hg hm ha na) fun σ H Q ⟨z, env, S, s, he, h⟩ => ?_
  refine rdE_step s he h fun z1 H1 S1 d v L1 s1 e1 r1 q1 => ?_
  obtain ⟨y, ey, _⟩ := rd_lift s1 q1
  have n1 := now_vw s1 r1
  have q1' : Out G W σ z1 H1 (fun z' H' _ d => ∀ v, Rep G z' H' d v → Q v H') (lift (dTup (vw S1 d)) env S1) := q1
  unfold lift at q1'
  rw [ey] at q1'
  generalize hvd : vw S1 d = x at *
  unfold dTup at ey
  split at ey
  · cases ey
    obtain ⟨a, vs, rfl, h1, h2⟩ := now_lst n1
    refine .inl ⟨a, vs, rfl, SqL.of h1, fun q hq => ?_⟩
    exact q1' z1 _ (later_same (same_new hq)) (s1.same (same_new hq)) _ (rep_tup s1 hq h2)
  · cases ey
    obtain ⟨a, vs, rfl, h1, h2⟩ := n1.tup
    refine .inr ⟨a, vs, rfl, hK ▸ h1, ?_⟩
    exact q1' z1 _ .refl s1 _ (by rw [Rep]; exact ⟨a, vs, rfl, h1, h2⟩)
  · cases ey
theorem ke_dic0 : PE X (.Dict [] [] pos) (rdE G W (ret (.dic []))) := by
  refine pe_imp pe_dnewK fun σ H Q ⟨z, env, S, s, he, h⟩ => fun p hp => ?_
  have f := s.fresh hp
  refine h z _ (later_same (same_new hp)) (s.same (same_new hp)) _ ?_
  rw [Rep]
  exact ⟨p, [], rfl, upd_same, fun q => f.1 (.inl q), f.2, by rw [RepK]⟩
def mLstRg (m : M (List D)) : M D := bind m fun ds => match ds with
  | [.int j] => if decide (-(2 ^ 62) ≤ j) && decide (j ≤ 2 ^ 24) then ret (.lst true (rgD 0 j.toNat)) else fun _ _ => .bad
  | [.int i, .int j] => if decide (-(2 ^ 62) ≤ i) && decide (i < 2 ^ 62) && (decide (-(2 ^ 62) ≤ j) && decide (j < 2 ^ 62)) && decide ((j - i).toNat ≤ 2 ^ 24) then ret (.lst true (rgD i (j - i).toNat)) else fun _ _ => .bad
  | _ => fun _ _ => .bad
theorem repL_rg {z : Z} {H : Hp} (a : Int) : ∀ n k, RepL G z H ((List.range' k n).map fun (i : Nat) => D.int (a + i)) ((List.range' k n).map fun i => V.int (a + (i : Nat)))
  | 0, k => by rw [List.range'_zero, List.map_nil, List.map_nil, RepL]
  | n + 1, k => by
    rw [List.range'_succ, List.map_cons, List.map_cons, RepL]
    exact ⟨_, _, rfl, by rw [Rep], repL_rg a n (k + 1)⟩
theorem repL_rgV {z : Z} {H : Hp} (a b : Int) : RepL G z H (rgD a (b - a).toNat) (rgV a b) := by
  unfold rgD rgV
  rw [List.range_eq_range']
  exact repL_rg a _ 0
theorem ke_lstRg1 {a : Expr} {m : M D} {p1 p2 : Pos} (hc : X.calm = true) (hm : X.mg "list" = none) (hm2 : X.mg "range" = none) (ha : PE X a (rdE G W m)) (hg : Gl X "list" := by rfl) (hg2 : Gl X "range" := by rfl) (na : starEach [a] X.env = (false, eval a X.env) :: starEach [] X.env := by rfl)
    (na2 : starEach [.Call (.Name "range" p1) [a] [] p2] X.env = (false, eval (.Call (.Name "range" p1) [a] [] p2) X.env) :: starEach [] X.env := by rfl) :
    PE X (.Call (.Name "list" p) [.Call (.Name "range" p1) [a] [] p2] [] pos) (rdE G W (mLstRg (aCons m aNil))) := by
  refine pe_imp (pe_listRg hc hg hm (prg_1 hg2 hm2 ha na) na2) fun σ H Q ⟨z, env, S, s, he, h⟩ => ?_
  have h' : Out G W σ z H (fun z' H' _ d => ∀ v, Rep G z' H' d v → Q v H') (bind m (fun d => mLstRg (ret [d])) env S) := by
    have e : mLstRg (aCons m aNil) env S = bind m (fun d => mLstRg (ret [d])) env S := by
      unfold mLstRg aCons aNil bind ret
      cases m env S <;> rfl
    rw [← e]
    exact h
  refine rdE_step s he h' fun z1 H1 S1 d v L1 s1 e1 r1 q1 => ?_
  cases d with
  | int j =>
    rw [Rep] at r1
    have q2 : Out G W σ z1 H1 (fun z' H' _ d => ∀ v, Rep G z' H' d v → Q v H') ((if decide (-(2 ^ 62) ≤ j) && decide (j ≤ 2 ^ 24) then ret (.lst true (rgD 0 j.toNat)) else fun _ _ => .bad) env S1) := q1
    split at q2
    · rename_i hj
      have hj' := Bool.and_eq_true_iff.mp hj
      have h1 := of_decide_eq_true hj'.1
      have h2 := of_decide_eq_true hj'.2
      refine ⟨j, r1, ⟨by omega, by omega, h1, by omega, by omega⟩, fun q hq => ?_⟩
      refine q2 z1 _ (later_same (same_new hq)) (s1.same (same_new hq)) _ (rep_lst s1 hq ?_)
      have := repL_rgV (G := G) (z := z1) (H := H1) 0 j
      rw [Int.sub_zero] at this
      exact this
    · exact q2.elim
  | _ => exact q1.elim

/-! ### reversed -/
def mRev (m : M D) : M (List D) := bind m fun d => lift ((items d).map List.reverse)
/-- what lies behind what is walked -/
theorem seq_of {z : Z} {H : Hp} {d : D} {ds : List D} {a : Addr} (hK : X.K = G.K) (e : items d = some ds) (r : Rep G z H d (.ref a)) :
    (isT d = false → ∃ vs, SqL X.K H a vs ∧ RepL G z H ds vs) ∧ (isT d = true → ∃ vs, SqT X.K H a vs ∧ RepL G z H ds vs) := by
  cases d <;> first | (cases e; done) | skip
  · cases e
    rw [Rep] at r
    obtain ⟨b, vs, ev, h1, h2⟩ := r
    cases ev
    exact ⟨fun q => (Bool.noConfusion q), fun _ => ⟨vs, hK ▸ h1, h2⟩⟩
  · cases e
    rw [Rep] at r
    obtain ⟨b, vs, ev, h1, _, _, h2⟩ := r
    cases ev
    exact ⟨fun _ => ⟨vs, SqL.of h1, h2⟩, fun q => (Bool.noConfusion q)⟩
  · rename_i ns
    cases e
    rw [Rep] at r
    obtain ⟨b, ev, h1⟩ := r
    cases ev
    refine ⟨fun _ => ⟨_, hK ▸ h1.l, ?_⟩, fun q => (Bool.noConfusion q)⟩
    clear h1
    induction ns with
    | nil => rw [List.map_nil, List.map_nil, RepL]
    | cons n ns ih =>
      rw [List.map_cons, List.map_cons, RepL]
      exact ⟨_, _, rfl, by rw [Rep], ih rfl⟩
theorem ik_rev {m : M D} (hm : X.mg "reversed" = none) (ha : PE X e (rdE G W m)) (hg : Gl X "reversed" := by rfl) (hs : starEach [e] X.env = (false, eval e X.env) :: starEach [] X.env := by rfl) (hK : X.K = G.K := by rfl) :
    PIk X G W tg (.Call (.Name "reversed" p) [e] [] pos) (mRev m) := by
  refine ⟨⟨_, RT.pi_revA hg hm ha hs, fun z H S σ env R s r h => ?_⟩⟩
  refine rdE_bind s r h fun z1 H1 S1 d v L s1 r1 rv h1 => ?_
  obtain ⟨dr, e0, q⟩ := rd_lift s1 h1
  cases e : items d with
  | none => rw [e] at e0; cases e0
  | some ds =>
    rw [e] at e0
    cases e0
    obtain ⟨a, rfl⟩ := rep_ref e rv
    have at_ : ∀ {vs : List V} {z2 : Z} {H2 : Hp} {i : Nat} {d' : D}, RepL G z2 H2 ds vs → ds.reverse[i]? = some d' → i < vs.length ∧ ∃ x, vs[vs.length - 1 - i]? = some x ∧ Rep G z2 H2 d' x := fun {vs z2 H2 i d'} rl hd => by
      have ln := rl.len
      have hi : i < ds.length := by
        have := (List.getElem?_eq_some_iff.mp hd).1
        rw [List.length_reverse] at this
        exact this
      rw [List.getElem?_reverse hi] at hd
      obtain ⟨x, q1, q2⟩ := rl.at_ hd
      exact ⟨by omega, x, by rw [ln]; exact q1, q2⟩
    cases hb : isT d with
    | false =>
      obtain ⟨vs, h2, rl⟩ := (seq_of (X := X) hK e rv).1 hb
      refine ⟨a, vs, rfl, .inl ⟨h2, q _ fun z2 H2 S2 L2' s2 => ⟨fun i hi => ?_, fun i d' hd => ?_⟩⟩⟩
      · have hi' : ds.length ≤ i := by rw [List.length_reverse] at hi; exact hi
        show vs.length ≤ i
        rw [rl.len]; exact hi'
      · obtain ⟨vs2, h3, rl2⟩ := (seq_of (X := X) hK e (L2' _ _ rv)).1 hb
        obtain ⟨hi, x, q1, q2⟩ := at_ rl2 hd
        have ll : vs2.length = vs.length := by rw [rl2.len, rl.len]
        rw [ll] at hi q1
        exact ⟨⟨hi, vs2, x, h3, q1⟩, fun y H' hy => wk_of ⟨hy.1, by
          have := hy.2 vs2 h3
          rw [q1] at this
          cases this
          exact q2⟩⟩
    | true =>
      obtain ⟨vs, h2, rl⟩ := (seq_of (X := X) hK e rv).2 hb
      refine ⟨a, vs, rfl, .inr ⟨h2, q _ fun z2 H2 S2 L2' s2 => ⟨fun i hi => ?_, fun i d' hd => ?_⟩⟩⟩
      · have hi' : ds.length ≤ i := by rw [List.length_reverse] at hi; exact hi
        show vs.length ≤ i
        rw [rl.len]; exact hi'
      · obtain ⟨vs2, h3, rl2⟩ := (seq_of (X := X) hK e (L2' _ _ rv)).2 hb
        obtain ⟨hi, x, q1, q2⟩ := at_ rl2 hd
        have ll : vs2.length = vs.length := by rw [rl2.len, rl.len]
        rw [ll] at hi q1
        exact ⟨⟨hi, vs2, x, h3, q1⟩, fun y H' hy => wk_of ⟨hy.1, by
          have := hy.2 vs2 h3
          rw [q1] at this
          cases this
          exact q2⟩⟩

/-! ### tuple * int -/
def dRepT : Op2
  | .tup xs, .int k => if (!xs.isEmpty && decide (2 ≤ k) && (decide (k ≤ 1000) && decide (xs.length ≤ 1000))) then some (.tup (List.replicate k.toNat xs).flatten) else none
  | _, _ => none
end
end Ki

set_option Elab.async false
set_option linter.all false
set_option maxRecDepth 100000
namespace Ki
open PySem L2 PySem.Spec PyProof.Rows

/-! ### what an except suite answers: of the exception's fields -/
abbrev Mx := List (Str × D) → Option D
/-- where the exception is, and what it keeps -/
structure YAt (G : Gm) (a : Addr) (cls : Value) (d : Option Addr) (C : Addr) (o : Option Nat) (z : Z) (σ : L2.St) (H : Hp) (S : Sto) (fs : List (Str × D)) : Prop where
  st : Stands G z H S
  slot : ∀ i, o = some i → cls = .ref C ∧ σ[i]? = some (some (.ref a))
  dic : fs = [] ∨ ∃ dd ws, d = some dd ∧ H dd = some (.xd ws) ∧ RepF G z H fs ws
theorem YAt.same {G : Gm} {a : Addr} {cls : Value} {d : Option Addr} {C : Addr} {o : Option Nat} {z : Z} {σ : L2.St} {H H' : Hp} {S : Sto} {fs : List (Str × D)} (y : YAt G a cls d C o z σ H S fs) (h : L2.Same H H') : YAt G a cls d C o z σ H' S fs :=
  ⟨y.st.same h, y.slot, y.dic.elim .inl fun ⟨dd, ws, e, hd, r⟩ => .inr ⟨dd, ws, e, h _ _ hd, RepF.later (later_same h) y.st.mup _ _ r⟩⟩
def rdY (G : Gm) (a : Addr) (cls : Value) (d : Option Addr) (C : Addr) (o : Option Nat) (mx : Mx) : TE := fun σ H Q => ∃ z S fs y, YAt G a cls d C o z σ H S fs ∧ mx fs = some y ∧ ∀ H' v, L2.Same H H' → Rep G z H' y v → Q v H'
def rdYA (G : Gm) (a : Addr) (cls : Value) (d : Option Addr) (C : Addr) (o : Option Nat) (mx : List (Str × D) → Option (List D)) : TA := fun σ H Q => ∃ z S fs ys, YAt G a cls d C o z σ H S fs ∧ mx fs = some ys ∧ ∀ H' vs, L2.Same H H' → RepL G z H' ys vs → Q vs H'
theorem same_trans {H H1 H2 : Hp} (a : L2.Same H H1) (b : L2.Same H1 H2) : L2.Same H H2 := fun x o e => b x o (a x o e)
def xStr (x : Str) : Mx := fun _ => some (.str x)
def xFld (f : Str) : Mx := fun fs => fs.lookup f
def xBlt (op : OpL) (m : List (Str × D) → Option (List D)) : Mx := fun fs => (m fs).bind op
def xOp (op : Op2) (m k : Mx) : Mx := fun fs => (m fs).bind fun x => (k fs).bind fun y => op x y
def xNil : List (Str × D) → Option (List D) := fun _ => some []
def xCons (m : Mx) (k : List (Str × D) → Option (List D)) : List (Str × D) → Option (List D) := fun fs => (m fs).bind fun x => (k fs).bind fun xs => some (x :: xs)
def xTup (m : List (Str × D) → Option (List D)) : Mx := fun fs => (m fs).bind fun xs => if xs.length ≤ 100000 then some (.tup xs) else none
section
variable {Y : Cx} {G : Gm} {a : Addr} {cls : Value} {d : Option Addr} {C : Addr} {o : Option Nat} {pos p : Pos} {e : Expr} {es : List Expr} {mx mk : Mx} {ms : List (Str × D) → Option (List D)}
theorem ky_str {x : Str} {j : Nat} : PE Y (.Constant (.str x) j pos) (rdY G a cls d C o (xStr x)) := pe_imp pe_str fun σ H Q ⟨z, S, fs, y, ya, e, q⟩ => by
  cases e
  exact q H (.str x) (fun _ _ h => h) (by rw [Rep])
theorem ky_nil : PA Y [] (rdYA G a cls d C o xNil) := pa_imp pa_nil fun σ H Q ⟨z, S, fs, ys, ya, e, q⟩ => by
  cases e
  exact q H [] (fun _ _ h => h) (by rw [RepL])
theorem ky_cons (h : PE Y e (rdY G a cls d C o mx)) (hr : PA Y es (rdYA G a cls d C o ms)) (hs : starEach (e :: es) Y.env = (false, eval e Y.env) :: starEach es Y.env := by rfl) : PA Y (e :: es) (rdYA G a cls d C o (xCons mx ms)) := by
  refine pa_imp (pa_cons h hr hs) fun σ H Q ⟨z, S, fs, ys, ya, e, q⟩ => ?_
  unfold xCons at e
  cases e1 : mx fs with
  | none => rw [e1] at e; cases e
  | some x =>
    cases e2 : ms fs with
    | none => rw [e1, e2] at e; cases e
    | some xs =>
      rw [e1, e2] at e
      cases e
      refine ⟨z, S, fs, x, ya, e1, fun H1 v s1 r1 => ⟨z, S, fs, xs, ya.same s1, e2, fun H2 vs s2 r2 => q H2 (v :: vs) (same_trans s1 s2) ?_⟩⟩
      rw [RepL]
      exact ⟨v, vs, rfl, r1.later (later_same s2) (ya.same s1).st.mup, r2⟩
theorem ky_tup {j : Nat} (h : PA Y es (rdYA G a cls d C o ms)) : PE Y (.Tuple es j pos) (rdY G a cls d C o (xTup ms)) := by
  refine pe_imp (pe_tup h) fun σ H Q ⟨z, S, fs, y, ya, e, q⟩ => ?_
  unfold xTup at e
  cases e1 : ms fs with
  | none => rw [e1] at e; cases e
  | some xs =>
    rw [e1] at e
    have e : (if xs.length ≤ 100000 then some (D.tup xs) else none) = some y := e
    split at e
    · rename_i hl
      cases e
      refine ⟨z, S, fs, xs, ya, e1, fun H1 vs s1 r1 => ⟨by rw [r1.len]; exact Nat.le_trans hl line_ok, fun q' hq => ?_⟩⟩
      exact q _ _ (same_trans s1 (same_new hq)) (rep_tup (ya.same s1).st hq r1)
    · cases e
theorem vw_nor {S : Sto} {d : D} (h : ∀ n, d ≠ .ref n) : vw S d = d := by
  cases d <;> first | rfl | exact absurd rfl (h _)
/-- without references to the store -/
def noRef : D → Bool
  | .ref _ => false
  | _ => true
theorem now_y {z : Z} {H : Hp} {d : D} {v : V} (h : Rep G z H d v) : Now G z H d v := .inl h
theorem nowsR {z : Z} {H : Hp} : ∀ {xs : List D} {vs : List V}, RepL G z H xs vs → Paired (Now G z H) xs vs
  | [], vs, h => by rw [RepL] at h; subst h; exact .nil
  | d :: ds, vs, h => by
    rw [RepL] at h
    obtain ⟨w, ws, e, h1, h2⟩ := h
    subst e
    exact .cons (.inl h1) (nowsR h2)
theorem ky_blt {op : OpL} {x : Str} {id : String} (hc : CallK Y G (.builtin id) op) (hm : Y.mg x = none) (ha : PA Y (e :: es) (rdYA G a cls d C o ms)) (hg : Gl Y x := by rfl) (hv : bootBuiltins x = some (.builtin id) := by decide +kernel) (hn : x ≠ "__name__" := by decide) (hdb : (x == ("__debug__" : Str)) = false := by decide)
    (he : starEach (e :: es) Y.env = (false, eval e Y.env) :: starEach es Y.env := by rfl) (hpl : (backTo pos (starEach es Y.env)).any (·.1) = false := by rfl) : PE Y (.Call (.Name x p) (e :: es) [] pos) (rdY G a cls d C o (xBlt op ms)) := by
  obtain ⟨r, h1, h2⟩ := hc
  refine pe_imp (pe_callB h1 hg hm hv ha hn hdb he hpl) fun σ H Q ⟨z, S, fs, y, ya, e, q⟩ => ?_
  unfold xBlt at e
  cases e1 : ms fs with
  | none => rw [e1] at e; cases e
  | some xs =>
    rw [e1] at e
    have e : op xs = some y := e
    refine ⟨z, S, fs, xs, ya, e1, fun H1 vs s1 r1 => h2 z H1 S vs xs y Q (ya.same s1).st ?_ e fun H' v s2 rv => q H' v (same_trans s1 s2) rv⟩
    exact nowsR r1
theorem ky_op {op : Operator} {f : Op2} {b : Expr} (ho : OpK Y G (binaryOp op) f) (ha : PE Y e (rdY G a cls d C o mx)) (hb : PE Y b (rdY G a cls d C o mk)) : PE Y (.BinOp e op b pos) (rdY G a cls d C o (xOp f mx mk)) := by
  obtain ⟨r, h1, h2⟩ := ho
  refine pe_imp (pe_op h1 ha hb) fun σ H Q ⟨z, S, fs, y, ya, e, q⟩ => ?_
  unfold xOp at e
  cases e1 : mx fs with
  | none => rw [e1] at e; cases e
  | some x1 =>
    cases e2 : mk fs with
    | none => rw [e1, e2] at e; cases e
    | some x2 =>
      rw [e1, e2] at e
      have e : f x1 x2 = some y := e
      refine ⟨z, S, fs, x1, ya, e1, fun H1 v s1 r1 => ⟨z, S, fs, x2, ya.same s1, e2, fun H2 w s2 r2 => ?_⟩⟩
      exact h2 z H2 S v w x1 x2 y Q ((ya.same s1).same s2).st (.inl (r1.later (later_same s2) (ya.same s1).st.mup)) (.inl r2) e fun H' u s3 ru => q H' u (same_trans s1 (same_trans s2 s3)) ru
end
section
variable {X : Cx} {G : Gm} {a C : Addr} {oe : Obj} {cls : Value} {d : Option Addr} {pn : List (Addr × Obj)} {pos np : Pos} {n f : Str}
theorem lookup_repF {z : Z} {H : Hp} {f : Str} : ∀ {fs : List (Str × D)} {ws : List (Str × V)} {y : D}, RepF G z H fs ws → fs.lookup f = some y → ∃ v, ws.lookup f = some v ∧ Rep G z H y v
  | [], ws, y, h, e => by cases e
  | (k, x) :: fs, ws, y, h, e => by
    rw [RepF] at h
    obtain ⟨w, ws', rfl, h1, h2⟩ := h
    rw [List.lookup_cons] at e ⊢
    cases hb : f == k with
    | true =>
      rw [hb] at e
      cases e
      exact ⟨w, rfl, h1⟩
    | false =>
      rw [hb] at e
      exact lookup_repF h2 e
/-- error.f -/
theorem ky_xf (i : Nat) (T : XfC X.K C) (hno : PySem.W.findIn X.K (.ref C) f = some none) (hz : Zc cls d oe) (hf : ∃ vs, oe.data = .fields vs) (hN : X.N[i]? = some n := by rfl) (hv : Vis X.env.scope n := by first | exact Or.inl rfl | exact Or.inr (Or.inl rfl) | exact Or.inr (Or.inr rfl))
    (hd : (n == ("__debug__" : Str)) = false := by decide) (hcd : (n == ("__classdict__" : Str)) = false := by decide) (hb : attributeBase (.Name n np) f X.env (eval (.Name n np) X.env) = eval (.Name n np) X.env := by rfl) :
    PE (X.suite a ((a, oe) :: pn)) (.Attribute (.Name n np) f pos) (rdY G a cls d C (some i) (xFld f)) := by
  refine pe_imp (pe_xf T hno hz hf (pe_var (X := X.suite a ((a, oe) :: pn)) (i := i) hN hv hd hcd) hb) fun σ H Q ⟨z, S, fs, y, ya, e, q⟩ => ?_
  obtain ⟨ec, es⟩ := ya.slot i rfl
  rcases ya.dic with h | ⟨dd, ws, ed, hd', rf⟩
  · subst h; cases e
  · obtain ⟨v, e1, rv⟩ := lookup_repF rf e
    exact ⟨.ref a, es, rfl, ec, dd, ws, v, ed, hd', e1, q H v (fun _ _ h => h) rv⟩
end
end Ki

set_option Elab.async false
set_option linter.all false
set_option maxRecDepth 100000
set_option maxHeartbeats 1000000
namespace Ki
open PySem L2 PySem.Spec PyProof.Rows

/-! ### words: what a call that is handed over comes to -/
abbrev Cls3 := List (Nat × Option Nat × Mx)
/-- the clause that takes it -/
def pick (sb : Nat → Nat → Option Bool) : Cls3 → Xc → Option D
  | [], _ => none
  | (j, o, mx) :: r, x => match sb x.c j with
    | some true => match o with
      | none => mx x.fs
      | some _ => if x.c = j then mx x.fs else none
    | some false => pick sb r x
    | none => none
def mWord (sb : Nat → Nat → Option Bool) (l : Cls3) (xf : Mx) (m : M D) : M D := fun env S => match m env S with
  | .ok _ S1 => match xf [] with
    | some y => .ok y S1
    | none => .bad
  | .exc x S1 => match pick sb l x with
    | some y => .ok y S1
    | none => .bad
  | .bad => .bad
def wOf (K : PySem.W.Frag) (G : Gm) : Cls3 → Ends → WX
  | [] => fun _ => W0
  | (j, none, mx) :: r => wCl K (.ref (G.cls j)) (fun a cls d => fun D σ H => rdY G a cls d (G.cls j) none mx σ H D.rt) (wOf K G r)
  | (j, some i, mx) :: r => wClAs K (.ref (G.cls j)) i (fun a cls d => fun D σ H => rdY G a cls d (G.cls j) (some i) mx σ H D.rt) (wOf K G r)
def SbOk (G : Gm) (sb : Nat → Nat → Option Bool) : Prop := ∀ c j b, sb c j = some b → PySem.W.exmOne G.K (.ref (G.cls c)) (.ref (G.cls j)) = some b
/-- slots below n -/
def slotsB (n : Nat) : Cls3 → Bool
  | [] => true
  | (_, none, _) :: r => slotsB n r
  | (_, some i, _) :: r => decide (i < n) && slotsB n r
theorem pick_w {K : PySem.W.Frag} {G : Gm} (hK : K = G.K) {sb : Nat → Nat → Option Bool} (hsb : SbOk G sb) {z : Z} {H : Hp} {S : Sto} {x : Xc} {cls : Value} {d : Option Addr} {σ : L2.St} {En : Ends} {y : D} (st : Stands G z H S) (hx : RepX G z H x cls d)
    (hq : ∀ H' v, L2.Same H H' → Rep G z H' y v → En.rt v H') : ∀ {l : Cls3}, pick sb l x = some y → slotsB σ.length l = true → wOf K G l En cls d σ H
  | [], e, _ => by rw [pick] at e; cases e
  | (j, none, mx) :: r, e, hs => by
    obtain ⟨ec, hd⟩ := hx
    rw [pick] at e
    cases hb : sb x.c j with
    | none => rw [hb] at e; cases e
    | some b =>
      rw [hb] at e
      refine ⟨b, by rw [ec, hK]; exact hsb _ _ _ hb, ?_⟩
      cases b with
      | true => exact fun a na => ⟨z, S, x.fs, y, ⟨st, fun i hi => (nomatch hi), hd⟩, e, hq⟩
      | false => exact pick_w hK hsb st ⟨ec, hd⟩ hq e hs
  | (j, some i, mx) :: r, e, hs => by
    obtain ⟨ec, hd⟩ := hx
    rw [pick] at e
    obtain ⟨hi, hs'⟩ := Bool.and_eq_true_iff.mp (show (decide (i < σ.length) && slotsB σ.length r) = true from hs)
    cases hb : sb x.c j with
    | none => rw [hb] at e; cases e
    | some b =>
      rw [hb] at e
      refine ⟨b, by rw [ec, hK]; exact hsb _ _ _ hb, ?_⟩
      cases b with
      | true =>
        dsimp only at e
        split at e
        · rename_i ej
          refine fun a na => ⟨z, S, x.fs, y, ⟨st, fun i' hi' => ?_, hd⟩, e, hq⟩
          cases hi'
          exact ⟨by rw [ec, ej], List.getElem?_set_self (of_decide_eq_true hi)⟩
        · cases e
      | false => exact pick_w hK hsb st ⟨ec, hd⟩ hq e hs'

/-- a constant's reading: no place is looked at -/
def rdZ (G : Gm) (xf : Mx) : TE := fun _ H Q => rdY G 0 .none none 0 none xf [] H Q
theorem rdZ_of {Y : Cx} {G : Gm} {e : Expr} {xf : Mx} (h : PE Y e (rdY G 0 .none none 0 none xf)) : PE Y e (rdZ G xf) :=
  pe_imp h fun σ H Q ⟨z, S, fs, y, ya, e, q⟩ => ⟨z, S, fs, y, ⟨ya.st, fun i hi => (nomatch hi), ya.dic⟩, e, q⟩
/-- what the def makes of the reading of what it calls -/
def TTw (G : Gm) (sb : Nat → Nat → Option Bool) (l : Cls3) (xf : Mx) : (XK → Hp → VK → Prop) → Hp → VK → Prop := fun tl H Q =>
  tl (fun cls d H' => ∃ z S x y, Stands G z H' S ∧ RepX G z H' x cls d ∧ pick sb l x = some y ∧ ∀ H2 v, L2.Same H' H2 → Rep G z H2 y v → Q v H2) H (fun _ H' => rdY G 0 .none none 0 none xf [] H' Q)
section
variable {X : Cx} {G : Gm} {sb : Nat → Nat → Option Bool} {l : Cls3} {xf : Mx}
theorem takes_len {Y : Cx} {W : WX} (t : Takes Y W) : Takes Y fun cls d σ H => σ.length = Y.N.length → W cls d σ H := fun u s' ⟨a, B, sI, pins, σ, H, cls, d, e, I, nb, up, sky, na, os, ag, w⟩ =>
  t u s' ⟨a, B, sI, pins, σ, H, cls, d, e, I, nb, up, sky, na, os, ag, w I.len⟩
/-- try: a() / except ..: return .. / return e -/
theorem word_gives (hK : X.K = G.K) (hsb : SbOk G sb) {Ng : List Str} {x a q : Str} {sg : Scope} {g : Addr} {cdg : Value} {h₀ : ExceptHandler} {hds : List ExceptHandler} {ef : Expr} {p1 p2 p3 p4 p5 : Pos}
    (hh : ∀ (s : Shared) (H : Hp), Hds (cxOf C8.CX0 X.prog X.w X.K X.mg X.base Ng x sg g cdg X.A X.stack s H C8.E0).nox (h₀ :: hds) (wOf X.K G l))
    (hf : ∀ (s : Shared) (H : Hp), PE (cxOf C8.CX0 X.prog X.w X.K X.mg X.base Ng x sg g cdg X.A X.stack s H C8.E0).nox ef (rdY G 0 .none none 0 none xf)) (hsl : slotsB Ng.length l = true)
    (h0 : ∀ f : Addr, (L2.start Ng [V.ref f])[0]? = some (some (V.ref f)))
    (hsw : ∀ (env : Env), swapsWith (.Call (.Name a p1) [] [] p2) none p3.line env = pure false := by intro _; rfl) :
    LamX.GivesTo X Ng x sg g cdg [.Try [.Expr (.Call (.Name a p1) [] [] p2) p3] (h₀ :: hds) [] [] p4, .Return (some ef) p5] a q (TTw G sb l xf) := by
  intro f c' s H Q tl act hc h
  let tb : WX → TS := fun W D σ H => ∃ Ec : XK, (∀ cls d σ' H', Ec cls d H' → σ'.length = Ng.length → W cls d σ' H') ∧ σ[0]? = some (some (.ref f)) ∧ H c' = some (LamX.CodeO c' q) ∧ tl Ec H (fun _ H' => D.nx σ H')
  refine ⟨_, pss_cons (ps_tryH (X := (cxOf C8.CX0 X.prog X.w X.K X.mg X.base Ng x sg g cdg X.A X.stack s H C8.E0).nox) (tb := tb) rfl rfl (hh s H) fun W pn xe tk _ => ?_) (pss_one (ps_ret (rdZ_of (hf s H)))), ?_⟩
  · refine ⟨fun pins s' σ H' D I h' => ?_⟩
    obtain ⟨Ec, hW, h1, h2, h3⟩ := h'
    have tk2 := takes_len tk
    have hp := act _ pn xe Ec p1 p2 tk2 (fun cls d σ' H' e hl => hW cls d σ' H' e hl)
    have hq := pss_one (ps_expr (pos := p3) hp (hsw _))
    exact hq.run pins s' σ H' D I ⟨h1, h2, h3⟩
  · refine ⟨_, fun cls d σ' H' ⟨z, S, x, y, st, hx, hp, hq⟩ hl => ?_, h0 f, hc, h⟩
    exact pick_w hK hsb st hx hq hp (by rw [hl]; exact hsl)
end

theorem later_tab {G : Gm} {z : Z} {H H1 : Hp} (e : LamX.ExtN H H1) : Later z H z H1 :=
  ⟨fun a o h _ t => e a o h t, ⟨[], (List.append_nil _).symm⟩, fun _ h => .inl h, fun _ h => .inl h, fun _ h => h, fun _ h => h, fun a ⟨o, h, t⟩ => ⟨o, e a o h t, t⟩, fun _ h => .inl h, fun _ h => h⟩
theorem Stands.tab1 {G : Gm} {z : Z} {H H1 : Hp} {S : Sto} (s : Stands G z H S) (e : LamX.ExtN H H1) (T : LamX.Tabs G.tab H1) : Stands G z H1 S := by
  have L : Later z H z H1 := later_tab (G := G) e
  have eq : ∀ a, z.phi a → H1 a = H a := fun a ha => by
    have m := s.mu a ha
    obtain ⟨u, eu⟩ := mut_some m
    rw [eu, e a u eu fun ps q => by rw [eu, q] at m; exact m]
  refine ⟨s.rho, s.psi, fun a ha => by rw [eq a ha]; exact s.mu a ha, fun a ha => L.live a (s.hid a ha), T, s.len, s.nd, fun n a o e1 e2 => ?_⟩
  rw [eq a (s.psi a (s.rho a (List.mem_of_getElem? e1)))]
  exact RepO.later L s.mup (s.at_ n a o e1 e2)
section
variable {X : Cx} {G : Gm} {W : WX} {sb : Nat → Nat → Option Bool} {l : Cls3} {xf : Mx}
/-- x(lambda: body), x a def that tells what the call comes to -/
theorem ke_word {m : M D} {x a : Str} {g c P : Addr} {k : Nat} {pg : Arguments} {bg : List Stmt} {sg : Scope} {dV kV doc pm cdv ct oc : Value} {an od : Option Addr} {osl : Array (Option Value)} {Ng : List Str}
    {params : Arguments} {body : Expr} {scope : Scope} {p lpos pos : Pos} (hm : X.mg x = some (.ref g)) (hk : PySem.W.keepIn X.K (.ref g) = true)
    (lk : X.K.lookup g = some ⟨oc, od, .func (PySem.W.fnOf x x pg bg sg dV kV doc pm an cdv ct), osl⟩) (hcg : PySem.W.codeIn X.K cdv x = true) (hb : L2.Binds X.K (PySem.W.fnOf x x pg bg sg dV kV doc pm an cdv ct) [a] []) (Sg : FnScope Ng [a] sg) (hNg : Ng[0]? = some a) (hva : Vis sg a)
    (hG : LamX.GivesTo X Ng x sg g cdv bg a (X.env.qual ++ "<lambda>") (TTw G sb l xf))
    (TB : LamX.TabB X.base X.mg c P) (hcode : X.env.code = .ref c) (hmT : (P, X.env.qual ++ "<lambda>") ∈ G.tab) (hu : ∀ p ∈ G.tab, p.1 = P → p.2 = X.env.qual ++ "<lambda>") (hr : Room (k + 2) X.A) (L : LamX.LamS X.env.scope scope) (hdef : defaultsOf params X.env = ([], []))
    (hbind : ∀ (q : Str) (cl : List (Str × Addr)) (pm cv ctv : Value), bindArgs (PySem.W.kla_fn "<lambda>" q params body scope cl pm cv ctv) ⟨[], []⟩ = pure [])
    (hbody : ∀ (A : Around) (outer : List Env) (s : Shared) (H : Hp) (E : XK) (f c' : Addr), Room k (A.deeper (LamX.lamEnv X scope s.heap.objs.size f c')) → PE (LamX.lamCx X A outer s H E scope f c') body (rdE G (fun cls d _ H => E cls d H) m))
    (hg : Gl X x := by rfl) (hdb : (x == ("__debug__" : Str)) = false := by decide) (hd : (a == ("__debug__" : Str)) = false := by decide) (hcd : (a == ("__classdict__" : Str)) = false := by decide) :
    PE X (.Call (.Name x p) [.Lambda params body scope lpos] [] pos) (rdE G W (mWord sb l xf m)) := by
  refine pe_imp (LamX.pe_lamcall (t := fun E => rdE G (fun cls d _ H => E cls d H) m) hg hm hk lk hcg hb Sg hNg hva hG TB hcode hmT hu hr L hdef hbind hbody hdb hd hcd) fun σ H Q ⟨z, env, S, s, he, h⟩ => ?_
  refine ⟨s.tab, fun H1 e1 T1 => ?_⟩
  have L1 : Later z H z H1 := later_tab (G := G) e1
  refine ⟨z, env, S, s.tab1 e1 T1, he.later L1 s.mup, ?_⟩
  unfold mWord at h
  cases em : m env S with
  | bad => rw [em] at h; exact h.elim
  | ok d S1 =>
    rw [em] at h
    dsimp only at h
    intro z2 H2 L2' s2 v rv
    cases ef : xf [] with
    | none => rw [ef] at h; exact h.elim
    | some y =>
      rw [ef] at h
      exact ⟨z2, S1, [], y, ⟨s2, fun i hi => (nomatch hi), .inl rfl⟩, ef, fun H3 w sm rw' => h z2 H3 (L1.trans (L2'.trans (later_same sm))) (s2.same sm) w rw'⟩
  | exc x S1 =>
    rw [em] at h
    dsimp only at h
    intro z2 H2 cls dx L2' s2 hx
    cases ef : pick sb l x with
    | none => rw [ef] at h; exact h.elim
    | some y =>
      rw [ef] at h
      exact ⟨z2, S1, x, y, s2, hx, ef, fun H3 w sm rw' => h z2 H3 (L1.trans (L2'.trans (later_same sm))) (s2.same sm) w rw'⟩
end
end Ki

set_option Elab.async false
set_option linter.all false
set_option maxRecDepth 100000
namespace Ki
open PySem L2 PySem.Spec PyProof.Rows

/-! ### two clauses -/
theorem RepE.by_ {G : Gm} {z z' : Z} {H H' : Hp} {env : Ev} {σ : L2.St} (e : RepE G z H env σ) (k : ∀ d v, Rep G z H d v → Rep G z' H' d v) : RepE G z' H' env σ :=
  ⟨e.1, fun i d q => let ⟨v, q1, q2⟩ := e.2 i d q; ⟨v, q1, k d v q2⟩⟩
theorem RepL.by_ {G : Gm} {z z' : Z} {H H' : Hp} (k : ∀ d v, Rep G z H d v → Rep G z' H' d v) : ∀ {ds : List D} {vs : List V}, RepL G z H ds vs → RepL G z' H' ds vs
  | [], _, h => by rw [RepL] at h ⊢; exact h
  | d :: ds, vs, h => by
    rw [RepL] at h ⊢
    obtain ⟨w, ws, e, h1, h2⟩ := h
    exact ⟨w, ws, e, k d w h1, RepL.by_ k h2⟩
theorem wipe_id : ∀ (us : List Nat) (τ : L2.St), (∀ i ∈ us, ∀ x, τ[i]? ≠ some (some x)) → wipe τ us = τ
  | [], _, _ => rfl
  | u :: us, τ, h => by
    rw [wipe, wipe_id us τ fun i hi => h i (List.mem_cons_of_mem _ hi)]
    apply List.ext_getElem?
    intro j
    by_cases hj : j = u
    · subst hj
      by_cases hl : j < τ.length
      · rw [List.getElem?_set_self hl]
        cases q : τ[j]? with
        | none => have := List.getElem?_eq_none_iff.mp q; omega
        | some o =>
          cases o with
          | none => rfl
          | some x => exact absurd q (h j List.mem_cons_self x)
      · rw [List.getElem?_eq_none (by rw [List.length_set]; omega), List.getElem?_eq_none (by omega)]
    · rw [List.getElem?_set_ne (Ne.symm hj)]
theorem wipe_twice (σ : L2.St) (vs : List Nat) : wipe (wipe σ vs) vs = wipe σ vs := wipe_id vs _ fun i hi x q => (wipe_some q).2 hi
section
variable {X : Cx} {G : Gm} {W : WX} {pos : Pos} {vs vs1 : List Nat}
/-- how far a growing list stands -/
structure Grow (G : Gm) (z0 : Z) (H0 : Hp) (p : Addr) (z : Z) (H : Hp) (S : Sto) (ac : List D) (us : List V) : Prop where
  L : Later z0 H0 z H
  st : Stands G z H S
  hd : HidAt G z H p us
  ra : RepL G z H ac us
theorem Grow.step {z0 z z' : Z} {H0 H H' : Hp} {p : Addr} {S S' : Sto} {ac : List D} {us : List V} (g : Grow G z0 H0 p z H S ac us) (L : Later z H z' H') (s : Stands G z' H' S') : Grow G z0 H0 p z' H' S' ac us :=
  ⟨g.L.trans L, s, g.hd.later L, g.ra.later L g.st.mup⟩
theorem Grow.push {z0 z : Z} {H0 H : Hp} {p : Addr} {S : Sto} {ac : List D} {us : List V} {y : D} {v : V} (hp : H0 p = none) (g : Grow G z0 H0 p z H S ac us) (r : Rep G z H y v) : Grow G z0 H0 p z (upd H p (.lst (us ++ [v]))) S (ac ++ [y]) (us ++ [v]) :=
  ⟨later_upd g.L hp g.hd, g.st.hid_ g.hd, g.hd.put, RepL.app (RepL.hid g.hd _ _ g.ra) (by rw [RepL]; exact ⟨v, [], rfl, Rep.hid g.hd _ _ r, by rw [RepL]⟩)⟩
theorem line_lt {n : Nat} (h : n ≤ 100000) : n < sizeLine := by rw [sizeLine_eq]; omega
/-- one loop that fills it -/
theorem lc_loop {z0 z : Z} {H0 H : Hp} {p : Addr} {σ : L2.St} {env : Ev} {S S' : Sto} {J : It} {ds ys : List D} {ac : List D} {us : List V} {g : Tg} {mt : M Bool} {me : M D} {tg : TG} (hp : H0 p = none) (gr : Grow G z0 H0 p z H S ac us) (e : RepE G z H env (wipe σ vs))
    (hn : us.length + ds.length ≤ 100000)
    (ht : ∀ (z : Z) (H : Hp) (S : Sto) (σ : L2.St) (env env' : Ev) (d : D) (v : V) (Q : L2.St → Hp → Prop), Stands G z H S → RepE G z H env σ → Rep G z H d v → g d env = some env' → (∀ σ', RepE G z H env' σ' → wipe σ' vs = wipe σ vs → Q σ' H) → tg v σ H Q)
    (hw : ∀ z' H' S', Later z0 H0 z' H' → (∀ d v, Rep G z H d v → Rep G z' H' d v) → Stands G z' H' S' → Wk G J ds z' H') (hr : lcL g mt me env ds S = .ok ys S') {Fin : Hp → Prop}
    (hfin : ∀ z' H' us', Grow G z0 H0 p z' H' S' (ac ++ ys) us' → (∀ d v, Rep G z H d v → Rep G z' H' d v) → us'.length ≤ us.length + ds.length → Fin H') :
    ∃ W1 : Nat → Nat → Hp → Prop, (∃ m, W1 0 m H) ∧ ∀ i m H, W1 i m H → (J.stop i H ∧ Fin H) ∨ (J.go i H ∧ ∃ Nx : Hp → Prop, (∀ H', Nx H' → ∃ m', m' < m ∧ W1 (i + 1) m' H') ∧ ∀ x H', J.yld i H x H' → tg x (wipe σ vs) H' fun σ2 H2 => wipe σ2 vs = wipe σ vs ∧ rdT G W0 mt σ2 H2 fun b H3 =>
        if b = true then rdE G W0 me σ2 H3 fun y H4 => ∃ acc, H4 p = some (.lst acc) ∧ acc.length < sizeLine ∧ Nx (upd H4 p (.lst (acc ++ [y]))) else Nx H3) := by
  let Inv1 : Nat → Hp → Prop := fun i H' => i ≤ ds.length ∧ ∃ z' S1 us' ac' rest, Grow G z0 H0 p z' H' S1 ac' us' ∧ (∀ d v, Rep G z H d v → Rep G z' H' d v) ∧ us'.length ≤ us.length + i ∧ lcL g mt me env (ds.drop i) S1 = .ok rest S' ∧ ac' ++ rest = ac ++ ys
  refine ⟨fun i m H' => m = ds.length - i ∧ Inv1 i H', ⟨_, rfl, Nat.zero_le _, z, S, us, ac, ys, gr, fun _ _ h => h, Nat.le_refl _, hr, rfl⟩, ?_⟩
  rintro i m H1 ⟨rfl, hi, z1, S1, us1, ac1, rest, g1, kp, hul, h1, hys⟩
  have w := hw z1 H1 S1 g1.L kp g1.st
  by_cases hlt : i < ds.length
  · rw [List.drop_eq_getElem_cons hlt, lcL] at h1
    obtain ⟨go, gv⟩ := w.2 i ds[i] (List.getElem?_eq_getElem hlt)
    cases eg : g ds[i] env with
    | none => simp only [eg] at h1; cases h1
    | some env' =>
      simp only [eg] at h1
      refine .inr ⟨go, Inv1 (i + 1), fun H' q => ⟨_, by omega, rfl, q⟩, fun x H' y => ?_⟩
      obtain ⟨sm, rx⟩ := gv x H' y
      have LS : Later z1 H1 z1 H' := later_same sm
      have mu1 := g1.st.mup
      have kp : ∀ d v, Rep G z H d v → Rep G z1 H' d v := fun d v r => (kp d v r).later LS mu1
      have g1 := g1.step LS (g1.st.same sm)
      refine ht z1 _ S1 (wipe σ vs) env env' _ _ _ g1.st (e.by_ kp) rx eg fun σ' e' hwp => ⟨by rw [hwp, wipe_twice], z1, env', S1, g1.st, e', ?_⟩
      cases et : mt env' S1 with
      | exc x S2 => rw [et] at h1; cases h1
      | bad => rw [et] at h1; cases h1
      | ok b S2 =>
        rw [et] at h1
        intro z2 H2 L2' s2
        have k2 : ∀ d v, Rep G z H d v → Rep G z2 H2 d v := fun d v r => (kp d v r).later L2' g1.st.mup
        cases b with
        | false =>
          simp only [Bool.false_eq_true, if_false] at h1 ⊢
          exact ⟨hlt, z2, S2, us1, ac1, rest, g1.step L2' s2, k2, by omega, h1, hys⟩
        | true =>
          simp only [if_true] at h1 ⊢
          refine ⟨z2, env', S2, s2, e'.later L2' g1.st.mup, ?_⟩
          cases ee : me env' S2 with
          | exc x S3 => rw [ee] at h1; cases h1
          | bad => rw [ee] at h1; cases h1
          | ok yv S3 =>
            rw [ee] at h1
            dsimp only at h1
            cases er : lcL g mt me env (ds.drop (i + 1)) S3 with
            | exc x S4 => rw [er] at h1; cases h1
            | bad => rw [er] at h1; cases h1
            | ok ys' S4 =>
              rw [er] at h1
              cases h1
              intro z3 H3 L3 s3 v rv
              have g3 := (g1.step L2' s2).step L3 s3
              refine ⟨us1, g3.hd.at_, line_lt (by omega), hlt, z3, S3, us1 ++ [v], ac1 ++ [yv], ys', g3.push hp rv, fun d w r => Rep.hid g3.hd d w ((k2 d w r).later L3 s2.mup), by rw [List.length_append, List.length_singleton]; omega, er, by rw [List.append_assoc]; exact hys⟩
  · have ei : i = ds.length := by omega
    subst ei
    rw [List.drop_eq_nil_of_le (Nat.le_refl _), lcL] at h1
    cases h1
    rw [List.append_nil] at hys
    subst hys
    exact .inl ⟨w.1 _ (Nat.le_refl _), hfin z1 H1 us1 g1 kp hul⟩
/-- the outer turns; n: no more items than so many as yet -/
def lcL2 (vs1 : List Nat) (g : Tg) (mt : M Bool) (g1 : Tg) (mi1 : M (List D)) (mt1 : M Bool) (me : M D) (env : Ev) : Nat → List D → Sto → Res (List D)
  | _, [], S => .ok [] S
  | n, d :: ds, S => match g d env with
    | none => .bad
    | some env' => match mt env' S with
      | .ok true S1 => match mi1 env' S1 with
        | .ok ds1 S2 => if n + ds1.length ≤ 100000 then match lcL g1 mt1 me (wipeD env' vs1) ds1 S2 with
          | .ok ys S3 => match lcL2 vs1 g mt g1 mi1 mt1 me env (n + ds1.length) ds S3 with
            | .ok zs S4 => .ok (ys ++ zs) S4
            | _ => .bad
          | _ => .bad else .bad
        | _ => .bad
      | .ok false S1 => lcL2 vs1 g mt g1 mi1 mt1 me env n ds S1
      | _ => .bad
def mLc2 (vs vs1 : List Nat) (g : Tg) (mi : M (List D)) (mt : M Bool) (g1 : Tg) (mi1 : M (List D)) (mt1 : M Bool) (me : M D) : M D := fun env S => match mi env S with
  | .ok ds S1 => match lcL2 vs1 g mt g1 mi1 mt1 me (wipeD env vs) 0 ds S1 with
    | .ok ys S2 => .ok (.lst true ys) S2
    | _ => .bad
  | .exc x S1 => .exc x S1
  | .bad => .bad
/-- what is known of a walked source -/
abbrev PIi (G : Gm) (W : WX) (mi : M (List D)) (wi : TI) : Prop := ∀ (z : Z) (H : Hp) (S : Sto) (σ : L2.St) (env : Ev) (R : It → Hp → Prop), Stands G z H S → RepE G z H env σ →
  Out G W σ z H (fun z' H' _ ds => ∀ J, (∀ z2 H2 S2, (∀ d v, Rep G z' H' d v → Rep G z2 H2 d v) → Stands G z2 H2 S2 → Wk G J ds z2 H2) → R J H') (mi env S) → wi σ H R
theorem lc2_any {z0 : Z} {H0 : Hp} {σ : L2.St} {env : Ev} {S S' : Sto} {J : It} {ds ys : List D} {g g1 : Tg} {mt mt1 : M Bool} {mi1 : M (List D)} {me : M D} {tg tg1 : TG} {wi1 : TI} {Q : VK} (s : Stands G z0 H0 S) (e : RepE G z0 H0 env σ) (hv : ∀ i ∈ vs1, i ∈ vs)
    (ht : ∀ (z : Z) (H : Hp) (S : Sto) (σ : L2.St) (env env' : Ev) (d : D) (v : V) (Q : L2.St → Hp → Prop), Stands G z H S → RepE G z H env σ → Rep G z H d v → g d env = some env' → (∀ σ', RepE G z H env' σ' → wipe σ' vs = wipe σ vs → Q σ' H) → tg v σ H Q)
    (ht1 : ∀ (z : Z) (H : Hp) (S : Sto) (σ : L2.St) (env env' : Ev) (d : D) (v : V) (Q : L2.St → Hp → Prop), Stands G z H S → RepE G z H env σ → Rep G z H d v → g1 d env = some env' → (∀ σ', RepE G z H env' σ' → wipe σ' vs1 = wipe σ vs1 → Q σ' H) → tg1 v σ H Q)
    (hi1 : PIi G W0 mi1 wi1) (hw : ∀ z' H' S', Later z0 H0 z' H' → Stands G z' H' S' → Wk G J ds z' H') (hr : lcL2 vs1 g mt g1 mi1 mt1 me (wipeD env vs) 0 ds S = .ok ys S')
    (h : ∀ z' H', Later z0 H0 z' H' → Stands G z' H' S' → ∀ v, Rep G z' H' (.lst true ys) v → Q v H') :
    ∀ p, H0 p = none → ∃ W : Nat → Nat → Hp → Prop, (∃ m, W 0 m (upd H0 p (.lst []))) ∧ ∀ i m H, W i m H →
      (J.stop i H ∧ Q (.ref p) H) ∨ (J.go i H ∧ ∃ Nx : Hp → Prop, (∀ H', Nx H' → ∃ m', m' < m ∧ W (i + 1) m' H') ∧ ∀ x H', J.yld i H x H' → tg x (wipe σ vs) H' fun σ2 H2 => wipe σ2 vs = wipe σ vs ∧ rdT G W0 mt σ2 H2 fun b H3 =>
    if b = true then wi1 σ2 H3 fun J1 H4 => ∃ W1 : Nat → Nat → Hp → Prop, (∃ m, W1 0 m H4) ∧ ∀ j k H, W1 j k H →
      (J1.stop j H ∧ Nx H) ∨ (J1.go j H ∧ ∃ Nx1 : Hp → Prop, (∀ H', Nx1 H' → ∃ k', k' < k ∧ W1 (j + 1) k' H') ∧ ∀ x H', J1.yld j H x H' → tg1 x (wipe σ2 vs1) H' fun σ3 H5 => wipe σ3 vs1 = wipe σ2 vs1 ∧ rdT G W0 mt1 σ3 H5 fun b H6 =>
        if b = true then rdE G W0 me σ3 H6 fun y H7 => ∃ acc, H7 p = some (.lst acc) ∧ acc.length < sizeLine ∧ Nx1 (upd H7 p (.lst (acc ++ [y]))) else Nx1 H6)
    else Nx H3) := by
  intro p hp
  let Inv1 : Nat → Hp → Prop := fun i H' => i ≤ ds.length ∧ ∃ z' S1 us ac rest n, Grow G z0 H0 p z' H' S1 ac us ∧ RepE G z' H' (wipeD env vs) (wipe σ vs) ∧ us.length ≤ n ∧ lcL2 vs1 g mt g1 mi1 mt1 me (wipeD env vs) n (ds.drop i) S1 = .ok rest S' ∧ ac ++ rest = ys
  have L0 : Later z0 H0 (z0.hide p) (upd H0 p (.lst [])) := later_hide hp
  have q := s.same (same_new (o := .lst []) hp)
  have st0 : Stands G (z0.hide p) (upd H0 p (.lst [])) S := ⟨q.rho, q.psi, q.mu, fun a ha => by
      rcases ha with ha | ha
      · exact q.hid a ha
      · exact ⟨_, by rw [ha, upd_same], by intro ps q; cases q⟩, q.tab, q.len, q.nd, fun n a o e1 e2 => by
    have f := s.at_ n a o e1 e2
    have ne : a ≠ p := fun x => (s.fresh hp).1 (.inl (x ▸ s.rho a (List.mem_of_getElem? e1)))
    rw [upd_ne ne]
    exact RepO.later L0 s.mup f⟩
  refine ⟨fun i m H' => m = ds.length - i ∧ Inv1 i H', ⟨_, rfl, Nat.zero_le _, z0.hide p, S, [], [], ys, 0, ⟨L0, st0, ⟨.inr rfl, fun q => (s.fresh hp).1 (.inl q), (s.fresh hp).2, upd_same⟩, by rw [RepL]⟩, repE_wipe (e.later L0 s.mup) vs, Nat.le_refl _, hr, rfl⟩, ?_⟩
  rintro i m H1 ⟨rfl, hi, z1, S1, us, ac, rest, n, gr, e1, hul, h1, hys⟩
  have w := hw z1 H1 S1 gr.L gr.st
  by_cases hlt : i < ds.length
  · rw [List.drop_eq_getElem_cons hlt, lcL2] at h1
    obtain ⟨go, gv⟩ := w.2 i ds[i] (List.getElem?_eq_getElem hlt)
    cases eg : g ds[i] (wipeD env vs) with
    | none => simp only [eg] at h1; cases h1
    | some env' =>
      simp only [eg] at h1
      refine .inr ⟨go, Inv1 (i + 1), fun H' q => ⟨_, by omega, rfl, q⟩, fun x H' y => ?_⟩
      obtain ⟨sm, rx⟩ := gv x H' y
      have LS : Later z1 H1 z1 H' := later_same sm
      have mu1 := gr.st.mup
      have e1 := e1.later LS mu1
      have gr := gr.step LS (gr.st.same sm)
      refine ht z1 _ S1 (wipe σ vs) (wipeD env vs) env' _ _ _ gr.st e1 rx eg fun σ2 e2 hwp => ⟨by rw [hwp, wipe_twice], z1, env', S1, gr.st, e2, ?_⟩
      cases et : mt env' S1 with
      | exc x S2 => rw [et] at h1; cases h1
      | bad => rw [et] at h1; cases h1
      | ok b S2 =>
        rw [et] at h1
        intro z2 H2 L2' s2
        have g2 := gr.step L2' s2
        have e2' := e2.later L2' gr.st.mup
        have e1' := e1.later L2' gr.st.mup
        cases b with
        | false =>
          simp only [Bool.false_eq_true, if_false] at h1 ⊢
          exact ⟨hlt, z2, S2, us, ac, rest, n, g2, e1', hul, h1, hys⟩
        | true =>
          simp only [if_true] at h1 ⊢
          refine hi1 z2 H2 S2 σ2 env' _ s2 e2' ?_
          cases ei : mi1 env' S2 with
          | exc x S3 => rw [ei] at h1; cases h1
          | bad => rw [ei] at h1; cases h1
          | ok ds1 S3 =>
            rw [ei] at h1
            dsimp only at h1
            split at h1
            · rename_i hn
              cases er : lcL g1 mt1 me (wipeD env' vs1) ds1 S3 with
              | exc x S4 => rw [er] at h1; cases h1
              | bad => rw [er] at h1; cases h1
              | ok ys1 S4 =>
                rw [er] at h1
                dsimp only at h1
                cases er2 : lcL2 vs1 g mt g1 mi1 mt1 me (wipeD env vs) (n + ds1.length) (ds.drop (i + 1)) S4 with
                | exc x S5 => rw [er2] at h1; cases h1
                | bad => rw [er2] at h1; cases h1
                | ok zs S5 =>
                  rw [er2] at h1
                  cases h1
                  intro z3 H3 L3 s3 J1 hJ1
                  have g3 := g2.step L3 s3
                  have e3 := e2'.later L3 s2.mup
                  have e13 := e1'.later L3 s2.mup
                  refine lc_loop (vs := vs1) hp g3 (repE_wipe e3 vs1) (by omega) ht1 (fun z' H' S' _ kp s' => hJ1 z' H' S' kp s') er fun z' H' us' gf kp hl => ?_
                  exact ⟨hlt, z', S4, us', ac ++ ys1, zs, n + ds1.length, gf, e13.by_ kp, by omega, er2, by rw [List.append_assoc]; exact hys⟩
            · cases h1
  · have ei : i = ds.length := by omega
    subst ei
    rw [List.drop_eq_nil_of_le (Nat.le_refl _), lcL2] at h1
    cases h1
    rw [List.append_nil] at hys
    subst hys
    exact .inl ⟨w.1 _ (Nat.le_refl _), h (z1.show p) H1 (later_show gr.L hp s) (stands_show gr.st) _ (rep_show gr.hd gr.ra)⟩
theorem lc2_rd {z : Z} {H : Hp} {σ : L2.St} {env : Ev} {S : Sto} {g g1 : Tg} {mi mi1 : M (List D)} {mt mt1 : M Bool} {me : M D} {wi wi1 : TI} {tg tg1 : TG} {Q : VK} (s : Stands G z H S) (e : RepE G z H env σ) (hv : ∀ i ∈ vs1, i ∈ vs) (hi : PIi G W mi wi)
    (ht : ∀ (z : Z) (H : Hp) (S : Sto) (σ : L2.St) (env env' : Ev) (d : D) (v : V) (Q : L2.St → Hp → Prop), Stands G z H S → RepE G z H env σ → Rep G z H d v → g d env = some env' → (∀ σ', RepE G z H env' σ' → wipe σ' vs = wipe σ vs → Q σ' H) → tg v σ H Q) (hi1 : PIi G W0 mi1 wi1)
    (ht1 : ∀ (z : Z) (H : Hp) (S : Sto) (σ : L2.St) (env env' : Ev) (d : D) (v : V) (Q : L2.St → Hp → Prop), Stands G z H S → RepE G z H env σ → Rep G z H d v → g1 d env = some env' → (∀ σ', RepE G z H env' σ' → wipe σ' vs1 = wipe σ vs1 → Q σ' H) → tg1 v σ H Q)
    (h : Out G W σ z H (fun z' H' _ d => ∀ v, Rep G z' H' d v → Q v H') (mLc2 vs vs1 g mi mt g1 mi1 mt1 me env S)) : tLc2 wi tg (rdT G W0 mt) wi1 tg1 (rdT G W0 mt1) (rdE G W0 me) vs vs1 σ H Q := by
  refine hi z H S σ env _ s e ?_
  unfold mLc2 at h
  cases em : mi env S with
  | bad => rw [em] at h; exact h.elim
  | exc x S1 => rw [em] at h; exact h
  | ok ds S1 =>
    rw [em] at h
    intro z1 H1 L1 s1 J hJ
    dsimp only at h
    cases er : lcL2 vs1 g mt g1 mi1 mt1 me (wipeD env vs) 0 ds S1 with
    | exc x S2 => rw [er] at h; exact h.elim
    | bad => rw [er] at h; exact h.elim
    | ok ys S2 =>
      rw [er] at h
      exact lc2_any s1 (e.later L1 s.mup) hv ht ht1 hi1 (fun z2 H2 S2 L s2 => hJ z2 H2 S2 (fun d v r => r.later L s1.mup) s2) er fun z' H' L' s' v r => h z' H' (L1.trans L') s' v r
/-- a block's source -/
structure PIb (X : Cx) (G : Gm) (scope : Scope) (tg iter : Expr) (mi : M (List D)) : Prop where
  ex : ∃ wi : TI, (∀ (s : Shared) (H : Hp) (C : Addr) (cl : List (Str × Addr)) (fp : List Addr), PI (X.blk s H scope (compEnvC scope cl C X.env) fp) tg iter wi) ∧ PIi G W0 mi wi
theorem pii_sq {Y : Cx} {m : M D} (hK : Y.K = G.K) : PIi G W (mSq m) (iSq Y.K (rdE G W m)) := by
  intro z H S σ env R s r h
  refine rdE_bind s r h fun z1 H1 S1 d v L s1 r1 rv h1 => ?_
  obtain ⟨ds, e, q⟩ := rd_lift s1 h1
  obtain ⟨a, rfl⟩ := rep_ref e rv
  refine ⟨a, rfl, ?_⟩
  cases hb : isT d with
  | false => exact .inl ⟨((wk_sq (X := Y) hK e rv).1 hb).1, q _ fun z' H' S' k s' => ((wk_sq (X := Y) hK e (k _ _ rv)).1 hb).2⟩
  | true => exact .inr ⟨((wk_sq (X := Y) hK e rv).2 hb).1, q _ fun z' H' S' k s' => ((wk_sq (X := Y) hK e (k _ _ rv)).2 hb).2⟩
theorem ib_sq {scope : Scope} {tg iter : Expr} {m : M D} (h : ∀ (s : Shared) (H : Hp) (C : Addr) (cl : List (Str × Addr)) (fp : List Addr), PE (X.blk s H scope (compEnvC scope cl C X.env) fp) iter (rdE G W0 m)) (hK : X.K = G.K := by rfl) : PIb X G scope tg iter (mSq m) :=
  ⟨⟨iSq X.K (rdE G W0 m), fun s H C cl fp => pi_sq (X := X.blk s H scope (compEnvC scope cl C X.env) fp) (h s H C cl fp), pii_sq (Y := X) hK⟩⟩
theorem ke_lc2 {elt tg iter tg1 iter1 : Expr} {ifs ifs1 : List Expr} {scope : Scope} {own : List (Str × Nat)} {g g1 : Tg} {mi mi1 : M (List D)} {mt mt1 : M Bool} {me : M D} (hc : X.calm = true) (hN : X.N.Nodup) (hi : PIk X G W tg iter mi) (ok : BlkOk X.N X.env.scope scope own) (hv : ∀ i ∈ vs1, i ∈ own.map (·.2))
    (hg : PGb X G scope (own.map (·.2)) tg g) (ht : ∀ (s : Shared) (H : Hp) (C : Addr) (cl : List (Str × Addr)) (fp : List Addr), PTs (X.blk s H scope (compEnvC scope cl C X.env) fp) ifs (rdT G W0 mt))
    (hi1 : PIb X G scope tg1 iter1 mi1) (hg1 : PGb X G scope vs1 tg1 g1) (ht1 : ∀ (s : Shared) (H : Hp) (C : Addr) (cl : List (Str × Addr)) (fp : List Addr), PTs (X.blk s H scope (compEnvC scope cl C X.env) fp) ifs1 (rdT G W0 mt1))
    (he : ∀ (s : Shared) (H : Hp) (C : Addr) (cl : List (Str × Addr)) (fp : List Addr), PE (X.blk s H scope (compEnvC scope cl C X.env) fp) elt (rdE G W0 me)) (hs : ∀ x, foldedSetIterable iter X.env x = pure x := by intro _; rfl) (hs1 : ∀ env x, foldedSetIterable iter1 env x = pure x := by intro _ _; rfl) :
    PE X (.ListComp elt [⟨tg, iter, ifs, 0⟩, ⟨tg1, iter1, ifs1, 0⟩] scope pos) (rdE G W (mLc2 (own.map (·.2)) vs1 g mi mt g1 mi1 mt1 me)) := by
  obtain ⟨wi, pi, hwi⟩ := hi.ex
  obtain ⟨wi1, pi1, hwi1⟩ := hi1.ex
  obtain ⟨t, pg, htg⟩ := hg.ex
  obtain ⟨t1, pg1, htg1⟩ := hg1.ex
  exact pe_imp (pe_lc2 hc hN pi ok hv pg ht pi1 pg1 ht1 he hs hs1) fun σ H Q ⟨z, env, S, s, e, h⟩ => lc2_rd s e hv hwi htg hwi1 htg1 h
theorem ks_setLc2 (i : Nat) {y : Str} {py : Pos} {spos : Pos} {elt tg iter tg1 iter1 : Expr} {ifs ifs1 : List Expr} {scope : Scope} {own : List (Str × Nat)} {g g1 : Tg} {mi mi1 : M (List D)} {mt mt1 : M Bool} {me : M D} (hc : X.calm = true) (hN : X.N.Nodup) (hi : PIk X G W tg iter mi) (ok : BlkOk X.N X.env.scope scope own) (hv : ∀ i ∈ vs1, i ∈ own.map (·.2))
    (hg : PGb X G scope (own.map (·.2)) tg g) (ht : ∀ (s : Shared) (H : Hp) (C : Addr) (cl : List (Str × Addr)) (fp : List Addr), PTs (X.blk s H scope (compEnvC scope cl C X.env) fp) ifs (rdT G W0 mt))
    (hi1 : PIb X G scope tg1 iter1 mi1) (hg1 : PGb X G scope vs1 tg1 g1) (ht1 : ∀ (s : Shared) (H : Hp) (C : Addr) (cl : List (Str × Addr)) (fp : List Addr), PTs (X.blk s H scope (compEnvC scope cl C X.env) fp) ifs1 (rdT G W0 mt1))
    (he : ∀ (s : Shared) (H : Hp) (C : Addr) (cl : List (Str × Addr)) (fp : List Addr), PE (X.blk s H scope (compEnvC scope cl C X.env) fp) elt (rdE G W0 me)) (hs : ∀ x, foldedSetIterable iter X.env x = pure x := by intro _; rfl) (hs1 : ∀ env x, foldedSetIterable iter1 env x = pure x := by intro _ _; rfl)
    (hy : X.N[i]? = some y := by rfl) (hyl : X.env.scope.names.lookup y = some .local := by rfl)
    (hsw : swapsWith (.ListComp elt [⟨tg, iter, ifs, 0⟩, ⟨tg1, iter1, ifs1, 0⟩] scope pos) (some (.Name y py)) spos.line X.env = pure true := by rfl) :
    PS X (.Assign [.Name y py] (.ListComp elt [⟨tg, iter, ifs, 0⟩, ⟨tg1, iter1, ifs1, 0⟩] scope pos) spos) (rdS G W (sSet i (mLc2 (own.map (·.2)) vs1 g mi mt g1 mi1 mt1 me))) := by
  obtain ⟨wi, pi, hwi⟩ := hi.ex
  obtain ⟨wi1, pi1, hwi1⟩ := hi1.ex
  obtain ⟨t, pg, htg⟩ := hg.ex
  obtain ⟨t1, pg1, htg1⟩ := hg1.ex
  refine ps_imp (ps_setLc2 (i := i) hc hN hy hyl hsw pi ok hv pg ht pi1 pg1 ht1 he hs hs1) fun E σ H ⟨z, env, S, s, e, h⟩ => ?_
  refine lc2_rd s e hv hwi htg hwi1 htg1 ((rd_thenS s e h).imp fun z' H' S' d L s' q v r => ?_)
  exact q z' H' _ .refl s' ((e.later L s.mup).set r)
/-! ### tuple * int -/
theorem repL_flat {z : Z} {H : Hp} {ds : List D} {vs : List V} (r : RepL G z H ds vs) : ∀ n, RepL G z H (List.replicate n ds).flatten (List.replicate n vs).flatten
  | 0 => by
    show RepL G z H [] []
    rw [RepL]
  | n + 1 => by
    rw [List.replicate_succ, List.replicate_succ, List.flatten_cons, List.flatten_cons]
    exact r.app (repL_flat r n)
theorem ko_repT (hK : X.K = G.K := by rfl) : OpK X G (binaryOp .Mult) dRepT := by
  refine ⟨_, op_repT, fun z H S x y d1 d2 d Q s n1 n2 e q => ?_⟩
  unfold dRepT at e
  split at e
  · rename_i xs k
    split at e
    · rename_i hc
      obtain ⟨h1, h2⟩ := Bool.and_eq_true_iff.mp hc
      obtain ⟨h3, h4⟩ := Bool.and_eq_true_iff.mp h1
      obtain ⟨h5, h6⟩ := Bool.and_eq_true_iff.mp h2
      cases e
      obtain ⟨a, vs, rfl, hs, hl⟩ := n1.tup
      have ln := hl.len
      refine ⟨a, k, vs, rfl, n2.int, hK ▸ hs, fun ev => ?_, of_decide_eq_true h4, of_decide_eq_true h5, by rw [ln]; exact of_decide_eq_true h6, fun p hp => q _ _ (same_new hp) (rep_tup s hp (repL_flat hl _))⟩
      rw [ev] at ln
      cases xs with
      | nil => cases h3
      | cons => simp at ln
    · cases e
  · cases e
end
end Ki

set_option Elab.async false
set_option linter.all false
set_option maxRecDepth 100000
namespace Ki
open PySem L2 PySem.Spec PyProof.Rows

/-! ### what the module's top holds -/
/-- a def as it stands -/
structure Raw (K : PySem.W.Frag) (mg : Str → Option Value) (x : Str) (st : Stmt) : Prop where
  ex : ∃ (a : Addr) (fd : FuncData), mg x = some (.ref a) ∧ L2.Fun K x x st a fd
/-- a def, by what it reckons -/
structure Fn1 (P : Program) (w : World) (G : Gm) (mg : Str → Option Value) (base : Heap) (x : Str) (k : Nat) (gd : Bool) (m : Fn) : Prop where
  ex : ∃ (a : Addr) (fd : FuncData) (ps : List Str), mg x = some (.ref a) ∧ PySem.W.keepIn G.K (.ref a) = true ∧ L2.Binds G.K fd ps [] ∧ FnG P w G mg base k a fd ps gd m
section
variable {P : Program} {w : World} {G : Gm} {mg : Str → Option Value} {base : Heap} {x : Str} {k : Nat} {gd : Bool} {m : Fn}
theorem Raw.fn1 {st : Stmt} {N ps : List Str} {mb : MS} (R : Raw G.K mg x st) (gd : Bool) (S : FnScope N ps (defScope st))
    (hb : ∀ (kV doc pm : Value) (an : Option Addr) (cdv ct : Value) (us : List Value), us.length = ps.length → bindArgs (PySem.W.fnOf x x (defArgs st) (defBody st) (defScope st) .none kV doc pm an cdv ct) ⟨us, []⟩ = pure (ps.zip us))
    (hbody : ∀ (f : Addr) (cdv : Value) (A : Around) (outer : List Env) (s : Shared) (H : Hp) (E : XK), Room k (A.deeper (envOfC x (defScope st) s.heap.objs.size f cdv)) → (gd = true → A.guards = some []) →
      PSs (cxOf (L2.CX P w) P w G.K mg base N x (defScope st) f cdv A outer s H E) (defBody st) (rdS G (fun cls d _ H => E cls d H) mb)) : Fn1 P w G mg base x (k + 1) gd (mFun N.length ps.length mb) := by
  obtain ⟨a, fd, hm, F⟩ := R.ex
  exact ⟨a, fd, ps, hm, F.kp, F.binds hb, fnG_of gd F S (hbody a)⟩
end
section
variable {X : Cx} {G : Gm} {W : WX} {pos p : Pos} {x : Str} {k : Nat} {gd : Bool} {m : Fn} {e : Expr} {es : List Expr} {ma : M (List D)}
theorem Fn1.call (F : Fn1 X.prog X.w G X.mg X.base x k gd m) (hr : Room k X.A) (hgd : gd = true → X.A.guards = some []) (tk : Takes X W) (ha : PA X (e :: es) (rdA G W ma))
    (hg : Gl X x := by rfl) (hK : X.K = G.K := by rfl) (hdb : (x == ("__debug__" : Str)) = false := by decide) (he : starEach (e :: es) X.env = (false, eval e X.env) :: starEach es X.env := by rfl) (hpl : (backTo pos (starEach es X.env)).any (·.1) = false := by rfl) :
    PE X (.Call (.Name x p) (e :: es) [] pos) (rdE G W (mCall m ma)) := by
  obtain ⟨a, fd, ps, hm, kp, hb, FF⟩ := F.ex
  exact ke_call FF hr hgd hm kp hb tk ha hg hK hdb he hpl
theorem Fn1.call0 (F : Fn1 X.prog X.w G X.mg X.base x k gd m) (hr : Room k X.A) (hgd : gd = true → X.A.guards = some []) (tk : Takes X W) (hg : Gl X x := by rfl) (hK : X.K = G.K := by rfl) (hdb : (x == ("__debug__" : Str)) = false := by decide) :
    PE X (.Call (.Name x p) [] [] pos) (rdE G W (mCall m aNil)) := by
  obtain ⟨a, fd, ps, hm, kp, hb, FF⟩ := F.ex
  exact ke_call0 FF hr hgd hm kp hb tk hg hK hdb
theorem ke_gintE {i : Int} (hg : Gl X x) (hm : ∃ t, X.mg x = some (.int i t)) (hd : (x == ("__debug__" : Str)) = false := by decide) : PE X (.Name x pos) (rdE G W (mC (.int i))) := by
  obtain ⟨t, h⟩ := hm
  exact ke_gint hg h hd
/-- an own exception class that keeps its argument -/
structure Exc1 (P : Program) (w : World) (G : Gm) (mg : Str → Option Value) (base : Heap) (x : Str) (c : Nat) (f : Str) : Prop where
  ex : ∃ (B newId initId : String) (bmB : List Value) (fI : Addr) (fd : FuncData) (ps : List Str), BaseT B newId initId bmB ∧ OexT G.K newId bmB (G.cls c) ∧ mg x = some (.ref (G.cls c)) ∧ PySem.W.findIn G.K (.ref (G.cls c)) "__init__" = some (some (.ref fI)) ∧
    PySem.W.typeIn G.K (.ref fI) = some (.type "function") ∧ PySem.W.takerIn G.K (G.cls c) f = some none ∧ FnOk P w G.K mg base C8.CX0 1 fI fd ps (spI G.K newId bmB f) ∧ L2.Binds G.K fd ps []
/-- .. one that is made with a text -/
structure Exc0 (G : Gm) (mg : Str → Option Value) (x : Str) (c : Nat) : Prop where
  ex : ∃ (B newId initId : String) (bmB : List Value), ExcBaseFacts B newId initId bmB ∧ PySem.W.excIn G.K (G.cls c) bmB newId = true ∧ mg x = some (.ref (G.cls c)) ∧ PySem.W.keepIn G.K (.ref (G.cls c)) = true ∧
    PySem.W.subIn G.K (.ref (G.cls c)) (.type "BaseException") = some true ∧ PySem.W.typeIn G.K (.ref (G.cls c)) = some (.type "type")
theorem Exc1.raise1 {c : Nat} {f : Str} {p' : Pos} {ms : M (List D)} (E : Exc1 X.prog X.w G X.mg X.base x c f) (hr : Room 2 X.A) (hc : X.calm = true) (tk : Takes X W) (ha : PA X [e] (rdA G W ms)) (hg : Gl X x := by rfl) (hK : X.K = G.K := by rfl) (hdb : (x == ("__debug__" : Str)) = false := by decide)
    (he : starEach [e] X.env = (false, eval e X.env) :: starEach [] X.env := by rfl) : PS X (.Raise (some (.Call (.Name x p) [e] [] p')) none pos) (rdS G W (sRaise1 c f ms)) := by
  obtain ⟨B, newId, initId, bmB, fI, fd, ps, BT, T, hm, iC, tI, ht, F1, hb⟩ := E.ex
  rw [← hK] at T iC tI ht F1 hb
  exact ks_raise1 c rfl hc tk BT T iC tI ht F1 hr hb hm ha hg hdb he
theorem Exc0.raise0 {c : Nat} {p' p2 : Pos} {t : Str} {j : Nat} (E : Exc0 G X.mg x c) (hc : X.calm = true) (tk : Takes X W) (hg : Gl X x := by rfl) (hK : X.K = G.K := by rfl) (hdb : (x == ("__debug__" : Str)) = false := by decide) :
    PS X (.Raise (some (.Call (.Name x p) [.Constant (.str t) j p2] [] p')) none pos) (rdS G W (sRaise0 c)) := by
  obtain ⟨B, newId, initId, bmB, F, q, hm, kC, r1, r2⟩ := E.ex
  rw [← hK] at q kC r1 r2
  exact ks_raise0 c rfl hc tk F q hm kC r1 r2 hg hdb
theorem Exc1.mgE {c : Nat} {f : Str} {P : Program} {w : World} {mg : Str → Option Value} {base : Heap} (E : Exc1 P w G mg base x c f) : mg x = some (.ref (G.cls c)) := by
  obtain ⟨_, _, _, _, _, _, _, _, _, h, _⟩ := E.ex
  exact h
theorem Exc0.mgE {c : Nat} {mg : Str → Option Value} (E : Exc0 G mg x c) : mg x = some (.ref (G.cls c)) := by
  obtain ⟨_, _, _, _, _, _, h, _⟩ := E.ex
  exact h
/-- its instances' field is read -/
structure ExcF (G : Gm) (c : Nat) (f : Str) : Prop where
  xf : XfC G.K (G.cls c)
  no : PySem.W.findIn G.K (.ref (G.cls c)) f = some none
theorem hU_of {A : Around} {k : Nat} (hr : Room k A) : A.units + 64 < cLine := by have := hr.un; omega
end
end Ki

set_option Elab.async false
set_option linter.all false
set_option maxRecDepth 100000
set_option maxHeartbeats 1000000
namespace Ki
open PySem L2 PySem.Spec PyProof.Rows

/-! ### defs that make lambdas: their code object is known -/
structure RawL (K : PySem.W.Frag) (mg : Str → Option Value) (x : Str) (st : Stmt) (c : Addr) : Prop where
  ex : ∃ (a : Addr) (oc : Value) (od : Option Addr) (kV doc pm : Value) (an : Option Addr) (ct : Value) (osl : Array (Option Value)), mg x = some (.ref a) ∧ PySem.W.keepIn K (.ref a) = true ∧
    K.lookup a = some ⟨oc, od, .func (PySem.W.fnOf x x (defArgs st) (defBody st) (defScope st) .none kV doc pm an (.ref c) ct), osl⟩ ∧ PySem.W.codeIn K (.ref c) x = true
section
variable {P : Program} {w : World} {G : Gm} {mg : Str → Option Value} {base : Heap} {x : Str} {k : Nat} {c : Addr}
theorem RawL.fn1 {st : Stmt} {N ps : List Str} {mb : MS} (R : RawL G.K mg x st c) (gd : Bool) (S : FnScope N ps (defScope st))
    (hb : ∀ (kV doc pm : Value) (an : Option Addr) (cdv ct : Value) (us : List Value), us.length = ps.length → bindArgs (PySem.W.fnOf x x (defArgs st) (defBody st) (defScope st) .none kV doc pm an cdv ct) ⟨us, []⟩ = pure (ps.zip us))
    (hbody : ∀ (f : Addr) (A : Around) (outer : List Env) (s : Shared) (H : Hp) (E : XK), Room k (A.deeper (envOfC x (defScope st) s.heap.objs.size f (.ref c))) → (gd = true → A.guards = some []) →
      PSs (cxOf (L2.CX P w) P w G.K mg base N x (defScope st) f (.ref c) A outer s H E) (defBody st) (rdS G (fun cls d _ H => E cls d H) mb)) : Fn1 P w G mg base x (k + 1) gd (mFun N.length ps.length mb) := by
  obtain ⟨a, oc, od, kV, doc, pm, an, ct, osl, hm, kp, lk, hcd⟩ := R.ex
  refine ⟨a, _, ps, hm, kp, .all (hb kV doc pm an (.ref c) ct), ⟨fun ds S' h => if_neg h, fun A outer s H args us vs Q E z ds S' hr hg e0 hb r st' rl h => ?_⟩⟩
  have hl : ds.length = ps.length := by
    apply Classical.byContradiction
    intro q
    unfold mFun at h
    rw [if_neg q] at h
    exact h
  refine LamX.run_ofS lk hcd S hr e0 hb r (by rw [rl.len, hl]) fun hr' => ⟨_, hbody a A outer s H E hr' hg, ?_⟩
  refine ⟨z, ds.map some ++ List.replicate (N.length - ds.length) none, S', st', repE_start rl, ?_⟩
  unfold mFun at h
  rw [if_pos hl] at h
  rw [hl]
  cases q : mb (ds.map some ++ List.replicate (N.length - ps.length) none) S' with
  | nx env' S2 =>
    rw [q] at h
    exact fun z' H' σ' L s' e' => h z' H' .non L s' (by rw [Rep])
  | rt d S2 => rw [q] at h; exact h
  | bk env' S2 => rw [q] at h; exact h.elim
  | ct env' S2 => rw [q] at h; exact h.elim
  | exc x env' S2 =>
    rw [q] at h
    exact fun z' H' σ' cls dx L s' e' r' => h z' H' cls dx L s' r'
  | bad => rw [q] at h; exact h
/-- where a def's lambdas find their table -/
structure LamT (G : Gm) (mg : Str → Option Value) (base : Heap) (c : Addr) (q : Str) : Prop where
  ex : ∃ P : Addr, LamX.TabB base mg c P ∧ (P, q) ∈ G.tab ∧ ∀ p ∈ G.tab, p.1 = P → p.2 = q
end
section
variable {X : Cx} {G : Gm} {W : WX} {sb : Nat → Nat → Option Bool} {l : Cls3} {xf : Mx}
/-- the def that tells what a call comes to, as it stands -/
theorem ke_wordR {m : M D} {x a : Str} {st : Stmt} {c : Addr} {k : Nat} {Ng : List Str} {h₀ : ExceptHandler} {hds : List ExceptHandler} {ef : Expr} {p1 p2 p3 p4 p5 : Pos}
    {params : Arguments} {body : Expr} {scope : Scope} {p lpos pos : Pos} (R : Raw G.K X.mg x st) (hK : X.K = G.K) (Sg : FnScope Ng [a] (defScope st)) (hNg : Ng[0]? = some a) (hva : Vis (defScope st) a)
    (hb : ∀ (kV doc pm : Value) (an : Option Addr) (cdv ct : Value) (us : List Value), us.length = [a].length → bindArgs (PySem.W.fnOf x x (defArgs st) (defBody st) (defScope st) .none kV doc pm an cdv ct) ⟨us, []⟩ = pure ([a].zip us))
    (hbd : defBody st = [.Try [.Expr (.Call (.Name a p1) [] [] p2) p3] (h₀ :: hds) [] [] p4, .Return (some ef) p5]) (hsb : SbOk G sb) (hsl : slotsB Ng.length l = true)
    (hh : ∀ (g : Addr) (cdv : Value) (s : Shared) (H : Hp), Hds (cxOf C8.CX0 X.prog X.w X.K X.mg X.base Ng x (defScope st) g cdv X.A X.stack s H C8.E0).nox (h₀ :: hds) (wOf X.K G l))
    (hf : ∀ (g : Addr) (cdv : Value) (s : Shared) (H : Hp), PE (cxOf C8.CX0 X.prog X.w X.K X.mg X.base Ng x (defScope st) g cdv X.A X.stack s H C8.E0).nox ef (rdY G 0 .none none 0 none xf))
    (LT : LamT G X.mg X.base c (X.env.qual ++ "<lambda>")) (hcode : X.env.code = .ref c) (hr : Room (k + 2) X.A) (L : LamX.LamS X.env.scope scope) (hdef : defaultsOf params X.env = ([], []))
    (hbind : ∀ (q : Str) (cl : List (Str × Addr)) (pm cv ctv : Value), bindArgs (PySem.W.kla_fn "<lambda>" q params body scope cl pm cv ctv) ⟨[], []⟩ = pure [])
    (hbody : ∀ (A : Around) (outer : List Env) (s : Shared) (H : Hp) (E : XK) (f c' : Addr), Room k (A.deeper (LamX.lamEnv X scope s.heap.objs.size f c')) → PE (LamX.lamCx X A outer s H E scope f c') body (rdE G (fun cls d _ H => E cls d H) m))
    (h0 : ∀ f : Addr, (L2.start Ng [V.ref f])[0]? = some (some (V.ref f))) (hg : Gl X x) (hdb : (x == ("__debug__" : Str)) = false := by decide) (hd : (a == ("__debug__" : Str)) = false := by decide) (hcd : (a == ("__classdict__" : Str)) = false := by decide)
    (hsw : ∀ (env : Env), swapsWith (.Call (.Name a p1) [] [] p2) none p3.line env = pure false := by intro _; rfl) :
    PE X (.Call (.Name x p) [.Lambda params body scope lpos] [] pos) (rdE G W (mWord sb l xf m)) := by
  obtain ⟨g, fd, hm, F⟩ := R.ex
  obtain ⟨oc, od, kV, doc, pm, an, cdv, ct, osl, rfl, lk, hcd'⟩ := F.ex
  obtain ⟨P, TB, hmT, hu⟩ := LT.ex
  have kp := F.kp
  rw [← hK] at lk hcd' kp
  refine ke_word hm kp lk hcd' (.all (hb kV doc pm an cdv ct)) Sg hNg hva ?_ TB hcode hmT hu hr L hdef hbind hbody hg hdb hd hcd
  rw [hbd]
  exact word_gives hK hsb (hh g cdv) (hf g cdv) hsl h0 hsw
end
end Ki

set_option Elab.async false
set_option linter.all false
set_option maxRecDepth 100000
set_option maxHeartbeats 1000000
/-! Ki17: the law called from outside. -/
namespace Ki
open PySem L2 PySem.Spec PyProof.Rows

/-- what is tracked when the law is called: its script where it is not written, the tables -/
def hOf (K : PySem.W.Frag) (ts : List Addr) (a : Addr) (ob : Obj) (ns : List Int) : Hp := fun b => if b ∈ ts then some (.tbl #[]) else if b = a ∧ K.lookup a = none then some (.frz ob (.lst (ns.map V.int))) else none
theorem hOf_tab {K : PySem.W.Frag} {ts : List Addr} {a b : Addr} {ob : Obj} {ns : List Int} (h : b ∈ ts) : hOf K ts a ob ns b = some (.tbl #[]) := if_pos h
theorem hOf_some {K : PySem.W.Frag} {ts : List Addr} {a b : Addr} {ob : Obj} {ns : List Int} {u : HO} (h : hOf K ts a ob ns b = some u) : (b ∈ ts ∧ u = .tbl #[]) ∨ (b = a ∧ K.lookup a = none ∧ u = .frz ob (.lst (ns.map V.int))) := by
  unfold hOf at h
  split at h
  · cases h; exact .inl ⟨‹_›, rfl⟩
  · split at h
    · rename_i q; cases h; exact .inr ⟨q.1, q.2, rfl⟩
    · cases h
/-- what of the heap is known at the call -/
structure AtCall (K : PySem.W.Frag) (mg mb : Str → Option Value) (cs : List (Addr × Addr)) (s : Shared) : Prop where
  kin : K.In s.heap
  glo : s.heap.Ns mainGlobals mg
  blt : s.heap.Ns builtinsNs mb
  bts : ∀ x : Str, x ≠ "__name__" → mb x = bootBuiltins x
  lim : s.heap.NoLimit
  gen : s.gens = #[]
  tab : ∀ p ∈ cs, s.heap.get? p.2 = some { cls := .none, data := .fields #[] }
  out : ∀ p ∈ cs, K.lookup p.2 = none
  cod : ∀ p ∈ cs, PySem.W.CodeHd s.heap p.1 p.2
  bmn : ∃ (bm : Addr) (ob : Obj), mg "__builtins__" = some (.ref bm) ∧ bm ≠ builtinsNs ∧ s.heap.get? bm = some ob ∧ ob.cls = .type "module" ∧ ob.dict = some builtinsNs ∧ ob.data = .plain
section
variable {P : Program} {w : World} {G : Gm} {mg mb : Str → Option Value} {cs : List (Addr × Addr)} {s : Shared} {a : Addr} {vs : List Value} {ns : List Int}
abbrev lstO (vs : List Value) : Obj := { cls := .type "list", data := .seq vs.toArray }
theorem law_end {k : Nat} {fa : Addr} {x : Str} {m : Fn} {S' : Sto} (hx : mg x = some (.ref fa)) (C : AtCall G.K mg mb cs s) (ha : s.heap.get? a = some (lstO vs)) (hi : IntsAre vs ns) (hl : ns.length ≤ sizeLine) (hr : Room k callerA)
    (hF : ∀ base : Heap, G.K.In base → base.Ns mainGlobals mg → (∀ p ∈ cs, LamX.TabB base mg p.1 p.2) → Fn1 P w G mg base x k true m)
    (ht : ∀ p ∈ G.tab, p.1 ∈ cs.map (·.2)) (hm : m [.scr ns] [] = .ok (.bl true) S') :
    codeAny (model P w) callerA (.call (.ref fa) ⟨[.ref a], []⟩) (fun r s' => r = .ok (.ret (.bool true)) ∧ OldK s.heap s'.heap ∧ s'.os = s.os ∧ AllBare s'.gens) s := by
  have rv := vals_ints hi
  generalize hts : cs.map (·.2) = ts at ht
  have tabs : ∀ b ∈ ts, s.heap.get? b = some { cls := .none, data := .fields #[] } ∧ G.K.lookup b = none := fun b hb => by
    rw [← hts] at hb
    obtain ⟨p, hp, e⟩ := List.mem_map.mp hb
    rw [← e]
    exact ⟨C.tab p hp, C.out p hp⟩
  have memts : ∀ p ∈ cs, p.2 ∈ ts := fun p hp => by rw [← hts]; exact List.mem_map.mpr ⟨p, hp, rfl⟩
  have nota : a ∉ ts := fun q => by
    have e := (tabs a q).1
    rw [ha] at e
    cases congrArg Obj.data (Option.some.inj e)
  let H : Hp := hOf G.K ts a (lstO vs) ns
  have hidden : ∀ {b : Addr} {u : HO}, H b = some u → s.heap.get? b = some { cls := .none, data := .fields #[] } ∨ s.heap.get? b = some (lstO vs) := fun {b u} q => by
    rcases hOf_some q with ⟨m, _⟩ | ⟨rfl, _, _⟩
    · exact .inl (tabs b m).1
    · exact .inr ha
  have seen : ∀ {b : Addr} {o : Obj}, s.heap.get? b = some o → o ≠ { cls := .none, data := .fields #[] } → o ≠ lstO vs → (hidT s.heap H).get? b = some o := fun {b o} e n1 n2 => by
    refine hidT_get e ?_
    cases q : H b with
    | none => rfl
    | some u =>
      rcases hidden q with h | h
      · rw [e] at h; exact absurd (Option.some.inj h) n1
      · rw [e] at h; exact absurd (Option.some.inj h) n2
  have ns_ : ∀ {b : Addr} {m' : Str → Option Value}, s.heap.Ns b m' → (hidT s.heap H).Ns b m' := fun {b m'} ⟨o, es, ep, e, d, r⟩ =>
    ⟨o, es, ep, seen e (fun q => by rw [q] at d; cases d) (fun q => by rw [q] at d; cases d), d, r⟩
  have kin : G.K.In (hidT s.heap H) := fun b o e => hidT_get (C.kin b o e) (by
    cases q : H b with
    | none => rfl
    | some u =>
      rcases hOf_some q with ⟨m', _⟩ | ⟨rfl, h, _⟩
      · rw [(tabs b m').2] at e; cases e
      · rw [h] at e; cases e)
  have hok : HOk P w H s.heap := fun b u q => by
    rcases hOf_some q with ⟨m', rfl⟩ | ⟨rfl, _, rfl⟩
    · exact (tabs b m').1
    · exact ⟨ha, by rw [List.length_map]; exact hl, vs, _, rv, ha⟩
  have TB : ∀ p ∈ cs, LamX.TabB (hidT s.heap H) mg p.1 p.2 := fun p hp => by
    have tp := C.tab p hp
    obtain ⟨o, us, file, tf, flags, tg, inF, text, tt, e1, r1, r2, r3, rest⟩ := C.cod p hp
    obtain ⟨bm, ob, b1, b2, b3, b4, b5, b6⟩ := C.bmn
    obtain ⟨og, es, ep, eg, hd, _⟩ := C.glo
    refine ⟨⟨o, us, file, tf, flags, tg, inF, text, tt, seen e1 (fun q => ?_) (fun q => ?_), r1, r2, r3, rest⟩, ⟨bm, ob, b1, b2, fun q => ?_, fun q => ?_, seen b3 (fun q => by rw [q] at b6; cases b6) (fun q => by rw [q] at b6; cases b6), b4, b5, b6⟩, fun q => ?_⟩
    · rw [q] at r2; cases r2; simp at r3
    · rw [q] at r2; cases r2
    · rw [q, eg] at b3; cases b3; rw [hd] at b6; cases b6
    · rw [q, tp] at b3; cases b3; cases b6
    · rw [q, tp] at eg; cases eg; cases hd
  have md : L2.Mod G.K mg (hidT s.heap H) := ⟨kin, ns_ C.glo, ⟨mb, ns_ C.blt, C.bts⟩, let ⟨mc, h1, h2⟩ := C.lim; ⟨mc, ns_ h1, h2⟩⟩
  have e0 : Env0 P w G.K mg (hidT s.heap H) callerA [] s H := ⟨rfl, md, fun _ _ e => of_hidT e, Nat.le_of_eq (hidT_size _ _), trivial, fun b hb => absurd (show b ∈ ([] : List Addr) from hb) (by simp), hok, .of_eq C.gen⟩
  have scr : SqF G.K H a (ns.map V.int) := by
    cases q : G.K.lookup a with
    | none => exact .inl ⟨lstO vs, by show hOf _ _ _ _ _ _ = _; unfold hOf; rw [if_neg nota, if_pos ⟨rfl, q⟩]⟩
    | some o =>
      have e := C.kin a o q
      rw [ha] at e
      cases e
      exact .inr ⟨_, vs.toArray, _, q, rfl, rfl, rfl, by rw [List.size_toArray, hi.length]; exact hl, by simpa using rv⟩
  let z : Z := ⟨fun _ => False, fun _ => False, [], fun _ => False⟩
  have st : Stands G z H [] := ⟨fun _ h => absurd h (by simp [z]), fun _ h => h, fun _ h => h.elim, fun _ h => h.elim, fun p hp => LamX.TabS.nil (hOf_tab (ht p hp)), rfl, List.nodup_nil, fun n b o h => by simp [z] at h⟩
  have rl : RepL G z H [.scr ns] [.ref a] := by
    rw [RepL]
    exact ⟨_, [], rfl, by rw [Rep]; exact ⟨a, rfl, scr⟩, by rw [RepL]⟩
  obtain ⟨fa', fd, ps, hx', _, hb, FF⟩ := (hF _ kin (ns_ C.glo) TB).ex
  rw [hx] at hx'
  cases hx'
  have lp : ps.length = 1 := by
    apply Classical.byContradiction
    intro q
    rw [FF.len [.scr ns] [] (fun e => q e.symm)] at hm
    cases hm
  have bd := hb s [.ref a] C.kin (by rw [List.append_nil]; exact lp.symm)
  rw [List.append_nil] at bd
  have run := FF.run callerA [] s H ⟨[.ref a], []⟩ [.ref a] [.ref a] (fun v _ => v = .bl true) (fun _ _ _ => False) z [.scr ns] [] hr (fun _ => rfl) e0 bd (.cons rfl .nil) st rl (by
    rw [hm]
    intro z' H' v _ _ r
    rw [Rep] at r
    exact r)
  refine codeAny_mono run fun r s' h => ?_
  match r, h with
  | .error e, h =>
    obtain ⟨_, _, _, _, _, _, _, _, _, _, _, _, no⟩ := h
    exact no.elim
  | .ok .next, h => exact h.elim
  | .ok .brk, h => exact h.elim
  | .ok .cont, h => exact h.elim
  | .ok (.ret u), h =>
    obtain ⟨v, H', os, bare, un, hok', r', q⟩ := h
    have q' : v = .bl true := q
    subst q'
    cases (show u = Value.bool true from r')
    have stay : ∀ b o, b ∉ ts → s.heap.get? b = some o → s'.heap.get? b = some o := fun b o nb e => by
      cases q : H b with
      | none => exact un.keep b o e q (by intro z; exact absurd (show b ∈ ([] : List Addr) from z) (by simp)) (by simp)
      | some u =>
        rcases hOf_some q with ⟨m', _⟩ | ⟨_, _, rfl⟩
        · exact absurd m' nb
        · obtain ⟨e2, _⟩ := hok' b _ (un.frzs b _ _ q)
          obtain ⟨e1, _⟩ := hok b _ q
          rw [e] at e1
          cases e1
          exact e2
    have more : ∀ p ∈ cs, ∃ more : Array Value, s'.heap.get? p.2 = some { cls := .none, data := .fields more } := fun p hp => by
      obtain ⟨mo, e⟩ := un.tbls p.2 #[] (hOf_tab (memts p hp))
      exact ⟨_, hok' p.2 _ e⟩
    refine ⟨rfl, ⟨fun b o e => ?_, fun b o e => ?_⟩, os, bare⟩
    · by_cases hb : b ∈ ts
      · rw [← hts] at hb
        obtain ⟨p, hp, rfl⟩ := List.mem_map.mp hb
        obtain ⟨mo, hmo⟩ := more p hp
        have tp := C.tab p hp
        rw [tp] at e
        cases e
        exact .inr (.inl ⟨((C.cod p hp).tab tp).isCodeTable, rfl, #[], mo, rfl, by rw [Array.empty_append]; exact hmo⟩)
      · exact .inl (stay b o hb e)
    · by_cases hb : b ∈ ts
      · rw [← hts] at hb
        obtain ⟨p, hp, rfl⟩ := List.mem_map.mp hb
        obtain ⟨mo, hmo⟩ := more p hp
        exact ⟨_, hmo⟩
      · exact ⟨o, stay b o hb e⟩
/-- the end of a row: what the head leaves, the law's reckoning -/
theorem walk_end {l : PySem.W.OpenLaw} {n k : Nat} {q : Program} {loose : List Str} {XP : (Str → Option Value) → Heap → Prop} {YP : World → Heap → Prop} {d : DefRec} {m : Fn} (hn : l.most = some n) (hn2 : n ≤ sizeLine) (hdf : d.params.defaults = []) (hr : Room k callerA)
    (F : ∀ (w : World) (mg : Str → Option Value) (fa : Addr) (h : Heap), YP w h → h.Ns mainGlobals mg → mg d.name = some (.ref fa) → ∃ (G : Gm) (cs : List (Addr × Addr)), G.K.In h ∧ (∀ p ∈ cs, h.get? p.2 = some { cls := .none, data := .fields #[] }) ∧ (∀ p ∈ cs, G.K.lookup p.2 = none) ∧
      (∀ p ∈ cs, PySem.W.CodeHd h p.1 p.2) ∧ (∀ p ∈ G.tab, p.1 ∈ cs.map (·.2)) ∧ ∀ base : Heap, G.K.In base → base.Ns mainGlobals mg → (∀ p ∈ cs, LamX.TabB base mg p.1 p.2) → Fn1 l.prog w G mg base d.name k true m)
    (hm : ∀ ns : List Int, ns.length ≤ n → (∀ i ∈ ns, Builtin.Int.intBits i ≤ 1048576) → ∃ S', m [.scr ns] [] = .ok (.bl true) S') : PySem.W.WalkO q loose XP YP l.row.toRowW d [] (fun f vs => PySem.call f vs) := by
  refine Att.attach_callB hn hdf fun w s₀ s₁ mg mb fa o pm cd doc a vs ns Gr Y ho hd hcd hmg hobj hints hlen hbits hg => ?_
  obtain ⟨G, cs, KX, hT, nT, cH, ht, hF⟩ := F w mg fa _ Y Gr.T.g hmg
  obtain ⟨S', e⟩ := hm ns hlen hbits
  exact law_end (mb := mb) hmg ⟨KX, Gr.T.g, Gr.T.b, Gr.T.builtins, Gr.T.nolimit, hg, hT, nT, cH, Gr.T.bmain⟩ hobj hints (Nat.le_trans hlen hn2) hr hF ht e
end
end Ki

set_option Elab.async false
set_option linter.all false
set_option maxRecDepth 100000
/-! Ki18: further rules, not yet used by a finished proof. -/
namespace Ki
open PySem L2 PySem.Spec PyProof.Rows
section
variable {X : Cx} {G : Gm} {W : WX} {pos p p' : Pos} {o e : Expr} {mo : M D} {mas : M (List D)}
/-- xs.extend(ys), ys a list that no one changes -/
def oExt : OpM
  | xs, [.lst true ys] => if xs.length + ys.length ≤ 100000 then some (xs ++ ys, .non) else none
  | _, _ => none
theorem km_ext : MutK X G "list.extend" oExt := by
  refine ⟨_, mt_extend, fun z H S l vs ws xs ds ys d Q s hl rx rd e q => ?_⟩
  unfold oExt at e
  split at e
  · rename_i xs zs
    split at e
    · rename_i hc
      cases e
      obtain ⟨w, rfl, rw'⟩ := repL1 rd
      rw [Rep] at rw'
      obtain ⟨b, us, rfl, hb, _, _, hr⟩ := rw'
      exact ⟨l, b, vs, us, rfl, rfl, hl, hb, by rw [rx.len, hr.len]; exact line5 hc, q _ _ (rx.app hr) (by rw [Rep])⟩
    · cases e
  · cases e
theorem ke_ext {o e : Expr} {mo : M D} {mas : M (List D)} {p p' : Pos} (ho : PE X o (rdE G W mo)) (ha : PA X [e] (rdA G W mas))
    (hs : starEach [e] X.env = (false, eval e X.env) :: starEach [] X.env := by rfl) (hbase : attributeBase o "extend" X.env (eval o X.env) = eval o X.env := by rfl)
    (hfew : ((backTo p' (starEach [e] X.env)).all (fun x => !x.1) && (backToKw p' (keywordEach [] X.env)).all (fun x => x.1.isSome) && decide ([e].length + ([] : List Keyword).length + (if ([] : List Keyword).isEmpty then 0 else 1) < 30)) = true := by rfl)
    (hline : (p.endLine == p'.line) = true := by rfl) (hK : X.K = G.K := by rfl) : PE X (.Call (.Attribute o "extend" p) [e] [] p') (rdE G W (mMut oExt mo mas)) :=
  ke_mut PySem.F.slot_list_extend PySem.F.type_list_extend km_ext ho ha hs hbase hfew hline rfl hK
/-! ### slices -/
def cutD (xs : List D) (lo hi : Option Int) : List D := (xs.drop (HT.sIx xs.length 0 lo)).take (HT.sIx xs.length xs.length hi - HT.sIx xs.length 0 lo)
theorem RepL.drop_ {z : Z} {H : Hp} : ∀ (n : Nat) {ds : List D} {vs : List V}, RepL G z H ds vs → RepL G z H (ds.drop n) (vs.drop n)
  | 0, _, _, h => h
  | n + 1, [], vs, h => by rw [RepL] at h; subst h; simp [RepL]
  | n + 1, d :: ds, vs, h => by
    rw [RepL] at h
    obtain ⟨w, ws, rfl, _, h2⟩ := h
    exact RepL.drop_ n h2
theorem RepL.take_ {z : Z} {H : Hp} : ∀ (n : Nat) {ds : List D} {vs : List V}, RepL G z H ds vs → RepL G z H (ds.take n) (vs.take n)
  | 0, _, _, h => by simp [RepL]
  | n + 1, [], vs, h => by rw [RepL] at h; subst h; simp [RepL]
  | n + 1, d :: ds, vs, h => by
    rw [RepL] at h
    obtain ⟨w, ws, rfl, h1, h2⟩ := h
    rw [List.take_succ_cons, List.take_succ_cons, RepL]
    exact ⟨w, _, rfl, h1, RepL.take_ n h2⟩
theorem repL_cut {z : Z} {H : Hp} {ds : List D} {vs : List V} (h : RepL G z H ds vs) (lo hi : Option Int) : RepL G z H (cutD ds lo hi) (cutV vs lo hi) := by
  unfold cutD cutV
  rw [h.len]
  exact RepL.take_ _ (RepL.drop_ _ h)
def dSl : D → Option Int → Option Int → Option D
  | .lst _ xs, lo, hi => some (.lst true (cutD xs lo hi))
  | .tup xs, lo, hi => some (.tup (cutD xs lo hi))
  | _, _, _ => none
/-- a slice's bound -/
def mPart (m : M D) : M (Option Int) := bind m fun d => match d with
  | .int i => ret (some i)
  | _ => fun _ _ => .bad
def mNoPart : M (Option Int) := ret none
def rdO (G : Gm) (W : WX) (m : M (Option Int)) : TO := fun σ H Q => ∃ z env S, Stands G z H S ∧ RepE G z H env σ ∧ Out G W σ z H (fun _ H' _ o => Q o H') (m env S)
theorem po_imp {e : Option Expr} {t u : TO} (h : PO X e t) (i : ∀ σ H Q, u σ H Q → t σ H Q) : PO X e u := ⟨fun pins s σ H Q I q => h.run pins s σ H Q I (i σ H Q q)⟩
theorem kp_none : PO X none (rdO G W mNoPart) := po_imp po_none fun σ H Q ⟨z, env, S, s, e, h⟩ => rd_ret s h
theorem kp_some {m : M D} (he : PE X e (rdE G W m)) : PO X (some e) (rdO G W (mPart m)) := by
  refine po_imp (po_some he) fun σ H Q ⟨z, env, S, s, e, h⟩ => ?_
  refine rdE_bind s e h fun z1 H1 S1 d v L s1 e1 rv h1 => ?_
  cases d with
  | int i =>
    rw [Rep] at rv
    exact ⟨i, rv, rd_ret s1 h1⟩
  | _ => exact h1.elim
def mSl (m : M D) (l h : M (Option Int)) : M D := bind m fun d => bind l fun lo => bind h fun hi => fun env S => lift (dSl (vw S d) lo hi) env S
theorem ke_sl {lo hi : Option Expr} {p2 : Pos} {m : M D} {ml mh : M (Option Int)} (he : PE X e (rdE G W m)) (hl : PO X lo (rdO G W ml)) (hh : PO X hi (rdO G W mh)) (hK : X.K = G.K := by rfl) : PE X (.Subscript e (.Slice lo hi none p2) pos) (rdE G W (mSl m ml mh)) := by
  refine pe_imp (pe_slice (sl_list.or sl_tupA) he hl hh) fun σ H Q ⟨z, env, S, s, e, h⟩ => ?_
  refine rdE_bind s e h fun z1 H1 S1 d v L s1 e1 rv h1 => ?_
  refine ⟨z1, env, S1, s1, e1, (rd_bind h1).imp fun z2 H2 S2 l L2' s2 h2 => ?_⟩
  have e2 := e1.later L2' s1.mup
  refine ⟨z2, env, S2, s2, e2, (rd_bind h2).imp fun z3 H3 S3 u L3 s3 h3 => ?_⟩
  have rv3 := (rv.later L2' s1.mup).later L3 s2.mup
  have nv := now_vw s3 rv3
  obtain ⟨y, ey, _⟩ := rd_lift s3 h3
  have h4 : Out G W σ z3 H3 (fun z' H' _ d => ∀ v, Rep G z' H' d v → Q v H') (lift (dSl (vw S3 d) l u) env S3) := h3
  unfold lift at h4
  rw [ey] at h4
  generalize vw S3 d = x at *
  unfold dSl at ey
  split at ey
  · cases ey
    obtain ⟨a, vs, rfl, h5, h6⟩ := now_lst nv
    exact .inl ⟨a, vs, rfl, SqL.of h5, fun q hq => h4 z3 _ (later_same (same_new hq)) (s3.same (same_new hq)) _ (rep_lst s3 hq (repL_cut h6 _ _))⟩
  · cases ey
    obtain ⟨a, vs, rfl, h5, h6⟩ := nv.tup
    refine .inr ⟨a, vs, rfl, hK ▸ h5, fun hw => ?_, fun _ q hq => h4 z3 _ (later_same (same_new hq)) (s3.same (same_new hq)) _ (rep_tup s3 hq (repL_cut h6 _ _))⟩
    refine h4 z3 _ .refl s3 _ ?_
    have c := repL_cut h6 l u
    have ec : cutV vs l u = vs := by
      unfold cutV
      rw [hw.1, hw.2, List.drop_zero, Nat.sub_zero, List.take_length]
    rw [ec] at c
    rw [Rep]
    exact ⟨a, vs, rfl, h5, c⟩
  · cases ey
/-! ### op= on ints -/
def dIAdd : Op2 := iOp (fun _ _ => true) (· + ·)
theorem kio_add : OpK X G (inplaceOp .Add) dIAdd := ok_iOp0 iop_add
theorem kio_sub : OpK X G (inplaceOp .Sub) dSub := ok_iOp0 iop_sub
/-! ### in, not in, over flat items -/
def flatE : D → Option V
  | .non => some .non
  | .bl b => some (.bl b)
  | .int i => some (.int i)
  | .str x => some (.str x)
  | _ => none
def flatEs : List D → Option (List V)
  | [] => some []
  | d :: ds => match flatE d, flatEs ds with
    | some v, some vs => some (v :: vs)
    | _, _ => none
theorem flatE_ok {z : Z} {H : Hp} {d : D} {v w : V} (r : Rep G z H d v) (e : flatE d = some w) : v = w ∧ flatV w = true := by
  cases d <;> first | (cases e; done) | (cases e; rw [Rep] at r; exact ⟨r, rfl⟩)
theorem flatE_now {z : Z} {H : Hp} {d : D} {v w : V} (r : Now G z H d v) (e : flatE d = some w) : v = w ∧ flatV w = true := by
  rcases r with r | ⟨o, xs, a, vs, rfl, _⟩
  · exact flatE_ok r e
  · cases e
theorem flatEs_ok {z : Z} {H : Hp} : ∀ {ds : List D} {vs ws : List V}, RepL G z H ds vs → flatEs ds = some ws → vs = ws ∧ ws.all flatV = true
  | [], vs, ws, r, e => by rw [RepL] at r; rw [flatEs] at e; cases e; exact ⟨r, rfl⟩
  | d :: ds, vs, ws, r, e => by
    rw [RepL] at r
    obtain ⟨w, us, rfl, r1, r2⟩ := r
    rw [flatEs] at e
    cases e1 : flatE d with
    | none => rw [e1] at e; cases e
    | some x =>
      cases e2 : flatEs ds with
      | none => rw [e1, e2] at e; cases e
      | some xs =>
        rw [e1, e2] at e
        cases e
        obtain ⟨a1, a2⟩ := flatE_ok r1 e1
        obtain ⟨b1, b2⟩ := flatEs_ok r2 e2
        exact ⟨by rw [a1, b1], by rw [List.all_cons, a2, b2] <;> rfl⟩
def dIn (neg : Bool) : Op2 := fun x y => match flatE x, (match y with | .lst _ ys => flatEs ys | .tup ys => flatEs ys | _ => none) with
  | some v, some vs => some (.bl (if neg then !inV v vs else inV v vs))
  | _, _ => none
theorem in_now {z : Z} {H : Hp} {S : Sto} {neg : Bool} {x y : V} {d1 d2 d : D} {Q : VK} (hK : X.K = G.K) (n1 : Now G z H d1 x) (n2 : Now G z H d2 y) (e : dIn neg d1 d2 = some d) (q : ∀ H' v, L2.Same H H' → Rep G z H' d v → Q v H') : rIn X.K neg x y H Q := by
  unfold dIn at e
  cases e1 : flatE d1 with
  | none => rw [e1] at e; cases e
  | some v =>
    obtain ⟨rfl, f1⟩ := flatE_now n1 e1
    rw [e1] at e
    cases d2 <;> first | (cases e; done) | skip
    · rename_i ys
      dsimp only at e
      cases e2 : flatEs ys with
      | none => rw [e2] at e; cases e
      | some vs =>
        rw [e2] at e
        cases e
        obtain ⟨a, us, rfl, h1, h2⟩ := n2.tup
        obtain ⟨rfl, f2⟩ := flatEs_ok h2 e2
        exact ⟨a, us, rfl, .inr (hK ▸ h1), f1, f2, q _ _ (fun _ _ h => h) (by rw [Rep])⟩
    · rename_i o ys
      dsimp only at e
      cases e2 : flatEs ys with
      | none => rw [e2] at e; cases e
      | some vs =>
        rw [e2] at e
        cases e
        obtain ⟨a, us, rfl, h1, h2⟩ := now_lst n2
        obtain ⟨rfl, f2⟩ := flatEs_ok h2 e2
        exact ⟨a, us, rfl, .inl (SqL.of h1), f1, f2, q _ _ (fun _ _ h => h) (by rw [Rep])⟩
theorem ko_in (hK : X.K = G.K := by rfl) : OpK X G (compareOp .In) (dIn false) := ⟨_, op_in_seq, fun z H S x y d1 d2 d Q s n1 n2 e q => in_now (S := S) hK n1 n2 e q⟩
theorem ko_notin (hK : X.K = G.K := by rfl) : OpK X G (compareOp .NotIn) (dIn true) := ⟨_, op_notIn_seq, fun z H S x y d1 d2 d Q s n1 n2 e q => in_now (S := S) hK n1 n2 e q⟩
/-! ### list(x) -/
def dList : OpL
  | [.lst _ xs] => some (.lst true xs)
  | [.tup xs] => some (.lst true xs)
  | [.scr ns] => some (.lst true (ns.map D.int))
  | _ => none
theorem repL_ints {z : Z} {H : Hp} : ∀ ns : List Int, RepL G z H (ns.map D.int) (ns.map V.int)
  | [] => by rw [List.map_nil, List.map_nil, RepL]
  | n :: ns => by
    rw [List.map_cons, List.map_cons, RepL]
    exact ⟨_, _, rfl, by rw [Rep], repL_ints ns⟩
theorem kc_list (hK : X.K = G.K := by rfl) : CallK X G (.type "list") dList := by
  refine ⟨_, call_list_of, fun z H S xs ds d Q s n e q => ?_⟩
  unfold dList at e
  split at e
  · cases e
    cases n with
    | cons n1 n2 =>
      cases n2
      obtain ⟨a, vs, rfl, h1, h2⟩ := now_lst n1
      exact ⟨a, vs, rfl, .inl (SqL.of h1), fun l hl => q _ _ (same_new hl) (rep_lst s hl h2)⟩
  · cases e
    cases n with
    | cons n1 n2 =>
      cases n2
      obtain ⟨a, vs, rfl, h1, h2⟩ := n1.tup
      exact ⟨a, vs, rfl, .inr (hK ▸ h1), fun l hl => q _ _ (same_new hl) (rep_lst s hl h2)⟩
  · cases e
    cases n with
    | cons n1 n2 =>
      cases n2
      obtain ⟨a, rfl, h1⟩ := n1.scr
      exact ⟨a, _, rfl, .inl (hK ▸ h1.l), fun l hl => q _ _ (same_new hl) (rep_lst s hl (repL_ints _))⟩
  · cases e
/-! ### for, over whatever a comprehension may go over -/
def sForI (g : Tg) (mi : M (List D)) (body : MS) : MS := thenS mi fun ds => forL g body ds
theorem ks_forI {tg iter : Expr} {body : List Stmt} {g : Tg} {mi : M (List D)} {mb : MS} (hp : PassesOwn (model X.prog X.w) X.A X.env X.xe) (hc : X.calm = true) (hi : PIk X G W tg iter mi) (hg : PGk X G tg g) (hb : PSs X body (rdS G W mb))
    (hf : ∀ x, foldedSetIterable iter X.env x = pure x := by intro _; rfl) : PS X (.For tg iter body [] pos) (rdS G W (sForI g mi mb)) := by
  obtain ⟨t, hpg, ht⟩ := hg.ex
  obtain ⟨wi, h1, h2⟩ := hi.ex
  refine ps_imp (ps_for hp hc h1 hpg hb hf) fun E σ H ⟨z, env, S, s, r, h⟩ => ?_
  refine h2 z H S σ env _ s r ((rd_thenS s r h).imp fun z1 H1 S1 ds L s1 q J hw => ?_)
  exact for_any (fun z' H' S' L' s' => hw z' H' S' (fun d v rv => rv.later L' s1.mup) s') ht s1 (r.later L s.mup) q
end
end Ki

set_option Elab.async false
set_option linter.all false
set_option maxRecDepth 100000
/-! Ki19: enumerate, zip, not yet used by a finished proof. -/
namespace Ki
open PySem L2 PySem.Spec PyProof.Rows
section
variable {X : Cx} {G : Gm} {W : WX} {pos p tpos : Pos} {e e2 : Expr} {elts : List Expr} {kk : Nat}
/-! ### enumerate -/
def enumF : Nat → List D → List D
  | _, [] => []
  | i, d :: ds => .tup [.int (i : Nat), d] :: enumF (i + 1) ds
theorem enumF_len : ∀ (ds : List D) (i : Nat), (enumF i ds).length = ds.length
  | [], _ => rfl
  | _ :: ds, i => by rw [enumF, List.length_cons, List.length_cons, enumF_len ds]
theorem enumF_at : ∀ (ds : List D) (k i : Nat) {d : D}, (enumF k ds)[i]? = some d → ∃ d0, ds[i]? = some d0 ∧ d = .tup [.int ((k + i : Nat) : Int), d0]
  | [], _, _, d, h => by rw [enumF] at h; simp at h
  | d0 :: ds, k, 0, d, h => by
    rw [enumF] at h
    simp only [List.getElem?_cons_zero] at h
    cases h
    exact ⟨d0, by simp, rfl⟩
  | d0 :: ds, k, i + 1, d, h => by
    rw [enumF] at h
    rw [List.getElem?_cons_succ] at h
    obtain ⟨d1, q1, q2⟩ := enumF_at ds (k + 1) i h
    exact ⟨d1, by rw [List.getElem?_cons_succ]; exact q1, by rw [q2, Nat.add_assoc, Nat.add_comm 1 i]⟩
def enumOf : List D → Option (List D)
  | [d] => if isT d then none else (items d).map (enumF 0)
  | _ => none
def mEnum (m : M (List D)) : M (List D) := bind m fun ds => lift (enumOf ds)
theorem ik_enum {m : M (List D)} (hm : X.mg "enumerate" = none) (ha : PA X [e] (rdA G W m)) (hg : Gl X "enumerate" := by rfl) (hs : starEach [e] X.env = [(false, eval e X.env)] := by rfl) (hK : X.K = G.K := by rfl) :
    PIk X G W (.Tuple elts kk tpos) (.Call (.Name "enumerate" p) [e] [] pos) (mEnum m) := by
  refine ⟨⟨_, pi_enum hg hm ha hs, fun z H S σ env R s r h => ?_⟩⟩
  refine rdA_bind s r h fun z1 H1 S1 ds vs L s1 r1 rl h1 => ?_
  obtain ⟨dr, e0, q⟩ := rd_lift s1 h1
  unfold enumOf at e0
  split at e0
  · rename_i d
    obtain ⟨v, rfl, rv⟩ := repL1 rl
    split at e0
    · cases e0
    · rename_i hb
      have hb : isT d = false := by simpa using hb
      cases e : items d with
      | none => rw [e] at e0; cases e0
      | some ds =>
        rw [e] at e0
        cases e0
        obtain ⟨a, rfl⟩ := rep_ref e rv
        obtain ⟨vs, h2, rl⟩ := (seq_of (X := X) hK e rv).1 hb
        refine ⟨a, vs, rfl, h2, q _ fun z2 H2 S2 L2' s2 => ?_⟩
        obtain ⟨vs2, h3, rl2⟩ := (seq_of (X := X) hK e (L2' _ _ rv)).1 hb
        refine ⟨fun i hi => ⟨vs2, h3, by rw [enumF_len] at hi; rw [rl2.len]; exact hi⟩, fun i d' hd => ?_⟩
        obtain ⟨d0, q1, rfl⟩ := enumF_at ds 0 i hd
        obtain ⟨x, q2, q3⟩ := rl2.at_ q1
        refine ⟨⟨vs2, x, h3, q2⟩, fun y H' hy => ?_⟩
        obtain ⟨T, x', rfl, hT, rfl, hx⟩ := hy
        have := hx vs2 h3
        rw [q2] at this
        cases this
        refine ⟨same_new hT, rep_tup s2 hT ?_⟩
        rw [RepL]
        refine ⟨_, _, rfl, by rw [Rep, Nat.zero_add], ?_⟩
        rw [RepL]
        exact ⟨_, _, rfl, q3, by rw [RepL]⟩
  · cases e0
/-! ### zip of two -/
def zipF : List D → List D → List D
  | d :: ds, d2 :: ds2 => .tup [d, d2] :: zipF ds ds2
  | _, _ => []
theorem zipF_at : ∀ (ds ds2 : List D) (i : Nat) {d : D}, (zipF ds ds2)[i]? = some d → ∃ d1 d2, ds[i]? = some d1 ∧ ds2[i]? = some d2 ∧ d = .tup [d1, d2]
  | [], _, _, d, h => by simp [zipF] at h
  | _ :: _, [], _, d, h => by simp [zipF] at h
  | d1 :: ds, d2 :: ds2, 0, d, h => by
    rw [zipF] at h
    simp only [List.getElem?_cons_zero] at h
    cases h
    exact ⟨d1, d2, by simp, by simp, rfl⟩
  | d1 :: ds, d2 :: ds2, i + 1, d, h => by
    rw [zipF, List.getElem?_cons_succ] at h
    rw [List.getElem?_cons_succ, List.getElem?_cons_succ]
    exact zipF_at ds ds2 i h
theorem zipF_end : ∀ (ds ds2 : List D) (i : Nat), (zipF ds ds2).length ≤ i → ds.length ≤ i ∨ ds2.length ≤ i
  | [], _, i, _ => .inl (Nat.zero_le _)
  | _ :: _, [], i, _ => .inr (Nat.zero_le _)
  | d1 :: ds, d2 :: ds2, 0, h => by rw [zipF] at h; simp at h
  | d1 :: ds, d2 :: ds2, i + 1, h => by
    rw [zipF, List.length_cons] at h
    rw [List.length_cons, List.length_cons]
    rcases zipF_end ds ds2 i (by omega) with h | h
    · exact .inl (by omega)
    · exact .inr (by omega)
def zipOf : List D → Option (List D)
  | [d, d2] => if isT d == isT d2 then (items d).bind fun ds => (items d2).map fun ds2 => zipF ds ds2 else none
  | _ => none
def mZip (m : M (List D)) : M (List D) := bind m fun ds => lift (zipOf ds)
theorem ik_zip {m : M (List D)} (hm : X.mg "zip" = none) (ha : PA X [e, e2] (rdA G W m)) (hg : Gl X "zip" := by rfl) (hs : starEach [e, e2] X.env = (false, eval e X.env) :: starEach [e2] X.env := by rfl) (hpl : (backTo pos (starEach [e2] X.env)).any (·.1) = false := by rfl) (hK : X.K = G.K := by rfl) :
    PIk X G W (.Tuple elts kk tpos) (.Call (.Name "zip" p) [e, e2] [] pos) (mZip m) := by
  refine ⟨⟨_, RZ.pi_zipA hg hm ha hs hpl, fun z H S σ env R s r h => ?_⟩⟩
  refine rdA_bind s r h fun z1 H1 S1 ds vs L s1 r1 rl h1 => ?_
  obtain ⟨dr, e0, q⟩ := rd_lift s1 h1
  unfold zipOf at e0
  split at e0
  · rename_i d d2
    obtain ⟨v, v2, rfl, rv, rv2⟩ := repL2 rl
    split at e0
    · rename_i hb
      have hb : isT d = isT d2 := by simpa using hb
      cases e : items d with
      | none => rw [e] at e0; cases e0
      | some ds =>
        cases e' : items d2 with
        | none => rw [e, e'] at e0; cases e0
        | some ds2 =>
          rw [e, e'] at e0
          cases e0
          obtain ⟨a, rfl⟩ := rep_ref e rv
          obtain ⟨b, rfl⟩ := rep_ref e' rv2
          cases ht : isT d with
          | false =>
            have ht2 : isT d2 = false := by rw [← hb]; exact ht
            obtain ⟨vs, h2, rl⟩ := (seq_of (X := X) hK e rv).1 ht
            obtain ⟨us, g2, ru⟩ := (seq_of (X := X) hK e' rv2).1 ht2
            refine ⟨a, b, vs, us, rfl, .inl ⟨h2, g2, q _ fun z2 H2 S2 L2' s2 => ?_⟩⟩
            obtain ⟨vs2, h3, rl2⟩ := (seq_of (X := X) hK e (L2' _ _ rv)).1 ht
            obtain ⟨us2, g3, ru2⟩ := (seq_of (X := X) hK e' (L2' _ _ rv2)).1 ht2
            refine ⟨fun i hi => ⟨vs2, us2, h3, g3, by rw [rl2.len, ru2.len]; exact zipF_end _ _ _ hi⟩, fun i d' hd => ?_⟩
            obtain ⟨d3, d4, q1, q1', rfl⟩ := zipF_at _ _ _ hd
            obtain ⟨x, q2, q3⟩ := rl2.at_ q1
            obtain ⟨y, q2', q3'⟩ := ru2.at_ q1'
            refine ⟨⟨vs2, us2, x, y, h3, g3, q2, q2'⟩, fun w H' hy => ?_⟩
            obtain ⟨T, x', y', rfl, hT, rfl, hx, hy⟩ := hy
            have t1 := hx vs2 h3
            have t2 := hy us2 g3
            rw [q2] at t1
            rw [q2'] at t2
            cases t1
            cases t2
            refine ⟨same_new hT, rep_tup s2 hT ?_⟩
            rw [RepL]
            refine ⟨_, _, rfl, q3, ?_⟩
            rw [RepL]
            exact ⟨_, _, rfl, q3', by rw [RepL]⟩
          | true =>
            have ht2 : isT d2 = true := by rw [← hb]; exact ht
            obtain ⟨vs, h2, rl⟩ := (seq_of (X := X) hK e rv).2 ht
            obtain ⟨us, g2, ru⟩ := (seq_of (X := X) hK e' rv2).2 ht2
            refine ⟨a, b, vs, us, rfl, .inr ⟨h2, g2, q _ fun z2 H2 S2 L2' s2 => ?_⟩⟩
            obtain ⟨vs2, h3, rl2⟩ := (seq_of (X := X) hK e (L2' _ _ rv)).2 ht
            obtain ⟨us2, g3, ru2⟩ := (seq_of (X := X) hK e' (L2' _ _ rv2)).2 ht2
            refine ⟨fun i hi => ⟨vs2, us2, h3, g3, by rw [rl2.len, ru2.len]; exact zipF_end _ _ _ hi⟩, fun i d' hd => ?_⟩
            obtain ⟨d3, d4, q1, q1', rfl⟩ := zipF_at _ _ _ hd
            obtain ⟨x, q2, q3⟩ := rl2.at_ q1
            obtain ⟨y, q2', q3'⟩ := ru2.at_ q1'
            refine ⟨⟨vs2, us2, x, y, h3, g3, q2, q2'⟩, fun w H' hy => ?_⟩
            obtain ⟨T, x', y', rfl, hT, rfl, hx, hy⟩ := hy
            have t1 := hx vs2 h3
            have t2 := hy us2 g3
            rw [q2] at t1
            rw [q2'] at t2
            cases t1
            cases t2
            refine ⟨same_new hT, rep_tup s2 hT ?_⟩
            rw [RepL]
            refine ⟨_, _, rfl, q3, ?_⟩
            rw [RepL]
            exact ⟨_, _, rfl, q3', by rw [RepL]⟩
    · cases e0
  · cases e0
end
end Ki

set_option Elab.async false
set_option linter.all false
set_option maxRecDepth 100000
/-! Ki20: sorted of ints, not yet used by a finished proof. -/
namespace Ki
open PySem L2 PySem.Spec PyProof.Rows
def insI (n : Int) : List Int → List Int
  | [] => [n]
  | m :: ms => if n ≤ m then n :: m :: ms else m :: insI n ms
def srtI : List Int → List Int
  | [] => []
  | n :: ns => insI n (srtI ns)
theorem insI_perm (n : Int) : ∀ ms, (insI n ms).Perm (n :: ms)
  | [] => .refl _
  | m :: ms => by
    rw [insI]
    split
    · exact .refl _
    · exact ((insI_perm n ms).cons m).trans (.swap n m ms)
theorem srtI_perm : ∀ ns, (srtI ns).Perm ns
  | [] => .refl _
  | n :: ns => (insI_perm n _).trans ((srtI_perm ns).cons n)
theorem insI_up (n : Int) : ∀ ms, ms.Pairwise (· ≤ ·) → (insI n ms).Pairwise (· ≤ ·)
  | [], _ => by rw [insI]; exact List.pairwise_singleton _ _
  | m :: ms, h => by
    rw [insI]
    obtain ⟨h1, h2⟩ := List.pairwise_cons.mp h
    split
    · rename_i le
      exact List.pairwise_cons.mpr ⟨fun x hx => by
        rcases List.mem_cons.mp hx with e | e
        · rw [e]; exact le
        · exact Int.le_trans le (h1 x e), h⟩
    · rename_i le
      refine List.pairwise_cons.mpr ⟨fun x hx => ?_, insI_up n ms h2⟩
      rcases List.mem_cons.mp ((insI_perm n ms).mem_iff.mp hx) with e | e
      · rw [e]; omega
      · exact h1 x e
theorem srtI_up : ∀ ns, (srtI ns).Pairwise (· ≤ ·)
  | [] => by rw [srtI]; exact List.Pairwise.nil
  | n :: ns => insI_up n _ (srtI_up ns)
theorem srtI_is {ns ns' : List Int} (h : ns'.Perm ns) (u : ns'.Pairwise (· ≤ ·)) : ns' = srtI ns := (h.trans (srtI_perm ns).symm).eq_of_pairwise (fun x y _ _ h1 h2 => Int.le_antisymm h1 h2) u (srtI_up ns)
theorem srtI_rev {ns ns' : List Int} (h : ns'.Perm ns) (u : ns'.Pairwise (· ≥ ·)) : ns' = (srtI ns).reverse := by
  have e := srtI_is (ns := ns) (ns' := ns'.reverse) ((List.reverse_perm _).trans h) (List.pairwise_reverse.mpr u)
  rw [← e, List.reverse_reverse]
def dSorted : OpL
  | [.lst _ xs] => (intsOf xs).map fun ns => .lst true ((srtI ns).map D.int)
  | _ => none
def dSortedR : OpL
  | [.lst _ xs] => (intsOf xs).map fun ns => .lst true ((srtI ns).reverse.map D.int)
  | _ => none
section
variable {X : Cx} {G : Gm} {W : WX} {pos p kp vp : Pos} {e : Expr} {vj : Nat}
theorem kc_sorted : CallK X G (.builtin "sorted") dSorted := by
  refine ⟨_, cr_sortedI, fun z H S xs ds d Q s n e q => ?_⟩
  unfold dSorted at e
  split at e
  · rename_i o ys
    cases n with
    | cons n1 n2 =>
      cases n2
      cases h : intsOf ys with
      | none => rw [h] at e; cases e
      | some ns =>
        rw [h] at e
        cases e
        obtain ⟨a, vs, rfl, h1, h2⟩ := now_lst n1
        refine ⟨a, ns, rfl, intsOf_rep h2 h ▸ SqL.of h1, fun ns' l hp hu hl => ?_⟩
        obtain rfl := srtI_is hp hu
        exact q _ _ (same_new hl) (rep_lst s hl (repL_ints _))
  · cases e
/-- sorted(xs, reverse=True) -/
theorem ke_sortR {m : M (List D)} (hm : X.mg "sorted" = none) (ha : PA X [e] (rdA G W m)) (hg : Gl X "sorted" := by rfl)
    (he : backTo pos (starEach [e] X.env) = (false, eval e X.env) :: backTo pos (starEach [] X.env) := by rfl) (hpl : (backTo pos (starEach [e] X.env)).any (·.1) = false := by rfl)
    (hall : (backToKw pos (keywordEach [⟨some "reverse", .Constant (.bool true) vj vp, kp⟩] X.env)).all (·.1.isSome) = true := by rfl) (hnone : (backToKw pos (keywordEach [⟨some "reverse", .Constant (.bool true) vj vp, kp⟩] X.env)).any (·.1.isNone) = false := by rfl) (hks : (backToKw pos (keywordEach [⟨some "reverse", .Constant (.bool true) vj vp, kp⟩] X.env)).filterMap (·.1) = [Str.ofString "reverse"] := by rfl) :
    PE X (.Call (.Name "sorted" p) [e] [⟨some "reverse", .Constant (.bool true) vj vp, kp⟩] pos) (rdE G W (mBlt dSortedR m)) := by
  refine pe_imp (pe_callBK (ks := [Str.ofString "reverse"]) (cr_sortedRev (b := true)) hg hm (by decide +kernel) ha (pk_cons pe_bl pk_nil) (by decide) (by decide) he hpl hall hnone hks) fun σ H Q ⟨z, env, S, s, r, h⟩ => ?_
  refine rdA_step s r h fun z1 H1 S1 ds vs L1 s1 e1 r1 q1 => ?_
  obtain ⟨d, ed, _⟩ := rd_lift s1 q1
  have q4 : Out G W σ z1 H1 (fun z' H' _ d => ∀ v, Rep G z' H' d v → Q v H') (lift (dSortedR (ds.map (vw S1))) env S1) := q1
  unfold lift at q4
  rw [ed] at q4
  have n := nows s1 r1
  generalize ds.map (vw S1) = es at ed n
  unfold dSortedR at ed
  split at ed
  · rename_i o ys
    cases n with
    | cons n1 n2 =>
      cases n2
      cases h : intsOf ys with
      | none => rw [h] at ed; cases ed
      | some ns =>
        rw [h] at ed
        cases ed
        obtain ⟨a, vs, rfl, h1, h2⟩ := now_lst n1
        refine ⟨a, ns, rfl, rfl, intsOf_rep h2 h ▸ SqL.of h1, fun ns' l hp hu hl => ?_⟩
        have hu' : ns'.Pairwise (· ≥ ·) := by simpa [OrdB] using hu
        obtain rfl := srtI_rev hp hu'
        exact q4 z1 _ (later_same (same_new hl)) (s1.same (same_new hl)) _ (rep_lst s1 hl (repL_ints _))
  · cases ed
end
end Ki

set_option Elab.async false
set_option linter.all false
set_option maxRecDepth 100000
/-! Ki21: pieces that are never reached; sums and greatest members of tuples; a list times an int. -/
namespace Ki
open PySem L2 PySem.Spec PyProof.Rows
/-- what is reckoned nothing of -/
def mWall : M D := fun _ _ => .bad
def sWall : MS := fun _ _ => .bad
section
variable {X : Cx} {G : Gm} {W : WX} {pos p : Pos} {e : Expr} {st : Stmt}
theorem ke_wall : PE X e (rdE G W mWall) := ⟨fun _ _ _ _ _ _ ⟨_, _, _, _, _, h⟩ => h.elim⟩
theorem ks_wall : PS X st (rdS G W sWall) := ⟨fun _ _ _ _ _ _ ⟨_, _, _, _, _, h⟩ => h.elim⟩
theorem kss_wall {l : List Stmt} : PSs X l (rdS G W sWall) := ⟨fun _ _ _ _ _ _ ⟨_, _, _, _, _, h⟩ => h.elim⟩
end
def dSumT : OpL
  | [.tup xs] => (intsOf xs).map fun bs => .int bs.sum
  | _ => none
/-- the sum of a list or a tuple -/
def dSum2 : OpL := fun ds => (dSum ds).or (dSumT ds)
def grI (n : Int) : List Int → Int := List.foldl (fun a y => if a < y then y else a) n
def dMaxD : OpL
  | [.tup xs, .int d] => (intsOf xs).map fun
    | [] => .int d
    | n :: ns => .int (grI n ns)
  | _ => none
/-- a list times an int -/
def dRepL : Op2
  | .lst _ xs, .int k => if (decide (0 ≤ k) && (decide (k ≤ 1000) && decide (xs.length ≤ 100))) then some (.lst true (List.replicate k.toNat xs).flatten) else none
  | _, _ => none
def mMaxDf (m : M (List D)) (md : M D) : M D := Ki.bind m fun ds => Ki.bind md fun d => fun env S => lift (dMaxD ((ds ++ [d]).map (vw S))) env S
section
variable {X : Cx} {G : Gm} {W : WX} {pos p kp : Pos} {e ed : Expr}
def rSumT (K : PySem.W.Frag) : List V → Hp → VK → Prop := fun vs H Q => ∃ (a : Addr) (ns : List Int), vs = [V.ref a] ∧ SqT K H a (ns.map V.int) ∧ Q (.int ns.sum) H
theorem cr_sumT (hc : X.calm = true) : CallR X (.builtin "sum") (rSumT X.K) := by
  intro pins s σ H vs us Q I r h
  obtain ⟨a, ns, rfl, hs, q⟩ := h
  obtain ⟨its, rv, hl, _⟩ := I.tuple hs
  rw [Vals.ref1 r]
  have hi := rv.ints
  have hl' : s.heap.IsTuple a its.toArray := hl
  obtain ⟨xs, hx⟩ := hi.allInts.items
  have hn : numsOf its.toArray.toList = ns := by rw [show its.toArray.toList = its from rfl, hi.numsOf]
  rw [hx] at hl' hn
  rw [nums_intItems] at hn
  refine PySem.W.ktm_sumG (I.ok.hd hc) hl' fun h' tk t' hk => ?_
  rw [preSum_eq, List.take_of_length_le (by simp), hn]
  exact ⟨.int _, H, I.kept hk, ⟨_, rfl⟩, q⟩
theorem kc_sumT (hc : X.calm = true) (hK : X.K = G.K := by rfl) : CallK X G (.builtin "sum") dSumT := by
  refine ⟨_, cr_sumT hc, fun z H S xs ds d Q s n e q => ?_⟩
  unfold dSumT at e
  split at e
  · rename_i ys
    obtain ⟨v, rfl, n1⟩ := p1 n
    obtain ⟨a, vs, rfl, h1, h2⟩ := n1.tup
    cases h : intsOf ys with
    | none => rw [h] at e; cases e
    | some bs =>
      rw [h] at e
      cases e
      exact ⟨a, bs, rfl, intsOf_rep h2 h ▸ hK ▸ h1, q _ _ (fun _ _ h => h) (by rw [Rep])⟩
  · cases e
theorem kc_sum2 (hc : X.calm = true) (hK : X.K = G.K := by rfl) : CallK X G (.builtin "sum") dSum2 := (kc_sum hc hK).or (kc_sumT hc hK)
theorem ko_repL (hK : X.K = G.K := by rfl) : OpK X G (binaryOp .Mult) dRepL := by
  refine ⟨_, op_rep, fun z H S x y d1 d2 d Q s n1 n2 e q => ?_⟩
  unfold dRepL at e
  split at e
  · rename_i o xs k
    split at e
    · rename_i hc
      obtain ⟨h1, h2⟩ := Bool.and_eq_true_iff.mp hc
      obtain ⟨h3, h4⟩ := Bool.and_eq_true_iff.mp h2
      have k0 := of_decide_eq_true h1
      have k1 := of_decide_eq_true h3
      have k2 := of_decide_eq_true h4
      cases e
      obtain ⟨a, vs, rfl, hs, hl⟩ := n1.lst
      have ln := hl.len
      refine ⟨a, k, vs, rfl, n2.int, hs, by omega, by omega, ?_, fun p hp => q _ _ (same_new hp) (rep_lst s hp (repL_flat hl _))⟩
      rw [ln]
      have : xs.length * k.toNat ≤ 100 * 1000 := Nat.mul_le_mul k2 (by omega)
      exact line5 (by omega)
    · cases e
  · cases e
/-! ### max(xs, default=d) -/
def rMaxDf (K : PySem.W.Frag) : List V → List V → Hp → VK → Prop := fun vs zs H Q => ∃ (a : Addr) (ns : List Int) (d : Int), vs = [V.ref a] ∧ zs = [.int d] ∧ SqT K H a (ns.map V.int) ∧ Q (.int (match ns with | [] => d | n :: ns => grI n ns)) H
theorem cr_maxDf (hc : X.calm = true) (hU : X.A.units + 64 < cLine) : CallRK X (.builtin "max") [Str.ofString "default"] (rMaxDf X.K) := by
  intro pins s σ H vs zs us ws Q I r rz h
  obtain ⟨a, ns, d, rfl, rfl, hs, q⟩ := h
  obtain rfl := Vals.ref1 r
  obtain ⟨w1, rfl, t1, rfl⟩ := vals1 rz
  obtain ⟨its, rv, hl, _⟩ := I.tuple hs
  have hi := rv.ints
  have hl' : s.heap.IsTuple a its.toArray := hl
  refine PySem.W.max_tuple_datum_default (α := Int) (xs := ns) (I.ok.hd hc) hl' ⟨[], hi.reads _⟩ (by show X.A.units + 1 + 0 < cLine; omega) (fun e h' tk hk => ?_) fun y ys i v h' tk e hv hv2 hk => ?_
  · subst e
    exact ⟨.int _, H, I.kept hk, ⟨_, rfl⟩, q⟩
  · subst e
    obtain ⟨as, hr⟩ := hv2
    obtain ⟨t, rfl, _⟩ := PyProof.Rows.reads_int_inv (n := PySem.W.maxOf y ys) hr
    refine ⟨.int _, H, I.kept hk, ⟨_, rfl⟩, ?_⟩
    have e : PySem.W.maxOf y ys = grI y ys := by
      unfold PySem.W.maxOf grI
      congr 1
      funext a b
      show (if decide (a < b) = true then b else a) = _
      by_cases q : a < b <;> simp [q]
    rw [e]
    exact q
/-- max(xs, default=d) -/
theorem ke_maxDf {m : M (List D)} {md : M D} (hc : X.calm = true) (hU : X.A.units + 64 < cLine) (hm : X.mg "max" = none) (ha : PA X [e] (rdA G W m)) (hd : PE X ed (rdE G W md)) (hg : Gl X "max" := by rfl) (hK : X.K = G.K := by rfl)
    (he : backTo pos (starEach [e] X.env) = (false, eval e X.env) :: backTo pos (starEach [] X.env) := by rfl) (hpl : (backTo pos (starEach [e] X.env)).any (·.1) = false := by rfl)
    (hall : (backToKw pos (keywordEach [⟨some "default", ed, kp⟩] X.env)).all (·.1.isSome) = true := by rfl) (hnone : (backToKw pos (keywordEach [⟨some "default", ed, kp⟩] X.env)).any (·.1.isNone) = false := by rfl) (hks : (backToKw pos (keywordEach [⟨some "default", ed, kp⟩] X.env)).filterMap (·.1) = [Str.ofString "default"] := by rfl) :
    PE X (.Call (.Name "max" p) [e] [⟨some "default", ed, kp⟩] pos) (rdE G W (mMaxDf m md)) := by
  refine pe_imp (pe_callBK (ks := [Str.ofString "default"]) (cr_maxDf hc hU) hg hm (by decide +kernel) ha (pk_cons hd pk_nil) (by decide) (by decide) he hpl hall hnone hks) fun σ H Q ⟨z, env, S, s, r, h⟩ => ?_
  refine rdA_step s r h fun z1 H1 S1 ds vs L1 s1 e1 r1 q1 => ?_
  refine rdE_step s1 e1 q1 fun z2 H2 S2 d v L2' s2 e2 r2 q2 => ?_
  obtain ⟨y, ey, q3⟩ := rd_lift s2 q2
  have r1' := RepL.later L2' s1.mup ds vs r1
  cases ds with
  | nil => simp [dMaxD] at ey
  | cons d1 ds =>
    cases ds with
    | cons d2 ds => simp [dMaxD] at ey
    | nil =>
      rw [RepL] at r1'
      obtain ⟨w, us, rfl, r3, r4⟩ := r1'
      rw [RepL] at r4
      subst r4
      have n1 := now_vw s2 r3
      have n2 := now_vw s2 r2
      simp only [List.cons_append, List.nil_append, List.map_cons, List.map_nil] at ey
      generalize vw S2 d1 = x1 at ey n1
      generalize vw S2 d = x2 at ey n2
      unfold dMaxD at ey
      split at ey
      · rename_i ys i he'
        cases he'
        obtain ⟨a, vs, rfl, h1, h2⟩ := n1.tup
        cases hi : intsOf ys with
        | none => rw [hi] at ey; cases ey
        | some ns =>
          rw [hi] at ey
          refine ⟨a, ns, i, rfl, by rw [n2.int], intsOf_rep h2 hi ▸ hK ▸ h1, ?_⟩
          cases ns with
          | nil => cases ey; exact q3 _ (by rw [Rep])
          | cons n ns => cases ey; exact q3 _ (by rw [Rep])
      · cases ey
end
end Ki

set_option Elab.async false
set_option linter.all false
set_option maxRecDepth 100000
set_option maxHeartbeats 1000000
/-! Ki22: own classes: instances lie in the store. -/
namespace Ki
open PySem L2 PySem.Spec PyProof.Rows

section
variable {G : Gm} {z : Z} {H : Hp} {S : Sto}
theorem repF_some {f : Str} {d : D} : ∀ {fs : List (Str × D)} {ws : List (Str × V)}, RepF G z H fs ws → fs.lookup f = some d → ∃ v, ws.lookup f = some v ∧ Rep G z H d v
  | [], ws, _, e => by cases e
  | (g, x) :: fs, ws, h, e => by
    rw [RepF] at h
    obtain ⟨w, us, rfl, h1, h2⟩ := h
    rw [List.lookup_cons] at e ⊢
    cases q : (f == g) with
    | true => rw [q] at e; cases e; exact ⟨w, rfl, h1⟩
    | false => rw [q] at e; exact repF_some h2 e
theorem repF_none {f : Str} : ∀ {fs : List (Str × D)} {ws : List (Str × V)}, RepF G z H fs ws → fs.lookup f = none → ws.lookup f = none
  | [], ws, h, _ => by rw [RepF] at h; subst h; rfl
  | (g, x) :: fs, ws, h, e => by
    rw [RepF] at h
    obtain ⟨w, us, rfl, h1, h2⟩ := h
    rw [List.lookup_cons] at e ⊢
    cases q : (f == g) with
    | true => rw [q] at e; cases e
    | false => rw [q] at e; exact repF_none h2 e
theorem repF_len : ∀ {fs : List (Str × D)} {ws : List (Str × V)}, RepF G z H fs ws → ws.length = fs.length
  | [], ws, h => by rw [RepF] at h; subst h; rfl
  | (g, x) :: fs, ws, h => by
    rw [RepF] at h
    obtain ⟨w, us, rfl, h1, h2⟩ := h
    simp [repF_len h2]
/-- a field, put -/
def putD (f : Str) (d : D) : List (Str × D) → List (Str × D)
  | [] => [(f, d)]
  | (g, x) :: r => if g = f then (g, d) :: r else (g, x) :: putD f d r
theorem repF_put {f : Str} {d : D} {v : V} (hd : Rep G z H d v) : ∀ {fs : List (Str × D)} {ws : List (Str × V)}, RepF G z H fs ws → RepF G z H (putD f d fs) (putF f v ws)
  | [], ws, h => by
    rw [RepF] at h
    subst h
    show RepF G z H [(f, d)] [(f, v)]
    rw [RepF]
    exact ⟨v, [], rfl, hd, by rw [RepF]⟩
  | (g, x) :: fs, ws, h => by
    rw [RepF] at h
    obtain ⟨w, us, rfl, h1, h2⟩ := h
    unfold putD putF
    by_cases q : g = f
    · rw [if_pos q, if_pos q, RepF]
      exact ⟨v, us, rfl, hd, h2⟩
    · rw [if_neg q, if_neg q, RepF]
      exact ⟨w, _, rfl, h1, repF_put hd h2⟩
/-- the instance that a value is now -/
def insOf (S : Sto) : D → Option (Nat × List (Str × D))
  | .ref n => match S[n]? with
    | some (.ins c fs) => some (c, fs)
    | _ => none
  | _ => none
theorem insOf_at {o : D} {v : V} {c : Nat} {fs : List (Str × D)} (st : Stands G z H S) (r : Rep G z H o v) (h : insOf S o = some (c, fs)) :
    ∃ n a dx ws, o = .ref n ∧ v = .ref a ∧ z.rho[n]? = some a ∧ S[n]? = some (.ins c fs) ∧ H a = some (.ins (G.cls c) dx ws) ∧ RepF G z H fs ws := by
  unfold insOf at h
  split at h
  · rename_i n
    split at h
    · rename_i c' fs' q
      cases h
      rw [Rep] at r
      obtain ⟨a, e, hn⟩ := r
      obtain ⟨dx, ws, h1, h2⟩ := st.at_ n a _ hn q
      exact ⟨n, a, dx, ws, rfl, e, hn, q, h1, h2⟩
    · cases h
  · cases h
end
/-- its instances' attribute lies in the instance alone -/
structure FldC (G : Gm) (c : Nat) (f : Str) : Prop where
  cl : Cls G.K (G.cls c)
  no : NoAttr G.K (G.cls c) f
def mFld (c : Nat) (f : Str) (mo : M D) : M D := bind mo fun o => fun env S => match insOf S o with
  | some (c', fs) => if c' = c then lift (fs.lookup f) env S else .bad
  | none => .bad
section
variable {X : Cx} {G : Gm} {W : WX} {pos p p' : Pos} {e o : Expr} {es : List Expr} {mo mv : M D} {ma : M (List D)} {c : Nat} {f x : Str} {k : Nat} {m : Fn}
theorem ke_fld (F : FldC G c f) (ho : PE X o (rdE G W mo)) (hK : X.K = G.K := by rfl) (hb : attributeBase o f X.env (eval o X.env) = eval o X.env := by rfl) : PE X (.Attribute o f pos) (rdE G W (mFld c f mo)) := by
  refine pe_imp (pe_fld ho hb) fun σ H Q ⟨z, env, S, s, he, h⟩ => ?_
  refine rdE_step s he h fun z1 H1 S1 d v L1 s1 e1 r1 q1 => ?_
  cases q : insOf S1 d with
  | none => simp only [q] at q1; exact q1.elim
  | some cf =>
    obtain ⟨c', fs⟩ := cf
    simp only [q] at q1
    by_cases hc : c' = c
    · subst hc
      rw [if_pos rfl] at q1
      obtain ⟨y, ey, q2⟩ := rd_lift s1 q1
      obtain ⟨n, a, dx, ws, rfl, rfl, hn, hs, ha, hf⟩ := insOf_at s1 r1 q
      obtain ⟨w, ew, rw'⟩ := repF_some hf ey
      exact ⟨a, _, dx, ws, w, rfl, ha, hK ▸ F.cl, hK ▸ F.no, ew, q2 w rw'⟩
    · rw [if_neg hc] at q1
      exact q1.elim
/-! ### a field written -/
theorem tabs_putI {T : List (Addr × Str)} {H : Hp} {a C dx : Addr} {ws : List (Str × V)} {u : HO} (h : LamX.Tabs T H) (ha : H a = some (.ins C dx ws)) : LamX.Tabs T (upd H a u) := fun pr hp => by
  obtain ⟨ps, q1, t, q2⟩ := h pr hp
  have ne : pr.1 ≠ a := fun q => by rw [q, ha] at q1; cases q1
  refine ⟨ps, by rw [upd_ne ne]; exact q1, t, fun pos cv hc => ?_⟩
  obtain ⟨c', q3, q4⟩ := q2 pos cv hc
  exact ⟨c', q3, by rw [upd_ne (fun q => by rw [q, ha] at q4; unfold LamX.CodeO at q4; cases q4)]; exact q4⟩
theorem stands_putI {z : Z} {H : Hp} {S : Sto} {n c : Nat} {a dx : Addr} {fs gs : List (Str × D)} {ws us : List (Str × V)} (s : Stands G z H S) (hn : z.rho[n]? = some a) (hu : H a = some (.ins (G.cls c) dx us)) (r : RepF G z H fs ws) :
    Stands G z (upd H a (.ins (G.cls c) dx ws)) (S.set n (.ins c fs)) := by
  have ha := s.rho a (List.mem_of_getElem? hn)
  have L : Later z H z (upd H a (.ins (G.cls c) dx ws)) := later_put ha
  refine ⟨s.rho, s.psi, fun b h => ?_, fun b h => L.live b (s.hid b h), tabs_putI s.tab hu, by rw [List.length_set]; exact s.len, s.nd, fun i b u q1 q2 => ?_⟩
  · by_cases hb : b = a
    · rw [hb, upd_same]; exact True.intro
    · rw [upd_ne hb]; exact s.mu b h
  · by_cases hm : i = n
    · subst hm
      rw [hn] at q1
      cases q1
      have hl := (List.getElem?_eq_some_iff.mp q2).1
      rw [List.length_set] at hl
      rw [List.getElem?_set_self hl] at q2
      cases q2
      rw [upd_same]
      exact ⟨dx, ws, rfl, RepF.later L s.mup fs ws r⟩
    · rw [List.getElem?_set_ne (Ne.symm hm)] at q2
      have hb : b ≠ a := fun q => by
        subst q
        obtain ⟨h1, g1⟩ := List.getElem?_eq_some_iff.mp q1
        obtain ⟨h2, g2⟩ := List.getElem?_eq_some_iff.mp hn
        exact hm ((List.getElem_inj s.nd).mp (g1.trans g2.symm))
      rw [upd_ne hb]
      exact RepO.later L s.mup (s.at_ i b u q1 q2)
def sPutF (c : Nat) (f : Str) (mo mv : M D) : MS := thenS mv fun d => thenS mo fun o => fun env S => match o with
  | .ref n => match S[n]? with
    | some (.ins c' fs) => if c' = c ∧ fs.length < 1000 then .nx env (S.set n (.ins c' (putD f d fs))) else .bad
    | _ => .bad
  | _ => .bad
theorem ks_putF (F : FldC G c f) (hv : PE X e (rdE G W mv)) (ho : PE X o (rdE G W mo)) (hK : X.K = G.K := by rfl) (hs : swapsWith e (some (.Attribute o f p')) pos.line X.env = pure false := by rfl) :
    PS X (.Assign [.Attribute o f p'] e pos) (rdS G W (sPutF c f mo mv)) := by
  refine ps_imp (ps_fld ho hv hs) fun E σ H ⟨z, env, S, s, he, h⟩ => ?_
  refine rdE_thenS s he h fun z1 H1 S1 d y L1 s1 e1 r1 q1 => ?_
  refine rdE_thenS s1 e1 q1 fun z2 H2 S2 o' x' L2' s2 e2 r2 q2 => ?_
  have ry := Rep.later L2' s1.mup d y r1
  split at q2
  · rename_i n
    split at q2
    · rename_i c' fs hS
      split at q2
      · rename_i hc
        obtain ⟨rfl, hlen⟩ := hc
        rw [Rep] at r2
        obtain ⟨a, rfl, hn⟩ := r2
        obtain ⟨dx, ws, ha, hf⟩ := s2.at_ n a _ hn hS
        have pa := s2.rho a (List.mem_of_getElem? hn)
        refine ⟨a, _, dx, ws, rfl, ha, hK ▸ F.cl, hK ▸ F.no, by rw [repF_len hf]; exact hlen, ?_⟩
        exact q2 z2 _ _ (later_put pa) (stands_putI (gs := fs) s2 hn ha (repF_put ry hf)) (e2.later (later_put pa) s2.mup)
      · exact q2.elim
    · exact q2.elim
  · exact q2.elim
/-! ### methods -/
/-- a method of the class, by what it reckons -/
structure MethG (P : Program) (w : World) (G : Gm) (mg : Str → Option Value) (base : Heap) (c : Nat) (x : Str) (k : Nat) (m : Fn) : Prop where
  ex : ∃ (a : Addr) (fd : FuncData) (ps : List Str), Cls G.K (G.cls c) ∧ Meth G.K (G.cls c) x a ∧ L2.Binds G.K fd ps [] ∧ FnG P w G mg base k a fd ps false m
def mMeth (c : Nat) (x : Str) (m : Fn) (mo : M D) (ma : M (List D)) : M D := bind mo fun o => fun env S => match insOf S o with
  | some (c', fs) => if c' = c ∧ fs.lookup x = none then bind ma (fun ds _ S' => m (o :: ds) S') env S else .bad
  | none => .bad
theorem ke_meth {pl : Sem Bool} (F : MethG X.prog X.w G X.mg X.base c x k m) (hr : Room k X.A) (tk : Takes X W) (ho : PE X o (rdE G W mo)) (ha : PA X (e :: es) (rdA G W ma)) (hK : X.K = G.K := by rfl)
    (hst : starEach (e :: es) X.env = (false, eval e X.env) :: starEach es X.env := by rfl) (hpl : (backTo pos (starEach es X.env)).any (·.1) = false := by rfl)
    (ht : eval (.Call (.Attribute o x p) (e :: es) [] pos) X.env = (do let ov ← eval o X.env; standAt p.atName; let (g, first) ← holding [ov] (getMethod ov x pl); callWith pos g first (backTo pos (starEach (e :: es) X.env)) (backToKw pos (keywordEach [] X.env))) := by rfl) :
    PE X (.Call (.Attribute o x p) (e :: es) [] pos) (rdE G W (mMeth c x m mo ma)) := by
  obtain ⟨a0, fd, ps, cl, me, hb, FF⟩ := F.ex
  refine ⟨fun pins s σ H Q I ⟨z, env, S, st, hre, h⟩ => ?_⟩
  have hq : rdE G W mo σ H fun v H1 => ∃ z1 S1 d, Stands G z1 H1 S1 ∧ RepE G z1 H1 env σ ∧ Rep G z1 H1 d v ∧ Out G W σ z1 H1 (fun z' H' _ d => ∀ v, Rep G z' H' d v → Q v H') ((match insOf S1 d with
      | some (c', fs) => if c' = c ∧ fs.lookup x = none then bind ma (fun ds _ S' => m (d :: ds) S') env S1 else .bad
      | none => .bad)) := rdE_step st hre h fun z1 H1 S1 d v L1 s1 e1 r1 q1 => ⟨z1, S1, d, s1, e1, r1, q1⟩
  refine PySem.W.methodCall_KW (pl := pl) (thn (ho.run pins s σ H _ I hq) fun u s1 ⟨v, H1, I1, rv, z1, S1, d, t1, e1, r1, q1⟩ => ?_) ht
  cases q : insOf S1 d with
  | none => simp only [q] at q1; exact q1.elim
  | some cf =>
    obtain ⟨c', fs⟩ := cf
    simp only [q] at q1
    by_cases hc : c' = c ∧ fs.lookup x = none
    · rw [if_pos hc] at q1
      obtain ⟨rfl, hl⟩ := hc
      obtain ⟨n, a, dx, ws, rfl, rfl, hn, hs, hH, hf⟩ := insOf_at t1 r1 q
      obtain rfl : u = Value.ref a := rv
      refine getmeth_ok I1 hH (hK ▸ cl) (hK ▸ me) (repF_none hf hl) ?_
      have hA : rdA G W ma σ H1 fun vs H2 => ∃ z2 ds S2, Stands G z2 H2 S2 ∧ RepL G z2 H2 (.ref n :: ds) (.ref a :: vs) ∧ OutF G z2 H2 Q (WE W σ) (m (.ref n :: ds) S2) := by
        refine rdA_step t1 e1 q1 fun z2 H2 S2 ds vs L2' s2 e2 r2 h2 => ⟨z2, ds, S2, s2, ?_, ?_⟩
        · rw [RepL]
          refine ⟨_, vs, rfl, ?_, r2⟩
          rw [Rep]
          exact ⟨a, rfl, L2'.at_ hn⟩
        · cases y : m (.ref n :: ds) S2 with
          | ok d' S3 => rw [y] at h2; exact fun z' H' v' L' s' r' => h2 z' H' L' s' v' r'
          | exc x' S3 => rw [y] at h2; exact h2
          | bad => rw [y] at h2; exact h2
      refine PySem.W.callWith_K (first := [.ref a]) (h₀ := X.base) I1.ok.mod.kin (hK ▸ me.kp) (thn (ha.run pos pins s1 σ H1 _ I1 hA) fun us s2 ⟨vs, H2, I2, rr, z2, ds, S2, t2, rl, y⟩ => ⟨I2.kIn, ?_⟩) hst hpl
      exact run_fnG (us := .ref a :: us) (vs := .ref a :: vs) FF hK hr (fun h => nomatch h) hb tk I2 (.cons rfl rr) t2 rl y
    · rw [if_neg hc] at q1
      exact q1.elim
end
end Ki

set_option Elab.async false
set_option linter.all false
set_option maxRecDepth 100000
set_option maxHeartbeats 1000000
/-! Ki23: own classes: made, asked for; properties, methods of the class. -/
namespace Ki
open PySem L2 PySem.Spec PyProof.Rows

/-! ### a new instance -/
def mMk (c : Nat) (init : Fn) (ma : M (List D)) : M D := bind ma fun ds _ S => match init (.ref S.length :: ds) (S ++ [.ins c []]) with
  | .ok .non S' => .ok (.ref S.length) S'
  | .exc x S' => .exc x S'
  | _ => .bad
theorem rhoLast {z : Z} {p : Addr} {S : Sto} (h : z.rho.length = S.length) : (z.add p).rho[S.length]? = some p := by
  show (z.rho ++ [p])[S.length]? = some p
  rw [← h, List.getElem?_append_right (Nat.le_refl _), Nat.sub_self]
  rfl
theorem stands_addI {G : Gm} {z : Z} {H : Hp} {S : Sto} {p dx : Addr} {c : Nat} (s : Stands G z H S) (hd : H dx = none) (hp : H p = none) (ne : dx ≠ p) :
    Stands G (z.add p) (upd (upd H dx (.own p)) p (.ins (G.cls c) dx [])) (S ++ [.ins c []]) := by
  have s1 : Stands G z (upd H dx (.own p)) S := s.same (same_new hd)
  have hp1 : upd H dx (.own p) p = none := by rw [upd_ne (Ne.symm ne)]; exact hp
  have L : Later z (upd H dx (.own p)) (z.add p) (upd (upd H dx (.own p)) p (.ins (G.cls c) dx [])) := later_add hp1
  have f := s1.fresh hp1
  refine ⟨fun a h => ?_, fun a h => ?_, fun a h => ?_, fun a h => L.live a (s1.hid a h), s1.tab.ext (same_new hp1), ?_, ?_, fun n a o q1 q2 => ?_⟩
  · rcases List.mem_append.mp h with h | h
    · exact .inl (s1.rho a h)
    · exact .inr (by simpa using h)
  · rcases h with h | h
    · exact .inl (s1.psi a h)
    · exact .inr h
  · by_cases ha : a = p
    · rw [ha, upd_same]; exact True.intro
    · rw [upd_ne ha]
      rcases h with h | h
      · exact s1.mu a h
      · exact absurd h ha
  · show (z.rho ++ [p]).length = (S ++ [O.ins c []]).length
    simp [s1.len]
  · show (z.rho ++ [p]).Nodup
    rw [List.nodup_append]
    refine ⟨s1.nd, by simp, fun a ha b hb => ?_⟩
    rw [List.mem_singleton.mp hb]
    exact fun q => f.1 (.inl (q ▸ s1.rho a ha))
  · by_cases hn : n < z.rho.length
    · have q1' : z.rho[n]? = some a := by
        have : (z.rho ++ [p])[n]? = some a := q1
        rwa [List.getElem?_append_left hn] at this
      rw [List.getElem?_append_left (by rw [← s1.len]; exact hn)] at q2
      have ha : a ≠ p := fun q => f.1 (.inl (q ▸ s1.rho a (List.mem_of_getElem? q1')))
      rw [upd_ne ha]
      exact RepO.later L s1.mup (s1.at_ n a o q1' q2)
    · have hl : n < (z.rho ++ [p]).length := (List.getElem?_eq_some_iff.mp (show (z.rho ++ [p])[n]? = some a from q1)).1
      rw [List.length_append, List.length_singleton] at hl
      have hn' : n = S.length := by rw [← s1.len]; omega
      subst hn'
      rw [rhoLast s1.len] at q1
      cases q1
      rw [List.getElem?_append_right (Nat.le_refl _), Nat.sub_self] at q2
      cases q2
      rw [upd_same]
      exact ⟨dx, [], rfl, by rw [RepF]⟩
/-- a class that is made by its own __init__ -/
structure MkG (P : Program) (w : World) (G : Gm) (mg : Str → Option Value) (base : Heap) (c : Nat) (k : Nat) (m : Fn) : Prop where
  ex : ∃ (a : Addr) (fd : FuncData) (ps : List Str), Mk G.K (G.cls c) a ∧ L2.Binds G.K fd ps [] ∧ FnG P w G mg base k a fd ps false m
section
variable {X : Cx} {G : Gm} {W : WX} {pos p p' : Pos} {e o : Expr} {es : List Expr} {mo mv : M D} {ma : M (List D)} {c : Nat} {f x : Str} {k : Nat} {m : Fn}
theorem run_mk {pins : List (Addr × Obj)} {σ : L2.St} {H : Hp} {s : Shared} {Q : VK} {us : List Value} {vs : List V} {z : Z} {ds : List D} {S : Sto} (F : MkG X.prog X.w G X.mg X.base c k m) (hK : X.K = G.K) (hr : Room (k + 1) X.A) (tk : Takes X W)
    (I : Inv X pins σ H s) (r : Vals vs us) (st : Stands G z H S) (rl : RepL G z H ds vs)
    (h : OutF G z H Q (WE W σ) (match m (.ref S.length :: ds) (S ++ [.ins c []]) with | .ok .non S' => .ok (.ref S.length) S' | .exc x S' => .exc x S' | _ => .bad)) :
    wpAny (model X.prog X.w) X.A (call (.ref (G.cls c)) us) (EP X pins σ Q) X.xe s := by
  obtain ⟨a, fd, ps, M, hb, FF⟩ := F.ex
  rw [← hK] at M hb
  have h1 : H (s.heap.objs.size + 1) = none := I.hok.fresh (Nat.le_succ _)
  have h0 : H s.heap.objs.size = none := I.hok.fresh (Nat.le_refl _)
  have nq : s.heap.objs.size ≠ s.heap.objs.size + 1 := Nat.ne_of_lt (Nat.lt_succ_self _)
  have I2 := Inv.made (C := G.cls c) I
  have t2 := stands_addI (c := c) st h0 h1 nq
  have L1 : Later z H (z.add (s.heap.objs.size + 1)) (upd (upd H s.heap.objs.size (.own (s.heap.objs.size + 1))) (s.heap.objs.size + 1) (.ins (G.cls c) s.heap.objs.size [])) :=
    (later_same (same_new h0)).trans (later_add (by rw [upd_ne (Ne.symm nq)]; exact h1))
  have rl2 : RepL G (z.add (s.heap.objs.size + 1)) (upd (upd H s.heap.objs.size (.own (s.heap.objs.size + 1))) (s.heap.objs.size + 1) (.ins (G.cls c) s.heap.objs.size [])) (.ref S.length :: ds) (.ref (s.heap.objs.size + 1) :: vs) := by
    rw [RepL]
    refine ⟨_, vs, rfl, ?_, RepL.later L1 st.mup ds vs rl⟩
    rw [Rep]
    exact ⟨_, rfl, rhoLast st.len⟩
  have r2 : Vals (V.ref (s.heap.objs.size + 1) :: vs) (Value.ref (s.heap.objs.size + 1) :: us) := .cons rfl r
  have hl : (Value.ref (s.heap.objs.size + 1) :: us).length = ps.length := by
    apply Classical.byContradiction
    intro q
    rw [FF.len _ _ (fun y => q (by rw [← y, ← rl2.len, r2.length]))] at h
    exact h
  have b := hb { s with heap := (s.heap.push PySem.W.emptyDict).push (PySem.W.instObj (G.cls c) s.heap.objs.size) } (Value.ref (s.heap.objs.size + 1) :: us) I2.kIn (by rw [List.append_nil]; exact hl)
  rw [List.append_nil] at b
  have out : OutF G (z.add (s.heap.objs.size + 1)) (upd (upd H s.heap.objs.size (.own (s.heap.objs.size + 1))) (s.heap.objs.size + 1) (.ins (G.cls c) s.heap.objs.size [])) (fun v H2 => v = .non ∧ Q (.ref (s.heap.objs.size + 1)) H2) (WE W σ) (m (.ref S.length :: ds) (S ++ [.ins c []])) := by
    cases y : m (.ref S.length :: ds) (S ++ [.ins c []]) with
    | bad => rw [y] at h; exact h
    | exc x' S' =>
      rw [y] at h
      exact fun z' H' cls d L s' q => h z' H' cls d (L1.trans L) s' q
    | ok d S' =>
      rw [y] at h
      cases d <;> first | (exact h.elim) | skip
      intro z' H' v L s' rv
      refine ⟨by rw [Rep] at rv; exact rv, h z' H' _ (L1.trans L) s' ?_⟩
      rw [Rep]
      exact ⟨_, rfl, L.at_ (rhoLast st.len)⟩
  refine wpAny_call (make_map (f := a) I.kIn M.makes M.init (beq_iff_eq.mp M.fn) (codeAny_mono (FF.run _ X.stack _ _ ⟨Value.ref (s.heap.objs.size + 1) :: us, []⟩ _ _ _ _ _ _ _ (hr.make (G.cls c) us []) (fun q => nomatch q) (hK ▸ I2.env0.make (G.cls c) us []) b r2 t2 rl2 out) fun r s' hq => ?_))
  cases r with
  | error er => exact passAt tk σ pins _ _ er s' I2 hq
  | ok fl =>
    cases fl with
    | next => exact hq.elim
    | brk => exact hq.elim
    | cont => exact hq.elim
    | ret u =>
      obtain ⟨v, H', I3, rv, ev, q3⟩ := I2.after hq
      subst ev
      exact ⟨rv, ⟨V.ref (s.heap.objs.size + 1), H', I3, rfl, q3⟩⟩
/-- C(e, ..), C a name of the module -/
theorem ke_mk (F : MkG X.prog X.w G X.mg X.base c k m) (hr : Room (k + 1) X.A) (hm : X.mg x = some (.ref (G.cls c))) (tk : Takes X W) (ha : PA X (e :: es) (rdA G W ma))
    (hg : Gl X x := by rfl) (hK : X.K = G.K := by rfl) (hdb : (x == ("__debug__" : Str)) = false := by decide) (he : starEach (e :: es) X.env = (false, eval e X.env) :: starEach es X.env := by rfl) (hpl : (backTo pos (starEach es X.env)).any (·.1) = false := by rfl) :
    PE X (.Call (.Name x p) (e :: es) [] pos) (rdE G W (mMk c m ma)) := by
  obtain ⟨a, fd, ps, M, hb, FF⟩ := F.ex
  refine ⟨fun pins s σ H Q I ⟨z, env, S, st, hre, h⟩ => ?_⟩
  refine wpAny_Call_Name_kw (ld_glob I hg hm ?_ hdb)
  have hA : rdA G W ma σ H fun vs H1 => ∃ z1 ds S1, Stands G z1 H1 S1 ∧ RepL G z1 H1 ds vs ∧ OutF G z1 H1 Q (WE W σ) (match m (.ref S1.length :: ds) (S1 ++ [.ins c []]) with | .ok .non S' => .ok (.ref S1.length) S' | .exc x S' => .exc x S' | _ => .bad) := by
    refine rdA_step st hre h fun z1 H1 S1 ds vs L1 s1 e1 r1 h1 => ⟨z1, ds, S1, s1, r1, ?_⟩
    cases q : (match m (.ref S1.length :: ds) (S1 ++ [.ins c []]) with | .ok .non S' => Res.ok (D.ref S1.length) S' | .exc x S' => .exc x S' | _ => .bad) with
    | ok d S2 =>
      have h2 : Out G W σ z1 H1 _ (match m (.ref S1.length :: ds) (S1 ++ [.ins c []]) with | .ok .non S' => Res.ok (D.ref S1.length) S' | .exc x S' => .exc x S' | _ => .bad) := h1
      rw [q] at h2
      exact fun z' H' v L s' r => h2 z' H' L s' v r
    | exc x S2 =>
      have h2 : Out G W σ z1 H1 _ (match m (.ref S1.length :: ds) (S1 ++ [.ins c []]) with | .ok .non S' => Res.ok (D.ref S1.length) S' | .exc x S' => .exc x S' | _ => .bad) := h1
      rw [q] at h2
      exact h2
    | bad =>
      have h2 : Out G W σ z1 H1 _ (match m (.ref S1.length :: ds) (S1 ++ [.ins c []]) with | .ok .non S' => Res.ok (D.ref S1.length) S' | .exc x S' => .exc x S' | _ => .bad) := h1
      rw [q] at h2
      exact h2.elim
  refine PySem.W.callWith_K (h₀ := X.base) I.ok.mod.kin (hK ▸ M.kp) (thn (ha.run pos pins s σ H _ I hA) fun us s1 ⟨vs, H1, I1, rr, z1, ds, S1, t1, rl, y⟩ => ⟨I1.kIn, ?_⟩) he hpl
  exact run_mk F hK hr tk I1 rr t1 rl y
end
end Ki

set_option Elab.async false
set_option linter.all false
set_option maxRecDepth 100000
set_option maxHeartbeats 1000000
/-! Ki24: classes as values; isinstance of own classes; properties; methods of the class. -/
namespace Ki
open PySem L2 PySem.Spec PyProof.Rows ClX
section
variable {X : Cx} {G : Gm} {W : WX} {pos p p' : Pos} {e o : Expr} {es : List Expr} {mo mv : M D} {ma : M (List D)} {c : Nat} {f x y : Str} {k : Nat} {m : Fn}
theorem ke_cls (c : Nat) (hm : X.mg x = some (.ref (G.cls c))) (hg : Gl X x := by rfl) (hd : (x == ("__debug__" : Str)) = false := by decide) : PE X (.Name x pos) (rdE G W (ret (.cls c))) :=
  pe_imp (pe_glob hg hm (v := .ref (G.cls c)) rfl hd) fun σ H Q ⟨z, env, S, s, he, h⟩ => rd_ret s h _ (by rw [Rep])
theorem outF_of {σ : L2.St} {z : Z} {H : Hp} {Q : VK} {r : Res D} (h : Out G W σ z H (fun z' H' _ d => ∀ v, Rep G z' H' d v → Q v H') r) : OutF G z H Q (WE W σ) r := by
  cases r with
  | ok d S => exact fun z' H' v L s q => h z' H' L s v q
  | exc x S => exact h
  | bad => exact h
/-- C(e, ..), C a name whose value is the class -/
def mMkV (c : Nat) (init : Fn) (mo : M D) (ma : M (List D)) : M D := bind mo fun o => match o with
  | .cls c' => if c' = c then mMk c init ma else lift none
  | _ => lift none
theorem ke_mkV (F : MkG X.prog X.w G X.mg X.base c k m) (hr : Room (k + 1) X.A) (tk : Takes X W) (ho : PE X (.Name x p) (rdE G W mo)) (ha : PA X (e :: es) (rdA G W ma))
    (hK : X.K = G.K := by rfl) (he : starEach (e :: es) X.env = (false, eval e X.env) :: starEach es X.env := by rfl) (hpl : (backTo pos (starEach es X.env)).any (·.1) = false := by rfl) :
    PE X (.Call (.Name x p) (e :: es) [] pos) (rdE G W (mMkV c m mo ma)) := by
  have F' := F
  obtain ⟨a, fd, ps, M, hb, FF⟩ := F.ex
  refine ⟨fun pins s σ H Q I ⟨z, env, S, st, hre, h⟩ => ?_⟩
  have hO : rdE G W mo σ H fun v H0 => v = .ref (G.cls c) ∧ rdA G W ma σ H0 fun vs H1 => ∃ z1 ds S1, Stands G z1 H1 S1 ∧ RepL G z1 H1 ds vs ∧ OutF G z1 H1 Q (WE W σ) (match m (.ref S1.length :: ds) (S1 ++ [.ins c []]) with | .ok .non S' => .ok (.ref S1.length) S' | .exc x S' => .exc x S' | _ => .bad) := by
    refine rdE_step st hre h fun z0 H0 S0 d v L0 s0 e0 r0 h0 => ?_
    cases d <;> first | (exact h0.elim) | skip
    rename_i c'
    rw [Rep] at r0
    by_cases hc : c' = c
    · subst hc
      refine ⟨r0, ?_⟩
      have h0' : Out G W σ z0 H0 (fun z' H' _ d => ∀ v, Rep G z' H' d v → Q v H') (mMk c' m ma env S0) := by
        have := h0
        simp only [if_true] at this
        exact this
      refine rdA_step s0 e0 h0' fun z1 H1 S1 ds vs L1 s1 e1 r1 h1 => ⟨z1, ds, S1, s1, r1, ?_⟩
      exact outF_of h1
    · simp only [if_neg hc] at h0
      exact h0.elim
  refine wpAny_Call_Name_kw (thn (ho.run pins s σ H _ I hO) fun u s0 ⟨v, H0, I0, rv, ev, hA⟩ => ?_)
  subst ev
  obtain rfl : u = Value.ref (G.cls c) := rv
  refine PySem.W.callWith_K (h₀ := X.base) I0.ok.mod.kin (hK ▸ M.kp) (thn (ha.run pos pins s0 σ H0 _ I0 hA) fun us s1 ⟨vs, H1, I1, rr, z1, ds, S1, t1, rl, y⟩ => ⟨I1.kIn, ?_⟩) he hpl
  exact run_mk F' hK hr tk I1 rr t1 rl y

/-! ### isinstance with an own class -/
/-- what the text must tell of a class whose instances are asked -/
structure InsTy (G : Gm) (c : Nat) : Prop where
  cl : Cls G.K (G.cls c)
  at_ : PySem.W.findIn G.K (.ref (G.cls c)) "__class__" = some (some (.builtin "object.__class__"))
  get : PySem.W.specialIn G.K (.builtin "object.__class__") "__get__" = some (some (.builtin "getset_descriptor.__get__"))
  tak : PySem.W.takesIn G.K (.builtin "object.__class__") = some true
  obj : PySem.W.mroIn G.K (G.cls c) (.type "object") = some true
structure IsiOk (G : Gm) (sub : Nat → Nat → Option Bool) : Prop where
  bt : ∀ (t : TyC) (c : Nat), sub c c = some true → PySem.W.kitOne G.K (.type t.nm) (.ref (G.cls c)) = some false
  ow : ∀ (c' c : Nat) (b : Bool), sub c' c = some b → PySem.W.kitOne G.K (.ref (G.cls c')) (.ref (G.cls c)) = some b ∧ InsTy G c'
def isiO (sub : Nat → Nat → Option Bool) (S : Sto) (d : D) (c : Nat) : Option D := match sub c c with
  | some true => match d with
    | .ref n => match S[n]? with
      | some (.lst _) => some (.bl false)
      | some (.ins c' _) => (sub c' c).map D.bl
      | none => none
    | d => (tyOf d).map fun _ => .bl false
  | _ => none
def mIsO (sub : Nat → Nat → Option Bool) (ma : M (List D)) : M D := bind ma fun ds => fun env S => match ds with
  | [d, .cls c] => lift (isiO sub S d c) env S
  | _ => .bad
theorem ke_isO {sub : Nat → Nat → Option Bool} (O : IsiOk G sub) (hm : X.mg "isinstance" = none) (ha : PA X (e :: es) (rdA G W ma)) (hg : Gl X "isinstance" := by rfl) (hK : X.K = G.K := by rfl)
    (he : starEach (e :: es) X.env = (false, eval e X.env) :: starEach es X.env := by rfl) (hpl : (backTo pos (starEach es X.env)).any (·.1) = false := by rfl) : PE X (.Call (.Name "isinstance" p) (e :: es) [] pos) (rdE G W (mIsO sub ma)) := by
  refine pe_imp (pe_callB call_isi hg hm (by decide +kernel) ha (by decide) (by decide) he hpl) fun σ H Q ⟨z, env, S, s, hre, h⟩ => ?_
  refine rdA_step s hre h fun z1 H1 S1 ds vs L1 s1 e1 r1 q1 => ?_
  split at q1
  · rename_i d c
    obtain ⟨b, eb, q2⟩ := rd_lift s1 q1
    obtain ⟨v, w, rfl, r2, r3⟩ := repL2 r1
    rw [Rep] at r3
    subst r3
    unfold isiO at eb
    split at eb
    · rename_i hcc
      cases d <;> first
        | (cases eb; done)
        | (simp only [tyOf, Option.map_some, Option.some.injEq] at eb
           subst eb
           exact ⟨_, _, _, _, false, rfl, .own _, hK ▸ tyX_now (.inl r2) rfl, hK ▸ O.bt _ c hcc, q2 _ (by rw [Rep])⟩)
        | skip
      rename_i n
      rw [Rep] at r2
      obtain ⟨a, rfl, hn⟩ := r2
      cases hS : S1[n]? with
      | none => simp only [hS] at eb; cases eb
      | some u =>
        simp only [hS] at eb
        cases u with
        | lst xs =>
          simp only [Option.some.injEq] at eb
          subst eb
          obtain ⟨us, h1, h2⟩ := s1.at_ n a _ hn hS
          exact ⟨_, _, _, _, false, rfl, .own _, .base (.lst h1), hK ▸ O.bt .list c hcc, q2 _ (by rw [Rep])⟩
        | ins c' fs =>
          cases hb : sub c' c with
          | none => simp only [hb] at eb; cases eb
          | some b' =>
            simp only [hb, Option.map_some, Option.some.injEq] at eb
            subst eb
            obtain ⟨dx, ws, h1, h2⟩ := s1.at_ n a _ hn hS
            obtain ⟨k1, T⟩ := O.ow c' c b' hb
            rw [← hK] at k1
            exact ⟨_, _, _, _, b', rfl, .own _, .base (.ins h1 (hK ▸ T.cl) (hK ▸ T.at_) (hK ▸ T.get) (hK ▸ T.tak) (hK ▸ T.obj)), k1, q2 _ (by rw [Rep])⟩
    · cases eb
  · exact q1.elim
/-! ### properties -/
def spG (G : Gm) (m : Fn) : Sp := fun vs H Q E => ∃ (z : Z) (ds : List D) (S : Sto), Stands G z H S ∧ RepL G z H ds vs ∧ OutF G z H Q E (m ds S)
theorem FnG.ok {P : Program} {w : World} {mg : Str → Option Value} {base : Heap} {g : Addr} {fd : FuncData} {ps : List Str} (F : FnG P w G mg base k g fd ps false m) : FnOk P w G.K mg base (L2.CX P w) k g fd ps (spG G m) := by
  refine ⟨fun vs H Q E ⟨z, ds, S, st, rl, h⟩ => ?_, fun A outer s H args us vs Q E hr e0 hb r ⟨z, ds, S, st, rl, h⟩ => F.run A outer s H args us vs Q E z ds S hr (fun q => nomatch q) e0 hb r st rl h⟩
  rw [rl.len]
  apply Classical.byContradiction
  intro q
  rw [F.len ds S q] at h
  exact h
structure PropG (P : Program) (w : World) (G : Gm) (mg : Str → Option Value) (base : Heap) (c : Nat) (x : Str) (k : Nat) (m : Fn) : Prop where
  ex : ∃ (pr g : Addr) (fd : FuncData) (ps : List Str), Cls G.K (G.cls c) ∧ PropOf G.K (G.cls c) x pr g ∧ L2.Binds G.K fd ps [] ∧ FnG P w G mg base k g fd ps false m
def mProp (c : Nat) (m : Fn) (mo : M D) : M D := bind mo fun o => fun _ S => match insOf S o with
  | some (c', _) => if c' = c then (match m [o] S with | .ok d S' => .ok d S' | _ => .bad) else .bad
  | none => .bad
theorem ke_prop (F : PropG X.prog X.w G X.mg X.base c x k m) (hr : Room (k + 1) X.A) (ho : PE X o (rdE G W mo)) (hK : X.K = G.K := by rfl) (hab : attributeBase o x X.env (eval o X.env) = eval o X.env := by rfl) : PE X (.Attribute o x pos) (rdE G W (mProp c m mo)) := by
  obtain ⟨pr, g, fd, ps, cl, po, hb, FF⟩ := F.ex
  have F1 := FF.ok
  rw [← hK] at cl po hb F1
  refine pe_imp (pe_prop (E := fun _ _ _ => False) ho cl po F1 hr hb .nil (fun pins σ H s u s' I h => ?_) hab) fun σ H Q ⟨z, env, S, s, he, h⟩ => ?_
  · obtain ⟨_, _, _, _, _, _, _, _, _, _, _, _, no⟩ := h
    exact no.elim
  · refine rdE_step s he h fun z1 H1 S1 d v L1 s1 e1 r1 q1 => ?_
    cases q : insOf S1 d with
    | none => simp only [q] at q1; exact q1.elim
    | some cf =>
      obtain ⟨c', fs⟩ := cf
      simp only [q] at q1
      by_cases hc : c' = c
      · subst hc
        rw [if_pos rfl] at q1
        obtain ⟨n, a, dx, ws, rfl, rfl, hn, hs, hH, hf⟩ := insOf_at s1 r1 q
        refine ⟨a, dx, ws, rfl, hH, z1, [.ref n], S1, s1, ?_, ?_⟩
        · rw [RepL]
          exact ⟨_, [], rfl, r1, by rw [RepL]⟩
        · cases y : m [.ref n] S1 with
          | ok d' S2 => rw [y] at q1; exact fun z' H' v' L' s' r' => q1 z' H' L' s' v' r'
          | exc x' S2 => rw [y] at q1; exact q1.elim
          | bad => rw [y] at q1; exact q1.elim
      · rw [if_neg hc] at q1
        exact q1.elim
theorem code_fnG {pins : List (Addr × Obj)} {σ : L2.St} {H : Hp} {s : Shared} {Q : VK} {us : List Value} {vs : List V} {z : Z} {ds : List D} {S : Sto} {g : Addr} {fd : FuncData} {ps : List Str} {gd : Bool} (F : FnG X.prog X.w G X.mg X.base k g fd ps gd m) (hK : X.K = G.K) (hr : Room k X.A)
    (hgd : gd = true → X.A.guards = some []) (hb : Binds G.K fd ps []) (tk : Takes X W) (I : Inv X pins σ H s) (r : Vals vs us) (st : Stands G z H S) (rl : RepL G z H ds vs) (h : OutF G z H Q (WE W σ) (m ds S)) :
    codeAny (model X.prog X.w) X.A (.call (.ref g) ⟨us, []⟩) (fun r s' => match r with | .ok (.ret v) => EP X pins σ Q v s' | .ok _ => False | .error e => X.xe e s') s := by
  have hl : us.length = ps.length := by
    rw [← r.length, rl.len]
    apply Classical.byContradiction
    intro q
    rw [F.len ds S q] at h
    exact h
  have b := hb s us (hK ▸ I.kIn) (by rw [List.append_nil]; exact hl)
  rw [List.append_nil] at b
  refine codeAny_mono (F.run X.A X.stack s H ⟨us, []⟩ us vs Q (WE W σ) z ds S hr hgd (hK ▸ I.env0) b r st rl h) fun r s' hq => ?_
  match r, hq with
  | .error e, hq => exact passAt tk σ pins H s e s' I hq
  | .ok (.ret u), hq => exact I.after hq
  | .ok .next, hq => exact hq.elim
  | .ok .brk, hq => exact hq.elim
  | .ok .cont, hq => exact hq.elim
/-! ### a method of the class -/
structure CmG (P : Program) (w : World) (G : Gm) (mg : Str → Option Value) (base : Heap) (c : Nat) (x : Str) (k : Nat) (m : Fn) : Prop where
  ex : ∃ (mc : Value) (pr g : Addr) (fd : FuncData) (ps : List Str), CRead G.K (G.cls c) mc ∧ CMet G.K (G.cls c) mc x pr g ∧ L2.Binds G.K fd ps [] ∧ FnG P w G mg base k g fd ps false m
def mCm (c : Nat) (m : Fn) (ma : M (List D)) : M D := bind ma fun ds _ S => m (.cls c :: ds) S
theorem ke_cm {pl : Sem Bool} (F : CmG X.prog X.w G X.mg X.base c y k m) (hr : Room k X.A) (hm : X.mg x = some (.ref (G.cls c))) (tk : Takes X W) (ha : PA X (e :: es) (rdA G W ma)) (hg : Gl X x := by rfl) (hK : X.K = G.K := by rfl) (hdb : (x == ("__debug__" : Str)) = false := by decide)
    (hst : starEach (e :: es) X.env = (false, eval e X.env) :: starEach es X.env := by rfl) (hpl : (backTo pos (starEach es X.env)).any (·.1) = false := by rfl)
    (ht : eval (.Call (.Attribute (.Name x p') y p) (e :: es) [] pos) X.env = (do let ov ← eval (.Name x p') X.env; standAt p.atName; let (g, first) ← holding [ov] (getMethod ov y pl); callWith pos g first (backTo pos (starEach (e :: es) X.env)) (backToKw pos (keywordEach [] X.env))) := by rfl) :
    PE X (.Call (.Attribute (.Name x p') y p) (e :: es) [] pos) (rdE G W (mCm c m ma)) := by
  obtain ⟨mc, pr, g, fd, ps, cr, cm, hb, FF⟩ := F.ex
  refine ⟨fun pins s σ H Q I ⟨z, env, S, st, hre, h⟩ => ?_⟩
  refine PySem.W.methodCall_KW (pl := pl) (ld_glob I hg hm ?_ hdb) ht
  refine getmethcm_ok I (hK ▸ cr) (hK ▸ cm) fun s2 I2 => ?_
  have hA : rdA G W ma σ H fun vs H2 => ∃ z2 ds S2, Stands G z2 H2 S2 ∧ RepL G z2 H2 (.cls c :: ds) (.ref (G.cls c) :: vs) ∧ OutF G z2 H2 Q (WE W σ) (m (.cls c :: ds) S2) := by
    refine rdA_step st hre h fun z2 H2 S2 ds vs L2' s2 e2 r2 h2 => ⟨z2, ds, S2, s2, ?_, ?_⟩
    · rw [RepL]
      exact ⟨_, vs, rfl, by rw [Rep], r2⟩
    · cases y : m (.cls c :: ds) S2 with
      | ok d' S3 => rw [y] at h2; exact fun z' H' v' L' s' r' => h2 z' H' L' s' v' r'
      | exc x' S3 => rw [y] at h2; exact h2
      | bad => rw [y] at h2; exact h2
  refine callwith_cm I2 (base_none I (Nat.le_refl _)) (hK ▸ cm.fi) (thn (ha.run pos _ s2 σ H _ I2 hA) fun us s3 ⟨vs, H2, I3, rv, z2, ds, S2, t2, rl, q⟩ => ⟨⟨pin_at I3, I3.kIn⟩, ?_⟩) hst hpl
  have run := code_fnG (us := .ref (G.cls c) :: us) (vs := .ref (G.cls c) :: vs) FF hK hr (fun h => nomatch h) hb tk I3 (.cons rfl rv) t2 rl q
  exact thn (wpAny_call (PySem.W.method_call (pin_at I3) run)) fun _ _ y => unpinE y
end
end Ki

set_option Elab.async false
set_option linter.all false
set_option maxRecDepth 100000
set_option maxHeartbeats 1000000
/-! Ki25: what the top holds of own classes. -/
namespace Ki
open PySem L2 PySem.Spec PyProof.Rows ClX
/-- a def of a class's body, where it lies -/
structure RawQ (K : PySem.W.Frag) (x qual : Str) (st : Stmt) (a : Addr) : Prop where
  ex : ∃ fd : FuncData, L2.Fun K x qual st a fd
structure FnA (P : Program) (w : World) (G : Gm) (mg : Str → Option Value) (base : Heap) (a : Addr) (k : Nat) (m : Fn) : Prop where
  ex : ∃ (fd : FuncData) (ps : List Str), L2.Binds G.K fd ps [] ∧ FnG P w G mg base k a fd ps false m
section
variable {P : Program} {w : World} {G : Gm} {mg : Str → Option Value} {base : Heap} {x qual : Str} {k c : Nat} {m : Fn} {a pr : Addr}
theorem RawQ.fnA {st : Stmt} {N ps : List Str} {mb : MS} (R : RawQ G.K x qual st a) (S : FnScope N ps (defScope st))
    (hb : ∀ (kV doc pm : Value) (an : Option Addr) (cdv ct : Value) (us : List Value), us.length = ps.length → bindArgs (PySem.W.fnOf x qual (defArgs st) (defBody st) (defScope st) .none kV doc pm an cdv ct) ⟨us, []⟩ = pure (ps.zip us))
    (hbody : ∀ (f : Addr) (cdv : Value) (A : Around) (outer : List Env) (s : Shared) (H : Hp) (E : XK), Room k (A.deeper (envOfC qual (defScope st) s.heap.objs.size f cdv)) →
      PSs (cxOf (L2.CX P w) P w G.K mg base N qual (defScope st) f cdv A outer s H E) (defBody st) (rdS G (fun cls d _ H => E cls d H) mb)) : FnA P w G mg base a (k + 1) (mFun N.length ps.length mb) := by
  obtain ⟨fd, F⟩ := R.ex
  exact ⟨fd, ps, F.binds hb, fnG_of false F S fun cdv A outer s H E hr _ => hbody a cdv A outer s H E hr⟩
theorem FnA.meth (F : FnA P w G mg base a k m) (cl : Cls G.K (G.cls c)) (me : Meth G.K (G.cls c) x a) : MethG P w G mg base c x k m := by
  obtain ⟨fd, ps, hb, FF⟩ := F.ex
  exact ⟨a, fd, ps, cl, me, hb, FF⟩
theorem FnA.mk_ (F : FnA P w G mg base a k m) (M : Mk G.K (G.cls c) a) : MkG P w G mg base c k m := by
  obtain ⟨fd, ps, hb, FF⟩ := F.ex
  exact ⟨a, fd, ps, M, hb, FF⟩
theorem FnA.prop (F : FnA P w G mg base a k m) (cl : Cls G.K (G.cls c)) (po : PropOf G.K (G.cls c) x pr a) : PropG P w G mg base c x k m := by
  obtain ⟨fd, ps, hb, FF⟩ := F.ex
  exact ⟨pr, a, fd, ps, cl, po, hb, FF⟩
theorem FnA.cm {mc : Value} (F : FnA P w G mg base a k m) (cr : CRead G.K (G.cls c) mc) (cm : CMet G.K (G.cls c) mc x pr a) : CmG P w G mg base c x k m := by
  obtain ⟨fd, ps, hb, FF⟩ := F.ex
  exact ⟨mc, pr, a, fd, ps, cr, cm, hb, FF⟩
end
/-! ### a method without arguments -/
section
variable {X : Cx} {G : Gm} {W : WX} {pos p : Pos} {o : Expr} {mo : M D} {c : Nat} {x : Str} {k : Nat} {m : Fn}
theorem ke_meth0 {pl : Sem Bool} (F : MethG X.prog X.w G X.mg X.base c x k m) (hr : Room k X.A) (tk : Takes X W) (ho : PE X o (rdE G W mo)) (hK : X.K = G.K := by rfl)
    (ht : eval (.Call (.Attribute o x p) [] [] pos) X.env = (do let ov ← eval o X.env; standAt p.atName; let (g, first) ← holding [ov] (getMethod ov x pl); callWith pos g first (backTo pos (starEach [] X.env)) (backToKw pos (keywordEach [] X.env))) := by rfl) :
    PE X (.Call (.Attribute o x p) [] [] pos) (rdE G W (mMeth c x m mo aNil)) := by
  obtain ⟨a0, fd, ps, cl, me, hb, FF⟩ := F.ex
  refine ⟨fun pins s σ H Q I ⟨z, env, S, st, hre, h⟩ => ?_⟩
  have hq : rdE G W mo σ H fun v H1 => ∃ z1 S1 d, Stands G z1 H1 S1 ∧ RepE G z1 H1 env σ ∧ Rep G z1 H1 d v ∧ Out G W σ z1 H1 (fun z' H' _ d => ∀ v, Rep G z' H' d v → Q v H') ((match insOf S1 d with
      | some (c', fs) => if c' = c ∧ fs.lookup x = none then bind aNil (fun ds _ S' => m (d :: ds) S') env S1 else .bad
      | none => .bad)) := rdE_step st hre h fun z1 H1 S1 d v L1 s1 e1 r1 q1 => ⟨z1, S1, d, s1, e1, r1, q1⟩
  refine PySem.W.methodCall_KW (pl := pl) (thn (ho.run pins s σ H _ I hq) fun u s1 ⟨v, H1, I1, rv, z1, S1, d, t1, e1, r1, q1⟩ => ?_) ht
  cases q : insOf S1 d with
  | none => simp only [q] at q1; exact q1.elim
  | some cf =>
    obtain ⟨c', fs⟩ := cf
    simp only [q] at q1
    by_cases hc : c' = c ∧ fs.lookup x = none
    · rw [if_pos hc] at q1
      obtain ⟨rfl, hl⟩ := hc
      obtain ⟨n, a, dx, ws, rfl, rfl, hn, hs, hH, hf⟩ := insOf_at t1 r1 q
      obtain rfl : u = Value.ref a := rv
      refine getmeth_ok I1 hH (hK ▸ cl) (hK ▸ me) (repF_none hf hl) ?_
      refine PySem.W.callWith_K0 (first := [.ref a]) I1.kIn (hK ▸ me.kp) ?_
      refine run_fnG (us := [.ref a]) (vs := [.ref a]) (ds := [.ref n]) FF hK hr (fun h => nomatch h) hb tk I1 (.cons rfl .nil) t1 ?_ ?_
      · rw [RepL]
        exact ⟨_, [], rfl, r1, by rw [RepL]⟩
      · exact outF_of q1
    · rw [if_neg hc] at q1
      exact q1.elim
theorem ke_gstrE {W : WX} {pos : Pos} {X : Cx} {G : Gm} {x y : Str} (hg : Gl X x) (hm : ∃ t, X.mg x = some (.str y t)) (hd : (x == ("__debug__" : Str)) = false := by decide) : PE X (.Name x pos) (rdE G W (mC (.str y))) := by
  obtain ⟨t, hm⟩ := hm
  exact pe_imp (pe_glob hg hm (v := .str y) ⟨t, rfl⟩ hd) fun σ H Q ⟨z, env, S, s, he, h⟩ => h z H .refl s _ (by rw [Rep])
end
/-- a statement of a class body -/
def initOf' (j : Nat) : Stmt → Stmt
  | .ClassDef _ _ _ bs _ _ _ _ _ _ _ => bs.getD j (.Pass ⟨0, 0, 0, 0⟩)
  | s => s
end Ki

set_option Elab.async false
set_option linter.all false
set_option maxRecDepth 100000
set_option maxHeartbeats 1000000
/-! Ki26: == of two instances of one class, by its own __eq__. -/
namespace Ki
open PySem L2 PySem.Spec PyProof.Rows
def mEqI (c : Nat) (m : Fn) (ma mb : M D) : M D := bind ma fun x => bind mb fun y => fun _ S => match insOf S x, insOf S y with
  | some (c1, _), some (c2, _) => if c1 = c ∧ c2 = c then (match m [x, y] S with | .ok (.bl b) S' => .ok (.bl b) S' | _ => .bad) else .bad
  | _, _ => .bad
def rEqI (G : Gm) (c : Nat) (m : Fn) : V → V → Hp → VK → Prop := fun x y H Q => ∃ (z : Z) (S S' : Sto) (d1 d2 : D) (b : Bool) (fs gs : List (Str × D)), Stands G z H S ∧ Rep G z H d1 x ∧ Rep G z H d2 y ∧ insOf S d1 = some (c, fs) ∧ insOf S d2 = some (c, gs) ∧ m [d1, d2] S = .ok (.bl b) S' ∧
  ∀ z' H', Later z H z' H' → Stands G z' H' S' → Q (.bl b) H'
section
variable {X : Cx} {G : Gm} {W : WX} {pos : Pos} {a b : Expr} {ma mb : M D} {c k : Nat} {m : Fn}
theorem op_eqI (F : MethG X.prog X.w G X.mg X.base c "__eq__" k m) (hr : Room k X.A) (hK : X.K = G.K) : OpR X (compareOp .Eq) (rEqI G c m) := by
  obtain ⟨f, fd, ps, cl, me, hb, FF⟩ := F.ex
  intro pins s σ H x y u v Q I rx ry ⟨z, S, S', d1, d2, r, fs, gs, st, q1, q2, i1, i2, ed, q⟩
  obtain ⟨n1, a1, dx, ws, rfl, rfl, hn1, hs1, h1, _⟩ := insOf_at st q1 i1
  obtain ⟨n2, a2, dy, us, rfl, rfl, hn2, hs2, h2, _⟩ := insOf_at st q2 i2
  cases rx
  cases ry
  show wpAny (model X.prog X.w) X.A (richCompare .Eq (.ref a1) (.ref a2)) (EP X pins σ Q) X.xe s
  obtain ⟨mA, J, _⟩ := ins_get I.hok h1
  obtain ⟨mB, J', _⟩ := ins_get I.hok h2
  obtain ⟨od, J, _⟩ := J.look
  obtain ⟨od', J', _⟩ := J'.look
  obtain ⟨fm, hF⟩ := I.fr
  refine PySem.W.cmp_K (op := .Eq) (tb := .ref (G.cls c)) hr.units0 hF I.ok.mod.kin J J'.type (by simp [PySem.W.notFirst]) (hK ▸ me.at_) (hK ▸ me.fn) ?_
  refine thn (run_fnG (W := W0) (Q := fun v H' => v = .bl r ∧ Q v H') (vs := [.ref a1, .ref a2]) (ds := [.ref n1, .ref n2]) FF hK hr (fun h => nomatch h) hb takes0 I (.cons rfl (.cons rfl .nil)) st ?_ ?_) fun u s' ⟨v, H', I', rv, ev, q'⟩ => ?_
  · rw [RepL]
    refine ⟨_, _, rfl, q1, ?_⟩
    rw [RepL]
    exact ⟨_, [], rfl, q2, by rw [RepL]⟩
  · rw [ed]
    intro z' H' v L s' rv
    rw [Rep] at rv
    subst rv
    exact ⟨rfl, q z' H' L s'⟩
  · subst ev
    obtain rfl : u = Value.bool r := rv
    exact ⟨.bl r, H', I', rfl, q'⟩
theorem ke_eqI (F : MethG X.prog X.w G X.mg X.base c "__eq__" k m) (hr : Room k X.A) (ha : PE X a (rdE G W ma)) (hb : PE X b (rdE G W mb)) (hm : behindInMarks .Eq b = false := by first | exact nomark _ | with_unfolding_all rfl) (hK : X.K = G.K := by rfl) : PE X (.Compare a [.Eq] [b] pos) (rdE G W (mEqI c m ma mb)) := by
  refine pe_imp (pe_cmpR (op_eqI F hr hK) ha hb hm) fun σ H Q ⟨z, env, S, s, he, h⟩ => ?_
  refine rdE_step s he h fun z1 H1 S1 d1 x L1 s1 e1 r1 h1 => ?_
  refine rdE_step s1 e1 h1 fun z2 H2 S2 d2 y L2' s2 e2 r2 h2 => ?_
  have r1' := Rep.later L2' s1.mup d1 x r1
  cases i1 : insOf S2 d1 with
  | none => simp only [i1] at h2; exact h2.elim
  | some p1 =>
    cases i2 : insOf S2 d2 with
    | none => simp only [i1, i2] at h2; exact h2.elim
    | some p2 =>
      obtain ⟨c1, fs⟩ := p1
      obtain ⟨c2, gs⟩ := p2
      simp only [i1, i2] at h2
      by_cases hc : c1 = c ∧ c2 = c
      · rw [if_pos hc] at h2
        obtain ⟨rfl, rfl⟩ := hc
        cases ed : m [d1, d2] S2 with
        | ok d S' =>
          simp only [ed] at h2
          cases d <;> first | (exact h2.elim) | skip
          exact ⟨z2, S2, S', d1, d2, _, fs, gs, s2, r1', r2, i1, i2, ed, fun z' H' L s' => h2 z' H' L s' _ (by rw [Rep])⟩
        | exc x' S' => simp only [ed] at h2; exact h2.elim
        | bad => simp only [ed] at h2; exact h2.elim
      · rw [if_neg hc] at h2
        exact h2.elim
end
end Ki

set_option Elab.async false
set_option linter.all false
set_option maxRecDepth 100000
set_option maxHeartbeats 4000000
/-! Ki27: a tuple times 0. -/
namespace Ki
open PySem L2 PySem.Spec PyProof.Rows
theorem tup_mul0 (a : Addr) (its : Array Value) (z : Nat) (dd : Option Addr) (sl : Array (Option Value)) (u : Tok) (c1 : (its.isEmpty || (0 : Int) == 1) = false) :
    Meets (Builtin.«tuple.__mul__» ⟨[.ref a, .int 0 u], []⟩) (fun _ R s => s.heap.get? a = some { cls := .type "tuple", dict := dd, data := .seq its z, slots := sl } ∧
      R (.ok (.ret (Value.ref s.heap.objs.size))) { s with heap := s.heap.push { cls := Value.type "tuple", data := Data.seq #[] }, toks := s.toks }) :=
  .of_wp fun prog w A R s h => by
    obtain ⟨hp, g, d, tk, os⟩ := s
    obtain ⟨hl, h⟩ := h
    have f1 := AutoSeq1.idx_int
    wp_walk using wpAny_loadPart' hl
    repeat (first
      | (refine wpAny_ite_false (decide_eq_false (by decide)) ?_; wp_walk using wpAny_loadPart' hl)
      | (refine wpAny_ite_false (decide_eq_false (by rw [c1]; exact Bool.false_ne_true)) ?_; wp_walk using wpAny_loadPart' hl)
      | (refine wpAny_ite_true (by decide) ?_; wp_walk using wpAny_loadPart' hl))
    exact ⟨_, rfl, h⟩
def dRepZ : Op2
  | .tup xs, .int k => if (!xs.isEmpty && decide (k = 0)) then some (.tup []) else none
  | _, _ => none
def rRepZ (K : PySem.W.Frag) : R2 := fun x y H Q => ∃ a xs, x = .ref a ∧ y = .int 0 ∧ SqT K H a xs ∧ xs ≠ [] ∧ ∀ p, H p = none → Q (.ref p) (upd H p (.tup []))
section
variable {X : Cx} {G : Gm}
theorem op_repZ : OpR X (binaryOp .Mult) (rRepZ X.K) := by
  intro pins s σ H x y v u Q I rx ry ⟨l, xs, ex, ey, hT, hne, q⟩
  subst ex
  subst ey
  cases rx
  obtain ⟨t, rfl⟩ := ry
  obtain ⟨its, r, ⟨⟨cls, dd, data, sl⟩, ho, hc, n, hd⟩, hs⟩ := I.tuple hT
  simp only at hc hd
  subst hc hd
  have hi : (its.toArray.isEmpty || (0 : Int) == 1) = false := by
    cases its with
    | nil => cases r; exact absurd rfl hne
    | cons a b => rfl
  refine wpAny_binaryOp_repeat_ref (T := "tuple") (U := "int") (by decide) ⟨_, ho, rfl⟩ (fun s' => typeIs_int s' 0 t) noFill_tuple_mul F.fills_int_mul F.slot_int_rmul repeat_tuple F.slot_int_index.lookup
    (call_meets F.slot_int_rmul (typeIs_int s 0 t) F.entry_int_rmul (F.args_int_rmul_2 _ _) (int_rmul_tuple 0 t l its.toArray n dd sl) ⟨ho, rfl, ⟨_, ho, rfl⟩, call_meets F.slot_tuple_mul ⟨_, ho, rfl⟩ F.entry_tuple_mul (F.args_tuple_mul_2 _ _) (tup_mul0 l its.toArray n dd sl t hi) ⟨ho, ?_⟩⟩)
  refine ⟨.ref s.heap.objs.size, _, I.laid (t' := s.toks) (o := .tup []) (fun b ob q => Heap.get?_push_of_some _ q) (Nat.le_refl _) ?_, rfl, q _ (I.hok.fresh (Nat.le_refl _))⟩
  exact ⟨Nat.zero_le _, [], .nil, IsTup.new _ _⟩
theorem ko_repZ (hK : X.K = G.K := by rfl) : OpK X G (binaryOp .Mult) dRepZ := by
  refine ⟨_, op_repZ, fun z H S x y d1 d2 d Q s n1 n2 e q => ?_⟩
  unfold dRepZ at e
  split at e
  · rename_i xs k
    split at e
    · rename_i hc
      obtain ⟨h1, h2⟩ := Bool.and_eq_true_iff.mp hc
      have hk := of_decide_eq_true h2
      subst hk
      cases e
      obtain ⟨a, vs, rfl, hs, hl⟩ := n1.tup
      refine ⟨a, vs, rfl, n2.int, hK ▸ hs, fun ev => ?_, fun p hp => q _ _ (same_new hp) (rep_tup s hp (by rw [RepL]))⟩
      have ln := hl.len
      rw [ev] at ln
      cases xs with
      | nil => cases h1
      | cons => simp at ln
    · cases e
  · cases e
/-- a tuple times an int: 0, or from 2 on -/
def dRepT2 : Op2 := fun x y => (dRepT x y).or (dRepZ x y)
theorem ko_repT2 (hK : X.K = G.K := by rfl) : OpK X G (binaryOp .Mult) dRepT2 := (ko_repT hK).or (ko_repZ hK)
end
end Ki

set_option Elab.async false
set_option linter.all false
set_option maxRecDepth 100000
set_option maxHeartbeats 1000000
/-! Ki28: names from a list's items. -/
namespace Ki
open PySem L2 PySem.Spec PyProof.Rows
def gTpL (is : List Nat) : Tg := fun d env => match d with
  | .lst _ ds => gNms is ds env
  | _ => none
section
variable {X : Cx} {G : Gm} {pos : Pos}
theorem kg_tupL {es : List Expr} {k : Nat} {is : List Nat} (hc : X.calm = true) (h : PGks X G es is) (hn : (assignEach es X.env).length = is.length := by rfl) (hst : (assignEach es X.env).findIdx? (·.1) = none := by rfl) (hK : X.K = G.K := by rfl) : PGk X G (.Tuple es k pos) (gTpL is) := by
  obtain ⟨t, p, q⟩ := h.ex
  refine ⟨⟨_, pg_lst (n := is.length) hc p hn hst, fun z H S σ env env' d v Q s e r h q' => ?_⟩⟩
  cases d <;> first | (cases h; done) | skip
  rename_i o ds
  rw [Rep] at r
  obtain ⟨a, vs, rfl, h1, _, _, h2⟩ := r
  have hl := gNms_len (show gNms is ds env = some env' from h)
  exact ⟨a, vs, rfl, SqL.of h1, by rw [h2.len, hl], q z H S σ env env' ds vs Q s e h2 h q'⟩
end
end Ki

set_option Elab.async false
set_option linter.all false
set_option maxRecDepth 100000
set_option maxHeartbeats 1000000
/-! Ki29: functions as values (numbered as classes are); properties of several classes. -/
namespace Ki
open PySem L2 PySem.Spec PyProof.Rows
/-- the function of a number, by what it reckons -/
structure FnV (P : Program) (w : World) (G : Gm) (mg : Str → Option Value) (base : Heap) (c : Nat) (k : Nat) (m : Fn) : Prop where
  ex : ∃ (fd : FuncData) (ps : List Str), PySem.W.keepIn G.K (.ref (G.cls c)) = true ∧ L2.Binds G.K fd ps [] ∧ FnG P w G mg base k (G.cls c) fd ps false m
theorem Fn1.fnV {P : Program} {w : World} {G : Gm} {mg : Str → Option Value} {base : Heap} {x : Str} {c k : Nat} {m : Fn} (F : Fn1 P w G mg base x k false m) (h : mg x = some (.ref (G.cls c))) : FnV P w G mg base c k m := by
  obtain ⟨a, fd, ps, hm, kp, hb, FF⟩ := F.ex
  rw [h] at hm
  cases hm
  exact ⟨fd, ps, kp, hb, FF⟩
theorem FnV.mono {P : Program} {w : World} {G : Gm} {mg : Str → Option Value} {base : Heap} {c j k : Nat} {m : Fn} (F : FnV P w G mg base c j m) (h : j ≤ k) : FnV P w G mg base c k m := by
  obtain ⟨fd, ps, kp, hb, FF⟩ := F.ex
  exact ⟨fd, ps, kp, hb, FF.mono h⟩
abbrev Fns := List (Nat × Fn)
def FnsOk (P : Program) (w : World) (G : Gm) (mg : Str → Option Value) (base : Heap) (k : Nat) : Fns → Prop
  | [] => True
  | (c, m) :: r => FnV P w G mg base c k m ∧ FnsOk P w G mg base k r
theorem FnsOk.get {P : Program} {w : World} {G : Gm} {mg : Str → Option Value} {base : Heap} {k : Nat} : ∀ {l : Fns} {c : Nat} {m : Fn}, FnsOk P w G mg base k l → l.lookup c = some m → FnV P w G mg base c k m
  | [], c, m, _, e => by cases e
  | (d, f) :: r, c, m, h, e => by
    rw [List.lookup_cons] at e
    cases q : (c == d) with
    | true => rw [q] at e; cases e; rw [beq_iff_eq.mp q]; exact h.1
    | false => rw [q] at e; exact FnsOk.get h.2 e
/-- f(e, ..), f a name whose value is a function of the list -/
def mCallV (l : Fns) (mo : M D) (ma : M (List D)) : M D := bind mo fun o => match o with
  | .cls c => match l.lookup c with
    | some m => mCall m ma
    | none => lift none
  | _ => lift none
section
variable {X : Cx} {G : Gm} {W : WX} {pos p : Pos} {e o : Expr} {es : List Expr} {mo : M D} {ma : M (List D)} {x : Str} {k : Nat} {l : Fns}
theorem ke_callV (F : FnsOk X.prog X.w G X.mg X.base k l) (hr : Room k X.A) (tk : Takes X W) (ho : PE X (.Name x p) (rdE G W mo)) (ha : PA X (e :: es) (rdA G W ma))
    (hK : X.K = G.K := by rfl) (he : starEach (e :: es) X.env = (false, eval e X.env) :: starEach es X.env := by rfl) (hpl : (backTo pos (starEach es X.env)).any (·.1) = false := by rfl) :
    PE X (.Call (.Name x p) (e :: es) [] pos) (rdE G W (mCallV l mo ma)) := by
  refine ⟨fun pins s σ H Q I ⟨z, env, S, st, hre, h⟩ => ?_⟩
  have hO : rdE G W mo σ H fun v H0 => ∃ c m, v = .ref (G.cls c) ∧ l.lookup c = some m ∧ rdA G W ma σ H0 fun vs H1 => ∃ z1 ds S1, Stands G z1 H1 S1 ∧ RepL G z1 H1 ds vs ∧ OutF G z1 H1 Q (WE W σ) (m ds S1) := by
    refine rdE_step st hre h fun z0 H0 S0 d v L0 s0 e0 r0 h0 => ?_
    cases d <;> first | (exact h0.elim) | skip
    rename_i c
    rw [Rep] at r0
    cases q : l.lookup c with
    | none => simp only [q] at h0; exact h0.elim
    | some m =>
      simp only [q] at h0
      refine ⟨c, m, r0, q, ?_⟩
      have h0' : Out G W σ z0 H0 (fun z' H' _ d => ∀ v, Rep G z' H' d v → Q v H') (bind ma (fun ds _ S => m ds S) env S0) := h0
      exact rdA_step s0 e0 h0' fun z1 H1 S1 ds vs L1 s1 e1 r1 h1 => ⟨z1, ds, S1, s1, r1, outF_of h1⟩
  refine wpAny_Call_Name_kw (thn (ho.run pins s σ H _ I hO) fun u s0 ⟨v, H0, I0, rv, c, m, ev, el, hA⟩ => ?_)
  subst ev
  obtain rfl : u = Value.ref (G.cls c) := rv
  obtain ⟨fd, ps, kp, hb, FF⟩ := (F.get el).ex
  refine PySem.W.callWith_K (h₀ := X.base) I0.ok.mod.kin (hK ▸ kp) (thn (ha.run pos pins s0 σ H0 _ I0 hA) fun us s1 ⟨vs, H1, I1, rr, z1, ds, S1, t1, rl, y⟩ => ⟨I1.kIn, ?_⟩) he hpl
  exact run_fnG FF hK hr (fun h => nomatch h) hb tk I1 rr t1 rl y
end
end Ki
namespace Ki
open PySem L2 PySem.Spec PyProof.Rows
/-! ### what several classes have under one name -/
def PropsOk (P : Program) (w : World) (G : Gm) (mg : Str → Option Value) (base : Heap) (x : Str) (k : Nat) : Fns → Prop
  | [] => True
  | (c, m) :: r => PropG P w G mg base c x k m ∧ PropsOk P w G mg base x k r
theorem PropsOk.get {P : Program} {w : World} {G : Gm} {mg : Str → Option Value} {base : Heap} {x : Str} {k : Nat} : ∀ {l : Fns} {c : Nat} {m : Fn}, PropsOk P w G mg base x k l → l.lookup c = some m → PropG P w G mg base c x k m
  | [], c, m, _, e => by cases e
  | (d, f) :: r, c, m, h, e => by
    rw [List.lookup_cons] at e
    cases q : (c == d) with
    | true => rw [q] at e; cases e; rw [beq_iff_eq.mp q]; exact h.1
    | false => rw [q] at e; exact PropsOk.get h.2 e
def mPropL (l : Fns) (mo : M D) : M D := bind mo fun o => fun _ S => match insOf S o with
  | some (c, _) => match l.lookup c with
    | some m => (match m [o] S with | .ok d S' => .ok d S' | _ => .bad)
    | none => .bad
  | none => .bad
def MethsOk (P : Program) (w : World) (G : Gm) (mg : Str → Option Value) (base : Heap) (x : Str) (k : Nat) : Fns → Prop
  | [] => True
  | (c, m) :: r => MethG P w G mg base c x k m ∧ MethsOk P w G mg base x k r
theorem MethsOk.get {P : Program} {w : World} {G : Gm} {mg : Str → Option Value} {base : Heap} {x : Str} {k : Nat} : ∀ {l : Fns} {c : Nat} {m : Fn}, MethsOk P w G mg base x k l → l.lookup c = some m → MethG P w G mg base c x k m
  | [], c, m, _, e => by cases e
  | (d, f) :: r, c, m, h, e => by
    rw [List.lookup_cons] at e
    cases q : (c == d) with
    | true => rw [q] at e; cases e; rw [beq_iff_eq.mp q]; exact h.1
    | false => rw [q] at e; exact MethsOk.get h.2 e
section
variable {X : Cx} {G : Gm} {W : WX} {pos p : Pos} {e o : Expr} {es : List Expr} {mo : M D} {ma : M (List D)} {x : Str} {k : Nat} {l : Fns}
theorem ke_propL (F : PropsOk X.prog X.w G X.mg X.base x k l) (hr : Room (k + 1) X.A) (ho : PE X o (rdE G W mo)) (hK : X.K = G.K := by rfl) (hab : attributeBase o x X.env (eval o X.env) = eval o X.env := by rfl) : PE X (.Attribute o x pos) (rdE G W (mPropL l mo)) := by
  refine ⟨fun pins s σ H Q I ⟨z, env, S, st, hre, h⟩ => ?_⟩
  have hq : rdE G W mo σ H fun v H1 => ∃ z1 S1 d c m fs, Stands G z1 H1 S1 ∧ Rep G z1 H1 d v ∧ insOf S1 d = some (c, fs) ∧ l.lookup c = some m ∧ ∃ y S', m [d] S1 = .ok y S' ∧ ∀ z' H', Later z1 H1 z' H' → Stands G z' H' S' → ∀ v, Rep G z' H' y v → Q v H' := by
    refine rdE_step st hre h fun z1 H1 S1 d v L1 s1 e1 r1 q1 => ?_
    cases q : insOf S1 d with
    | none => simp only [q] at q1; exact q1.elim
    | some cf =>
      obtain ⟨c, fs⟩ := cf
      simp only [q] at q1
      cases q2 : l.lookup c with
      | none => simp only [q2] at q1; exact q1.elim
      | some m =>
        simp only [q2] at q1
        cases y : m [d] S1 with
        | ok d' S2 => simp only [y] at q1; exact ⟨z1, S1, d, c, m, fs, s1, r1, q, q2, d', S2, y, q1⟩
        | exc x' S2 => simp only [y] at q1; exact q1.elim
        | bad => simp only [y] at q1; exact q1.elim
  refine attr_of hab (thn (ho.run pins s σ H _ I hq) fun u s1 ⟨v, H1, I1, rv, z1, S1, d, c, m, fs, t1, r1, q, q2, y, S', ey, q3⟩ => ?_)
  obtain ⟨n, a, dx, ws, rfl, rfl, hn, hs, hH, hf⟩ := insOf_at t1 r1 q
  obtain rfl : u = Value.ref a := rv
  obtain ⟨pr, g, fd, ps, cl, po, hb, FF⟩ := (F.get q2).ex
  have F1 := FF.ok
  rw [← hK] at cl po hb F1
  refine getprop_ok (E := fun _ _ _ => False) I1 hH cl po F1 hr hb .nil (fun pins σ H s u s' I h => ?_) ⟨z1, [.ref n], S1, t1, ?_, ?_⟩
  · obtain ⟨_, _, _, _, _, _, _, _, _, _, _, _, no⟩ := h
    exact no.elim
  · rw [RepL]
    exact ⟨_, [], rfl, r1, by rw [RepL]⟩
  · rw [ey]
    exact fun z' H' v' L' s' r' => q3 z' H' L' s' v' r'
def mMethL (x : Str) (l : Fns) (mo : M D) (ma : M (List D)) : M D := bind mo fun o => fun env S => match insOf S o with
  | some (c, fs) => match l.lookup c with
    | some m => if fs.lookup x = none then bind ma (fun ds _ S' => m (o :: ds) S') env S else .bad
    | none => .bad
  | none => .bad
theorem ke_methL {pl : Sem Bool} (F : MethsOk X.prog X.w G X.mg X.base x k l) (hr : Room k X.A) (tk : Takes X W) (ho : PE X o (rdE G W mo)) (ha : PA X (e :: es) (rdA G W ma)) (hK : X.K = G.K := by rfl)
    (hst : starEach (e :: es) X.env = (false, eval e X.env) :: starEach es X.env := by rfl) (hpl : (backTo pos (starEach es X.env)).any (·.1) = false := by rfl)
    (ht : eval (.Call (.Attribute o x p) (e :: es) [] pos) X.env = (do let ov ← eval o X.env; standAt p.atName; let (g, first) ← holding [ov] (getMethod ov x pl); callWith pos g first (backTo pos (starEach (e :: es) X.env)) (backToKw pos (keywordEach [] X.env))) := by rfl) :
    PE X (.Call (.Attribute o x p) (e :: es) [] pos) (rdE G W (mMethL x l mo ma)) := by
  refine ⟨fun pins s σ H Q I ⟨z, env, S, st, hre, h⟩ => ?_⟩
  have hq : rdE G W mo σ H fun v H1 => ∃ z1 S1 d c m fs, Stands G z1 H1 S1 ∧ RepE G z1 H1 env σ ∧ Rep G z1 H1 d v ∧ insOf S1 d = some (c, fs) ∧ l.lookup c = some m ∧ fs.lookup x = none ∧ Out G W σ z1 H1 (fun z' H' _ d => ∀ v, Rep G z' H' d v → Q v H') (bind ma (fun ds _ S' => m (d :: ds) S') env S1) := by
    refine rdE_step st hre h fun z1 H1 S1 d v L1 s1 e1 r1 q1 => ?_
    cases q : insOf S1 d with
    | none => simp only [q] at q1; exact q1.elim
    | some cf =>
      obtain ⟨c, fs⟩ := cf
      simp only [q] at q1
      cases q2 : l.lookup c with
      | none => simp only [q2] at q1; exact q1.elim
      | some m =>
        simp only [q2] at q1
        by_cases hx : fs.lookup x = none
        · rw [if_pos hx] at q1
          exact ⟨z1, S1, d, c, m, fs, s1, e1, r1, q, q2, hx, q1⟩
        · rw [if_neg hx] at q1
          exact q1.elim
  refine PySem.W.methodCall_KW (pl := pl) (thn (ho.run pins s σ H _ I hq) fun u s1 ⟨v, H1, I1, rv, z1, S1, d, c, m, fs, t1, e1, r1, q, q2, hl, q1⟩ => ?_) ht
  obtain ⟨n, a, dx, ws, rfl, rfl, hn, hs, hH, hf⟩ := insOf_at t1 r1 q
  obtain rfl : u = Value.ref a := rv
  obtain ⟨a0, fd, ps, cl, me, hb, FF⟩ := (F.get q2).ex
  refine getmeth_ok I1 hH (hK ▸ cl) (hK ▸ me) (repF_none hf hl) ?_
  have hA : rdA G W ma σ H1 fun vs H2 => ∃ z2 ds S2, Stands G z2 H2 S2 ∧ RepL G z2 H2 (.ref n :: ds) (.ref a :: vs) ∧ OutF G z2 H2 Q (WE W σ) (m (.ref n :: ds) S2) := by
    refine rdA_step t1 e1 q1 fun z2 H2 S2 ds vs L2' s2 e2 r2 h2 => ⟨z2, ds, S2, s2, ?_, outF_of h2⟩
    rw [RepL]
    refine ⟨_, vs, rfl, ?_, r2⟩
    rw [Rep]
    exact ⟨a, rfl, L2'.at_ hn⟩
  refine PySem.W.callWith_K (first := [.ref a]) (h₀ := X.base) I1.ok.mod.kin (hK ▸ me.kp) (thn (ha.run pos pins s1 σ H1 _ I1 hA) fun us s2 ⟨vs, H2, I2, rr, z2, ds, S2, t2, rl, y⟩ => ⟨I2.kIn, ?_⟩) hst hpl
  exact run_fnG (us := .ref a :: us) (vs := .ref a :: vs) FF hK hr (fun h => nomatch h) hb tk I2 (.cons rfl rr) t2 rl y
end
end Ki
namespace Ki
open PySem L2
theorem PropG.mono {P : Program} {w : World} {G : Gm} {mg : Str → Option Value} {base : Heap} {c j k : Nat} {x : Str} {m : Fn} (F : PropG P w G mg base c x j m) (h : j ≤ k) : PropG P w G mg base c x k m := by
  obtain ⟨pr, g, fd, ps, a, b, hb, FF⟩ := F.ex
  exact ⟨pr, g, fd, ps, a, b, hb, FF.mono h⟩
theorem MethG.mono {P : Program} {w : World} {G : Gm} {mg : Str → Option Value} {base : Heap} {c j k : Nat} {x : Str} {m : Fn} (F : MethG P w G mg base c x j m) (h : j ≤ k) : MethG P w G mg base c x k m := by
  obtain ⟨f, fd, ps, a, b, hb, FF⟩ := F.ex
  exact ⟨f, fd, ps, a, b, hb, FF.mono h⟩
end Ki

set_option Elab.async false
set_option linter.all false
set_option maxRecDepth 100000
set_option maxHeartbeats 1000000
/-! Ki30: a comprehension's list that changes later: it joins the store. -/
namespace Ki
open PySem L2 PySem.Spec PyProof.Rows
def Z.own (z : Z) (p : Addr) : Z := ⟨fun a => z.psi a ∨ a = p, fun a => z.phi a ∨ a = p, z.rho ++ [p], fun a => z.hid a ∧ a ≠ p⟩
section
variable {G : Gm} {z : Z} {H : Hp} {S : Sto} {p : Addr} {us : List V}
mutual
theorem Rep.ownd (h : HidAt G z H p us) : ∀ (d : D) (v : V), Rep G z H d v → Rep G (z.own p) H d v
  | .non, _, q => q
  | .bl _, _, q => q
  | .int _, _, q => q
  | .str _, _, q => q
  | .ty _, _, q => q
  | .cls _, _, q => q
  | .tup ds, v, q => by
    rw [Rep] at q ⊢
    obtain ⟨a, vs, e, hs, hl⟩ := q
    exact ⟨a, vs, e, hs, RepL.ownd h ds vs hl⟩
  | .lst o ds, v, q => by
    rw [Rep] at q ⊢
    obtain ⟨a, vs, e, hs, hn, ho, hl⟩ := q
    have ne : a ≠ p := fun x => hn (.inr (x ▸ h.hid))
    refine ⟨a, vs, e, hs, fun x => ?_, fun y x => ?_, RepL.ownd h ds vs hl⟩
    · rcases x with (x | x) | x
      · exact hn (.inl x)
      · exact ne x
      · exact hn (.inr x.1)
    · rcases x with x | x
      · exact ho y x
      · exact ne x
  | .scr ns, v, q => by
    rw [Rep] at q ⊢
    exact q
  | .dic kvs, v, q => by
    rw [Rep] at q ⊢
    obtain ⟨a, ws, e, hs, hn, ho, hl⟩ := q
    have ne : a ≠ p := fun x => by
      rw [x, h.at_] at hs
      cases hs
    exact ⟨a, ws, e, hs, fun x => x.elim hn ne, fun x => x.elim ho ne, RepK.ownd h kvs ws hl⟩
  | .obj c fs, v, q => by
    rw [Rep] at q ⊢
    obtain ⟨a, dx, ws, e, hs, hn, ho, hl⟩ := q
    have ne : a ≠ p := fun x => by
      rw [x, h.at_] at hs
      cases hs
    exact ⟨a, dx, ws, e, hs, fun x => x.elim hn ne, fun x => x.elim ho ne, RepF.ownd h fs ws hl⟩
  | .ref n, v, q => by
    rw [Rep] at q ⊢
    obtain ⟨a, e, hn⟩ := q
    refine ⟨a, e, ?_⟩
    show (z.rho ++ [p])[n]? = some a
    rw [List.getElem?_append_left (List.getElem?_eq_some_iff.mp hn).1]
    exact hn
theorem RepL.ownd (h : HidAt G z H p us) : ∀ (ds : List D) (vs : List V), RepL G z H ds vs → RepL G (z.own p) H ds vs
  | [], _, q => q
  | d :: ds, vs, q => by
    rw [RepL] at q ⊢
    obtain ⟨w, ws, e, h1, h2⟩ := q
    exact ⟨w, ws, e, Rep.ownd h d w h1, RepL.ownd h ds ws h2⟩
theorem RepK.ownd (h : HidAt G z H p us) : ∀ (ds : List (Key × D)) (vs : List (Key × V)), RepK G z H ds vs → RepK G (z.own p) H ds vs
  | [], _, q => q
  | (k, d) :: ds, vs, q => by
    rw [RepK] at q ⊢
    obtain ⟨w, ws, e, h1, h2⟩ := q
    exact ⟨w, ws, e, Rep.ownd h d w h1, RepK.ownd h ds ws h2⟩
theorem RepF.ownd (h : HidAt G z H p us) : ∀ (ds : List (Str × D)) (vs : List (Str × V)), RepF G z H ds vs → RepF G (z.own p) H ds vs
  | [], _, q => q
  | (k, d) :: ds, vs, q => by
    rw [RepF] at q ⊢
    obtain ⟨w, ws, e, h1, h2⟩ := q
    exact ⟨w, ws, e, Rep.ownd h d w h1, RepF.ownd h ds ws h2⟩
end
theorem later_ownd {z0 : Z} {H0 : Hp} (L : Later z0 H0 z H) (hp : H0 p = none) (s0 : Stands G z0 H0 S) : Later z0 H0 (z.own p) H := by
  obtain ⟨t, e⟩ := L.pre
  refine ⟨L.keep, ⟨t ++ [p], by show z.rho ++ [p] = _; rw [e, List.append_assoc]⟩, fun a h => ?_, fun a h => ?_, fun a h => .inl (L.psub a h), fun a h => .inl (L.sub a h), L.live, fun a h => L.hid a h.1, fun a h => ⟨L.hsub a h, fun x => nlv hp (x ▸ s0.hid a h)⟩⟩
  · rcases h with h | h
    · exact L.psi a h
    · exact .inr (by rw [h]; exact nlv hp)
  · rcases h with h | h
    · exact L.phi a h
    · exact .inr (by rw [h]; exact nlv hp)
theorem stands_ownd (s : Stands G z H S) (h : HidAt G z H p us) {ys : List D} (r : RepL G z H ys us) : Stands G (z.own p) H (S ++ [.lst ys]) := by
  refine ⟨fun a q => ?_, fun a q => ?_, fun a q => ?_, fun a q => s.hid a q.1, s.tab, by show (z.rho ++ [p]).length = _; simp [s.len], ?_, fun n a o q1 q2 => ?_⟩
  · rcases List.mem_append.mp q with q | q
    · exact .inl (s.rho a q)
    · exact .inr (List.mem_singleton.mp q)
  · rcases q with q | q
    · exact .inl (s.psi a q)
    · exact .inr q
  · rcases q with q | q
    · exact s.mu a q
    · rw [q, h.at_]; exact True.intro
  · show (z.rho ++ [p]).Nodup
    rw [List.nodup_append]
    refine ⟨s.nd, by simp, fun a ha b hb x => h.psi ?_⟩
    rw [← List.mem_singleton.mp hb, ← x]
    exact s.rho a ha
  · have q1' : (z.rho ++ [p])[n]? = some a := q1
    by_cases hn : n < z.rho.length
    · rw [List.getElem?_append_left hn] at q1'
      rw [List.getElem?_append_left (by rw [← s.len]; exact hn)] at q2
      have q := s.at_ n a o q1' q2
      cases o with
      | lst ds =>
        obtain ⟨vs, e, q⟩ := q
        exact ⟨vs, e, RepL.ownd h ds vs q⟩
      | ins c fs =>
        obtain ⟨dx, ws, e, q⟩ := q
        exact ⟨dx, ws, e, RepF.ownd h fs ws q⟩
    · have hl := (List.getElem?_eq_some_iff.mp q1').1
      simp only [List.length_append, List.length_singleton] at hl
      have hn' : n = z.rho.length := by omega
      subst hn'
      rw [List.getElem?_append_right (Nat.le_refl _), Nat.sub_self] at q1'
      rw [List.getElem?_append_right (by rw [s.len]; exact Nat.le_refl _), s.len, Nat.sub_self] at q2
      cases q1'
      cases q2
      exact ⟨us, h.at_, RepL.ownd h ys us r⟩
end
/-- a comprehension whose list joins the store -/
def mLcN (vs : List Nat) (g : Tg) (mi : M (List D)) (mt : M Bool) (me : M D) : M D := fun env S => match mi env S with
  | .ok ds S1 => if ds.length ≤ 100000 then match lcL g mt me (wipeD env vs) ds S1 with
    | .ok ys S2 => .ok (.ref S2.length) (S2 ++ [.lst ys])
    | _ => .bad else .bad
  | .exc x S1 => .exc x S1
  | .bad => .bad
section
variable {X : Cx} {G : Gm} {W : WX} {pos : Pos} {vs : List Nat}
theorem lc_rdN {z : Z} {H : Hp} {σ : L2.St} {env : Ev} {S : Sto} {g : Tg} {mi : M (List D)} {mt : M Bool} {me : M D} {wi : TI} {tg : TG} {Q : VK} (s : Stands G z H S) (e : RepE G z H env σ)
    (hi : ∀ (z : Z) (H : Hp) (S : Sto) (σ : L2.St) (env : Ev) (R : It → Hp → Prop), Stands G z H S → RepE G z H env σ →
      Out G W σ z H (fun z' H' _ ds => ∀ J, (∀ z2 H2 S2, (∀ d v, Rep G z' H' d v → Rep G z2 H2 d v) → Stands G z2 H2 S2 → Wk G J ds z2 H2) → R J H') (mi env S) → wi σ H R)
    (ht : ∀ (z : Z) (H : Hp) (S : Sto) (σ : L2.St) (env env' : Ev) (d : D) (v : V) (Q : L2.St → Hp → Prop), Stands G z H S → RepE G z H env σ → Rep G z H d v → g d env = some env' → (∀ σ', RepE G z H env' σ' → wipe σ' vs = wipe σ vs → Q σ' H) → tg v σ H Q)
    (h : Out G W σ z H (fun z' H' _ d => ∀ v, Rep G z' H' d v → Q v H') (mLcN vs g mi mt me env S)) : tLc wi tg (rdT G W0 mt) (rdE G W0 me) vs σ H Q := by
  refine hi z H S σ env _ s e ?_
  unfold mLcN at h
  cases em : mi env S with
  | bad => rw [em] at h; exact h.elim
  | exc x S1 => rw [em] at h; exact h
  | ok ds S1 =>
    rw [em] at h
    intro z1 H1 L1 s1 J hJ
    dsimp only at h
    split at h
    · rename_i hl
      cases er : lcL g mt me (wipeD env vs) ds S1 with
      | exc x S2 => rw [er] at h; exact h.elim
      | bad => rw [er] at h; exact h.elim
      | ok ys S2 =>
        rw [er] at h
        refine lc_any s1 (e.later L1 s.mup) hl ht (fun z2 H2 S2 L s2 => hJ z2 H2 S2 (fun d v r => r.later L s1.mup) s2) er fun p z' H' us hp L' s' hh ra => ?_
        refine h (z'.own p) H' (L1.trans (later_ownd L' hp s1)) (stands_ownd s' hh ra) _ ?_
        rw [Rep]
        refine ⟨p, rfl, ?_⟩
        show (z'.rho ++ [p])[S2.length]? = some p
        rw [← s'.len, List.getElem?_append_right (Nat.le_refl _), Nat.sub_self]
        rfl
    · exact h.elim
theorem ke_lcN {elt tg iter : Expr} {ifs : List Expr} {scope : Scope} {own : List (Str × Nat)} {g : Tg} {mi : M (List D)} {mt : M Bool} {me : M D} (hc : X.calm = true) (hN : X.N.Nodup) (hi : PIk X G W tg iter mi) (ok : BlkOk X.N X.env.scope scope own)
    (hg : PGb X G scope (own.map (·.2)) tg g)
    (ht : ∀ (s : Shared) (H : Hp) (C : Addr) (cl : List (Str × Addr)) (fp : List Addr), PTs (X.blk s H scope (compEnvC scope cl C X.env) fp) ifs (rdT G W0 mt))
    (he : ∀ (s : Shared) (H : Hp) (C : Addr) (cl : List (Str × Addr)) (fp : List Addr), PE (X.blk s H scope (compEnvC scope cl C X.env) fp) elt (rdE G W0 me)) (hs : ∀ x, foldedSetIterable iter X.env x = pure x := by intro _; rfl) :
    PE X (.ListComp elt [⟨tg, iter, ifs, 0⟩] scope pos) (rdE G W (mLcN (own.map (·.2)) g mi mt me)) := by
  obtain ⟨wi, pi, hwi⟩ := hi.ex
  obtain ⟨t, pg, htg⟩ := hg.ex
  exact pe_imp (pe_lc hc hN pi ok pg ht he hs) fun σ H Q ⟨z, env, S, s, e, h⟩ => lc_rdN s e hwi htg h
theorem ks_setLcN (i : Nat) {y : Str} {py : Pos} {elt tg iter : Expr} {ifs : List Expr} {scope : Scope} {own : List (Str × Nat)} {spos : Pos} {g : Tg} {mi : M (List D)} {mt : M Bool} {me : M D} (hc : X.calm = true) (hN : X.N.Nodup) (hi : PIk X G W tg iter mi) (ok : BlkOk X.N X.env.scope scope own)
    (hg : PGb X G scope (own.map (·.2)) tg g)
    (ht : ∀ (s : Shared) (H : Hp) (C : Addr) (cl : List (Str × Addr)) (fp : List Addr), PTs (X.blk s H scope (compEnvC scope cl C X.env) fp) ifs (rdT G W0 mt))
    (he : ∀ (s : Shared) (H : Hp) (C : Addr) (cl : List (Str × Addr)) (fp : List Addr), PE (X.blk s H scope (compEnvC scope cl C X.env) fp) elt (rdE G W0 me)) (hs : ∀ x, foldedSetIterable iter X.env x = pure x := by intro _; rfl)
    (hy : X.N[i]? = some y := by rfl) (hyl : X.env.scope.names.lookup y = some .local := by rfl)
    (hsw : swapsWith (.ListComp elt [⟨tg, iter, ifs, 0⟩] scope pos) (some (.Name y py)) spos.line X.env = pure true := by rfl) :
    PS X (.Assign [.Name y py] (.ListComp elt [⟨tg, iter, ifs, 0⟩] scope pos) spos) (rdS G W (sSet i (mLcN (own.map (·.2)) g mi mt me))) := by
  obtain ⟨wi, pi, hwi⟩ := hi.ex
  obtain ⟨t, pg, htg⟩ := hg.ex
  refine ps_imp (ps_setLc (i := i) hc hN hy hyl hsw pi ok pg ht he hs) fun E σ H ⟨z, env, S, s, e, h⟩ => ?_
  refine lc_rdN s e hwi htg ((rd_thenS s e h).imp fun z' H' S' d L s' q v r => ?_)
  exact q z' H' _ .refl s' ((e.later L s.mup).set r)
end
end Ki

set_option Elab.async false
set_option linter.all false
set_option maxRecDepth 100000
set_option maxHeartbeats 1000000
/-! Ki31: a comprehension over a list of the store, which stays as it is meanwhile. -/
namespace Ki
open PySem L2 PySem.Spec PyProof.Rows
/-- what changes nothing of the store -/
def PureM {α : Type} (m : M α) : Prop := ∀ (env : Ev) (S : Sto) (a : α) (S' : Sto), m env S = .ok a S' → S' = S
section
variable {X : Cx} {G : Gm} {vs : List Nat} {pos : Pos}
theorem lc_anyP {z : Z} {H : Hp} {σ : L2.St} {env : Ev} {S : Sto} {J : It} {ds : List D} {g : Tg} {mt : M Bool} {me : M D} {tg : TG} {Q : VK} (s : Stands G z H S) (e : RepE G z H env σ) (hl : ds.length ≤ 100000)
    (ht : ∀ (z : Z) (H : Hp) (S : Sto) (σ : L2.St) (env env' : Ev) (d : D) (v : V) (Q : L2.St → Hp → Prop), Stands G z H S → RepE G z H env σ → Rep G z H d v → g d env = some env' → (∀ σ', RepE G z H env' σ' → wipe σ' vs = wipe σ vs → Q σ' H) → tg v σ H Q)
    (pt : PureM mt) (pe : PureM me) (hw : ∀ z' H', Later z H z' H' → Stands G z' H' S → Wk G J ds z' H') {ys : List D} {S' : Sto} (hr : lcL g mt me (wipeD env vs) ds S = .ok ys S')
    (h : ∀ p z' H' us, H p = none → Later z H z' H' → Stands G z' H' S' → HidAt G z' H' p us → RepL G z' H' ys us → Q (.ref p) H') :
    ∀ p, H p = none → ∃ W : Nat → Nat → Hp → Prop, (∃ m, W 0 m (upd H p (.lst []))) ∧ ∀ i m H, W i m H →
      (J.stop i H ∧ Q (.ref p) H) ∨ (J.go i H ∧ ∃ Nx : Hp → Prop, (∀ H', Nx H' → ∃ m', m' < m ∧ W (i + 1) m' H') ∧ ∀ x H', J.yld i H x H' → tg x (wipe σ vs) H' fun σ2 H2 => wipe σ2 vs = wipe σ vs ∧ rdT G W0 mt σ2 H2 fun b H3 =>
        if b = true then rdE G W0 me σ2 H3 fun y H4 => ∃ acc, H4 p = some (.lst acc) ∧ acc.length < sizeLine ∧ Nx (upd H4 p (.lst (acc ++ [y]))) else Nx H3) := by
  intro p hp
  refine ⟨fun i m H' => m = ds.length - i ∧ i ≤ ds.length ∧ ∃ z' S1 us ac rest, S1 = S ∧ Later z H z' H' ∧ Stands G z' H' S1 ∧ HidAt G z' H' p us ∧ us.length ≤ i ∧ RepL G z' H' ac us ∧ RepE G z' H' (wipeD env vs) (wipe σ vs) ∧ lcL g mt me (wipeD env vs) (ds.drop i) S1 = .ok rest S' ∧ ac ++ rest = ys,
    ⟨ds.length, by simp, Nat.zero_le _, z.hide p, S, [], [], ys, rfl, later_hide hp, ?_, ⟨.inr rfl, fun q => (s.fresh hp).1 (.inl q), (s.fresh hp).2, upd_same⟩, Nat.le_refl _, by rw [RepL], repE_wipe (e.later (later_hide hp) s.mup) vs, hr, rfl⟩, ?_⟩
  · have q := s.same (same_new (o := .lst []) hp)
    exact ⟨q.rho, q.psi, q.mu, fun a ha => by
      rcases ha with ha | ha
      · exact q.hid a ha
      · exact ⟨_, by rw [ha, upd_same], by intro ps q; cases q⟩, q.tab, q.len, q.nd, fun n a o e1 e2 => RepO.later (later_hide (o := .lst []) hp) s.mup (by
        have f := s.at_ n a o e1 e2
        have hne : a ≠ p := fun x => (s.fresh hp).1 (.inl (x ▸ s.rho a (List.mem_of_getElem? e1)))
        rw [upd_ne hne]
        exact f)⟩
  · rintro i m H1 ⟨rfl, hi, z1, S1, us, ac, rest, eS, L, s1, hh, hul, ra, e1, h1, hys⟩
    have w := hw z1 H1 L (eS ▸ s1)
    by_cases hlt : i < ds.length
    · rw [List.drop_eq_getElem_cons hlt, lcL] at h1
      obtain ⟨go, gv⟩ := w.2 i ds[i] (List.getElem?_eq_getElem hlt)
      cases eg : g ds[i] (wipeD env vs) with
      | none => simp only [eg] at h1; cases h1
      | some env' =>
        simp only [eg] at h1
        refine .inr ⟨go, fun H' => ∃ z' S2 us ac rest, S2 = S ∧ Later z H z' H' ∧ Stands G z' H' S2 ∧ HidAt G z' H' p us ∧ us.length ≤ i + 1 ∧ RepL G z' H' ac us ∧ RepE G z' H' (wipeD env vs) (wipe σ vs) ∧ lcL g mt me (wipeD env vs) (ds.drop (i + 1)) S2 = .ok rest S' ∧ ac ++ rest = ys, fun H' q => ⟨ds.length - (i + 1), by omega, rfl, hlt, q⟩, fun x H' y => ?_⟩
        obtain ⟨sm, rx⟩ := gv x H' y
        have LS : Later z1 H1 z1 H' := later_same sm
        have mu1 := s1.mup
        have e1 := e1.later LS mu1
        have hh := hh.later LS
        have ra := ra.later LS mu1
        have L := L.trans LS
        have s1 := s1.same sm
        refine ht z1 _ S1 (wipe σ vs) (wipeD env vs) env' _ _ _ s1 e1 rx eg fun σ' e' hwp => ⟨?_, z1, env', S1, s1, e', ?_⟩
        · rw [hwp]
          clear hwp e' eg
          have : ∀ (us : List Nat) (τ : L2.St), (∀ i ∈ us, ∀ x, τ[i]? ≠ some (some x)) → wipe τ us = τ := by
            intro us
            induction us with
            | nil => intros; rfl
            | cons u us ih =>
              intro τ hτ
              rw [wipe, ih τ fun i hi => hτ i (List.mem_cons_of_mem _ hi)]
              apply List.ext_getElem?
              intro j
              by_cases hj : j = u
              · subst hj
                by_cases hl : j < τ.length
                · rw [List.getElem?_set_self hl]
                  cases q : τ[j]? with
                  | none => have := List.getElem?_eq_none_iff.mp q; omega
                  | some o =>
                    cases o with
                    | none => rfl
                    | some x => exact absurd q (hτ j List.mem_cons_self x)
                · rw [List.getElem?_eq_none (by rw [List.length_set]; omega), List.getElem?_eq_none (by omega)]
              · rw [List.getElem?_set_ne (Ne.symm hj)]
          exact this vs (wipe σ vs) fun i hi x q => (wipe_some q).2 hi
        · cases et : mt env' S1 with
          | exc x S2 => rw [et] at h1; cases h1
          | bad => rw [et] at h1; cases h1
          | ok b S2 =>
            rw [et] at h1
            intro z2 H2 L2 s2
            cases b with
            | false =>
              simp only [Bool.false_eq_true, if_false] at h1 ⊢
              exact ⟨z2, S2, us, ac, rest, (pt _ _ _ _ et).trans eS, L.trans L2, s2, hh.later L2, by omega, ra.later L2 s1.mup, e1.later L2 s1.mup, h1, hys⟩
            | true =>
              simp only [if_true] at h1 ⊢
              refine ⟨z2, env', S2, s2, e'.later L2 s1.mup, ?_⟩
              cases ee : me env' S2 with
              | exc x S3 => rw [ee] at h1; cases h1
              | bad => rw [ee] at h1; cases h1
              | ok yv S3 =>
                rw [ee] at h1
                dsimp only at h1
                cases er : lcL g mt me (wipeD env vs) (ds.drop (i + 1)) S3 with
                | exc x S4 => rw [er] at h1; cases h1
                | bad => rw [er] at h1; cases h1
                | ok ys' S4 =>
                  rw [er] at h1
                  cases h1
                  intro z3 H3 L3 s3 v rv
                  have hh3 := (hh.later L2).later L3
                  have L23 := L2.trans L3
                  refine ⟨us, hh3.at_, by have := hul; show us.length < sizeLine; have : (100000 : Nat) < sizeLine := by (show _ < _; decide)
                                          omega, z3, S3, us ++ [v], ac ++ [yv], ys', (pe _ _ _ _ ee).trans ((pt _ _ _ _ et).trans eS), later_upd (L.trans L23) hp hh3, s3.hid_ hh3, hh3.put, by rw [List.length_append, List.length_singleton]; omega, ?_, (e1.later L23 s1.mup).hid hh3, er, by rw [List.append_assoc]; exact hys⟩
                  refine RepL.app ((ra.later L23 s1.mup).hid hh3) ?_
                  rw [RepL]
                  exact ⟨v, [], rfl, rv.hid hh3, by rw [RepL]⟩
    · have ei : i = ds.length := by omega
      subst ei
      rw [List.drop_eq_nil_of_le (Nat.le_refl _), lcL] at h1
      cases h1
      rw [List.append_nil] at hys
      subst hys
      exact .inl ⟨w.1 _ (Nat.le_refl _), h p z1 H1 us hp L s1 hh ra⟩


/-- a list of the store, as it is now, walks while the store stays -/
theorem wk_ref {z : Z} {H : Hp} {S : Sto} {n : Nat} {a : Addr} {ds : List D} (s : Stands G z H S) (hn : z.rho[n]? = some a) (e : S[n]? = some (.lst ds)) : (∃ xs, SqL X.K H a xs) ∧ Wk G (It2 X.K a true) ds z H := by
  obtain ⟨us, h1, h2⟩ := s.at_ n a _ hn e
  have h3 : SqL X.K H a us := SqL.of h1
  refine ⟨⟨us, h3⟩, fun i h => ⟨us, h3, by rw [h2.len]; exact h⟩, fun i d h => ?_⟩
  obtain ⟨v, q1, q2⟩ := h2.at_ h
  refine ⟨⟨us, v, h3, q1⟩, fun x H' y => wk_of ⟨y.1, ?_⟩⟩
  have q3 := y.2 us h3
  rw [q1] at q3
  cases q3
  exact q2
/-- what is walked, while the store stays -/
structure PIr (X : Cx) (G : Gm) (W : WX) (tg iter : Expr) (mi : M (List D)) : Prop where
  ex : ∃ wi : TI, PI X tg iter wi ∧ ∀ (z : Z) (H : Hp) (S : Sto) (σ : L2.St) (env : Ev) (R : It → Hp → Prop), Stands G z H S → RepE G z H env σ →
    Out G W σ z H (fun z' H' S' ds => ∀ J, (∀ z2 H2, Later z' H' z2 H2 → Stands G z2 H2 S' → Wk G J ds z2 H2) → R J H') (mi env S) → wi σ H R
/-- a list, a tuple, or a list of the store -/
def mSqR (m : M D) : M (List D) := bind m fun d => fun env S => match d with
  | .ref n => match S[n]? with
    | some (.lst xs) => .ok xs S
    | _ => .bad
  | d => lift (items d) env S
theorem ir_sq {W : WX} {tg iter : Expr} {m : M D} (ha : PE X iter (rdE G W m)) (hK : X.K = G.K := by rfl) : PIr X G W tg iter (mSqR m) := by
  refine ⟨⟨_, pi_sq ha, fun z H S σ env R s r h => ?_⟩⟩
  refine rdE_bind s r h fun z1 H1 S1 d v L s1 r1 rv h1 => ?_
  by_cases hd : ∃ n, d = .ref n
  · obtain ⟨n, rfl⟩ := hd
    rw [Rep] at rv
    obtain ⟨a, rfl, hn⟩ := rv
    cases e : S1[n]? with
    | none => simp only [e] at h1; exact h1.elim
    | some u =>
      cases u with
      | ins c fs => simp only [e] at h1; exact h1.elim
      | lst xs =>
        simp only [e] at h1
        exact ⟨a, rfl, .inl ⟨(wk_ref (X := X) s1 hn e).1, h1 z1 H1 .refl s1 _ fun z2 H2 L2' s2 => (wk_ref (X := X) s2 (L2'.at_ hn) e).2⟩⟩
  · have h2 : Out G W σ z1 H1 (fun z' H' S' ds => ∀ J, (∀ z2 H2, Later z' H' z2 H2 → Stands G z2 H2 S' → Wk G J ds z2 H2) → R J H') (lift (items d) env S1) := by
      cases d <;> first | exact h1 | exact absurd ⟨_, rfl⟩ hd
    obtain ⟨ds, e, q⟩ := rd_lift s1 h2
    obtain ⟨a, rfl⟩ := rep_ref e rv
    refine ⟨a, rfl, ?_⟩
    cases hb : isT d with
    | false => exact .inl ⟨((wk_sq (X := X) hK e rv).1 hb).1, q _ fun z2 H2 L2' s2 => ((wk_sq (X := X) hK e (rv.later L2' s1.mup)).1 hb).2⟩
    | true => exact .inr ⟨((wk_sq (X := X) hK e rv).2 hb).1, q _ fun z2 H2 L2' s2 => ((wk_sq (X := X) hK e (rv.later L2' s1.mup)).2 hb).2⟩
theorem lc_rdP {W : WX} {z : Z} {H : Hp} {σ : L2.St} {env : Ev} {S : Sto} {g : Tg} {mi : M (List D)} {mt : M Bool} {me : M D} {wi : TI} {tg : TG} {Q : VK} (s : Stands G z H S) (e : RepE G z H env σ) (pt : PureM mt) (pe : PureM me)
    (hi : ∀ (z : Z) (H : Hp) (S : Sto) (σ : L2.St) (env : Ev) (R : It → Hp → Prop), Stands G z H S → RepE G z H env σ →
      Out G W σ z H (fun z' H' S' ds => ∀ J, (∀ z2 H2, Later z' H' z2 H2 → Stands G z2 H2 S' → Wk G J ds z2 H2) → R J H') (mi env S) → wi σ H R)
    (ht : ∀ (z : Z) (H : Hp) (S : Sto) (σ : L2.St) (env env' : Ev) (d : D) (v : V) (Q : L2.St → Hp → Prop), Stands G z H S → RepE G z H env σ → Rep G z H d v → g d env = some env' → (∀ σ', RepE G z H env' σ' → wipe σ' vs = wipe σ vs → Q σ' H) → tg v σ H Q)
    (h : Out G W σ z H (fun z' H' _ d => ∀ v, Rep G z' H' d v → Q v H') (mLc vs g mi mt me env S)) : tLc wi tg (rdT G W0 mt) (rdE G W0 me) vs σ H Q := by
  refine hi z H S σ env _ s e ?_
  unfold mLc at h
  cases em : mi env S with
  | bad => rw [em] at h; exact h.elim
  | exc x S1 => rw [em] at h; exact h
  | ok ds S1 =>
    rw [em] at h
    intro z1 H1 L1 s1 J hJ
    dsimp only at h
    split at h
    · rename_i hl
      cases er : lcL g mt me (wipeD env vs) ds S1 with
      | exc x S2 => rw [er] at h; exact h.elim
      | bad => rw [er] at h; exact h.elim
      | ok ys S2 =>
        rw [er] at h
        exact lc_anyP s1 (e.later L1 s.mup) hl ht pt pe (fun z2 H2 L s2 => hJ z2 H2 L s2) er fun p z' H' us hp L' s' hh ra => h (z'.show p) H' (L1.trans (later_show L' hp s1)) (stands_show s') _ (rep_show hh ra)
    · exact h.elim
theorem ke_lcR {W : WX} {elt tg iter : Expr} {ifs : List Expr} {scope : Scope} {own : List (Str × Nat)} {g : Tg} {mi : M (List D)} {mt : M Bool} {me : M D} (pt : PureM mt) (pe : PureM me) (hc : X.calm = true) (hN : X.N.Nodup) (hi : PIr X G W tg iter mi) (ok : BlkOk X.N X.env.scope scope own)
    (hg : PGb X G scope (own.map (·.2)) tg g)
    (ht : ∀ (s : Shared) (H : Hp) (C : Addr) (cl : List (Str × Addr)) (fp : List Addr), PTs (X.blk s H scope (compEnvC scope cl C X.env) fp) ifs (rdT G W0 mt))
    (he : ∀ (s : Shared) (H : Hp) (C : Addr) (cl : List (Str × Addr)) (fp : List Addr), PE (X.blk s H scope (compEnvC scope cl C X.env) fp) elt (rdE G W0 me)) (hs : ∀ x, foldedSetIterable iter X.env x = pure x := by intro _; rfl) :
    PE X (.ListComp elt [⟨tg, iter, ifs, 0⟩] scope pos) (rdE G W (mLc (own.map (·.2)) g mi mt me)) := by
  obtain ⟨wi, pi, hwi⟩ := hi.ex
  obtain ⟨t, pg, htg⟩ := hg.ex
  exact pe_imp (pe_lc hc hN pi ok pg ht he hs) fun σ H Q ⟨z, env, S, s, e, h⟩ => lc_rdP s e pt pe hwi htg h
end
/-! ### what changes nothing of the store -/
theorem pure_var {i : Nat} : PureM (mVar i) := fun env S a S' h => by
  unfold mVar at h
  split at h <;> cases h
  rfl
theorem pure_ret {α : Type} {a : α} : PureM (ret a) := fun env S b S' h => by cases h; rfl
theorem pure_lift {α : Type} {r : Option α} : PureM (lift r) := fun env S b S' h => by
  unfold lift at h
  split at h <;> cases h
  rfl
theorem pure_bind {α β : Type} {m : M α} {k : α → M β} (h1 : PureM m) (h2 : ∀ a, PureM (k a)) : PureM (bind m k) := fun env S b S' h => by
  unfold bind at h
  cases q : m env S with
  | ok a S1 => rw [q] at h; exact (h2 a _ _ _ _ h).trans (h1 _ _ _ _ q)
  | exc x S1 => rw [q] at h; cases h
  | bad => rw [q] at h; cases h
theorem pure_at {α : Type} {f : Sto → Option α} : PureM (fun env S => lift (f S) env S) := fun env S b S' h => pure_lift _ _ _ _ h
theorem pure_op {op : Op2} {a b : M D} (h1 : PureM a) (h2 : PureM b) : PureM (mOp op a b) := pure_bind h1 fun _ => pure_bind h2 fun _ => pure_at (f := fun S => op (vw S _) (vw S _))
theorem pure_bl {m : M D} (h : PureM m) : PureM (mBl m) := pure_bind h fun d => by
  split
  · exact pure_ret
  · exact pure_lift
theorem pure_tru {m : M D} (h : PureM m) : PureM (mTru m) := pure_bind h fun d => pure_at (f := fun S => dTru (vw S d))
theorem pure_tand {a b : M Bool} (h1 : PureM a) (h2 : PureM b) : PureM (tAnd' a b) := pure_bind h1 fun t => by
  cases t
  · exact pure_ret
  · exact h2
theorem pure_tor {a b : M Bool} (h1 : PureM a) (h2 : PureM b) : PureM (tOr' a b) := pure_bind h1 fun t => by
  cases t
  · exact h2
  · exact pure_ret
theorem pure_tnot {a : M Bool} (h : PureM a) : PureM (tNot' a) := pure_bind h fun t => pure_ret
theorem pure_if {c : M Bool} {a b : M D} (h : PureM c) (h1 : PureM a) (h2 : PureM b) : PureM (mIf c a b) := pure_bind h fun t => by
  cases t
  · exact h2
  · exact h1
theorem pure_anil : PureM aNil := pure_ret
theorem pure_acons {m : M D} {k : M (List D)} (h1 : PureM m) (h2 : PureM k) : PureM (aCons m k) := pure_bind h1 fun _ => pure_bind h2 fun _ => pure_ret
theorem pure_tup {a : M (List D)} (h : PureM a) : PureM (mTup a) := pure_bind h fun ds => by
  split
  · exact pure_ret
  · exact pure_lift
theorem pure_blt {op : OpL} {a : M (List D)} (h : PureM a) : PureM (mBlt op a) := pure_bind h fun ds => pure_at (f := fun S => op (ds.map (vw S)))
theorem pure_yes : PureM mYes := pure_ret
end Ki

set_option Elab.async false
set_option linter.all false
set_option maxRecDepth 100000
set_option maxHeartbeats 1000000
/-! Ki32: sorted(xs, reverse=True) of a tuple of ints. -/
namespace Ki
open PySem L2 PySem.Spec PyProof.Rows Srt SrtO
section
variable {prog : Program} {w : World} {A : Around} {E : Value → Shared → Prop} {s : Shared}
/-- what a tuple holds goes behind a list's items -/
theorem grow_tup {S l : Addr} {o o' : Obj} {ys : Array Value} {n k : Nat} {r : Value} {P : PySem.Fin → Shared → Prop} (hS : s.heap.get? S = some o') (dS : o'.data = .seq #[] k) (e : s.heap.get? l = some o) (c : o.cls = .type "tuple") (d : o.data = .seq ys n)
    (hz : ys.size ≤ sizeLine + 1) (h : P (.done (.ret r)) { s with heap := s.heap.update S (Obj.mapSeq (· ++ ys)) }) : wpAny (model prog w) A (Builtin.List.listExtendWith (.ref S) (.ref l) r) P E s := by
  unfold Builtin.List.listExtendWith
  refine wpAny_bind (wpAny_typeOf (T := "tuple") ⟨o, e, c⟩ ?_)
  rw [if_pos (by simp)]
  refine wpAny_bind (listItems_at e d ?_)
  refine wpAny_bind (listItems_at hS dS ?_)
  rw [if_neg (by simp)]
  refine wpAny_bind (listUpdate_at hS dS ?_ (Nat.zero_le _) (by simpa using hz))
  exact wpAny_pure h
/-- a tuple's items, gathered into a list -/
theorem gather_tup {l : Addr} {vs : List Value} {Q : List Value → Shared → Prop} (ht : IsTup s.heap l vs.toArray) (hz : vs.length ≤ sizeLine)
    (h : Q vs { s with heap := (s.heap.push (seqObj "list" #[] 0)).update s.heap.objs.size (Obj.mapSeq (· ++ vs.toArray)) }) : wpAny (model prog w) A (collect (.ref l)) Q E s := by
  obtain ⟨o, e, c, n, d⟩ := ht
  have hS := Heap.get?_push_size s.heap (o := seqObj "list" #[] 0) rfl
  have e1 : (s.heap.push (seqObj "list" #[] 0)).get? l = some o := Heap.get?_push_of_some _ e
  unfold collect
  refine wpAny_bind (wpAny_runValue (codeAny_builtin entry_proto_collect' ?_))
  refine wpAny_bind (wpAny_newList (wpAny_pure ⟨Code.quiet_builtin _ (by decide +kernel), codeAny_builtin entry_list_iadd' ?_⟩))
  refine grow_tup (s := { s with heap := s.heap.push (seqObj "list" #[] 0) }) (S := s.heap.objs.size) hS rfl e1 c d (by simp; omega) ?_
  show wpAny (model prog w) A _ Q E _
  refine wpAny_bind (wpAny_load (get?_update_seq hS _) ?_)
  have x : ((#[] : Array Value) ++ vs.toArray).toList = vs := by simp
  show wpAny _ _ (pure ((#[] : Array Value) ++ vs.toArray).toList) Q E _
  rw [x]
  exact wpAny_pure h
/-- sorted(t, reverse=b), t a tuple -/
theorem sort_tup {l : Addr} {vs : List Value} {b : Bool} {lt : Value → Value → Bool} {Q : Value → Shared → Prop} (O : Swo lt) (ht : IsTup s.heap l vs.toArray) (hz : vs.length ≤ sizeLine)
    (hS : 2 ≤ vs.length → ∀ (h' : Heap) (a : Addr), SortableO prog w A.in1.in1 { s with heap := h' } a vs lt)
    (h : ∀ out : List Value, Srtd lt out → Stb lt out (if b = true then vs.reverse else vs) → Q (.ref (s.heap.objs.size + 1)) { s with heap := sortedAll s.heap vs (if b = true then out.toArray.reverse else out.toArray) }) :
    wpAny (model prog w) A (call (.builtin "sorted") [.ref l] [(Str.ofString "reverse", .bool b)]) Q E s := by
  have n1 : ((s.heap.push (seqObj "list" #[] 0)).update s.heap.objs.size (Obj.mapSeq (· ++ vs.toArray))).objs.size = s.heap.objs.size + 1 := by rw [Heap.size_update, size_push']
  have n2 := Heap.get?_push_size ((s.heap.push (seqObj "list" #[] 0)).update s.heap.objs.size (Obj.mapSeq (· ++ vs.toArray))) (o := seqObj "list" vs.toArray 0) rfl
  rw [n1] at n2
  refine call_function_entry_kw kind_sorted plain_sorted entry_sorted (args_sorted_rev _ _) ?_
  unfold Builtin.«sorted»
  refine wpAny_bind (m := checkCount "sorted" 1 1 _) (wpAny_pure ?_)
  refine wpAny_bind (gather_tup ht hz (wpAny_bind (wpAny_newList ?_ hz)))
  show wpAny _ _ _ _ _ { s with heap := ((s.heap.push (seqObj "list" #[] 0)).update s.heap.objs.size (Obj.mapSeq (· ++ vs.toArray))).push (seqObj "list" vs.toArray 0) }
  rw [n1]
  exact wpAny_bind (wpAny_holding (wpAny_call_entry_kw slot_list_sort ⟨_, n2, rfl⟩ entry_list_sort
    (SrtR.list_sort_ordR O n2 hz (fun two => hS two _ _) fun out u v => ⟨_, rfl, wpAny_pure ⟨_, rfl, h out u v⟩⟩) (args_list_sort_rev _ _)))
end
section
variable {X : Cx} {G : Gm} {W : WX} {pos p kp vp : Pos} {e : Expr} {vj : Nat}
def rSrtT (K : PySem.W.Frag) (b : Bool) : List V → List V → Hp → VK → Prop := fun vs zs H Q => ∃ (a : Addr) (ns : List Int), vs = [V.ref a] ∧ zs = [.bl b] ∧ SqT K H a (ns.map V.int) ∧
  ∀ (ns' : List Int) (p : Addr), ns'.Perm ns → OrdB b ns' → H p = none → Q (.ref p) (upd H p (.lst (ns'.map V.int)))
theorem cr_srtT {b : Bool} : CallRK X (.builtin "sorted") [Str.ofString "reverse"] (rSrtT X.K b) := by
  rintro pins s σ H vs zs us ws Q I r rz ⟨a, ns, rfl, rfl, hs, q⟩
  obtain rfl := Vals.ref1 r
  obtain ⟨w1, rfl, e1⟩ := vals1 rz
  obtain rfl : w1 = Value.bool b := e1
  obtain ⟨its, rv, ht, hz⟩ := I.tuple hs
  have hi := rv.ints
  refine sort_tup swo_int ht (by rw [← rv.length]; exact hz) (fun two h' a' => ints_sortable hi two) fun out h1 h2 => ?_
  obtain ⟨ns', k1, k2, k3⟩ := SrtR.ints_outR hi h1 h2
  obtain ⟨ep, he⟩ := sortedAll_at s.heap its (if b = true then out.toArray.reverse else out.toArray)
  have hl : (ns'.map V.int).length ≤ sizeLine := by
    rw [List.length_map, k2.length_eq, ← List.length_map (f := V.int)]
    exact hz
  exact ⟨.ref _, upd H (s.heap.objs.size + 1) (.lst (ns'.map V.int)), I.laid (t' := s.toks) (fun _ _ => sortedAll_old) (Nat.le_succ _) ⟨hl, _, ep, vals_of_ints k1, by rw [Array.toArray_toList]; exact he⟩, rfl, q _ _ k2 k3 (I.hok.fresh (Nat.le_succ _))⟩
def rSrt2 (K : PySem.W.Frag) (b : Bool) : List V → List V → Hp → VK → Prop := fun vs zs H Q => rSortedKw K b [.bl b] vs zs H Q ∨ rSrtT K b vs zs H Q
theorem cr_srt2 {b : Bool} : CallRK X (.builtin "sorted") [Str.ofString "reverse"] (rSrt2 X.K b) := fun pins s σ H vs zs us ws Q I r rz h => h.elim (cr_sortedRev pins s σ H vs zs us ws Q I r rz) (cr_srtT pins s σ H vs zs us ws Q I r rz)
def dSortR2 : OpL
  | [.lst _ xs] => (intsOf xs).map fun ns => .lst true ((srtI ns).reverse.map D.int)
  | [.tup xs] => (intsOf xs).map fun ns => .lst true ((srtI ns).reverse.map D.int)
  | _ => none
theorem ordB_rev {ns ns' : List Int} (hp : ns'.Perm ns) (hu : OrdB true ns') : ns' = (srtI ns).reverse := srtI_rev hp (by simpa [OrdB] using hu)
/-- sorted(xs, reverse=True), xs a list or a tuple of ints -/
theorem ke_sortR2 {m : M (List D)} (hm : X.mg "sorted" = none) (ha : PA X [e] (rdA G W m)) (hK : X.K = G.K := by rfl) (hg : Gl X "sorted" := by rfl)
    (he : backTo pos (starEach [e] X.env) = (false, eval e X.env) :: backTo pos (starEach [] X.env) := by rfl) (hpl : (backTo pos (starEach [e] X.env)).any (·.1) = false := by rfl)
    (hall : (backToKw pos (keywordEach [⟨some "reverse", .Constant (.bool true) vj vp, kp⟩] X.env)).all (·.1.isSome) = true := by rfl) (hnone : (backToKw pos (keywordEach [⟨some "reverse", .Constant (.bool true) vj vp, kp⟩] X.env)).any (·.1.isNone) = false := by rfl) (hks : (backToKw pos (keywordEach [⟨some "reverse", .Constant (.bool true) vj vp, kp⟩] X.env)).filterMap (·.1) = [Str.ofString "reverse"] := by rfl) :
    PE X (.Call (.Name "sorted" p) [e] [⟨some "reverse", .Constant (.bool true) vj vp, kp⟩] pos) (rdE G W (mBlt dSortR2 m)) := by
  refine pe_imp (pe_callBK (ks := [Str.ofString "reverse"]) (cr_srt2 (b := true)) hg hm (by decide +kernel) ha (pk_cons pe_bl pk_nil) (by decide) (by decide) he hpl hall hnone hks) fun σ H Q ⟨z, env, S, s, r, h⟩ => ?_
  refine rdA_step s r h fun z1 H1 S1 ds vs L1 s1 e1 r1 q1 => ?_
  obtain ⟨d, ed, _⟩ := rd_lift s1 q1
  have q4 : Out G W σ z1 H1 (fun z' H' _ d => ∀ v, Rep G z' H' d v → Q v H') (lift (dSortR2 (ds.map (vw S1))) env S1) := q1
  unfold lift at q4
  rw [ed] at q4
  have n := nows s1 r1
  generalize ds.map (vw S1) = es at ed n
  unfold dSortR2 at ed
  split at ed
  · rename_i o ys
    cases n with
    | cons n1 n2 =>
      cases n2
      cases h : intsOf ys with
      | none => rw [h] at ed; cases ed
      | some ns =>
        rw [h] at ed
        cases ed
        obtain ⟨a, vs, rfl, h1, h2⟩ := now_lst n1
        refine .inl ⟨a, ns, rfl, rfl, intsOf_rep h2 h ▸ SqL.of h1, fun ns' l hp hu hl => ?_⟩
        obtain rfl := ordB_rev hp hu
        exact q4 z1 _ (later_same (same_new hl)) (s1.same (same_new hl)) _ (rep_lst s1 hl (repL_ints _))
  · rename_i ys
    cases n with
    | cons n1 n2 =>
      cases n2
      cases h : intsOf ys with
      | none => rw [h] at ed; cases ed
      | some ns =>
        rw [h] at ed
        cases ed
        obtain ⟨a, vs, rfl, h1, h2⟩ := n1.tup
        refine .inr ⟨a, ns, rfl, rfl, intsOf_rep h2 h ▸ hK ▸ h1, fun ns' l hp hu hl => ?_⟩
        obtain rfl := ordB_rev hp hu
        exact q4 z1 _ (later_same (same_new hl)) (s1.same (same_new hl)) _ (rep_lst s1 hl (repL_ints _))
  · cases ed
end
end Ki

set_option Elab.async false
set_option linter.all false
set_option maxRecDepth 100000
set_option maxHeartbeats 4000000
namespace K09
open PySem L2 PySem.Spec PyProof.Rows Ki
def top (i : Nat) : Stmt := PySem.Challenge.pw_arrowsizes_k09_whole_partitions_and_prod.main.body.getD i (.Pass ⟨0, 0, 0, 0⟩)
/-- what the top holds beside the defs -/
structure Top (P : Program) (w : World) (G : Gm) (mg : Str → Option Value) (base : Heap) : Prop where
  n_abs : mg "abs" = none
  n_all : mg "all" = none
  n_bool : mg "bool" = none
  n_int : mg "int" = none
  n_isinstance : mg "isinstance" = none
  n_len : mg "len" = none
  n_list : mg "list" = none
  n_max : mg "max" = none
  n_min : mg "min" = none
  n_range : mg "range" = none
  n_repr : mg "repr" = none
  n_sorted : mg "sorted" = none
  n_sum : mg "sum" = none
  n_tuple : mg "tuple" = none
  n_zip : mg "zip" = none
  c__BEYOND_DIGITS : ∃ t, mg "_BEYOND_DIGITS" = some (.int (1000000000000000000000000000000000000000000000000000000000000) t)
  c__LONGEST_ROW : ∃ t, mg "_LONGEST_ROW" = some (.int (6) t)
  c__GREATEST_SIZE : ∃ t, mg "_GREATEST_SIZE" = some (.int (6) t)
  c_MAX_PARTS : ∃ t, mg "MAX_PARTS" = some (.int (24) t)
  c_MAX_LISTED : ∃ t, mg "MAX_LISTED" = some (.int (18) t)
  c_MAX_ROWS : ∃ t, mg "MAX_ROWS" = some (.int (3000) t)
  x_ArrowError : Exc0 G mg "ArrowError" 0
  x_InvalidParts : Exc0 G mg "InvalidParts" 1
  x_InvalidSizes : Exc0 G mg "InvalidSizes" 2
  f_InvalidCount : ExcF G 3 "value"
  x_InvalidCount : Exc1 P w G mg base "InvalidCount" 3 "value"
  f_TooMany : ExcF G 4 "limit"
  x_TooMany : Exc1 P w G mg base "TooMany" 4 "limit"
variable {P : Program} {w : World} {G : Gm} {mg : Str → Option Value} {base : Heap}

abbrev s_is_integer : Stmt := top 10
abbrev N_is_integer : List Str := ["value"]
def b_is_integer : MS := sRet (mAnd (mBlt dIsi (aCons (mVar 0) (aCons (ret (.ty .int)) (aNil)))) (mAnd (mNot (mBlt dIsi (aCons (mVar 0) (aCons (ret (.ty .bool)) (aNil))))) (mOp dLt (mBlt dAbs (aCons (mVar 0) (aNil))) (mC (.int (1000000000000000000000000000000000000000000000000000000000000))))))
def m_is_integer : Fn := mFun 1 1 b_is_integer
theorem ok_is_integer (T : Top P w G mg base) (R : Raw G.K mg "is_integer" s_is_integer)  : Fn1 P w G mg base "is_integer" 1 false m_is_integer := by
  refine R.fn1 (N := N_is_integer) (ps := ["value"]) (mb := b_is_integer) false ⟨rfl, rfl, rfl, by decide +kernel, rfl, by decide +kernel, by decide +kernel⟩ (fun _ _ _ _ _ _ us hl => match us, hl with | [_], _ => rfl) fun f cdv A outer s H E hr hgd => ?_
  have hU := hU_of hr
  have nd : (N_is_integer).Nodup := by decide +kernel
  unfold b_is_integer
  exact ks_one (ks_ret (ke_and (ke_blt kc_isi T.n_isinstance (ka_cons (ke_var 0) (ka_cons (ke_ty .int (hm := T.n_int)) (ka_nil)))) (ke_and (ke_not (ke_blt kc_isi T.n_isinstance (ka_cons (ke_var 0) (ka_cons (ke_ty .bool (hm := T.n_bool)) (ka_nil))))) (ke_b1 (ke_cmp ko_lt (ke_blt kc_abs T.n_abs (ka_cons (ke_var 0) (ka_nil))) (ke_gintE rfl T.c__BEYOND_DIGITS))))))

abbrev s_is_count : Stmt := top 11
abbrev N_is_count : List Str := ["value", "low", "high"]
def b_is_count : MS := sRet (mAnd (mCall m_is_integer (aCons (mVar 0) (aNil))) (mChain dLe dLe (mVar 1) (mVar 0) (mVar 2)))
def m_is_count : Fn := mFun 3 3 b_is_count
theorem ok_is_count (T : Top P w G mg base) (R : Raw G.K mg "is_count" s_is_count) (F_is_integer : Fn1 P w G mg base "is_integer" 1 false m_is_integer) : Fn1 P w G mg base "is_count" 2 false m_is_count := by
  refine R.fn1 (N := N_is_count) (ps := ["value", "low", "high"]) (mb := b_is_count) false ⟨rfl, rfl, rfl, by decide +kernel, rfl, by decide +kernel, by decide +kernel⟩ (fun _ _ _ _ _ _ us hl => match us, hl with | [_, _, _], _ => rfl) fun f cdv A outer s H E hr hgd => ?_
  have hU := hU_of hr
  have nd : (N_is_count).Nodup := by decide +kernel
  unfold b_is_count
  exact ks_one (ks_ret (ke_and ((F_is_integer).call (hr.mono (by decide)) (fun h => nomatch h) (takes_of rfl rfl rfl rfl) (ka_cons (ke_var 0) (ka_nil))) (ke_b1 (ke_chain ko_le ko_le (ke_var 1) (ke_var 0) (ke_var 2)))))

abbrev s_check_count : Stmt := top 12
abbrev N_check_count : List Str := ["value", "low", "high"]
def b_check_count : MS := sIf (tNot' (mBl (mCall m_is_count (aCons (mVar 0) (aCons (mVar 1) (aCons (mVar 2) (aNil))))))) (sRaise1 3 "value" (aCons (mVar 0) (aNil))) (sNext)
def m_check_count : Fn := mFun 3 3 b_check_count
theorem ok_check_count (T : Top P w G mg base) (R : Raw G.K mg "check_count" s_check_count) (F_is_count : Fn1 P w G mg base "is_count" 2 false m_is_count) : Fn1 P w G mg base "check_count" 3 false m_check_count := by
  refine R.fn1 (N := N_check_count) (ps := ["value", "low", "high"]) (mb := b_check_count) false ⟨rfl, rfl, rfl, by decide +kernel, rfl, by decide +kernel, by decide +kernel⟩ (fun _ _ _ _ _ _ us hl => match us, hl with | [_, _, _], _ => rfl) fun f cdv A outer s H E hr hgd => ?_
  have hU := hU_of hr
  have nd : (N_check_count).Nodup := by decide +kernel
  unfold b_check_count
  exact ks_one (ks_if (kt_not (kt_val ((F_is_count).call (hr.mono (by decide)) (fun h => nomatch h) (takes_of rfl rfl rfl rfl) (ka_cons (ke_var 0) (ka_cons (ke_var 1) (ka_cons (ke_var 2) (ka_nil))))))) (ks_one ((T.x_InvalidCount).raise1 (hr.mono (by decide)) rfl (takes_of rfl rfl rfl rfl) (ka_cons (ke_var 0) (ka_nil)))) (ks_nil))

abbrev s_are_counts : Stmt := top 13
abbrev N_are_counts : List Str := ["value", "low", "high", "number"]
def b_are_counts : MS := sRet (mAnd (mBlt dIsi (aCons (mVar 0) (aCons (ret (.ty .tuple)) (aNil)))) (mBlt dAll (aCons (mLc [3] (gNm 3) (mSq (mVar 0)) (mYes) (mCall m_is_count (aCons (mVar 3) (aCons (mVar 1) (aCons (mVar 2) (aNil)))))) (aNil))))
def m_are_counts : Fn := mFun 4 3 b_are_counts
theorem ok_are_counts (T : Top P w G mg base) (R : Raw G.K mg "are_counts" s_are_counts) (F_is_count : Fn1 P w G mg base "is_count" 2 false m_is_count) : Fn1 P w G mg base "are_counts" 3 false m_are_counts := by
  refine R.fn1 (N := N_are_counts) (ps := ["value", "low", "high"]) (mb := b_are_counts) false ⟨rfl, rfl, rfl, by decide +kernel, rfl, by decide +kernel, by decide +kernel⟩ (fun _ _ _ _ _ _ us hl => match us, hl with | [_, _, _], _ => rfl) fun f cdv A outer s H E hr hgd => ?_
  have hU := hU_of hr
  have nd : (N_are_counts).Nodup := by decide +kernel
  unfold b_are_counts
  exact ks_one (ks_ret (ke_and (ke_blt kc_isi T.n_isinstance (ka_cons (ke_var 0) (ka_cons (ke_ty .tuple (hm := T.n_tuple)) (ka_nil)))) (ke_b1 (ke_blt (kc_all rfl) T.n_all (ka_cons (ke_lc (own := [("number", 3)]) rfl nd (ik_sq (ke_var 0)) (blkOk_by (by kernel_rfl)) (kb_name 3 nd) (fun _ _ _ _ _ => kts_nil) (fun _ _ _ _ _ => (F_is_count).call (hr.mono (by decide)) (fun h => nomatch h) takes0 (ka_cons (ke_var 3) (ka_cons (ke_var 1) (ka_cons (ke_var 2) (ka_nil)))))) (ka_nil))))))

abbrev s_is_row : Stmt := top 14
abbrev N_is_row : List Str := ["value"]
def b_is_row : MS := sRet (mAnd (mCall m_are_counts (aCons (mVar 0) (aCons (mC (.int 0)) (aCons (mC (.int (6))) (aNil))))) (mChain dLe dLe (mC (.int 1)) (mBlt dLen (aCons (mVar 0) (aNil))) (mC (.int (6)))))
def m_is_row : Fn := mFun 1 1 b_is_row
theorem ok_is_row (T : Top P w G mg base) (R : Raw G.K mg "is_row" s_is_row) (F_are_counts : Fn1 P w G mg base "are_counts" 3 false m_are_counts) : Fn1 P w G mg base "is_row" 4 false m_is_row := by
  refine R.fn1 (N := N_is_row) (ps := ["value"]) (mb := b_is_row) false ⟨rfl, rfl, rfl, by decide +kernel, rfl, by decide +kernel, by decide +kernel⟩ (fun _ _ _ _ _ _ us hl => match us, hl with | [_], _ => rfl) fun f cdv A outer s H E hr hgd => ?_
  have hU := hU_of hr
  have nd : (N_is_row).Nodup := by decide +kernel
  unfold b_is_row
  exact ks_one (ks_ret (ke_and ((F_are_counts).call (hr.mono (by decide)) (fun h => nomatch h) (takes_of rfl rfl rfl rfl) (ka_cons (ke_var 0) (ka_cons (ke_int) (ka_cons (ke_gintE rfl T.c__GREATEST_SIZE) (ka_nil))))) (ke_b1 (ke_chain ko_le ko_le (ke_int) (ke_blt kc_len T.n_len (ka_cons (ke_var 0) (ka_nil))) (ke_gintE rfl T.c__LONGEST_ROW)))))

abbrev s_all_choices : Stmt := top 15
abbrev N_all_choices : List Str := ["options", "found", "option", "chosen", "member"]
def b_all_choices : MS := sSeq (sSet 1 (mLst (aCons (mTup (aNil)) (aNil)))) (sSeq (sForS (gNm 2) (mVar 0) (sSet 1 (mLc2 [3, 4] [4] (gNm 3) (mSq (mVar 1)) (mYes) (gNm 4) (mSq (mVar 2)) (mYes) (mOp dAdd (mVar 3) (mTup (aCons (mVar 4) (aNil))))))) (sRet (mVar 1)))
def m_all_choices : Fn := mFun 5 1 b_all_choices
theorem ok_all_choices (T : Top P w G mg base) (R : Raw G.K mg "all_choices" s_all_choices)  : Fn1 P w G mg base "all_choices" 1 false m_all_choices := by
  refine R.fn1 (N := N_all_choices) (ps := ["options"]) (mb := b_all_choices) false ⟨rfl, rfl, rfl, by decide +kernel, rfl, by decide +kernel, by decide +kernel⟩ (fun _ _ _ _ _ _ us hl => match us, hl with | [_], _ => rfl) fun f cdv A outer s H E hr hgd => ?_
  have hU := hU_of hr
  have nd : (N_all_choices).Nodup := by decide +kernel
  unfold b_all_choices
  exact ks_cons (ks_set 1 (ke_lst (ka_cons (ke_tup (ka_nil)) (ka_nil))) nd) (ks_cons (ks_forS (passes_of rfl) rfl (ke_var 0) (kg_name 2 nd) (ks_one (ks_setLc2 1 (own := [("chosen", 3), ("member", 4)]) (vs1 := [4]) rfl nd (ik_sq (ke_var 1)) (blkOk_by (by kernel_rfl)) (by decide) (kb_name 3 nd) (fun _ _ _ _ _ => kts_nil) (ib_sq (fun _ _ _ _ _ => ke_var 2)) (kb_name 4 nd) (fun _ _ _ _ _ => kts_nil) (fun _ _ _ _ _ => ke_op ko_add (ke_var 3) (ke_tup (ka_cons (ke_var 4) (ka_nil))))))) (ks_one (ks_ret (ke_var 1))))

abbrev s_dot_row : Stmt := top 16
abbrev N_dot_row : List Str := ["row", "other", "left", "right"]
def b_dot_row : MS := sRet (mBlt dSum2 (aCons (mLc [2, 3] (gTp [2, 3]) (mZip (aCons (mVar 0) (aCons (mVar 1) (aNil)))) (mYes) (mOp dMul (mVar 2) (mVar 3))) (aNil)))
def m_dot_row : Fn := mFun 4 2 b_dot_row
theorem ok_dot_row (T : Top P w G mg base) (R : Raw G.K mg "dot_row" s_dot_row)  : Fn1 P w G mg base "dot_row" 1 false m_dot_row := by
  refine R.fn1 (N := N_dot_row) (ps := ["row", "other"]) (mb := b_dot_row) false ⟨rfl, rfl, rfl, by decide +kernel, rfl, by decide +kernel, by decide +kernel⟩ (fun _ _ _ _ _ _ us hl => match us, hl with | [_, _], _ => rfl) fun f cdv A outer s H E hr hgd => ?_
  have hU := hU_of hr
  have nd : (N_dot_row).Nodup := by decide +kernel
  unfold b_dot_row
  exact ks_one (ks_ret (ke_blt (kc_sum2 rfl) T.n_sum (ka_cons (ke_lc (own := [("left", 2), ("right", 3)]) rfl nd (ik_zip T.n_zip (ka_cons (ke_var 0) (ka_cons (ke_var 1) (ka_nil)))) (blkOk_by (by kernel_rfl)) (kb_tup rfl (kb_cons (kb_name 2 nd) (kb_cons (kb_name 3 nd) (kb_nil)))) (fun _ _ _ _ _ => kts_nil) (fun _ _ _ _ _ => ke_op ko_mul (ke_var 2) (ke_var 3))) (ka_nil))))

abbrev s__do_descend : Stmt := top 21
abbrev N__do_descend : List Str := ["numbers", "at"]
def b__do_descend : MS := sRet (mBlt dAll (aCons (mLc [1] (gNm 1) (mRg1 (aCons (mOp dSub (mBlt dLen (aCons (mVar 0) (aNil))) (mC (.int 1))) (aNil))) (mYes) (mOp dGe (mOp dIx (mVar 0) (mVar 1)) (mOp dIx (mVar 0) (mOp dAdd (mVar 1) (mC (.int 1)))))) (aNil)))
def m__do_descend : Fn := mFun 2 1 b__do_descend
theorem ok__do_descend (T : Top P w G mg base) (R : Raw G.K mg "_do_descend" s__do_descend)  : Fn1 P w G mg base "_do_descend" 1 false m__do_descend := by
  refine R.fn1 (N := N__do_descend) (ps := ["numbers"]) (mb := b__do_descend) false ⟨rfl, rfl, rfl, by decide +kernel, rfl, by decide +kernel, by decide +kernel⟩ (fun _ _ _ _ _ _ us hl => match us, hl with | [_], _ => rfl) fun f cdv A outer s H E hr hgd => ?_
  have hU := hU_of hr
  have nd : (N__do_descend).Nodup := by decide +kernel
  unfold b__do_descend
  exact ks_one (ks_ret (ke_blt (kc_all rfl) T.n_all (ka_cons (ke_lc (own := [("at", 1)]) rfl nd (ik_r1 T.n_range (ka_cons (ke_op ko_sub (ke_blt kc_len T.n_len (ka_cons (ke_var 0) (ka_nil))) (ke_int)) (ka_nil))) (blkOk_by (by kernel_rfl)) (kb_name 1 nd) (fun _ _ _ _ _ => kts_nil) (fun _ _ _ _ _ => ke_cmp ko_ge (ke_ix (ke_var 0) (ke_var 1)) (ke_ix (ke_var 0) (ke_op ko_add (ke_var 1) (ke_int))))) (ka_nil))))

abbrev s_is_parts : Stmt := top 22
abbrev N_is_parts : List Str := ["value"]
def b_is_parts : MS := sRet (mAnd (mCall m_are_counts (aCons (mVar 0) (aCons (mC (.int 1)) (aCons (mC (.int (24))) (aNil))))) (mAnd (mOp dLe (mBlt dSum2 (aCons (mVar 0) (aNil))) (mC (.int (24)))) (mCall m__do_descend (aCons (mVar 0) (aNil)))))
def m_is_parts : Fn := mFun 1 1 b_is_parts
theorem ok_is_parts (T : Top P w G mg base) (R : Raw G.K mg "is_parts" s_is_parts) (F__do_descend : Fn1 P w G mg base "_do_descend" 1 false m__do_descend) (F_are_counts : Fn1 P w G mg base "are_counts" 3 false m_are_counts) : Fn1 P w G mg base "is_parts" 4 false m_is_parts := by
  refine R.fn1 (N := N_is_parts) (ps := ["value"]) (mb := b_is_parts) false ⟨rfl, rfl, rfl, by decide +kernel, rfl, by decide +kernel, by decide +kernel⟩ (fun _ _ _ _ _ _ us hl => match us, hl with | [_], _ => rfl) fun f cdv A outer s H E hr hgd => ?_
  have hU := hU_of hr
  have nd : (N_is_parts).Nodup := by decide +kernel
  unfold b_is_parts
  exact ks_one (ks_ret (ke_and ((F_are_counts).call (hr.mono (by decide)) (fun h => nomatch h) (takes_of rfl rfl rfl rfl) (ka_cons (ke_var 0) (ka_cons (ke_int) (ka_cons (ke_gintE rfl T.c_MAX_PARTS) (ka_nil))))) (ke_and (ke_cmp ko_le (ke_blt (kc_sum2 rfl) T.n_sum (ka_cons (ke_var 0) (ka_nil))) (ke_gintE rfl T.c_MAX_PARTS)) (ke_b1 ((F__do_descend).call (hr.mono (by decide)) (fun h => nomatch h) (takes_of rfl rfl rfl rfl) (ka_cons (ke_var 0) (ka_nil)))))))

abbrev s__check_parts : Stmt := top 23
abbrev N__check_parts : List Str := ["value"]
def b__check_parts : MS := sIf (tNot' (mBl (mCall m_is_parts (aCons (mVar 0) (aNil))))) (sRaise0 1) (sNext)
def m__check_parts : Fn := mFun 1 1 b__check_parts
theorem ok__check_parts (T : Top P w G mg base) (R : Raw G.K mg "_check_parts" s__check_parts) (F_is_parts : Fn1 P w G mg base "is_parts" 4 false m_is_parts) : Fn1 P w G mg base "_check_parts" 5 false m__check_parts := by
  refine R.fn1 (N := N__check_parts) (ps := ["value"]) (mb := b__check_parts) false ⟨rfl, rfl, rfl, by decide +kernel, rfl, by decide +kernel, by decide +kernel⟩ (fun _ _ _ _ _ _ us hl => match us, hl with | [_], _ => rfl) fun f cdv A outer s H E hr hgd => ?_
  have hU := hU_of hr
  have nd : (N__check_parts).Nodup := by decide +kernel
  unfold b__check_parts
  exact ks_one (ks_if (kt_not (kt_val ((F_is_parts).call (hr.mono (by decide)) (fun h => nomatch h) (takes_of rfl rfl rfl rfl) (ka_cons (ke_var 0) (ka_nil))))) (ks_one ((T.x_InvalidParts).raise0 rfl (takes_of rfl rfl rfl rfl))) (ks_nil))

abbrev s__check_both : Stmt := top 24
abbrev N__check_both : List Str := ["one", "other"]
def b__check_both : MS := sSeq (sDrop (mCall m__check_parts (aCons (mVar 0) (aNil)))) (sDrop (mCall m__check_parts (aCons (mVar 1) (aNil))))
def m__check_both : Fn := mFun 2 2 b__check_both
theorem ok__check_both (T : Top P w G mg base) (R : Raw G.K mg "_check_both" s__check_both) (F__check_parts : Fn1 P w G mg base "_check_parts" 5 false m__check_parts) : Fn1 P w G mg base "_check_both" 6 false m__check_both := by
  refine R.fn1 (N := N__check_both) (ps := ["one", "other"]) (mb := b__check_both) false ⟨rfl, rfl, rfl, by decide +kernel, rfl, by decide +kernel, by decide +kernel⟩ (fun _ _ _ _ _ _ us hl => match us, hl with | [_, _], _ => rfl) fun f cdv A outer s H E hr hgd => ?_
  have hU := hU_of hr
  have nd : (N__check_both).Nodup := by decide +kernel
  unfold b__check_both
  exact ks_cons (ks_expr ((F__check_parts).call (hr.mono (by decide)) (fun h => nomatch h) (takes_of rfl rfl rfl rfl) (ka_cons (ke_var 0) (ka_nil)))) (ks_one (ks_expr ((F__check_parts).call (hr.mono (by decide)) (fun h => nomatch h) (takes_of rfl rfl rfl rfl) (ka_cons (ke_var 1) (ka_nil)))))

abbrev s_total_of : Stmt := top 25
abbrev N_total_of : List Str := ["parts"]
def b_total_of : MS := sSeq (sDrop (mCall m__check_parts (aCons (mVar 0) (aNil)))) (sRet (mBlt dSum2 (aCons (mVar 0) (aNil))))
def m_total_of : Fn := mFun 1 1 b_total_of
theorem ok_total_of (T : Top P w G mg base) (R : Raw G.K mg "total_of" s_total_of) (F__check_parts : Fn1 P w G mg base "_check_parts" 5 false m__check_parts) : Fn1 P w G mg base "total_of" 6 false m_total_of := by
  refine R.fn1 (N := N_total_of) (ps := ["parts"]) (mb := b_total_of) false ⟨rfl, rfl, rfl, by decide +kernel, rfl, by decide +kernel, by decide +kernel⟩ (fun _ _ _ _ _ _ us hl => match us, hl with | [_], _ => rfl) fun f cdv A outer s H E hr hgd => ?_
  have hU := hU_of hr
  have nd : (N_total_of).Nodup := by decide +kernel
  unfold b_total_of
  exact ks_cons (ks_expr ((F__check_parts).call (hr.mono (by decide)) (fun h => nomatch h) (takes_of rfl rfl rfl rfl) (ka_cons (ke_var 0) (ka_nil)))) (ks_one (ks_ret (ke_blt (kc_sum2 rfl) T.n_sum (ka_cons (ke_var 0) (ka_nil)))))

abbrev s__conjugate : Stmt := top 26
abbrev N__conjugate : List Str := ["parts", "at", "part"]
def b__conjugate : MS := sRet (mTupOf (mLc [1] (gNm 1) (mRg1 (aCons (mMaxDf (aCons (mVar 0) (aNil)) (mC (.int 0))) (aNil))) (mYes) (mBlt dLen (aCons (mLc [2] (gNm 2) (mSq (mVar 0)) (mBl (mOp dGt (mVar 2) (mVar 1))) (mVar 2)) (aNil)))))
def m__conjugate : Fn := mFun 3 1 b__conjugate
theorem ok__conjugate (T : Top P w G mg base) (R : Raw G.K mg "_conjugate" s__conjugate)  : Fn1 P w G mg base "_conjugate" 1 false m__conjugate := by
  refine R.fn1 (N := N__conjugate) (ps := ["parts"]) (mb := b__conjugate) false ⟨rfl, rfl, rfl, by decide +kernel, rfl, by decide +kernel, by decide +kernel⟩ (fun _ _ _ _ _ _ us hl => match us, hl with | [_], _ => rfl) fun f cdv A outer s H E hr hgd => ?_
  have hU := hU_of hr
  have nd : (N__conjugate).Nodup := by decide +kernel
  unfold b__conjugate
  exact ks_one (ks_ret (ke_tupOf T.n_tuple (ke_lc (own := [("at", 1)]) rfl nd (ik_r1 T.n_range (ka_cons (ke_maxDf rfl hU T.n_max (ka_cons (ke_var 0) (ka_nil)) (ke_int)) (ka_nil))) (blkOk_by (by kernel_rfl)) (kb_name 1 nd) (fun _ _ _ _ _ => kts_nil) (fun _ _ _ _ _ => ke_blt kc_len T.n_len (ka_cons (ke_lc (own := [("part", 2)]) rfl nd (ik_sq (ke_var 0)) (blkOk_by (by kernel_rfl)) (kb_name 2 nd) (fun _ _ _ _ _ => kts_one (kt_cmp ko_gt (ke_var 2) (ke_var 1))) (fun _ _ _ _ _ => ke_var 2)) (ka_nil))))))

abbrev s_conjugate : Stmt := top 27
abbrev N_conjugate : List Str := ["parts"]
def b_conjugate : MS := sSeq (sDrop (mCall m__check_parts (aCons (mVar 0) (aNil)))) (sRet (mCall m__conjugate (aCons (mVar 0) (aNil))))
def m_conjugate : Fn := mFun 1 1 b_conjugate
theorem ok_conjugate (T : Top P w G mg base) (R : Raw G.K mg "conjugate" s_conjugate) (F__check_parts : Fn1 P w G mg base "_check_parts" 5 false m__check_parts) (F__conjugate : Fn1 P w G mg base "_conjugate" 1 false m__conjugate) : Fn1 P w G mg base "conjugate" 6 false m_conjugate := by
  refine R.fn1 (N := N_conjugate) (ps := ["parts"]) (mb := b_conjugate) false ⟨rfl, rfl, rfl, by decide +kernel, rfl, by decide +kernel, by decide +kernel⟩ (fun _ _ _ _ _ _ us hl => match us, hl with | [_], _ => rfl) fun f cdv A outer s H E hr hgd => ?_
  have hU := hU_of hr
  have nd : (N_conjugate).Nodup := by decide +kernel
  unfold b_conjugate
  exact ks_cons (ks_expr ((F__check_parts).call (hr.mono (by decide)) (fun h => nomatch h) (takes_of rfl rfl rfl rfl) (ka_cons (ke_var 0) (ka_nil)))) (ks_one (ks_ret ((F__conjugate).call (hr.mono (by decide)) (fun h => nomatch h) (takes_of rfl rfl rfl rfl) (ka_cons (ke_var 0) (ka_nil)))))

abbrev s__falling : Stmt := top 28
abbrev N__falling : List Str := ["numbers"]
def b__falling : MS := sRet (mTupOf (mBlt dSortR2 (aCons (mBlt dList (aCons (mVar 0) (aNil))) (aNil))))
def m__falling : Fn := mFun 1 1 b__falling
theorem ok__falling (T : Top P w G mg base) (R : Raw G.K mg "_falling" s__falling)  : Fn1 P w G mg base "_falling" 1 false m__falling := by
  refine R.fn1 (N := N__falling) (ps := ["numbers"]) (mb := b__falling) false ⟨rfl, rfl, rfl, by decide +kernel, rfl, by decide +kernel, by decide +kernel⟩ (fun _ _ _ _ _ _ us hl => match us, hl with | [_], _ => rfl) fun f cdv A outer s H E hr hgd => ?_
  have hU := hU_of hr
  have nd : (N__falling).Nodup := by decide +kernel
  unfold b__falling
  exact ks_one (ks_ret (ke_tupOf T.n_tuple (ke_sortR2 T.n_sorted (ka_cons (ke_bltT kc_list T.n_list (ka_cons (ke_var 0) (ka_nil))) (ka_nil)))))

abbrev s_joined_parts : Stmt := top 29
abbrev N_joined_parts : List Str := ["one", "other"]
def b_joined_parts : MS := sSeq (sDrop (mCall m__check_both (aCons (mVar 0) (aCons (mVar 1) (aNil))))) (sSeq (sIf (mBl (mOp dGt (mOp dAdd (mBlt dSum2 (aCons (mVar 0) (aNil))) (mBlt dSum2 (aCons (mVar 1) (aNil)))) (mC (.int (24))))) (sRaise1 4 "limit" (aCons (mC (.int (24))) (aNil))) (sNext)) (sRet (mCall m__falling (aCons (mOp dAdd (mVar 0) (mVar 1)) (aNil)))))
def m_joined_parts : Fn := mFun 2 2 b_joined_parts
theorem ok_joined_parts (T : Top P w G mg base) (R : Raw G.K mg "joined_parts" s_joined_parts) (F__check_both : Fn1 P w G mg base "_check_both" 6 false m__check_both) (F__falling : Fn1 P w G mg base "_falling" 1 false m__falling) : Fn1 P w G mg base "joined_parts" 7 false m_joined_parts := by
  refine R.fn1 (N := N_joined_parts) (ps := ["one", "other"]) (mb := b_joined_parts) false ⟨rfl, rfl, rfl, by decide +kernel, rfl, by decide +kernel, by decide +kernel⟩ (fun _ _ _ _ _ _ us hl => match us, hl with | [_, _], _ => rfl) fun f cdv A outer s H E hr hgd => ?_
  have hU := hU_of hr
  have nd : (N_joined_parts).Nodup := by decide +kernel
  unfold b_joined_parts
  exact ks_cons (ks_expr ((F__check_both).call (hr.mono (by decide)) (fun h => nomatch h) (takes_of rfl rfl rfl rfl) (ka_cons (ke_var 0) (ka_cons (ke_var 1) (ka_nil))))) (ks_cons (ks_if (kt_cmp ko_gt (ke_op ko_add (ke_blt (kc_sum2 rfl) T.n_sum (ka_cons (ke_var 0) (ka_nil))) (ke_blt (kc_sum2 rfl) T.n_sum (ka_cons (ke_var 1) (ka_nil)))) (ke_gintE rfl T.c_MAX_PARTS)) (ks_one ((T.x_TooMany).raise1 (hr.mono (by decide)) rfl (takes_of rfl rfl rfl rfl) (ka_cons (ke_gintE rfl T.c_MAX_PARTS) (ka_nil)))) (ks_nil)) (ks_one (ks_ret ((F__falling).call (hr.mono (by decide)) (fun h => nomatch h) (takes_of rfl rfl rfl rfl) (ka_cons (ke_op ko_add (ke_var 0) (ke_var 1)) (ka_nil))))))

abbrev s__parts_to : Stmt := top 30
abbrev N__parts_to : List Str := ["number", "most", "found", "first", "rest"]
def b__parts_to (self : Fn) : MS := sSeq (sIf (mBl (mOp dEq (mVar 0) (mC (.int 0)))) (sRet (mLst (aCons (mTup (aNil)) (aNil)))) (sNext)) (sSeq (sSet 2 (mLst (aNil))) (sSeq (sForR2 (gNm 3) (aCons (mC (.int 1)) (aCons (mOp dAdd (mBlt dMin2 (aCons (mVar 0) (aCons (mVar 1) (aNil)))) (mC (.int 1))) (aNil))) (sSet 2 (mOp dAdd (mVar 2) (mLc [4] (gNm 4) (mSq (mCall self (aCons (mOp dSub (mVar 0) (mVar 3)) (aCons (mVar 3) (aNil))))) (mYes) (mOp dAdd (mTup (aCons (mVar 3) (aNil))) (mVar 4)))))) (sRet (mVar 2))))
def m__parts_to : Nat → Fn
  | 0 => mFun 5 2 sWall
  | n + 1 => mFun 5 2 (b__parts_to (m__parts_to n))
theorem ok__parts_to (T : Top P w G mg base) (R : Raw G.K mg "_parts_to" s__parts_to)  : ∀ n, Fn1 P w G mg base "_parts_to" (n + 1) false (m__parts_to n)
  | 0 => R.fn1 (k := 0) (N := N__parts_to) (ps := ["number", "most"]) (mb := sWall) false ⟨rfl, rfl, rfl, by decide +kernel, rfl, by decide +kernel, by decide +kernel⟩ (fun _ _ _ _ _ _ us hl => match us, hl with | [_, _], _ => rfl) fun f cdv A outer s H E hr hgd => kss_wall
  | n + 1 => by
    have IH := ok__parts_to T R  n
    refine R.fn1 (k := n + 1) (N := N__parts_to) (ps := ["number", "most"]) (mb := b__parts_to (m__parts_to n)) false ⟨rfl, rfl, rfl, by decide +kernel, rfl, by decide +kernel, by decide +kernel⟩ (fun _ _ _ _ _ _ us hl => match us, hl with | [_, _], _ => rfl) fun f cdv A outer s H E hr hgd => ?_
    have hU := hU_of hr
    have nd : (N__parts_to).Nodup := by decide +kernel
    unfold b__parts_to
    exact ks_cons (ks_if (kt_cmp (ko_eq hU) (ke_var 0) (ke_int)) (ks_one (ks_ret (ke_lst (ka_cons (ke_tup (ka_nil)) (ka_nil))))) (ks_nil)) (ks_cons (ks_set 2 (ke_lst (ka_nil)) nd) (ks_cons (ks_forR2 (passes_of rfl) rfl T.n_range (ka_cons (ke_int) (ka_cons (ke_op ko_add (ke_blt (kc_min2 rfl) T.n_min (ka_cons (ke_var 0) (ka_cons (ke_var 1) (ka_nil)))) (ke_int)) (ka_nil))) (kg_name 3 nd) (ks_one (ks_set 2 (ke_op ko_add (ke_var 2) (ke_lc (own := [("rest", 4)]) rfl nd (ik_sq ((IH).call (hr.mono (by omega)) (fun h => nomatch h) (takes_of rfl rfl rfl rfl) (ka_cons (ke_op ko_sub (ke_var 0) (ke_var 3)) (ka_cons (ke_var 3) (ka_nil))))) (blkOk_by (by kernel_rfl)) (kb_name 4 nd) (fun _ _ _ _ _ => kts_nil) (fun _ _ _ _ _ => ke_op ko_add (ke_tup (ka_cons (ke_var 3) (ka_nil))) (ke_var 4)))) nd))) (ks_one (ks_ret (ke_var 2)))))

abbrev s_partitions : Stmt := top 31
abbrev N_partitions : List Str := ["number"]
def b_partitions : MS := sSeq (sDrop (mCall m_check_count (aCons (mVar 0) (aCons (mC (.int 0)) (aCons (mC (.int (18))) (aNil)))))) (sRet (mTupOf (mCall (m__parts_to 20) (aCons (mVar 0) (aCons (mVar 0) (aNil))))))
def m_partitions : Fn := mFun 1 1 b_partitions
theorem ok_partitions (T : Top P w G mg base) (R : Raw G.K mg "partitions" s_partitions) (F_check_count : Fn1 P w G mg base "check_count" 3 false m_check_count) (F__parts_to : Fn1 P w G mg base "_parts_to" 21 false (m__parts_to 20)) : Fn1 P w G mg base "partitions" 22 false m_partitions := by
  refine R.fn1 (N := N_partitions) (ps := ["number"]) (mb := b_partitions) false ⟨rfl, rfl, rfl, by decide +kernel, rfl, by decide +kernel, by decide +kernel⟩ (fun _ _ _ _ _ _ us hl => match us, hl with | [_], _ => rfl) fun f cdv A outer s H E hr hgd => ?_
  have hU := hU_of hr
  have nd : (N_partitions).Nodup := by decide +kernel
  unfold b_partitions
  exact ks_cons (ks_expr ((F_check_count).call (hr.mono (by decide)) (fun h => nomatch h) (takes_of rfl rfl rfl rfl) (ka_cons (ke_var 0) (ka_cons (ke_int) (ka_cons (ke_gintE rfl T.c_MAX_LISTED) (ka_nil)))))) (ks_one (ks_ret (ke_tupOf T.n_tuple ((F__parts_to).call (hr.mono (by decide)) (fun h => nomatch h) (takes_of rfl rfl rfl rfl) (ka_cons (ke_var 0) (ka_cons (ke_var 0) (ka_nil)))))))

abbrev s_rows_of_parts : Stmt := top 32
abbrev N_rows_of_parts : List Str := ["sizes", "options", "many", "option", "size"]
def b_rows_of_parts : MS := sSeq (sIf (tNot' (mBl (mCall m_is_row (aCons (mVar 0) (aNil))))) (sRaise0 2) (sNext)) (sSeq (sSet 1 (mLc [4] (gNm 4) (mSq (mVar 0)) (mYes) (mCall (m__parts_to 20) (aCons (mVar 4) (aCons (mVar 4) (aNil)))))) (sSeq (sSet 2 (mC (.int 1))) (sSeq (sForS (gNm 3) (mVar 1) (sSet 2 (mOp dMul (mVar 2) (mBlt dLen (aCons (mVar 3) (aNil)))))) (sSeq (sIf (mBl (mOp dGt (mVar 2) (mC (.int (3000))))) (sRaise1 4 "limit" (aCons (mC (.int (3000))) (aNil))) (sNext)) (sRet (mTupOf (mCall m_all_choices (aCons (mVar 1) (aNil)))))))))
def m_rows_of_parts : Fn := mFun 5 1 b_rows_of_parts
theorem ok_rows_of_parts (T : Top P w G mg base) (R : Raw G.K mg "rows_of_parts" s_rows_of_parts) (F_is_row : Fn1 P w G mg base "is_row" 4 false m_is_row) (F__parts_to : Fn1 P w G mg base "_parts_to" 21 false (m__parts_to 20)) (F_all_choices : Fn1 P w G mg base "all_choices" 1 false m_all_choices) : Fn1 P w G mg base "rows_of_parts" 22 false m_rows_of_parts := by
  refine R.fn1 (N := N_rows_of_parts) (ps := ["sizes"]) (mb := b_rows_of_parts) false ⟨rfl, rfl, rfl, by decide +kernel, rfl, by decide +kernel, by decide +kernel⟩ (fun _ _ _ _ _ _ us hl => match us, hl with | [_], _ => rfl) fun f cdv A outer s H E hr hgd => ?_
  have hU := hU_of hr
  have nd : (N_rows_of_parts).Nodup := by decide +kernel
  unfold b_rows_of_parts
  exact ks_cons (ks_if (kt_not (kt_val ((F_is_row).call (hr.mono (by decide)) (fun h => nomatch h) (takes_of rfl rfl rfl rfl) (ka_cons (ke_var 0) (ka_nil))))) (ks_one ((T.x_InvalidSizes).raise0 rfl (takes_of rfl rfl rfl rfl))) (ks_nil)) (ks_cons (ks_setLc 1 (own := [("size", 4)]) rfl nd (ik_sq (ke_var 0)) (blkOk_by (by kernel_rfl)) (kb_name 4 nd) (fun _ _ _ _ _ => kts_nil) (fun _ _ _ _ _ => (F__parts_to).call (hr.mono (by decide)) (fun h => nomatch h) takes0 (ka_cons (ke_var 4) (ka_cons (ke_var 4) (ka_nil))))) (ks_cons (ks_set 2 (ke_int) nd) (ks_cons (ks_forS (passes_of rfl) rfl (ke_var 1) (kg_name 3 nd) (ks_one (ks_set 2 (ke_op ko_mul (ke_var 2) (ke_blt kc_len T.n_len (ka_cons (ke_var 3) (ka_nil)))) nd))) (ks_cons (ks_if (kt_cmp ko_gt (ke_var 2) (ke_gintE rfl T.c_MAX_ROWS)) (ks_one ((T.x_TooMany).raise1 (hr.mono (by decide)) rfl (takes_of rfl rfl rfl rfl) (ka_cons (ke_gintE rfl T.c_MAX_ROWS) (ka_nil)))) (ks_nil)) (ks_one (ks_ret (ke_tupOf T.n_tuple ((F_all_choices).call (hr.mono (by decide)) (fun h => nomatch h) (takes_of rfl rfl rfl rfl) (ka_cons (ke_var 1) (ka_nil))))))))))

abbrev s__product_number : Stmt := top 33
abbrev N__product_number : List Str := ["one", "other"]
def b__product_number : MS := sRet (mCall m_dot_row (aCons (mCall m__conjugate (aCons (mVar 0) (aNil))) (aCons (mCall m__conjugate (aCons (mVar 1) (aNil))) (aNil))))
def m__product_number : Fn := mFun 2 2 b__product_number
theorem ok__product_number (T : Top P w G mg base) (R : Raw G.K mg "_product_number" s__product_number) (F_dot_row : Fn1 P w G mg base "dot_row" 1 false m_dot_row) (F__conjugate : Fn1 P w G mg base "_conjugate" 1 false m__conjugate) : Fn1 P w G mg base "_product_number" 2 false m__product_number := by
  refine R.fn1 (N := N__product_number) (ps := ["one", "other"]) (mb := b__product_number) false ⟨rfl, rfl, rfl, by decide +kernel, rfl, by decide +kernel, by decide +kernel⟩ (fun _ _ _ _ _ _ us hl => match us, hl with | [_, _], _ => rfl) fun f cdv A outer s H E hr hgd => ?_
  have hU := hU_of hr
  have nd : (N__product_number).Nodup := by decide +kernel
  unfold b__product_number
  exact ks_one (ks_ret ((F_dot_row).call (hr.mono (by decide)) (fun h => nomatch h) (takes_of rfl rfl rfl rfl) (ka_cons ((F__conjugate).call (hr.mono (by decide)) (fun h => nomatch h) (takes_of rfl rfl rfl rfl) (ka_cons (ke_var 0) (ka_nil))) (ka_cons ((F__conjugate).call (hr.mono (by decide)) (fun h => nomatch h) (takes_of rfl rfl rfl rfl) (ka_cons (ke_var 1) (ka_nil))) (ka_nil)))))

abbrev s_product_number : Stmt := top 34
abbrev N_product_number : List Str := ["one", "other"]
def b_product_number : MS := sSeq (sDrop (mCall m__check_both (aCons (mVar 0) (aCons (mVar 1) (aNil))))) (sRet (mCall m__product_number (aCons (mVar 0) (aCons (mVar 1) (aNil)))))
def m_product_number : Fn := mFun 2 2 b_product_number
theorem ok_product_number (T : Top P w G mg base) (R : Raw G.K mg "product_number" s_product_number) (F__check_both : Fn1 P w G mg base "_check_both" 6 false m__check_both) (F__product_number : Fn1 P w G mg base "_product_number" 2 false m__product_number) : Fn1 P w G mg base "product_number" 7 false m_product_number := by
  refine R.fn1 (N := N_product_number) (ps := ["one", "other"]) (mb := b_product_number) false ⟨rfl, rfl, rfl, by decide +kernel, rfl, by decide +kernel, by decide +kernel⟩ (fun _ _ _ _ _ _ us hl => match us, hl with | [_, _], _ => rfl) fun f cdv A outer s H E hr hgd => ?_
  have hU := hU_of hr
  have nd : (N_product_number).Nodup := by decide +kernel
  unfold b_product_number
  exact ks_cons (ks_expr ((F__check_both).call (hr.mono (by decide)) (fun h => nomatch h) (takes_of rfl rfl rfl rfl) (ka_cons (ke_var 0) (ka_cons (ke_var 1) (ka_nil))))) (ks_one (ks_ret ((F__product_number).call (hr.mono (by decide)) (fun h => nomatch h) (takes_of rfl rfl rfl rfl) (ka_cons (ke_var 0) (ka_cons (ke_var 1) (ka_nil))))))

abbrev s__law_lot : Stmt := top 36
abbrev N__law_lot : List Str := ["_law_script", "_law_spot", "_law_cell", "_law_left"]
def b__law_lot : MS := sSeq (sSet 2 (mIf (mBl (mOp dLt (mVar 1) (mBlt dLen (aCons (mVar 0) (aNil))))) (mBlt dInt (aCons (mOp dIx (mVar 0) (mVar 1)) (aNil))) (mOp dAdd (mOp dMul (mC (.int 61)) (mVar 1)) (mC (.int 37))))) (sSeq (sSet 3 (mOp dMod (mBlt dMax2 (aCons (mC (.int 0)) (aCons (mOp dSub (mBlt dAbs (aCons (mVar 2) (aNil))) (mOp dPow (mC (.int 10)) (mC (.int 17)))) (aNil)))) (mOp dMul (mOp dPow (mC (.int 10)) (mC (.int 58))) (mOp dPow (mC (.int 10)) (mC (.int 59)))))) (sRet (mNew (aCons (mVar 3) (aCons (mOp dAdd (mOp dAdd (mOp dAdd (mOp dMul (mOp dMod (mBlt dAbs (aCons (mVar 2) (aNil))) (mC (.int 1152921504606846697))) (mC (.int 53))) (mOp dMul (mC (.int 991)) (mVar 1))) (mOp dMul (mC (.int 43)) (mBlt dInt (aCons (mOp dLt (mVar 2) (mC (.int 0))) (aNil))))) (mC (.int 9))) (aCons (mC (.int 0)) (aNil)))))))
def m__law_lot : Fn := mFun 4 2 b__law_lot
theorem ok__law_lot (T : Top P w G mg base) (R : Raw G.K mg "_law_lot" s__law_lot)  : Fn1 P w G mg base "_law_lot" 1 false m__law_lot := by
  refine R.fn1 (N := N__law_lot) (ps := ["_law_script", "_law_spot"]) (mb := b__law_lot) false ⟨rfl, rfl, rfl, by decide +kernel, rfl, by decide +kernel, by decide +kernel⟩ (fun _ _ _ _ _ _ us hl => match us, hl with | [_, _], _ => rfl) fun f cdv A outer s H E hr hgd => ?_
  have hU := hU_of hr
  have nd : (N__law_lot).Nodup := by decide +kernel
  unfold b__law_lot
  exact ks_cons (ks_set 2 (ke_if (kt_cmp ko_lt (ke_var 1) (ke_blt kc_len T.n_len (ka_cons (ke_var 0) (ka_nil)))) (ke_bltT kc_int T.n_int (ka_cons (ke_ix (ke_var 0) (ke_var 1)) (ka_nil))) (ke_op ko_add (ke_op ko_mul (ke_int) (ke_var 1)) (ke_int))) nd) (ks_cons (ks_set 3 (ke_op ko_mod (ke_blt (kc_max2 rfl) T.n_max (ka_cons (ke_int) (ka_cons (ke_op ko_sub (ke_blt kc_abs T.n_abs (ka_cons (ke_var 2) (ka_nil))) (ke_op ko_pow (ke_int) (ke_int))) (ka_nil)))) (ke_op ko_mul (ke_op ko_pow (ke_int) (ke_int)) (ke_op ko_pow (ke_int) (ke_int)))) nd) (ks_one (ks_ret (ke_new (ka_cons (ke_var 3) (ka_cons (ke_op ko_add (ke_op ko_add (ke_op ko_add (ke_op ko_mul (ke_op ko_mod (ke_blt kc_abs T.n_abs (ka_cons (ke_var 2) (ka_nil))) (ke_int)) (ke_int)) (ke_op ko_mul (ke_int) (ke_var 1))) (ke_op ko_mul (ke_int) (ke_bltT kc_int T.n_int (ka_cons (ke_cmp ko_lt (ke_var 2) (ke_int)) (ka_nil))))) (ke_int)) (ka_cons (ke_int) (ka_nil))))))))

abbrev s__law_pull : Stmt := top 37
abbrev N__law_pull : List Str := ["_law_lot_here", "_law_total", "_law_one", "_law_two", "_law_found"]
def b__law_pull : MS := sSeq (sIf (mBl (mOp dGt (mOp dIx (mVar 0) (mC (.int 0))) (mC (.int 0)))) (sSeq (sSet 4 (mOp dMod (mBlt dInt (aCons (mOp dIx (mVar 0) (mC (.int 0))) (aNil))) (mVar 1))) (sSeq (sPut (mVar 0) (mC (.int 0)) (mOp dDiv (mOp dIx (mVar 0) (mC (.int 0))) (mVar 1))) (sRet (mVar 4)))) (sNext)) (sSeq (sPut (mVar 0) (mC (.int 2)) (mOp dAdd (mOp dIx (mVar 0) (mC (.int 2))) (mC (.int 1)))) (sSeq (sSet 2 (mOp dMod (mBlt dInt (aCons (mOp dAdd (mOp dIx (mVar 0) (mC (.int 1))) (mOp dMul (mC (.int 99990001)) (mOp dIx (mVar 0) (mC (.int 2))))) (aNil))) (mC (.int 2305843009213693409)))) (sSeq (sSet 3 (mOp dAdd (mOp dMul (mOp dMod (mBlt dInt (aCons (mOp dAdd (mOp dMul (mVar 2) (mVar 2)) (mOp dMul (mC (.int 89)) (mOp dIx (mVar 0) (mC (.int 2))))) (aNil))) (mC (.int 2305843009213693381))) (mC (.int 8675309))) (mVar 2))) (sRet (mOp dMod (mBlt dInt (aCons (mOp dDiv (mVar 3) (mC (.int 65537))) (aNil))) (mVar 1))))))
def m__law_pull : Fn := mFun 5 2 b__law_pull
theorem ok__law_pull (T : Top P w G mg base) (R : Raw G.K mg "_law_pull" s__law_pull)  : Fn1 P w G mg base "_law_pull" 1 false m__law_pull := by
  refine R.fn1 (N := N__law_pull) (ps := ["_law_lot_here", "_law_total"]) (mb := b__law_pull) false ⟨rfl, rfl, rfl, by decide +kernel, rfl, by decide +kernel, by decide +kernel⟩ (fun _ _ _ _ _ _ us hl => match us, hl with | [_, _], _ => rfl) fun f cdv A outer s H E hr hgd => ?_
  have hU := hU_of hr
  have nd : (N__law_pull).Nodup := by decide +kernel
  unfold b__law_pull
  exact ks_cons (ks_if (kt_cmp ko_gt (ke_ix (ke_var 0) (ke_int)) (ke_int)) (ks_cons (ks_set 4 (ke_op ko_mod (ke_bltT kc_int T.n_int (ka_cons (ke_ix (ke_var 0) (ke_int)) (ka_nil))) (ke_var 1)) nd) (ks_cons (ks_put (ke_op ko_div (ke_ix (ke_var 0) (ke_int)) (ke_var 1)) (ke_var 0) (ke_int)) (ks_one (ks_ret (ke_var 4))))) (ks_nil)) (ks_cons (ks_put (ke_op ko_add (ke_ix (ke_var 0) (ke_int)) (ke_int)) (ke_var 0) (ke_int)) (ks_cons (ks_set 2 (ke_op ko_mod (ke_bltT kc_int T.n_int (ka_cons (ke_op ko_add (ke_ix (ke_var 0) (ke_int)) (ke_op ko_mul (ke_int) (ke_ix (ke_var 0) (ke_int)))) (ka_nil))) (ke_int)) nd) (ks_cons (ks_set 3 (ke_op ko_add (ke_op ko_mul (ke_op ko_mod (ke_bltT kc_int T.n_int (ka_cons (ke_op ko_add (ke_op ko_mul (ke_var 2) (ke_var 2)) (ke_op ko_mul (ke_int) (ke_ix (ke_var 0) (ke_int)))) (ka_nil))) (ke_int)) (ke_int)) (ke_var 2)) nd) (ks_one (ks_ret (ke_op ko_mod (ke_bltT kc_int T.n_int (ka_cons (ke_op ko_div (ke_var 3) (ke_int)) (ka_nil))) (ke_var 1)))))))

abbrev s__law_one_of : Stmt := top 38
abbrev N__law_one_of : List Str := ["_law_lot_here", "_law_items"]
def b__law_one_of : MS := sRet (mOp dIx (mVar 1) (mCall m__law_pull (aCons (mVar 0) (aCons (mBlt dLen (aCons (mVar 1) (aNil))) (aNil)))))
def m__law_one_of : Fn := mFun 2 2 b__law_one_of
theorem ok__law_one_of (T : Top P w G mg base) (R : Raw G.K mg "_law_one_of" s__law_one_of) (F__law_pull : Fn1 P w G mg base "_law_pull" 1 false m__law_pull) : Fn1 P w G mg base "_law_one_of" 2 false m__law_one_of := by
  refine R.fn1 (N := N__law_one_of) (ps := ["_law_lot_here", "_law_items"]) (mb := b__law_one_of) false ⟨rfl, rfl, rfl, by decide +kernel, rfl, by decide +kernel, by decide +kernel⟩ (fun _ _ _ _ _ _ us hl => match us, hl with | [_, _], _ => rfl) fun f cdv A outer s H E hr hgd => ?_
  have hU := hU_of hr
  have nd : (N__law_one_of).Nodup := by decide +kernel
  unfold b__law_one_of
  exact ks_one (ks_ret (ke_ix (ke_var 1) ((F__law_pull).call (hr.mono (by decide)) (fun h => nomatch h) (takes_of rfl rfl rfl rfl) (ka_cons (ke_var 0) (ka_cons (ke_blt kc_len T.n_len (ka_cons (ke_var 1) (ka_nil))) (ka_nil))))))

abbrev s__law_partitions : Stmt := top 39
abbrev N__law_partitions : List Str := ["_law_number", "_law_found", "_law_whole", "_law_here", "_law_first", "_law_turn", "_law_rest"]
def b__law_partitions : MS := sSeq (sSet 1 (mLcN [5] (gNm 5) (mRg1 (aCons (mOp dAdd (mVar 0) (mC (.int 1))) (aNil))) (mYes) (mLst (aNil)))) (sSeq (sPut (mVar 1) (mC (.int 0)) (mLst (aCons (mTup (aNil)) (aNil)))) (sSeq (sForR2 (gNm 2) (aCons (mC (.int 1)) (aCons (mOp dAdd (mVar 0) (mC (.int 1))) (aNil))) (sSeq (sSet 3 (mNew (aNil))) (sSeq (sForR2 (gNm 4) (aCons (mC (.int 1)) (aCons (mOp dAdd (mVar 2) (mC (.int 1))) (aNil))) (sDrop (mMut oExt (mVar 3) (aCons (mLc [6] (gNm 6) (mSqR (mOp dIx (mVar 1) (mOp dSub (mVar 2) (mVar 4)))) (tOr' (mBl (mOp dEq (mVar 6) (mTup (aNil)))) (mBl (mOp dLe (mOp dIx (mVar 6) (mC (.int 0))) (mVar 4)))) (mOp dAdd (mTup (aCons (mVar 4) (aNil))) (mVar 6))) (aNil))))) (sPut (mVar 1) (mVar 2) (mVar 3))))) (sRet (mOp dIx (mVar 1) (mVar 0)))))
def m__law_partitions : Fn := mFun 7 1 b__law_partitions
theorem ok__law_partitions (T : Top P w G mg base) (R : Raw G.K mg "_law_partitions" s__law_partitions)  : Fn1 P w G mg base "_law_partitions" 1 false m__law_partitions := by
  refine R.fn1 (N := N__law_partitions) (ps := ["_law_number"]) (mb := b__law_partitions) false ⟨rfl, rfl, rfl, by decide +kernel, rfl, by decide +kernel, by decide +kernel⟩ (fun _ _ _ _ _ _ us hl => match us, hl with | [_], _ => rfl) fun f cdv A outer s H E hr hgd => ?_
  have hU := hU_of hr
  have nd : (N__law_partitions).Nodup := by decide +kernel
  unfold b__law_partitions
  exact ks_cons (ks_setLcN 1 (own := [("_law_turn", 5)]) rfl nd (ik_r1 T.n_range (ka_cons (ke_op ko_add (ke_var 0) (ke_int)) (ka_nil))) (blkOk_by (by kernel_rfl)) (kb_name 5 nd) (fun _ _ _ _ _ => kts_nil) (fun _ _ _ _ _ => ke_lst (ka_nil))) (ks_cons (ks_put (ke_lst (ka_cons (ke_tup (ka_nil)) (ka_nil))) (ke_var 1) (ke_int)) (ks_cons (ks_forR2 (passes_of rfl) rfl T.n_range (ka_cons (ke_int) (ka_cons (ke_op ko_add (ke_var 0) (ke_int)) (ka_nil))) (kg_name 2 nd) (ks_cons (ks_set 3 (ke_new (ka_nil)) nd) (ks_cons (ks_forR2 (passes_of rfl) rfl T.n_range (ka_cons (ke_int) (ka_cons (ke_op ko_add (ke_var 2) (ke_int)) (ka_nil))) (kg_name 4 nd) (ks_one (ks_expr (ke_ext (ke_var 3) (ka_cons (ke_lcR (own := [("_law_rest", 6)]) (by repeat' first | exact pure_var | exact pure_yes | exact pure_anil | exact pure_ret | apply pure_op | apply pure_tup | apply pure_acons | apply pure_bl | apply pure_tru | apply pure_tand | apply pure_tor | apply pure_tnot | apply pure_if | apply pure_blt) (by repeat' first | exact pure_var | exact pure_yes | exact pure_anil | exact pure_ret | apply pure_op | apply pure_tup | apply pure_acons | apply pure_bl | apply pure_tru | apply pure_tand | apply pure_tor | apply pure_tnot | apply pure_if | apply pure_blt) rfl nd (ir_sq (ke_ix (ke_var 1) (ke_op ko_sub (ke_var 2) (ke_var 4)))) (blkOk_by (by kernel_rfl)) (kb_name 6 nd) (fun _ _ _ _ _ => kts_one (kt_w (kw_or (kt_cmp (ko_eq hU) (ke_var 6) (ke_tup (ka_nil))) (kw_or1 (kt_cmp ko_le (ke_ix (ke_var 6) (ke_int)) (ke_var 4)))))) (fun _ _ _ _ _ => ke_op ko_add (ke_tup (ka_cons (ke_var 4) (ka_nil))) (ke_var 6))) (ka_nil)))))) (ks_one (ks_put (ke_var 3) (ke_var 1) (ke_var 2)))))) (ks_one (ks_ret (ke_ix (ke_var 1) (ke_var 0))))))

abbrev s__law_conjugate : Stmt := top 40
abbrev N__law_conjugate : List Str := ["_law_parts", "_law_at", "_law_part"]
def b__law_conjugate : MS := sRet (mTupOf (mLc [1] (gNm 1) (mRg1 (aCons (mIf (mBl (mOp dNe (mVar 0) (mTup (aNil)))) (mOp dIx (mVar 0) (mC (.int 0))) (mC (.int 0))) (aNil))) (mYes) (mBlt dLen (aCons (mLc [2] (gNm 2) (mSq (mVar 0)) (mBl (mOp dGt (mVar 2) (mVar 1))) (mVar 2)) (aNil)))))
def m__law_conjugate : Fn := mFun 3 1 b__law_conjugate
theorem ok__law_conjugate (T : Top P w G mg base) (R : Raw G.K mg "_law_conjugate" s__law_conjugate)  : Fn1 P w G mg base "_law_conjugate" 1 false m__law_conjugate := by
  refine R.fn1 (N := N__law_conjugate) (ps := ["_law_parts"]) (mb := b__law_conjugate) false ⟨rfl, rfl, rfl, by decide +kernel, rfl, by decide +kernel, by decide +kernel⟩ (fun _ _ _ _ _ _ us hl => match us, hl with | [_], _ => rfl) fun f cdv A outer s H E hr hgd => ?_
  have hU := hU_of hr
  have nd : (N__law_conjugate).Nodup := by decide +kernel
  unfold b__law_conjugate
  exact ks_one (ks_ret (ke_tupOf T.n_tuple (ke_lc (own := [("_law_at", 1)]) rfl nd (ik_r1 T.n_range (ka_cons (ke_if (kt_cmp (ko_ne hU) (ke_var 0) (ke_tup (ka_nil))) (ke_ix (ke_var 0) (ke_int)) (ke_int)) (ka_nil))) (blkOk_by (by kernel_rfl)) (kb_name 1 nd) (fun _ _ _ _ _ => kts_nil) (fun _ _ _ _ _ => ke_blt kc_len T.n_len (ka_cons (ke_lc (own := [("_law_part", 2)]) rfl nd (ik_sq (ke_var 0)) (blkOk_by (by kernel_rfl)) (kb_name 2 nd) (fun _ _ _ _ _ => kts_one (kt_cmp ko_gt (ke_var 2) (ke_var 1))) (fun _ _ _ _ _ => ke_var 2)) (ka_nil))))))

abbrev s__law_product_number : Stmt := top 41
abbrev N__law_product_number : List Str := ["_law_one", "_law_other", "_law_a", "_law_b"]
def b__law_product_number : MS := sRet (mBlt dSum2 (aCons (mLc [2, 3] (gTp [2, 3]) (mZip (aCons (mCall m__law_conjugate (aCons (mVar 0) (aNil))) (aCons (mCall m__law_conjugate (aCons (mVar 1) (aNil))) (aNil)))) (mYes) (mOp dMul (mVar 2) (mVar 3))) (aNil)))
def m__law_product_number : Fn := mFun 4 2 b__law_product_number
theorem ok__law_product_number (T : Top P w G mg base) (R : Raw G.K mg "_law_product_number" s__law_product_number) (F__law_conjugate : Fn1 P w G mg base "_law_conjugate" 1 false m__law_conjugate) : Fn1 P w G mg base "_law_product_number" 2 false m__law_product_number := by
  refine R.fn1 (N := N__law_product_number) (ps := ["_law_one", "_law_other"]) (mb := b__law_product_number) false ⟨rfl, rfl, rfl, by decide +kernel, rfl, by decide +kernel, by decide +kernel⟩ (fun _ _ _ _ _ _ us hl => match us, hl with | [_, _], _ => rfl) fun f cdv A outer s H E hr hgd => ?_
  have hU := hU_of hr
  have nd : (N__law_product_number).Nodup := by decide +kernel
  unfold b__law_product_number
  exact ks_one (ks_ret (ke_blt (kc_sum2 rfl) T.n_sum (ka_cons (ke_lc (own := [("_law_a", 2), ("_law_b", 3)]) rfl nd (ik_zip T.n_zip (ka_cons ((F__law_conjugate).call (hr.mono (by decide)) (fun h => nomatch h) (takes_of rfl rfl rfl rfl) (ka_cons (ke_var 0) (ka_nil))) (ka_cons ((F__law_conjugate).call (hr.mono (by decide)) (fun h => nomatch h) (takes_of rfl rfl rfl rfl) (ka_cons (ke_var 1) (ka_nil))) (ka_nil)))) (blkOk_by (by kernel_rfl)) (kb_tup rfl (kb_cons (kb_name 2 nd) (kb_cons (kb_name 3 nd) (kb_nil)))) (fun _ _ _ _ _ => kts_nil) (fun _ _ _ _ _ => ke_op ko_mul (ke_var 2) (ke_var 3))) (ka_nil))))

abbrev s__law_pa_drawn : Stmt := top 42
abbrev N__law_pa_drawn : List Str := ["_law_lot_here", "_law_most", "_law_turn", "_law_left", "_law_found", "_law_part"]
def b__law_pa_drawn : MS := sSeq (sPar2 3 4 (aCons (mCall m__law_pull (aCons (mVar 0) (aCons (mOp dAdd (mVar 1) (mC (.int 1))) (aNil)))) (aCons (mNew (aNil)) (aNil)))) (sSeq (sForR1 (gNm 2) (aCons (mVar 1) (aNil)) (sIf (mBl (mOp dGt (mVar 3) (mC (.int 0)))) (sSeq (sSet 5 (mOp dAdd (mC (.int 1)) (mCall m__law_pull (aCons (mVar 0) (aCons (mBlt dMin2 (aCons (mVar 3) (aCons (mCall m__law_one_of (aCons (mVar 0) (aCons (mLst (aCons (mC (.int 1)) (aCons (mC (.int 2)) (aCons (mC (.int 3)) (aCons (mVar 3) (aNil)))))) (aNil)))) (aNil)))) (aNil)))))) (sSeq (sDrop (mMut oApp (mVar 4) (aCons (mVar 5) (aNil)))) (sSet 3 (mOp dSub (mVar 3) (mVar 5))))) (sNext))) (sRet (mTupOf (mBlt dSortR2 (aCons (mVar 4) (aNil))))))
def m__law_pa_drawn : Fn := mFun 6 2 b__law_pa_drawn
theorem ok__law_pa_drawn (T : Top P w G mg base) (R : Raw G.K mg "_law_pa_drawn" s__law_pa_drawn) (F__law_pull : Fn1 P w G mg base "_law_pull" 1 false m__law_pull) (F__law_one_of : Fn1 P w G mg base "_law_one_of" 2 false m__law_one_of) : Fn1 P w G mg base "_law_pa_drawn" 3 false m__law_pa_drawn := by
  refine R.fn1 (N := N__law_pa_drawn) (ps := ["_law_lot_here", "_law_most"]) (mb := b__law_pa_drawn) false ⟨rfl, rfl, rfl, by decide +kernel, rfl, by decide +kernel, by decide +kernel⟩ (fun _ _ _ _ _ _ us hl => match us, hl with | [_, _], _ => rfl) fun f cdv A outer s H E hr hgd => ?_
  have hU := hU_of hr
  have nd : (N__law_pa_drawn).Nodup := by decide +kernel
  unfold b__law_pa_drawn
  exact ks_cons (ks_par2 3 4 rfl nd (ka_cons ((F__law_pull).call (hr.mono (by decide)) (fun h => nomatch h) (takes_of rfl rfl rfl rfl) (ka_cons (ke_var 0) (ka_cons (ke_op ko_add (ke_var 1) (ke_int)) (ka_nil)))) (ka_cons (ke_new (ka_nil)) (ka_nil)))) (ks_cons (ks_forR1 (passes_of rfl) rfl T.n_range (ka_cons (ke_var 1) (ka_nil)) (kg_name 2 nd) (ks_one (ks_if (kt_cmp ko_gt (ke_var 3) (ke_int)) (ks_cons (ks_set 5 (ke_op ko_add (ke_int) ((F__law_pull).call (hr.mono (by decide)) (fun h => nomatch h) (takes_of rfl rfl rfl rfl) (ka_cons (ke_var 0) (ka_cons (ke_blt (kc_min2 rfl) T.n_min (ka_cons (ke_var 3) (ka_cons ((F__law_one_of).call (hr.mono (by decide)) (fun h => nomatch h) (takes_of rfl rfl rfl rfl) (ka_cons (ke_var 0) (ka_cons (ke_lst (ka_cons (ke_int) (ka_cons (ke_int) (ka_cons (ke_int) (ka_cons (ke_var 3) (ka_nil)))))) (ka_nil)))) (ka_nil)))) (ka_nil))))) nd) (ks_cons (ks_expr (ke_app (ke_var 4) (ka_cons (ke_var 5) (ka_nil)))) (ks_one (ks_set 3 (ke_op ko_sub (ke_var 3) (ke_var 5)) nd)))) (ks_nil)))) (ks_one (ks_ret (ke_tupOf T.n_tuple (ke_sortR2 T.n_sorted (ka_cons (ke_var 4) (ka_nil)))))))

abbrev s__law_lists_right : Stmt := top 43
abbrev N__law_lists_right : List Str := ["_law_lot_here", "_law_number", "_law_sizes", "_law_due", "_law_size", "_law_longer", "_law_row", "_law_turn", "_law_parts"]
def b__law_lists_right : MS := sSeq (sSet 1 (mCall m__law_pull (aCons (mVar 0) (aCons (mC (.int 13)) (aNil))))) (sSeq (sIf (mBl (mOp dNe (mBlt dList (aCons (mCall m_partitions (aCons (mVar 1) (aNil))) (aNil))) (mCall m__law_partitions (aCons (mVar 1) (aNil))))) (sRet (mC (.bl false))) (sNext)) (sSeq (sSet 2 (mTupOf (mLc [7] (gNm 7) (mRg1 (aCons (mOp dAdd (mC (.int 1)) (mCall m__law_pull (aCons (mVar 0) (aCons (mC (.int 4)) (aNil))))) (aNil))) (mYes) (mCall m__law_pull (aCons (mVar 0) (aCons (mC (.int 5)) (aNil))))))) (sSeq (sSet 3 (mLst (aCons (mTup (aNil)) (aNil)))) (sSeq (sForS (gNm 4) (mVar 2) (sSeq (sSet 5 (mNew (aNil))) (sSeq (sForS (gNm 6) (mVar 3) (sDrop (mMut oExt (mVar 5) (aCons (mLc [8] (gNm 8) (mSqR (mCall m__law_partitions (aCons (mVar 4) (aNil)))) (mYes) (mOp dAdd (mVar 6) (mTup (aCons (mVar 8) (aNil))))) (aNil))))) (sSet 3 (mBlt dList (aCons (mVar 5) (aNil))))))) (sRet (mAnd (mOp dEq (mBlt dList (aCons (mCall m_rows_of_parts (aCons (mVar 2) (aNil))) (aNil))) (mVar 3)) (mOp dEq (mCall m_rows_of_parts (aCons (mTup (aCons (mC (.int 0)) (aNil))) (aNil))) (mTup (aCons (mTup (aCons (mTup (aNil)) (aNil))) (aNil))))))))))
def m__law_lists_right : Fn := mFun 9 1 b__law_lists_right
theorem ok__law_lists_right (T : Top P w G mg base) (R : Raw G.K mg "_law_lists_right" s__law_lists_right) (F__law_pull : Fn1 P w G mg base "_law_pull" 1 false m__law_pull) (F_partitions : Fn1 P w G mg base "partitions" 22 false m_partitions) (F__law_partitions : Fn1 P w G mg base "_law_partitions" 1 false m__law_partitions) (F_rows_of_parts : Fn1 P w G mg base "rows_of_parts" 22 false m_rows_of_parts) : Fn1 P w G mg base "_law_lists_right" 23 false m__law_lists_right := by
  refine R.fn1 (N := N__law_lists_right) (ps := ["_law_lot_here"]) (mb := b__law_lists_right) false ⟨rfl, rfl, rfl, by decide +kernel, rfl, by decide +kernel, by decide +kernel⟩ (fun _ _ _ _ _ _ us hl => match us, hl with | [_], _ => rfl) fun f cdv A outer s H E hr hgd => ?_
  have hU := hU_of hr
  have nd : (N__law_lists_right).Nodup := by decide +kernel
  unfold b__law_lists_right
  exact ks_cons (ks_set 1 ((F__law_pull).call (hr.mono (by decide)) (fun h => nomatch h) (takes_of rfl rfl rfl rfl) (ka_cons (ke_var 0) (ka_cons (ke_int) (ka_nil)))) nd) (ks_cons (ks_if (kt_cmp (ko_ne hU) (ke_bltT kc_list T.n_list (ka_cons ((F_partitions).call (hr.mono (by decide)) (fun h => nomatch h) (takes_of rfl rfl rfl rfl) (ka_cons (ke_var 1) (ka_nil))) (ka_nil))) ((F__law_partitions).call (hr.mono (by decide)) (fun h => nomatch h) (takes_of rfl rfl rfl rfl) (ka_cons (ke_var 1) (ka_nil)))) (ks_one (ks_ret (ke_bl))) (ks_nil)) (ks_cons (ks_set 2 (ke_tupOf T.n_tuple (ke_lc (own := [("_law_turn", 7)]) rfl nd (ik_r1 T.n_range (ka_cons (ke_op ko_add (ke_int) ((F__law_pull).call (hr.mono (by decide)) (fun h => nomatch h) (takes_of rfl rfl rfl rfl) (ka_cons (ke_var 0) (ka_cons (ke_int) (ka_nil))))) (ka_nil))) (blkOk_by (by kernel_rfl)) (kb_name 7 nd) (fun _ _ _ _ _ => kts_nil) (fun _ _ _ _ _ => (F__law_pull).call (hr.mono (by decide)) (fun h => nomatch h) takes0 (ka_cons (ke_var 0) (ka_cons (ke_int) (ka_nil)))))) nd) (ks_cons (ks_set 3 (ke_lst (ka_cons (ke_tup (ka_nil)) (ka_nil))) nd) (ks_cons (ks_forS (passes_of rfl) rfl (ke_var 2) (kg_name 4 nd) (ks_cons (ks_set 5 (ke_new (ka_nil)) nd) (ks_cons (ks_forS (passes_of rfl) rfl (ke_var 3) (kg_name 6 nd) (ks_one (ks_expr (ke_ext (ke_var 5) (ka_cons (ke_lcR (own := [("_law_parts", 8)]) (by repeat' first | exact pure_var | exact pure_yes | exact pure_anil | exact pure_ret | apply pure_op | apply pure_tup | apply pure_acons | apply pure_bl | apply pure_tru | apply pure_tand | apply pure_tor | apply pure_tnot | apply pure_if | apply pure_blt) (by repeat' first | exact pure_var | exact pure_yes | exact pure_anil | exact pure_ret | apply pure_op | apply pure_tup | apply pure_acons | apply pure_bl | apply pure_tru | apply pure_tand | apply pure_tor | apply pure_tnot | apply pure_if | apply pure_blt) rfl nd (ir_sq ((F__law_partitions).call (hr.mono (by decide)) (fun h => nomatch h) (takes_of rfl rfl rfl rfl) (ka_cons (ke_var 4) (ka_nil)))) (blkOk_by (by kernel_rfl)) (kb_name 8 nd) (fun _ _ _ _ _ => kts_nil) (fun _ _ _ _ _ => ke_op ko_add (ke_var 6) (ke_tup (ka_cons (ke_var 8) (ka_nil))))) (ka_nil)))))) (ks_one (ks_set 3 (ke_bltT kc_list T.n_list (ka_cons (ke_var 5) (ka_nil))) nd))))) (ks_one (ks_ret (ke_and (ke_cmp (ko_eq hU) (ke_bltT kc_list T.n_list (ka_cons ((F_rows_of_parts).call (hr.mono (by decide)) (fun h => nomatch h) (takes_of rfl rfl rfl rfl) (ka_cons (ke_var 2) (ka_nil))) (ka_nil))) (ke_var 3)) (ke_b1 (ke_cmp (ko_eq hU) ((F_rows_of_parts).call (hr.mono (by decide)) (fun h => nomatch h) (takes_of rfl rfl rfl rfl) (ka_cons (ke_tup (ka_cons (ke_int) (ka_nil))) (ka_nil))) (ke_tup (ka_cons (ke_tup (ka_cons (ke_tup (ka_nil)) (ka_nil))) (ka_nil))))))))))))

abbrev s__law_products_right : Stmt := top 44
abbrev N__law_products_right : List Str := ["_law_lot_here", "_law_both", "_law_size", "_law_first", "_law_second", "_law_due", "_law_one", "_law_other", "_law_last", "_law_turn", "_law_a", "_law_b"]
def b__law_products_right : MS := sSeq (sAsg (gTpL [6, 7, 8]) (mLc [9] (gNm 9) (mRg1 (aCons (mC (.int 3)) (aNil))) (mYes) (mCall m__law_pa_drawn (aCons (mVar 0) (aCons (mCall m__law_one_of (aCons (mVar 0) (aCons (mLst (aCons (mC (.int 4)) (aCons (mC (.int 8)) (aCons (mC (.int 12)) (aNil))))) (aNil)))) (aNil)))))) (sSeq (sIf (tOr' (mBl (mOp dNe (mCall m_conjugate (aCons (mVar 6) (aNil))) (mCall m__law_conjugate (aCons (mVar 6) (aNil))))) (tOr' (mBl (mOp dNe (mCall m_conjugate (aCons (mCall m_conjugate (aCons (mVar 7) (aNil))) (aNil))) (mVar 7))) (mBl (mOp dNe (mCall m_total_of (aCons (mVar 6) (aNil))) (mBlt dSum2 (aCons (mVar 6) (aNil))))))) (sRet (mC (.bl false))) (sNext)) (sSeq (sSet 1 (mCall m_joined_parts (aCons (mVar 6) (aCons (mVar 7) (aNil))))) (sSeq (sIf (tOr' (mBl (mOp dNe (mVar 1) (mTupOf (mBlt dSortR2 (aCons (mOp dAdd (mVar 6) (mVar 7)) (aNil)))))) (mBl (mOp dNe (mCall m_total_of (aCons (mVar 1) (aNil))) (mOp dAdd (mBlt dSum2 (aCons (mVar 6) (aNil))) (mBlt dSum2 (aCons (mVar 7) (aNil))))))) (sRet (mC (.bl false))) (sNext)) (sSeq (sPar2 3 4 (aCons (mBlt dList (aCons (mCall m_conjugate (aCons (mVar 6) (aNil))) (aNil))) (aCons (mBlt dList (aCons (mCall m_conjugate (aCons (mVar 7) (aNil))) (aNil))) (aNil)))) (sSeq (sSet 2 (mBlt dMax2 (aCons (mBlt dLen (aCons (mVar 3) (aNil))) (aCons (mBlt dLen (aCons (mVar 4) (aNil))) (aNil))))) (sSeq (sSet 3 (mOp dAdd (mVar 3) (mOp dRepL (mLst (aCons (mC (.int 0)) (aNil))) (mOp dSub (mVar 2) (mBlt dLen (aCons (mVar 3) (aNil))))))) (sSeq (sSet 4 (mOp dAdd (mVar 4) (mOp dRepL (mLst (aCons (mC (.int 0)) (aNil))) (mOp dSub (mVar 2) (mBlt dLen (aCons (mVar 4) (aNil))))))) (sSeq (sIf (mBl (mOp dNe (mBlt dList (aCons (mCall m_conjugate (aCons (mVar 1) (aNil))) (aNil))) (mLc [10, 11] (gTp [10, 11]) (mZip (aCons (mVar 3) (aCons (mVar 4) (aNil)))) (mYes) (mOp dAdd (mVar 10) (mVar 11))))) (sRet (mC (.bl false))) (sNext)) (sSeq (sSet 5 (mBlt dSum2 (aCons (mLc [10] (gNm 10) (mSq (mVar 6)) (mYes) (mBlt dSum2 (aCons (mLc [11] (gNm 11) (mSq (mVar 7)) (mYes) (mBlt dMin2 (aCons (mVar 10) (aCons (mVar 11) (aNil))))) (aNil)))) (aNil)))) (sSeq (sIf (tOr' (mBl (mOp dNe (mCall m_product_number (aCons (mVar 6) (aCons (mVar 7) (aNil)))) (mVar 5))) (tOr' (mBl (mOp dNe (mVar 5) (mCall m__law_product_number (aCons (mVar 6) (aCons (mVar 7) (aNil)))))) (mBl (mOp dNe (mCall m_product_number (aCons (mVar 7) (aCons (mVar 6) (aNil)))) (mVar 5))))) (sRet (mC (.bl false))) (sNext)) (sRet (mOp dEq (mCall m_product_number (aCons (mVar 1) (aCons (mVar 8) (aNil)))) (mOp dAdd (mCall m_product_number (aCons (mVar 6) (aCons (mVar 8) (aNil)))) (mCall m_product_number (aCons (mVar 7) (aCons (mVar 8) (aNil)))))))))))))))))
def m__law_products_right : Fn := mFun 12 1 b__law_products_right
theorem ok__law_products_right (T : Top P w G mg base) (R : Raw G.K mg "_law_products_right" s__law_products_right) (F__law_pa_drawn : Fn1 P w G mg base "_law_pa_drawn" 3 false m__law_pa_drawn) (F__law_one_of : Fn1 P w G mg base "_law_one_of" 2 false m__law_one_of) (F_total_of : Fn1 P w G mg base "total_of" 6 false m_total_of) (F_conjugate : Fn1 P w G mg base "conjugate" 6 false m_conjugate) (F__law_conjugate : Fn1 P w G mg base "_law_conjugate" 1 false m__law_conjugate) (F_joined_parts : Fn1 P w G mg base "joined_parts" 7 false m_joined_parts) (F_product_number : Fn1 P w G mg base "product_number" 7 false m_product_number) (F__law_product_number : Fn1 P w G mg base "_law_product_number" 2 false m__law_product_number) : Fn1 P w G mg base "_law_products_right" 8 false m__law_products_right := by
  refine R.fn1 (N := N__law_products_right) (ps := ["_law_lot_here"]) (mb := b__law_products_right) false ⟨rfl, rfl, rfl, by decide +kernel, rfl, by decide +kernel, by decide +kernel⟩ (fun _ _ _ _ _ _ us hl => match us, hl with | [_], _ => rfl) fun f cdv A outer s H E hr hgd => ?_
  have hU := hU_of hr
  have nd : (N__law_products_right).Nodup := by decide +kernel
  unfold b__law_products_right
  exact ks_cons (ks_asg (ke_lc (own := [("_law_turn", 9)]) rfl nd (ik_r1 T.n_range (ka_cons (ke_int) (ka_nil))) (blkOk_by (by kernel_rfl)) (kb_name 9 nd) (fun _ _ _ _ _ => kts_nil) (fun _ _ _ _ _ => (F__law_pa_drawn).call (hr.mono (by decide)) (fun h => nomatch h) takes0 (ka_cons (ke_var 0) (ka_cons ((F__law_one_of).call (hr.mono (by decide)) (fun h => nomatch h) takes0 (ka_cons (ke_var 0) (ka_cons (ke_lst (ka_cons (ke_int) (ka_cons (ke_int) (ka_cons (ke_int) (ka_nil))))) (ka_nil)))) (ka_nil))))) (kg_tupL rfl (kgs_cons (kg_name 6 nd) (kgs_cons (kg_name 7 nd) (kgs_cons (kg_name 8 nd) (kgs_nil)))))) (ks_cons (ks_if (kt_w (kw_or (kt_cmp (ko_ne hU) ((F_conjugate).call (hr.mono (by decide)) (fun h => nomatch h) (takes_of rfl rfl rfl rfl) (ka_cons (ke_var 6) (ka_nil))) ((F__law_conjugate).call (hr.mono (by decide)) (fun h => nomatch h) (takes_of rfl rfl rfl rfl) (ka_cons (ke_var 6) (ka_nil)))) (kw_or (kt_cmp (ko_ne hU) ((F_conjugate).call (hr.mono (by decide)) (fun h => nomatch h) (takes_of rfl rfl rfl rfl) (ka_cons ((F_conjugate).call (hr.mono (by decide)) (fun h => nomatch h) (takes_of rfl rfl rfl rfl) (ka_cons (ke_var 7) (ka_nil))) (ka_nil))) (ke_var 7)) (kw_or1 (kt_cmp (ko_ne hU) ((F_total_of).call (hr.mono (by decide)) (fun h => nomatch h) (takes_of rfl rfl rfl rfl) (ka_cons (ke_var 6) (ka_nil))) (ke_blt (kc_sum2 rfl) T.n_sum (ka_cons (ke_var 6) (ka_nil)))))))) (ks_one (ks_ret (ke_bl))) (ks_nil)) (ks_cons (ks_set 1 ((F_joined_parts).call (hr.mono (by decide)) (fun h => nomatch h) (takes_of rfl rfl rfl rfl) (ka_cons (ke_var 6) (ka_cons (ke_var 7) (ka_nil)))) nd) (ks_cons (ks_if (kt_w (kw_or (kt_cmp (ko_ne hU) (ke_var 1) (ke_tupOf T.n_tuple (ke_sortR2 T.n_sorted (ka_cons (ke_op ko_add (ke_var 6) (ke_var 7)) (ka_nil))))) (kw_or1 (kt_cmp (ko_ne hU) ((F_total_of).call (hr.mono (by decide)) (fun h => nomatch h) (takes_of rfl rfl rfl rfl) (ka_cons (ke_var 1) (ka_nil))) (ke_op ko_add (ke_blt (kc_sum2 rfl) T.n_sum (ka_cons (ke_var 6) (ka_nil))) (ke_blt (kc_sum2 rfl) T.n_sum (ka_cons (ke_var 7) (ka_nil)))))))) (ks_one (ks_ret (ke_bl))) (ks_nil)) (ks_cons (ks_par2 3 4 rfl nd (ka_cons (ke_bltT kc_list T.n_list (ka_cons ((F_conjugate).call (hr.mono (by decide)) (fun h => nomatch h) (takes_of rfl rfl rfl rfl) (ka_cons (ke_var 6) (ka_nil))) (ka_nil))) (ka_cons (ke_bltT kc_list T.n_list (ka_cons ((F_conjugate).call (hr.mono (by decide)) (fun h => nomatch h) (takes_of rfl rfl rfl rfl) (ka_cons (ke_var 7) (ka_nil))) (ka_nil))) (ka_nil)))) (ks_cons (ks_set 2 (ke_blt (kc_max2 rfl) T.n_max (ka_cons (ke_blt kc_len T.n_len (ka_cons (ke_var 3) (ka_nil))) (ka_cons (ke_blt kc_len T.n_len (ka_cons (ke_var 4) (ka_nil))) (ka_nil)))) nd) (ks_cons (ks_set 3 (ke_op ko_add (ke_var 3) (ke_op ko_repL (ke_lst (ka_cons (ke_int) (ka_nil))) (ke_op ko_sub (ke_var 2) (ke_blt kc_len T.n_len (ka_cons (ke_var 3) (ka_nil)))))) nd) (ks_cons (ks_set 4 (ke_op ko_add (ke_var 4) (ke_op ko_repL (ke_lst (ka_cons (ke_int) (ka_nil))) (ke_op ko_sub (ke_var 2) (ke_blt kc_len T.n_len (ka_cons (ke_var 4) (ka_nil)))))) nd) (ks_cons (ks_if (kt_cmp (ko_ne hU) (ke_bltT kc_list T.n_list (ka_cons ((F_conjugate).call (hr.mono (by decide)) (fun h => nomatch h) (takes_of rfl rfl rfl rfl) (ka_cons (ke_var 1) (ka_nil))) (ka_nil))) (ke_lc (own := [("_law_a", 10), ("_law_b", 11)]) rfl nd (ik_zip T.n_zip (ka_cons (ke_var 3) (ka_cons (ke_var 4) (ka_nil)))) (blkOk_by (by kernel_rfl)) (kb_tup rfl (kb_cons (kb_name 10 nd) (kb_cons (kb_name 11 nd) (kb_nil)))) (fun _ _ _ _ _ => kts_nil) (fun _ _ _ _ _ => ke_op ko_add (ke_var 10) (ke_var 11)))) (ks_one (ks_ret (ke_bl))) (ks_nil)) (ks_cons (ks_set 5 (ke_blt (kc_sum2 rfl) T.n_sum (ka_cons (ke_lc (own := [("_law_a", 10)]) rfl nd (ik_sq (ke_var 6)) (blkOk_by (by kernel_rfl)) (kb_name 10 nd) (fun _ _ _ _ _ => kts_nil) (fun _ _ _ _ _ => ke_blt (kc_sum2 rfl) T.n_sum (ka_cons (ke_lc (own := [("_law_b", 11)]) rfl nd (ik_sq (ke_var 7)) (blkOk_by (by kernel_rfl)) (kb_name 11 nd) (fun _ _ _ _ _ => kts_nil) (fun _ _ _ _ _ => ke_blt (kc_min2 rfl) T.n_min (ka_cons (ke_var 10) (ka_cons (ke_var 11) (ka_nil))))) (ka_nil)))) (ka_nil))) nd) (ks_cons (ks_if (kt_w (kw_or (kt_cmp (ko_ne hU) ((F_product_number).call (hr.mono (by decide)) (fun h => nomatch h) (takes_of rfl rfl rfl rfl) (ka_cons (ke_var 6) (ka_cons (ke_var 7) (ka_nil)))) (ke_var 5)) (kw_or (kt_cmp (ko_ne hU) (ke_var 5) ((F__law_product_number).call (hr.mono (by decide)) (fun h => nomatch h) (takes_of rfl rfl rfl rfl) (ka_cons (ke_var 6) (ka_cons (ke_var 7) (ka_nil))))) (kw_or1 (kt_cmp (ko_ne hU) ((F_product_number).call (hr.mono (by decide)) (fun h => nomatch h) (takes_of rfl rfl rfl rfl) (ka_cons (ke_var 7) (ka_cons (ke_var 6) (ka_nil)))) (ke_var 5)))))) (ks_one (ks_ret (ke_bl))) (ks_nil)) (ks_one (ks_ret (ke_cmp (ko_eq hU) ((F_product_number).call (hr.mono (by decide)) (fun h => nomatch h) (takes_of rfl rfl rfl rfl) (ka_cons (ke_var 1) (ka_cons (ke_var 8) (ka_nil)))) (ke_op ko_add ((F_product_number).call (hr.mono (by decide)) (fun h => nomatch h) (takes_of rfl rfl rfl rfl) (ka_cons (ke_var 6) (ka_cons (ke_var 8) (ka_nil)))) ((F_product_number).call (hr.mono (by decide)) (fun h => nomatch h) (takes_of rfl rfl rfl rfl) (ka_cons (ke_var 7) (ka_cons (ke_var 8) (ka_nil))))))))))))))))))

abbrev s__law_judged : Stmt := top 45
abbrev N__law_judged : List Str := ["_law_lot_here", "_law_parts", "_law_at", "_law_value", "_law_odd", "_law_near", "_law_due"]
def b__law_judged : MS := sSeq (sSet 1 (mOp dAdd (mCall m__law_pa_drawn (aCons (mVar 0) (aCons (mC (.int 9)) (aNil)))) (mTup (aCons (mC (.int 1)) (aNil))))) (sSeq (sSet 2 (mCall m__law_pull (aCons (mVar 0) (aCons (mBlt dLen (aCons (mVar 1) (aNil))) (aNil))))) (sSeq (sForS (gNm 3) (mTup (aCons (mC (.int 0)) (aCons (mNeg (mC (.int 1))) (aCons (mC (.bl true)) (aCons (mC .non) (aCons (mC (.str "1")) (aCons (mTup (aCons (mC (.int 1)) (aNil))) (aCons (mOp dAdd (mOp dIx (mVar 1) (mVar 2)) (mC (.int 1))) (aCons (mOp dAdd (mOp dIx (mVar 1) (mVar 2)) (mC (.int 24))) (aNil)))))))))) (sSeq (sSet 5 (mOp dAdd (mOp dAdd (mSl (mVar 1) (mNoPart) (mPart (mVar 2))) (mTup (aCons (mVar 3) (aNil)))) (mSl (mVar 1) (mPart (mOp dAdd (mVar 2) (mC (.int 1)))) (mNoPart)))) (sSeq (sSet 6 (mAnd (mBlt dIsi (aCons (mVar 3) (aCons (ret (.ty .int)) (aNil)))) (mAnd (mNot (mBlt dIsi (aCons (mVar 3) (aCons (ret (.ty .bool)) (aNil))))) (mOp dGt (mVar 3) (mC (.int 0)))))) (sSeq (sSet 6 (mAnd (mVar 6) (mAnd (mOp dEq (mBlt dList (aCons (mVar 5) (aNil))) (mBlt dSortR2 (aCons (mVar 5) (aNil)))) (mOp dLt (mBlt dSum2 (aCons (mVar 5) (aNil))) (mC (.int 25)))))) (sIf (mBl (mOp dNe (mBlt dRepr (aCons (mCall m_is_parts (aCons (mVar 5) (aNil))) (aNil))) (mBlt dRepr (aCons (mVar 6) (aNil))))) (sRet (mC (.bl false))) (sNext)))))) (sSeq (sSet 4 (mLc [3] (gNm 3) (mSq (mTup (aCons (mC .non) (aCons (mC (.int 3)) (aCons (mBlt dList (aCons (mVar 1) (aNil))) (aCons (ret (.dic [])) (aCons (mC (.str "1")) (aCons (mTup (aCons (mC (.int 25)) (aNil))) (aCons (mTup (aCons (mC (.int 13)) (aCons (mC (.int 12)) (aNil)))) (aCons (mOp dRepT2 (mTup (aCons (mC (.int 1)) (aNil))) (mC (.int 25))) (aCons (mTup (aCons (mC (.int 1)) (aCons (mC (.int 2)) (aNil)))) (aNil)))))))))))) (mBl (mCall m_is_parts (aCons (mVar 3) (aNil)))) (mVar 3))) (sRet (mAnd (mOp dEq (mVar 4) (mLst (aNil))) (mAnd (mCall m_is_parts (aCons (mTup (aNil)) (aNil))) (mAnd (mCall m_is_parts (aCons (mOp dRepT2 (mTup (aCons (mC (.int 1)) (aNil))) (mC (.int 24))) (aNil))) (mAnd (mCall m_is_parts (aCons (mTup (aCons (mC (.int 24)) (aNil))) (aNil))) (mCall m_is_parts (aCons (mVar 1) (aNil)))))))))))
def m__law_judged : Fn := mFun 7 1 b__law_judged
theorem ok__law_judged (T : Top P w G mg base) (R : Raw G.K mg "_law_judged" s__law_judged) (F__law_pa_drawn : Fn1 P w G mg base "_law_pa_drawn" 3 false m__law_pa_drawn) (F__law_pull : Fn1 P w G mg base "_law_pull" 1 false m__law_pull) (F_is_parts : Fn1 P w G mg base "is_parts" 4 false m_is_parts) : Fn1 P w G mg base "_law_judged" 5 true m__law_judged := by
  refine R.fn1 (N := N__law_judged) (ps := ["_law_lot_here"]) (mb := b__law_judged) true ⟨rfl, rfl, rfl, by decide +kernel, rfl, by decide +kernel, by decide +kernel⟩ (fun _ _ _ _ _ _ us hl => match us, hl with | [_], _ => rfl) fun f cdv A outer s H E hr hgd => ?_
  have hU := hU_of hr
  have nd : (N__law_judged).Nodup := by decide +kernel
  unfold b__law_judged
  exact ks_cons (ks_set 1 (ke_op ko_add ((F__law_pa_drawn).call (hr.mono (by decide)) (fun h => nomatch h) (takes_of rfl rfl rfl rfl) (ka_cons (ke_var 0) (ka_cons (ke_int) (ka_nil)))) (ke_tup (ka_cons (ke_int) (ka_nil)))) nd) (ks_cons (ks_set 2 ((F__law_pull).call (hr.mono (by decide)) (fun h => nomatch h) (takes_of rfl rfl rfl rfl) (ka_cons (ke_var 0) (ka_cons (ke_blt kc_len T.n_len (ka_cons (ke_var 1) (ka_nil))) (ka_nil)))) nd) (ks_cons (ks_forS (passes_of rfl) rfl (ke_tup (ka_cons (ke_int) (ka_cons (ke_neg (ke_int)) (ka_cons (ke_bl) (ka_cons (ke_non) (ka_cons (ke_str) (ka_cons (ke_tup (ka_cons (ke_int) (ka_nil))) (ka_cons (ke_op ko_add (ke_ix (ke_var 1) (ke_var 2)) (ke_int)) (ka_cons (ke_op ko_add (ke_ix (ke_var 1) (ke_var 2)) (ke_int)) (ka_nil)))))))))) (kg_name 3 nd) (ks_cons (ks_set 5 (ke_op ko_add (ke_op ko_add (ke_sl (ke_var 1) (kp_none) (kp_some (ke_var 2))) (ke_tup (ka_cons (ke_var 3) (ka_nil)))) (ke_sl (ke_var 1) (kp_some (ke_op ko_add (ke_var 2) (ke_int))) (kp_none))) nd) (ks_cons (ks_set 6 (ke_and (ke_blt kc_isi T.n_isinstance (ka_cons (ke_var 3) (ka_cons (ke_ty .int (hm := T.n_int)) (ka_nil)))) (ke_and (ke_not (ke_blt kc_isi T.n_isinstance (ka_cons (ke_var 3) (ka_cons (ke_ty .bool (hm := T.n_bool)) (ka_nil))))) (ke_b1 (ke_cmp ko_gt (ke_var 3) (ke_int))))) nd) (ks_cons (ks_set 6 (ke_and (ke_var 6) (ke_and (ke_cmp (ko_eq hU) (ke_bltT kc_list T.n_list (ka_cons (ke_var 5) (ka_nil))) (ke_sortR2 T.n_sorted (ka_cons (ke_var 5) (ka_nil)))) (ke_b1 (ke_cmp ko_lt (ke_blt (kc_sum2 rfl) T.n_sum (ka_cons (ke_var 5) (ka_nil))) (ke_int))))) nd) (ks_one (ks_if (kt_cmp (ko_ne hU) (ke_blt (kc_repr (hgd rfl) hU) T.n_repr (ka_cons ((F_is_parts).call (hr.mono (by decide)) (fun h => nomatch h) (takes_of rfl rfl rfl rfl) (ka_cons (ke_var 5) (ka_nil))) (ka_nil))) (ke_blt (kc_repr (hgd rfl) hU) T.n_repr (ka_cons (ke_var 6) (ka_nil)))) (ks_one (ks_ret (ke_bl))) (ks_nil))))))) (ks_cons (ks_setLc 4 (own := [("_law_value", 3)]) rfl nd (ik_sq (ke_tup (ka_cons (ke_non) (ka_cons (ke_int) (ka_cons (ke_bltT kc_list T.n_list (ka_cons (ke_var 1) (ka_nil))) (ka_cons (ke_dic0) (ka_cons (ke_str) (ka_cons (ke_tup (ka_cons (ke_int) (ka_nil))) (ka_cons (ke_tup (ka_cons (ke_int) (ka_cons (ke_int) (ka_nil)))) (ka_cons (ke_op ko_repT2 (ke_tup (ka_cons (ke_int) (ka_nil))) (ke_int)) (ka_cons (ke_tup (ka_cons (ke_int) (ka_cons (ke_int) (ka_nil)))) (ka_nil)))))))))))) (blkOk_by (by kernel_rfl)) (kb_name 3 nd) (fun _ _ _ _ _ => kts_one (kt_val ((F_is_parts).call (hr.mono (by decide)) (fun h => nomatch h) takes0 (ka_cons (ke_var 3) (ka_nil))))) (fun _ _ _ _ _ => ke_var 3)) (ks_one (ks_ret (ke_and (ke_cmp (ko_eq hU) (ke_var 4) (ke_lst (ka_nil))) (ke_and ((F_is_parts).call (hr.mono (by decide)) (fun h => nomatch h) (takes_of rfl rfl rfl rfl) (ka_cons (ke_tup (ka_nil)) (ka_nil))) (ke_and ((F_is_parts).call (hr.mono (by decide)) (fun h => nomatch h) (takes_of rfl rfl rfl rfl) (ka_cons (ke_op ko_repT2 (ke_tup (ka_cons (ke_int) (ka_nil))) (ke_int)) (ka_nil))) (ke_and ((F_is_parts).call (hr.mono (by decide)) (fun h => nomatch h) (takes_of rfl rfl rfl rfl) (ka_cons (ke_tup (ka_cons (ke_int) (ka_nil))) (ka_nil))) (ke_b1 ((F_is_parts).call (hr.mono (by decide)) (fun h => nomatch h) (takes_of rfl rfl rfl rfl) (ka_cons (ke_var 1) (ka_nil)))))))))))))

abbrev s_law : Stmt := top 46
abbrev N_law : List Str := ["_law_script", "_law_spot", "_law_told", "_law_lot_here"]
def b_law : MS := sSeq (sForR1 (gNm 1) (aCons (mBlt dMax2 (aCons (mC (.int 1)) (aCons (mBlt dMin2 (aCons (mC (.int 3)) (aCons (mBlt dLen (aCons (mVar 0) (aNil))) (aNil)))) (aNil)))) (aNil)) (sSeq (sSet 3 (mCall m__law_lot (aCons (mVar 0) (aCons (mVar 1) (aNil))))) (sIf (tOr' (tNot' (mBl (mCall m__law_lists_right (aCons (mVar 3) (aNil))))) (tOr' (tNot' (mBl (mCall m__law_products_right (aCons (mVar 3) (aNil))))) (tNot' (mBl (mCall m__law_judged (aCons (mVar 3) (aNil))))))) (sRet (mC (.bl false))) (sNext)))) (sSeq (sSet 2 (mLst (aCons (mCall m_conjugate (aCons (mTup (aCons (mC (.int 4)) (aCons (mC (.int 2)) (aCons (mC (.int 2)) (aCons (mC (.int 1)) (aNil)))))) (aNil))) (aCons (mCall m_joined_parts (aCons (mTup (aCons (mC (.int 3)) (aCons (mC (.int 1)) (aNil)))) (aCons (mTup (aCons (mC (.int 2)) (aNil))) (aNil)))) (aCons (mCall m_product_number (aCons (mTup (aCons (mC (.int 2)) (aCons (mC (.int 1)) (aNil)))) (aCons (mTup (aCons (mC (.int 2)) (aNil))) (aNil)))) (aCons (mBlt dLen (aCons (mCall m_partitions (aCons (mC (.int 18)) (aNil))) (aNil))) (aNil))))))) (sSeq (sIf (mBl (mOp dNe (mVar 2) (mLst (aCons (mTup (aCons (mC (.int 4)) (aCons (mC (.int 3)) (aCons (mC (.int 1)) (aCons (mC (.int 1)) (aNil)))))) (aCons (mTup (aCons (mC (.int 3)) (aCons (mC (.int 2)) (aCons (mC (.int 1)) (aNil))))) (aCons (mC (.int 3)) (aCons (mC (.int 385)) (aNil)))))))) (sRet (mC (.bl false))) (sNext)) (sRet (mAnd (mOp dEq (mCall m_partitions (aCons (mC (.int 4)) (aNil))) (mTup (aCons (mTup (aCons (mC (.int 1)) (aCons (mC (.int 1)) (aCons (mC (.int 1)) (aCons (mC (.int 1)) (aNil)))))) (aCons (mTup (aCons (mC (.int 2)) (aCons (mC (.int 1)) (aCons (mC (.int 1)) (aNil))))) (aCons (mTup (aCons (mC (.int 2)) (aCons (mC (.int 2)) (aNil)))) (aCons (mTup (aCons (mC (.int 3)) (aCons (mC (.int 1)) (aNil)))) (aCons (mTup (aCons (mC (.int 4)) (aNil))) (aNil)))))))) (mOp dEq (mBlt dLen (aCons (mCall m_rows_of_parts (aCons (mTup (aCons (mC (.int 3)) (aCons (mC (.int 2)) (aCons (mC (.int 0)) (aNil))))) (aNil))) (aNil))) (mC (.int 6)))))))
def m_law : Fn := mFun 4 1 b_law
theorem ok_law (T : Top P w G mg base) (R : Raw G.K mg "law" s_law) (F__law_lot : Fn1 P w G mg base "_law_lot" 1 false m__law_lot) (F__law_judged : Fn1 P w G mg base "_law_judged" 5 true m__law_judged) (F__law_products_right : Fn1 P w G mg base "_law_products_right" 8 false m__law_products_right) (F__law_lists_right : Fn1 P w G mg base "_law_lists_right" 23 false m__law_lists_right) (F_partitions : Fn1 P w G mg base "partitions" 22 false m_partitions) (F_product_number : Fn1 P w G mg base "product_number" 7 false m_product_number) (F_joined_parts : Fn1 P w G mg base "joined_parts" 7 false m_joined_parts) (F_conjugate : Fn1 P w G mg base "conjugate" 6 false m_conjugate) (F_rows_of_parts : Fn1 P w G mg base "rows_of_parts" 22 false m_rows_of_parts) : Fn1 P w G mg base "law" 24 true m_law := by
  refine R.fn1 (N := N_law) (ps := ["_law_script"]) (mb := b_law) true ⟨rfl, rfl, rfl, by decide +kernel, rfl, by decide +kernel, by decide +kernel⟩ (fun _ _ _ _ _ _ us hl => match us, hl with | [_], _ => rfl) fun f cdv A outer s H E hr hgd => ?_
  have hU := hU_of hr
  have nd : (N_law).Nodup := by decide +kernel
  unfold b_law
  exact ks_cons (ks_forR1 (passes_of rfl) rfl T.n_range (ka_cons (ke_blt (kc_max2 rfl) T.n_max (ka_cons (ke_int) (ka_cons (ke_blt (kc_min2 rfl) T.n_min (ka_cons (ke_int) (ka_cons (ke_blt kc_len T.n_len (ka_cons (ke_var 0) (ka_nil))) (ka_nil)))) (ka_nil)))) (ka_nil)) (kg_name 1 nd) (ks_cons (ks_set 3 ((F__law_lot).call (hr.mono (by decide)) (fun h => nomatch h) (takes_of rfl rfl rfl rfl) (ka_cons (ke_var 0) (ka_cons (ke_var 1) (ka_nil)))) nd) (ks_one (ks_if (kt_w (kw_or (kt_not (kt_val ((F__law_lists_right).call (hr.mono (by decide)) (fun h => nomatch h) (takes_of rfl rfl rfl rfl) (ka_cons (ke_var 3) (ka_nil))))) (kw_or (kt_not (kt_val ((F__law_products_right).call (hr.mono (by decide)) (fun h => nomatch h) (takes_of rfl rfl rfl rfl) (ka_cons (ke_var 3) (ka_nil))))) (kw_or1 (kt_not (kt_val ((F__law_judged).call (hr.mono (by decide)) hgd (takes_of rfl rfl rfl rfl) (ka_cons (ke_var 3) (ka_nil))))))))) (ks_one (ks_ret (ke_bl))) (ks_nil))))) (ks_cons (ks_set 2 (ke_lst (ka_cons ((F_conjugate).call (hr.mono (by decide)) (fun h => nomatch h) (takes_of rfl rfl rfl rfl) (ka_cons (ke_tup (ka_cons (ke_int) (ka_cons (ke_int) (ka_cons (ke_int) (ka_cons (ke_int) (ka_nil)))))) (ka_nil))) (ka_cons ((F_joined_parts).call (hr.mono (by decide)) (fun h => nomatch h) (takes_of rfl rfl rfl rfl) (ka_cons (ke_tup (ka_cons (ke_int) (ka_cons (ke_int) (ka_nil)))) (ka_cons (ke_tup (ka_cons (ke_int) (ka_nil))) (ka_nil)))) (ka_cons ((F_product_number).call (hr.mono (by decide)) (fun h => nomatch h) (takes_of rfl rfl rfl rfl) (ka_cons (ke_tup (ka_cons (ke_int) (ka_cons (ke_int) (ka_nil)))) (ka_cons (ke_tup (ka_cons (ke_int) (ka_nil))) (ka_nil)))) (ka_cons (ke_blt kc_len T.n_len (ka_cons ((F_partitions).call (hr.mono (by decide)) (fun h => nomatch h) (takes_of rfl rfl rfl rfl) (ka_cons (ke_int) (ka_nil))) (ka_nil))) (ka_nil)))))) nd) (ks_cons (ks_if (kt_cmp (ko_ne hU) (ke_var 2) (ke_lst (ka_cons (ke_tup (ka_cons (ke_int) (ka_cons (ke_int) (ka_cons (ke_int) (ka_cons (ke_int) (ka_nil)))))) (ka_cons (ke_tup (ka_cons (ke_int) (ka_cons (ke_int) (ka_cons (ke_int) (ka_nil))))) (ka_cons (ke_int) (ka_cons (ke_int) (ka_nil))))))) (ks_one (ks_ret (ke_bl))) (ks_nil)) (ks_one (ks_ret (ke_and (ke_cmp (ko_eq hU) ((F_partitions).call (hr.mono (by decide)) (fun h => nomatch h) (takes_of rfl rfl rfl rfl) (ka_cons (ke_int) (ka_nil))) (ke_tup (ka_cons (ke_tup (ka_cons (ke_int) (ka_cons (ke_int) (ka_cons (ke_int) (ka_cons (ke_int) (ka_nil)))))) (ka_cons (ke_tup (ka_cons (ke_int) (ka_cons (ke_int) (ka_cons (ke_int) (ka_nil))))) (ka_cons (ke_tup (ka_cons (ke_int) (ka_cons (ke_int) (ka_nil)))) (ka_cons (ke_tup (ka_cons (ke_int) (ka_cons (ke_int) (ka_nil)))) (ka_cons (ke_tup (ka_cons (ke_int) (ka_nil))) (ka_nil)))))))) (ke_b1 (ke_cmp (ko_eq hU) (ke_blt kc_len T.n_len (ka_cons ((F_rows_of_parts).call (hr.mono (by decide)) (fun h => nomatch h) (takes_of rfl rfl rfl rfl) (ka_cons (ke_tup (ka_cons (ke_int) (ka_cons (ke_int) (ka_cons (ke_int) (ka_nil))))) (ka_nil))) (ka_nil))) (ke_int))))))))
def initOf : Stmt → Stmt
  | .ClassDef _ _ _ (b :: _) _ _ _ _ _ _ _ => b
  | s => s
abbrev i_InvalidCount : Stmt := initOf (top 4)
abbrev i_TooMany : Stmt := initOf (top 5)
def gm (K : PySem.W.Frag) (C_ArrowError C_InvalidParts C_InvalidSizes C_InvalidCount C_TooMany : Addr) (tab : List (Addr × Str)) : Gm := ⟨K, fun c => ([C_ArrowError, C_InvalidParts, C_InvalidSizes, C_InvalidCount, C_TooMany] : List Addr).getD c 0, tab⟩
theorem all_mk {K : PySem.W.Frag} {h : Heap} {ts : List Addr} (X : K.In h) (Gn : h.Ns mainGlobals mg) (TT : ∀ P ∈ ts, h.get? P = some (PySem.W.tabObj #[]))
    {f_is_integer : Addr} {oc_is_integer kV_is_integer dc_is_integer pm_is_integer ct_is_integer : Value} {od_is_integer an_is_integer : Option Addr} {sl_is_integer : Array (Option Value)}
    {cd_is_integer : Value}
    {f_is_count : Addr} {oc_is_count kV_is_count dc_is_count pm_is_count ct_is_count : Value} {od_is_count an_is_count : Option Addr} {sl_is_count : Array (Option Value)}
    {cd_is_count : Value}
    {f_check_count : Addr} {oc_check_count kV_check_count dc_check_count pm_check_count ct_check_count : Value} {od_check_count an_check_count : Option Addr} {sl_check_count : Array (Option Value)}
    {cd_check_count : Value}
    {f_are_counts : Addr} {oc_are_counts kV_are_counts dc_are_counts pm_are_counts ct_are_counts : Value} {od_are_counts an_are_counts : Option Addr} {sl_are_counts : Array (Option Value)}
    {cd_are_counts : Value}
    {f_is_row : Addr} {oc_is_row kV_is_row dc_is_row pm_is_row ct_is_row : Value} {od_is_row an_is_row : Option Addr} {sl_is_row : Array (Option Value)}
    {cd_is_row : Value}
    {f_all_choices : Addr} {oc_all_choices kV_all_choices dc_all_choices pm_all_choices ct_all_choices : Value} {od_all_choices an_all_choices : Option Addr} {sl_all_choices : Array (Option Value)}
    {cd_all_choices : Value}
    {f_dot_row : Addr} {oc_dot_row kV_dot_row dc_dot_row pm_dot_row ct_dot_row : Value} {od_dot_row an_dot_row : Option Addr} {sl_dot_row : Array (Option Value)}
    {cd_dot_row : Value}
    {f__do_descend : Addr} {oc__do_descend kV__do_descend dc__do_descend pm__do_descend ct__do_descend : Value} {od__do_descend an__do_descend : Option Addr} {sl__do_descend : Array (Option Value)}
    {cd__do_descend : Value}
    {f_is_parts : Addr} {oc_is_parts kV_is_parts dc_is_parts pm_is_parts ct_is_parts : Value} {od_is_parts an_is_parts : Option Addr} {sl_is_parts : Array (Option Value)}
    {cd_is_parts : Value}
    {f__check_parts : Addr} {oc__check_parts kV__check_parts dc__check_parts pm__check_parts ct__check_parts : Value} {od__check_parts an__check_parts : Option Addr} {sl__check_parts : Array (Option Value)}
    {cd__check_parts : Value}
    {f__check_both : Addr} {oc__check_both kV__check_both dc__check_both pm__check_both ct__check_both : Value} {od__check_both an__check_both : Option Addr} {sl__check_both : Array (Option Value)}
    {cd__check_both : Value}
    {f_total_of : Addr} {oc_total_of kV_total_of dc_total_of pm_total_of ct_total_of : Value} {od_total_of an_total_of : Option Addr} {sl_total_of : Array (Option Value)}
    {cd_total_of : Value}
    {f__conjugate : Addr} {oc__conjugate kV__conjugate dc__conjugate pm__conjugate ct__conjugate : Value} {od__conjugate an__conjugate : Option Addr} {sl__conjugate : Array (Option Value)}
    {cd__conjugate : Value}
    {f_conjugate : Addr} {oc_conjugate kV_conjugate dc_conjugate pm_conjugate ct_conjugate : Value} {od_conjugate an_conjugate : Option Addr} {sl_conjugate : Array (Option Value)}
    {cd_conjugate : Value}
    {f__falling : Addr} {oc__falling kV__falling dc__falling pm__falling ct__falling : Value} {od__falling an__falling : Option Addr} {sl__falling : Array (Option Value)}
    {cd__falling : Value}
    {f_joined_parts : Addr} {oc_joined_parts kV_joined_parts dc_joined_parts pm_joined_parts ct_joined_parts : Value} {od_joined_parts an_joined_parts : Option Addr} {sl_joined_parts : Array (Option Value)}
    {cd_joined_parts : Value}
    {f__parts_to : Addr} {oc__parts_to kV__parts_to dc__parts_to pm__parts_to ct__parts_to : Value} {od__parts_to an__parts_to : Option Addr} {sl__parts_to : Array (Option Value)}
    {cd__parts_to : Value}
    {f_partitions : Addr} {oc_partitions kV_partitions dc_partitions pm_partitions ct_partitions : Value} {od_partitions an_partitions : Option Addr} {sl_partitions : Array (Option Value)}
    {cd_partitions : Value}
    {f_rows_of_parts : Addr} {oc_rows_of_parts kV_rows_of_parts dc_rows_of_parts pm_rows_of_parts ct_rows_of_parts : Value} {od_rows_of_parts an_rows_of_parts : Option Addr} {sl_rows_of_parts : Array (Option Value)}
    {cd_rows_of_parts : Value}
    {f__product_number : Addr} {oc__product_number kV__product_number dc__product_number pm__product_number ct__product_number : Value} {od__product_number an__product_number : Option Addr} {sl__product_number : Array (Option Value)}
    {cd__product_number : Value}
    {f_product_number : Addr} {oc_product_number kV_product_number dc_product_number pm_product_number ct_product_number : Value} {od_product_number an_product_number : Option Addr} {sl_product_number : Array (Option Value)}
    {cd_product_number : Value}
    {f__law_lot : Addr} {oc__law_lot kV__law_lot dc__law_lot pm__law_lot ct__law_lot : Value} {od__law_lot an__law_lot : Option Addr} {sl__law_lot : Array (Option Value)}
    {cd__law_lot : Value}
    {f__law_pull : Addr} {oc__law_pull kV__law_pull dc__law_pull pm__law_pull ct__law_pull : Value} {od__law_pull an__law_pull : Option Addr} {sl__law_pull : Array (Option Value)}
    {cd__law_pull : Value}
    {f__law_one_of : Addr} {oc__law_one_of kV__law_one_of dc__law_one_of pm__law_one_of ct__law_one_of : Value} {od__law_one_of an__law_one_of : Option Addr} {sl__law_one_of : Array (Option Value)}
    {cd__law_one_of : Value}
    {f__law_partitions : Addr} {oc__law_partitions kV__law_partitions dc__law_partitions pm__law_partitions ct__law_partitions : Value} {od__law_partitions an__law_partitions : Option Addr} {sl__law_partitions : Array (Option Value)}
    {cd__law_partitions : Value}
    {f__law_conjugate : Addr} {oc__law_conjugate kV__law_conjugate dc__law_conjugate pm__law_conjugate ct__law_conjugate : Value} {od__law_conjugate an__law_conjugate : Option Addr} {sl__law_conjugate : Array (Option Value)}
    {cd__law_conjugate : Value}
    {f__law_product_number : Addr} {oc__law_product_number kV__law_product_number dc__law_product_number pm__law_product_number ct__law_product_number : Value} {od__law_product_number an__law_product_number : Option Addr} {sl__law_product_number : Array (Option Value)}
    {cd__law_product_number : Value}
    {f__law_pa_drawn : Addr} {oc__law_pa_drawn kV__law_pa_drawn dc__law_pa_drawn pm__law_pa_drawn ct__law_pa_drawn : Value} {od__law_pa_drawn an__law_pa_drawn : Option Addr} {sl__law_pa_drawn : Array (Option Value)}
    {cd__law_pa_drawn : Value}
    {f__law_lists_right : Addr} {oc__law_lists_right kV__law_lists_right dc__law_lists_right pm__law_lists_right ct__law_lists_right : Value} {od__law_lists_right an__law_lists_right : Option Addr} {sl__law_lists_right : Array (Option Value)}
    {cd__law_lists_right : Value}
    {f__law_products_right : Addr} {oc__law_products_right kV__law_products_right dc__law_products_right pm__law_products_right ct__law_products_right : Value} {od__law_products_right an__law_products_right : Option Addr} {sl__law_products_right : Array (Option Value)}
    {cd__law_products_right : Value}
    {f__law_judged : Addr} {oc__law_judged kV__law_judged dc__law_judged pm__law_judged ct__law_judged : Value} {od__law_judged an__law_judged : Option Addr} {sl__law_judged : Array (Option Value)}
    {cd__law_judged : Value}
    {f_law : Addr} {oc_law kV_law dc_law pm_law ct_law : Value} {od_law an_law : Option Addr} {sl_law : Array (Option Value)}
    {cd_law : Value}
    {t__BEYOND_DIGITS : Tok}
    {t__LONGEST_ROW : Tok}
    {t__GREATEST_SIZE : Tok}
    {t_MAX_PARTS : Tok}
    {t_MAX_LISTED : Tok}
    {t_MAX_ROWS : Tok}
    {C_ArrowError : Addr}
    {C_InvalidParts : Addr}
    {C_InvalidSizes : Addr}
    {C_InvalidCount : Addr}
    {I_InvalidCount : Addr} {ioc_InvalidCount ikV_InvalidCount idc_InvalidCount ipm_InvalidCount icd_InvalidCount ict_InvalidCount : Value} {iod_InvalidCount ian_InvalidCount : Option Addr} {isl_InvalidCount : Array (Option Value)}
    {C_TooMany : Addr}
    {I_TooMany : Addr} {ioc_TooMany ikV_TooMany idc_TooMany ipm_TooMany icd_TooMany ict_TooMany : Value} {iod_TooMany ian_TooMany : Option Addr} {isl_TooMany : Array (Option Value)}
    (a_is_integer : PySem.W.nsIn K mainGlobals "is_integer" = some (some (.ref f_is_integer)))
    (l_is_integer : K.lookup f_is_integer = some ⟨oc_is_integer, od_is_integer, .func (PySem.W.fnOf "is_integer" "is_integer" (defArgs s_is_integer) (defBody s_is_integer) (defScope s_is_integer) .none kV_is_integer dc_is_integer pm_is_integer an_is_integer cd_is_integer ct_is_integer), sl_is_integer⟩)
    (c_is_integer : PySem.W.codeIn K cd_is_integer "is_integer" = true)
    (k_is_integer : PySem.W.keepIn K (.ref f_is_integer) = true)
    (a_is_count : PySem.W.nsIn K mainGlobals "is_count" = some (some (.ref f_is_count)))
    (l_is_count : K.lookup f_is_count = some ⟨oc_is_count, od_is_count, .func (PySem.W.fnOf "is_count" "is_count" (defArgs s_is_count) (defBody s_is_count) (defScope s_is_count) .none kV_is_count dc_is_count pm_is_count an_is_count cd_is_count ct_is_count), sl_is_count⟩)
    (c_is_count : PySem.W.codeIn K cd_is_count "is_count" = true)
    (k_is_count : PySem.W.keepIn K (.ref f_is_count) = true)
    (a_check_count : PySem.W.nsIn K mainGlobals "check_count" = some (some (.ref f_check_count)))
    (l_check_count : K.lookup f_check_count = some ⟨oc_check_count, od_check_count, .func (PySem.W.fnOf "check_count" "check_count" (defArgs s_check_count) (defBody s_check_count) (defScope s_check_count) .none kV_check_count dc_check_count pm_check_count an_check_count cd_check_count ct_check_count), sl_check_count⟩)
    (c_check_count : PySem.W.codeIn K cd_check_count "check_count" = true)
    (k_check_count : PySem.W.keepIn K (.ref f_check_count) = true)
    (a_are_counts : PySem.W.nsIn K mainGlobals "are_counts" = some (some (.ref f_are_counts)))
    (l_are_counts : K.lookup f_are_counts = some ⟨oc_are_counts, od_are_counts, .func (PySem.W.fnOf "are_counts" "are_counts" (defArgs s_are_counts) (defBody s_are_counts) (defScope s_are_counts) .none kV_are_counts dc_are_counts pm_are_counts an_are_counts cd_are_counts ct_are_counts), sl_are_counts⟩)
    (c_are_counts : PySem.W.codeIn K cd_are_counts "are_counts" = true)
    (k_are_counts : PySem.W.keepIn K (.ref f_are_counts) = true)
    (a_is_row : PySem.W.nsIn K mainGlobals "is_row" = some (some (.ref f_is_row)))
    (l_is_row : K.lookup f_is_row = some ⟨oc_is_row, od_is_row, .func (PySem.W.fnOf "is_row" "is_row" (defArgs s_is_row) (defBody s_is_row) (defScope s_is_row) .none kV_is_row dc_is_row pm_is_row an_is_row cd_is_row ct_is_row), sl_is_row⟩)
    (c_is_row : PySem.W.codeIn K cd_is_row "is_row" = true)
    (k_is_row : PySem.W.keepIn K (.ref f_is_row) = true)
    (a_all_choices : PySem.W.nsIn K mainGlobals "all_choices" = some (some (.ref f_all_choices)))
    (l_all_choices : K.lookup f_all_choices = some ⟨oc_all_choices, od_all_choices, .func (PySem.W.fnOf "all_choices" "all_choices" (defArgs s_all_choices) (defBody s_all_choices) (defScope s_all_choices) .none kV_all_choices dc_all_choices pm_all_choices an_all_choices cd_all_choices ct_all_choices), sl_all_choices⟩)
    (c_all_choices : PySem.W.codeIn K cd_all_choices "all_choices" = true)
    (k_all_choices : PySem.W.keepIn K (.ref f_all_choices) = true)
    (a_dot_row : PySem.W.nsIn K mainGlobals "dot_row" = some (some (.ref f_dot_row)))
    (l_dot_row : K.lookup f_dot_row = some ⟨oc_dot_row, od_dot_row, .func (PySem.W.fnOf "dot_row" "dot_row" (defArgs s_dot_row) (defBody s_dot_row) (defScope s_dot_row) .none kV_dot_row dc_dot_row pm_dot_row an_dot_row cd_dot_row ct_dot_row), sl_dot_row⟩)
    (c_dot_row : PySem.W.codeIn K cd_dot_row "dot_row" = true)
    (k_dot_row : PySem.W.keepIn K (.ref f_dot_row) = true)
    (a__do_descend : PySem.W.nsIn K mainGlobals "_do_descend" = some (some (.ref f__do_descend)))
    (l__do_descend : K.lookup f__do_descend = some ⟨oc__do_descend, od__do_descend, .func (PySem.W.fnOf "_do_descend" "_do_descend" (defArgs s__do_descend) (defBody s__do_descend) (defScope s__do_descend) .none kV__do_descend dc__do_descend pm__do_descend an__do_descend cd__do_descend ct__do_descend), sl__do_descend⟩)
    (c__do_descend : PySem.W.codeIn K cd__do_descend "_do_descend" = true)
    (k__do_descend : PySem.W.keepIn K (.ref f__do_descend) = true)
    (a_is_parts : PySem.W.nsIn K mainGlobals "is_parts" = some (some (.ref f_is_parts)))
    (l_is_parts : K.lookup f_is_parts = some ⟨oc_is_parts, od_is_parts, .func (PySem.W.fnOf "is_parts" "is_parts" (defArgs s_is_parts) (defBody s_is_parts) (defScope s_is_parts) .none kV_is_parts dc_is_parts pm_is_parts an_is_parts cd_is_parts ct_is_parts), sl_is_parts⟩)
    (c_is_parts : PySem.W.codeIn K cd_is_parts "is_parts" = true)
    (k_is_parts : PySem.W.keepIn K (.ref f_is_parts) = true)
    (a__check_parts : PySem.W.nsIn K mainGlobals "_check_parts" = some (some (.ref f__check_parts)))
    (l__check_parts : K.lookup f__check_parts = some ⟨oc__check_parts, od__check_parts, .func (PySem.W.fnOf "_check_parts" "_check_parts" (defArgs s__check_parts) (defBody s__check_parts) (defScope s__check_parts) .none kV__check_parts dc__check_parts pm__check_parts an__check_parts cd__check_parts ct__check_parts), sl__check_parts⟩)
    (c__check_parts : PySem.W.codeIn K cd__check_parts "_check_parts" = true)
    (k__check_parts : PySem.W.keepIn K (.ref f__check_parts) = true)
    (a__check_both : PySem.W.nsIn K mainGlobals "_check_both" = some (some (.ref f__check_both)))
    (l__check_both : K.lookup f__check_both = some ⟨oc__check_both, od__check_both, .func (PySem.W.fnOf "_check_both" "_check_both" (defArgs s__check_both) (defBody s__check_both) (defScope s__check_both) .none kV__check_both dc__check_both pm__check_both an__check_both cd__check_both ct__check_both), sl__check_both⟩)
    (c__check_both : PySem.W.codeIn K cd__check_both "_check_both" = true)
    (k__check_both : PySem.W.keepIn K (.ref f__check_both) = true)
    (a_total_of : PySem.W.nsIn K mainGlobals "total_of" = some (some (.ref f_total_of)))
    (l_total_of : K.lookup f_total_of = some ⟨oc_total_of, od_total_of, .func (PySem.W.fnOf "total_of" "total_of" (defArgs s_total_of) (defBody s_total_of) (defScope s_total_of) .none kV_total_of dc_total_of pm_total_of an_total_of cd_total_of ct_total_of), sl_total_of⟩)
    (c_total_of : PySem.W.codeIn K cd_total_of "total_of" = true)
    (k_total_of : PySem.W.keepIn K (.ref f_total_of) = true)
    (a__conjugate : PySem.W.nsIn K mainGlobals "_conjugate" = some (some (.ref f__conjugate)))
    (l__conjugate : K.lookup f__conjugate = some ⟨oc__conjugate, od__conjugate, .func (PySem.W.fnOf "_conjugate" "_conjugate" (defArgs s__conjugate) (defBody s__conjugate) (defScope s__conjugate) .none kV__conjugate dc__conjugate pm__conjugate an__conjugate cd__conjugate ct__conjugate), sl__conjugate⟩)
    (c__conjugate : PySem.W.codeIn K cd__conjugate "_conjugate" = true)
    (k__conjugate : PySem.W.keepIn K (.ref f__conjugate) = true)
    (a_conjugate : PySem.W.nsIn K mainGlobals "conjugate" = some (some (.ref f_conjugate)))
    (l_conjugate : K.lookup f_conjugate = some ⟨oc_conjugate, od_conjugate, .func (PySem.W.fnOf "conjugate" "conjugate" (defArgs s_conjugate) (defBody s_conjugate) (defScope s_conjugate) .none kV_conjugate dc_conjugate pm_conjugate an_conjugate cd_conjugate ct_conjugate), sl_conjugate⟩)
    (c_conjugate : PySem.W.codeIn K cd_conjugate "conjugate" = true)
    (k_conjugate : PySem.W.keepIn K (.ref f_conjugate) = true)
    (a__falling : PySem.W.nsIn K mainGlobals "_falling" = some (some (.ref f__falling)))
    (l__falling : K.lookup f__falling = some ⟨oc__falling, od__falling, .func (PySem.W.fnOf "_falling" "_falling" (defArgs s__falling) (defBody s__falling) (defScope s__falling) .none kV__falling dc__falling pm__falling an__falling cd__falling ct__falling), sl__falling⟩)
    (c__falling : PySem.W.codeIn K cd__falling "_falling" = true)
    (k__falling : PySem.W.keepIn K (.ref f__falling) = true)
    (a_joined_parts : PySem.W.nsIn K mainGlobals "joined_parts" = some (some (.ref f_joined_parts)))
    (l_joined_parts : K.lookup f_joined_parts = some ⟨oc_joined_parts, od_joined_parts, .func (PySem.W.fnOf "joined_parts" "joined_parts" (defArgs s_joined_parts) (defBody s_joined_parts) (defScope s_joined_parts) .none kV_joined_parts dc_joined_parts pm_joined_parts an_joined_parts cd_joined_parts ct_joined_parts), sl_joined_parts⟩)
    (c_joined_parts : PySem.W.codeIn K cd_joined_parts "joined_parts" = true)
    (k_joined_parts : PySem.W.keepIn K (.ref f_joined_parts) = true)
    (a__parts_to : PySem.W.nsIn K mainGlobals "_parts_to" = some (some (.ref f__parts_to)))
    (l__parts_to : K.lookup f__parts_to = some ⟨oc__parts_to, od__parts_to, .func (PySem.W.fnOf "_parts_to" "_parts_to" (defArgs s__parts_to) (defBody s__parts_to) (defScope s__parts_to) .none kV__parts_to dc__parts_to pm__parts_to an__parts_to cd__parts_to ct__parts_to), sl__parts_to⟩)
    (c__parts_to : PySem.W.codeIn K cd__parts_to "_parts_to" = true)
    (k__parts_to : PySem.W.keepIn K (.ref f__parts_to) = true)
    (a_partitions : PySem.W.nsIn K mainGlobals "partitions" = some (some (.ref f_partitions)))
    (l_partitions : K.lookup f_partitions = some ⟨oc_partitions, od_partitions, .func (PySem.W.fnOf "partitions" "partitions" (defArgs s_partitions) (defBody s_partitions) (defScope s_partitions) .none kV_partitions dc_partitions pm_partitions an_partitions cd_partitions ct_partitions), sl_partitions⟩)
    (c_partitions : PySem.W.codeIn K cd_partitions "partitions" = true)
    (k_partitions : PySem.W.keepIn K (.ref f_partitions) = true)
    (a_rows_of_parts : PySem.W.nsIn K mainGlobals "rows_of_parts" = some (some (.ref f_rows_of_parts)))
    (l_rows_of_parts : K.lookup f_rows_of_parts = some ⟨oc_rows_of_parts, od_rows_of_parts, .func (PySem.W.fnOf "rows_of_parts" "rows_of_parts" (defArgs s_rows_of_parts) (defBody s_rows_of_parts) (defScope s_rows_of_parts) .none kV_rows_of_parts dc_rows_of_parts pm_rows_of_parts an_rows_of_parts cd_rows_of_parts ct_rows_of_parts), sl_rows_of_parts⟩)
    (c_rows_of_parts : PySem.W.codeIn K cd_rows_of_parts "rows_of_parts" = true)
    (k_rows_of_parts : PySem.W.keepIn K (.ref f_rows_of_parts) = true)
    (a__product_number : PySem.W.nsIn K mainGlobals "_product_number" = some (some (.ref f__product_number)))
    (l__product_number : K.lookup f__product_number = some ⟨oc__product_number, od__product_number, .func (PySem.W.fnOf "_product_number" "_product_number" (defArgs s__product_number) (defBody s__product_number) (defScope s__product_number) .none kV__product_number dc__product_number pm__product_number an__product_number cd__product_number ct__product_number), sl__product_number⟩)
    (c__product_number : PySem.W.codeIn K cd__product_number "_product_number" = true)
    (k__product_number : PySem.W.keepIn K (.ref f__product_number) = true)
    (a_product_number : PySem.W.nsIn K mainGlobals "product_number" = some (some (.ref f_product_number)))
    (l_product_number : K.lookup f_product_number = some ⟨oc_product_number, od_product_number, .func (PySem.W.fnOf "product_number" "product_number" (defArgs s_product_number) (defBody s_product_number) (defScope s_product_number) .none kV_product_number dc_product_number pm_product_number an_product_number cd_product_number ct_product_number), sl_product_number⟩)
    (c_product_number : PySem.W.codeIn K cd_product_number "product_number" = true)
    (k_product_number : PySem.W.keepIn K (.ref f_product_number) = true)
    (a__law_lot : PySem.W.nsIn K mainGlobals "_law_lot" = some (some (.ref f__law_lot)))
    (l__law_lot : K.lookup f__law_lot = some ⟨oc__law_lot, od__law_lot, .func (PySem.W.fnOf "_law_lot" "_law_lot" (defArgs s__law_lot) (defBody s__law_lot) (defScope s__law_lot) .none kV__law_lot dc__law_lot pm__law_lot an__law_lot cd__law_lot ct__law_lot), sl__law_lot⟩)
    (c__law_lot : PySem.W.codeIn K cd__law_lot "_law_lot" = true)
    (k__law_lot : PySem.W.keepIn K (.ref f__law_lot) = true)
    (a__law_pull : PySem.W.nsIn K mainGlobals "_law_pull" = some (some (.ref f__law_pull)))
    (l__law_pull : K.lookup f__law_pull = some ⟨oc__law_pull, od__law_pull, .func (PySem.W.fnOf "_law_pull" "_law_pull" (defArgs s__law_pull) (defBody s__law_pull) (defScope s__law_pull) .none kV__law_pull dc__law_pull pm__law_pull an__law_pull cd__law_pull ct__law_pull), sl__law_pull⟩)
    (c__law_pull : PySem.W.codeIn K cd__law_pull "_law_pull" = true)
    (k__law_pull : PySem.W.keepIn K (.ref f__law_pull) = true)
    (a__law_one_of : PySem.W.nsIn K mainGlobals "_law_one_of" = some (some (.ref f__law_one_of)))
    (l__law_one_of : K.lookup f__law_one_of = some ⟨oc__law_one_of, od__law_one_of, .func (PySem.W.fnOf "_law_one_of" "_law_one_of" (defArgs s__law_one_of) (defBody s__law_one_of) (defScope s__law_one_of) .none kV__law_one_of dc__law_one_of pm__law_one_of an__law_one_of cd__law_one_of ct__law_one_of), sl__law_one_of⟩)
    (c__law_one_of : PySem.W.codeIn K cd__law_one_of "_law_one_of" = true)
    (k__law_one_of : PySem.W.keepIn K (.ref f__law_one_of) = true)
    (a__law_partitions : PySem.W.nsIn K mainGlobals "_law_partitions" = some (some (.ref f__law_partitions)))
    (l__law_partitions : K.lookup f__law_partitions = some ⟨oc__law_partitions, od__law_partitions, .func (PySem.W.fnOf "_law_partitions" "_law_partitions" (defArgs s__law_partitions) (defBody s__law_partitions) (defScope s__law_partitions) .none kV__law_partitions dc__law_partitions pm__law_partitions an__law_partitions cd__law_partitions ct__law_partitions), sl__law_partitions⟩)
    (c__law_partitions : PySem.W.codeIn K cd__law_partitions "_law_partitions" = true)
    (k__law_partitions : PySem.W.keepIn K (.ref f__law_partitions) = true)
    (a__law_conjugate : PySem.W.nsIn K mainGlobals "_law_conjugate" = some (some (.ref f__law_conjugate)))
    (l__law_conjugate : K.lookup f__law_conjugate = some ⟨oc__law_conjugate, od__law_conjugate, .func (PySem.W.fnOf "_law_conjugate" "_law_conjugate" (defArgs s__law_conjugate) (defBody s__law_conjugate) (defScope s__law_conjugate) .none kV__law_conjugate dc__law_conjugate pm__law_conjugate an__law_conjugate cd__law_conjugate ct__law_conjugate), sl__law_conjugate⟩)
    (c__law_conjugate : PySem.W.codeIn K cd__law_conjugate "_law_conjugate" = true)
    (k__law_conjugate : PySem.W.keepIn K (.ref f__law_conjugate) = true)
    (a__law_product_number : PySem.W.nsIn K mainGlobals "_law_product_number" = some (some (.ref f__law_product_number)))
    (l__law_product_number : K.lookup f__law_product_number = some ⟨oc__law_product_number, od__law_product_number, .func (PySem.W.fnOf "_law_product_number" "_law_product_number" (defArgs s__law_product_number) (defBody s__law_product_number) (defScope s__law_product_number) .none kV__law_product_number dc__law_product_number pm__law_product_number an__law_product_number cd__law_product_number ct__law_product_number), sl__law_product_number⟩)
    (c__law_product_number : PySem.W.codeIn K cd__law_product_number "_law_product_number" = true)
    (k__law_product_number : PySem.W.keepIn K (.ref f__law_product_number) = true)
    (a__law_pa_drawn : PySem.W.nsIn K mainGlobals "_law_pa_drawn" = some (some (.ref f__law_pa_drawn)))
    (l__law_pa_drawn : K.lookup f__law_pa_drawn = some ⟨oc__law_pa_drawn, od__law_pa_drawn, .func (PySem.W.fnOf "_law_pa_drawn" "_law_pa_drawn" (defArgs s__law_pa_drawn) (defBody s__law_pa_drawn) (defScope s__law_pa_drawn) .none kV__law_pa_drawn dc__law_pa_drawn pm__law_pa_drawn an__law_pa_drawn cd__law_pa_drawn ct__law_pa_drawn), sl__law_pa_drawn⟩)
    (c__law_pa_drawn : PySem.W.codeIn K cd__law_pa_drawn "_law_pa_drawn" = true)
    (k__law_pa_drawn : PySem.W.keepIn K (.ref f__law_pa_drawn) = true)
    (a__law_lists_right : PySem.W.nsIn K mainGlobals "_law_lists_right" = some (some (.ref f__law_lists_right)))
    (l__law_lists_right : K.lookup f__law_lists_right = some ⟨oc__law_lists_right, od__law_lists_right, .func (PySem.W.fnOf "_law_lists_right" "_law_lists_right" (defArgs s__law_lists_right) (defBody s__law_lists_right) (defScope s__law_lists_right) .none kV__law_lists_right dc__law_lists_right pm__law_lists_right an__law_lists_right cd__law_lists_right ct__law_lists_right), sl__law_lists_right⟩)
    (c__law_lists_right : PySem.W.codeIn K cd__law_lists_right "_law_lists_right" = true)
    (k__law_lists_right : PySem.W.keepIn K (.ref f__law_lists_right) = true)
    (a__law_products_right : PySem.W.nsIn K mainGlobals "_law_products_right" = some (some (.ref f__law_products_right)))
    (l__law_products_right : K.lookup f__law_products_right = some ⟨oc__law_products_right, od__law_products_right, .func (PySem.W.fnOf "_law_products_right" "_law_products_right" (defArgs s__law_products_right) (defBody s__law_products_right) (defScope s__law_products_right) .none kV__law_products_right dc__law_products_right pm__law_products_right an__law_products_right cd__law_products_right ct__law_products_right), sl__law_products_right⟩)
    (c__law_products_right : PySem.W.codeIn K cd__law_products_right "_law_products_right" = true)
    (k__law_products_right : PySem.W.keepIn K (.ref f__law_products_right) = true)
    (a__law_judged : PySem.W.nsIn K mainGlobals "_law_judged" = some (some (.ref f__law_judged)))
    (l__law_judged : K.lookup f__law_judged = some ⟨oc__law_judged, od__law_judged, .func (PySem.W.fnOf "_law_judged" "_law_judged" (defArgs s__law_judged) (defBody s__law_judged) (defScope s__law_judged) .none kV__law_judged dc__law_judged pm__law_judged an__law_judged cd__law_judged ct__law_judged), sl__law_judged⟩)
    (c__law_judged : PySem.W.codeIn K cd__law_judged "_law_judged" = true)
    (k__law_judged : PySem.W.keepIn K (.ref f__law_judged) = true)
    (a_law : PySem.W.nsIn K mainGlobals "law" = some (some (.ref f_law)))
    (l_law : K.lookup f_law = some ⟨oc_law, od_law, .func (PySem.W.fnOf "law" "law" (defArgs s_law) (defBody s_law) (defScope s_law) .none kV_law dc_law pm_law an_law cd_law ct_law), sl_law⟩)
    (c_law : PySem.W.codeIn K cd_law "law" = true)
    (k_law : PySem.W.keepIn K (.ref f_law) = true)
    (z_abs : PySem.W.nsIn K mainGlobals "abs" = some none)
    (z_all : PySem.W.nsIn K mainGlobals "all" = some none)
    (z_bool : PySem.W.nsIn K mainGlobals "bool" = some none)
    (z_int : PySem.W.nsIn K mainGlobals "int" = some none)
    (z_isinstance : PySem.W.nsIn K mainGlobals "isinstance" = some none)
    (z_len : PySem.W.nsIn K mainGlobals "len" = some none)
    (z_list : PySem.W.nsIn K mainGlobals "list" = some none)
    (z_max : PySem.W.nsIn K mainGlobals "max" = some none)
    (z_min : PySem.W.nsIn K mainGlobals "min" = some none)
    (z_range : PySem.W.nsIn K mainGlobals "range" = some none)
    (z_repr : PySem.W.nsIn K mainGlobals "repr" = some none)
    (z_sorted : PySem.W.nsIn K mainGlobals "sorted" = some none)
    (z_sum : PySem.W.nsIn K mainGlobals "sum" = some none)
    (z_tuple : PySem.W.nsIn K mainGlobals "tuple" = some none)
    (z_zip : PySem.W.nsIn K mainGlobals "zip" = some none)
    (v__BEYOND_DIGITS : PySem.W.nsIn K mainGlobals "_BEYOND_DIGITS" = some (some (.int (1000000000000000000000000000000000000000000000000000000000000) t__BEYOND_DIGITS)))
    (v__LONGEST_ROW : PySem.W.nsIn K mainGlobals "_LONGEST_ROW" = some (some (.int (6) t__LONGEST_ROW)))
    (v__GREATEST_SIZE : PySem.W.nsIn K mainGlobals "_GREATEST_SIZE" = some (some (.int (6) t__GREATEST_SIZE)))
    (v_MAX_PARTS : PySem.W.nsIn K mainGlobals "MAX_PARTS" = some (some (.int (24) t_MAX_PARTS)))
    (v_MAX_LISTED : PySem.W.nsIn K mainGlobals "MAX_LISTED" = some (some (.int (18) t_MAX_LISTED)))
    (v_MAX_ROWS : PySem.W.nsIn K mainGlobals "MAX_ROWS" = some (some (.int (3000) t_MAX_ROWS)))
    (n_ArrowError : PySem.W.nsIn K mainGlobals "ArrowError" = some (some (.ref C_ArrowError)))
    (kp_ArrowError : PySem.W.keepIn K (.ref C_ArrowError) = true)
    (sb_ArrowError : PySem.W.subIn K (.ref C_ArrowError) (.type "BaseException") = some true)
    (ty_ArrowError : PySem.W.typeIn K (.ref C_ArrowError) = some (.type "type"))
    (ex_ArrowError : PySem.W.excIn K C_ArrowError lineValue "ValueError.__new__" = true)
    (n_InvalidParts : PySem.W.nsIn K mainGlobals "InvalidParts" = some (some (.ref C_InvalidParts)))
    (kp_InvalidParts : PySem.W.keepIn K (.ref C_InvalidParts) = true)
    (sb_InvalidParts : PySem.W.subIn K (.ref C_InvalidParts) (.type "BaseException") = some true)
    (ty_InvalidParts : PySem.W.typeIn K (.ref C_InvalidParts) = some (.type "type"))
    (ex_InvalidParts : PySem.W.excIn K C_InvalidParts lineValue "ValueError.__new__" = true)
    (n_InvalidSizes : PySem.W.nsIn K mainGlobals "InvalidSizes" = some (some (.ref C_InvalidSizes)))
    (kp_InvalidSizes : PySem.W.keepIn K (.ref C_InvalidSizes) = true)
    (sb_InvalidSizes : PySem.W.subIn K (.ref C_InvalidSizes) (.type "BaseException") = some true)
    (ty_InvalidSizes : PySem.W.typeIn K (.ref C_InvalidSizes) = some (.type "type"))
    (ex_InvalidSizes : PySem.W.excIn K C_InvalidSizes lineValue "ValueError.__new__" = true)
    (n_InvalidCount : PySem.W.nsIn K mainGlobals "InvalidCount" = some (some (.ref C_InvalidCount)))
    (kp_InvalidCount : PySem.W.keepIn K (.ref C_InvalidCount) = true)
    (sb_InvalidCount : PySem.W.subIn K (.ref C_InvalidCount) (.type "BaseException") = some true)
    (ty_InvalidCount : PySem.W.typeIn K (.ref C_InvalidCount) = some (.type "type"))
    (mk_InvalidCount : PySem.W.excInitIn K C_InvalidCount lineIndex "IndexError.__new__" = true)
    (ov_InvalidCount : PySem.W.excOver K C_InvalidCount lineIndex = true)
    (hd_InvalidCount : PySem.W.hasDictIn K C_InvalidCount = true)
    (sa_InvalidCount : PySem.W.findIn K (.ref C_InvalidCount) "__setattr__" = some (some (.builtin "object.__setattr__")))
    (in_InvalidCount : PySem.W.findIn K (.ref C_InvalidCount) "__init__" = some (some (.ref I_InvalidCount)))
    (it_InvalidCount : PySem.W.typeIn K (.ref I_InvalidCount) = some (.type "function"))
    (tk_InvalidCount : PySem.W.takerIn K C_InvalidCount "value" = some none)
    (no_InvalidCount : PySem.W.findIn K (.ref C_InvalidCount) "value" = some none)
    (ga_InvalidCount : PySem.W.findIn K (.ref C_InvalidCount) "__getattribute__" = some (some (.builtin "BaseException.__getattribute__")))
    (gg_InvalidCount : PySem.W.findIn K (.ref C_InvalidCount) "__getattr__" = some none)
    (il_InvalidCount : K.lookup I_InvalidCount = some ⟨ioc_InvalidCount, iod_InvalidCount, .func (PySem.W.fnOf "__init__" "InvalidCount.__init__" (defArgs i_InvalidCount) (defBody i_InvalidCount) (defScope i_InvalidCount) .none ikV_InvalidCount idc_InvalidCount ipm_InvalidCount ian_InvalidCount icd_InvalidCount ict_InvalidCount), isl_InvalidCount⟩)
    (ic_InvalidCount : PySem.W.codeIn K icd_InvalidCount "InvalidCount.__init__" = true)
    (ik_InvalidCount : PySem.W.keepIn K (.ref I_InvalidCount) = true)
    (n_TooMany : PySem.W.nsIn K mainGlobals "TooMany" = some (some (.ref C_TooMany)))
    (kp_TooMany : PySem.W.keepIn K (.ref C_TooMany) = true)
    (sb_TooMany : PySem.W.subIn K (.ref C_TooMany) (.type "BaseException") = some true)
    (ty_TooMany : PySem.W.typeIn K (.ref C_TooMany) = some (.type "type"))
    (mk_TooMany : PySem.W.excInitIn K C_TooMany lineOverflow "OverflowError.__new__" = true)
    (ov_TooMany : PySem.W.excOver K C_TooMany lineOverflow = true)
    (hd_TooMany : PySem.W.hasDictIn K C_TooMany = true)
    (sa_TooMany : PySem.W.findIn K (.ref C_TooMany) "__setattr__" = some (some (.builtin "object.__setattr__")))
    (in_TooMany : PySem.W.findIn K (.ref C_TooMany) "__init__" = some (some (.ref I_TooMany)))
    (it_TooMany : PySem.W.typeIn K (.ref I_TooMany) = some (.type "function"))
    (tk_TooMany : PySem.W.takerIn K C_TooMany "limit" = some none)
    (no_TooMany : PySem.W.findIn K (.ref C_TooMany) "limit" = some none)
    (ga_TooMany : PySem.W.findIn K (.ref C_TooMany) "__getattribute__" = some (some (.builtin "BaseException.__getattribute__")))
    (gg_TooMany : PySem.W.findIn K (.ref C_TooMany) "__getattr__" = some none)
    (il_TooMany : K.lookup I_TooMany = some ⟨ioc_TooMany, iod_TooMany, .func (PySem.W.fnOf "__init__" "TooMany.__init__" (defArgs i_TooMany) (defBody i_TooMany) (defScope i_TooMany) .none ikV_TooMany idc_TooMany ipm_TooMany ian_TooMany icd_TooMany ict_TooMany), isl_TooMany⟩)
    (ic_TooMany : PySem.W.codeIn K icd_TooMany "TooMany.__init__" = true)
    (ik_TooMany : PySem.W.keepIn K (.ref I_TooMany) = true) :
    ∃ (G : Gm) (cs : List (Addr × Addr)), G.K.In h ∧ (∀ p ∈ cs, h.get? p.2 = some { cls := .none, data := .fields #[] }) ∧ (∀ p ∈ cs, G.K.lookup p.2 = none) ∧ (∀ p ∈ cs, PySem.W.CodeHd h p.1 p.2) ∧ (∀ p ∈ G.tab, p.1 ∈ cs.map (·.2)) ∧
      ∀ base : Heap, G.K.In base → base.Ns mainGlobals mg → (∀ p ∈ cs, LamX.TabB base mg p.1 p.2) → Fn1 P w G mg base "law" 24 true m_law := by
  have mg_ArrowError := PySem.W.mg_of X Gn n_ArrowError
  have mg_InvalidParts := PySem.W.mg_of X Gn n_InvalidParts
  have mg_InvalidSizes := PySem.W.mg_of X Gn n_InvalidSizes
  have mg_InvalidCount := PySem.W.mg_of X Gn n_InvalidCount
  have mg_TooMany := PySem.W.mg_of X Gn n_TooMany
  refine ⟨(gm K C_ArrowError C_InvalidParts C_InvalidSizes C_InvalidCount C_TooMany []), [], X, ?_, ?_, ?_, ?_, fun base hb _ hT => ?_⟩
  · intro p hp
    simp only [List.mem_cons, List.mem_nil_iff, or_false, List.not_mem_nil] at hp
    
  · intro p hp
    simp only [List.mem_cons, List.mem_nil_iff, or_false, List.not_mem_nil] at hp
    
  · intro p hp
    simp only [List.mem_cons, List.mem_nil_iff, or_false, List.not_mem_nil] at hp
    
  · intro p hp
    simp only [gm, List.mem_cons, List.mem_nil_iff, or_false, List.not_mem_nil] at hp
    
  have T : Top P w (gm K C_ArrowError C_InvalidParts C_InvalidSizes C_InvalidCount C_TooMany []) mg base := {
    n_abs := PySem.W.mg_none_of X Gn z_abs
    n_all := PySem.W.mg_none_of X Gn z_all
    n_bool := PySem.W.mg_none_of X Gn z_bool
    n_int := PySem.W.mg_none_of X Gn z_int
    n_isinstance := PySem.W.mg_none_of X Gn z_isinstance
    n_len := PySem.W.mg_none_of X Gn z_len
    n_list := PySem.W.mg_none_of X Gn z_list
    n_max := PySem.W.mg_none_of X Gn z_max
    n_min := PySem.W.mg_none_of X Gn z_min
    n_range := PySem.W.mg_none_of X Gn z_range
    n_repr := PySem.W.mg_none_of X Gn z_repr
    n_sorted := PySem.W.mg_none_of X Gn z_sorted
    n_sum := PySem.W.mg_none_of X Gn z_sum
    n_tuple := PySem.W.mg_none_of X Gn z_tuple
    n_zip := PySem.W.mg_none_of X Gn z_zip
    c__BEYOND_DIGITS := ⟨_, PySem.W.mg_of X Gn v__BEYOND_DIGITS⟩
    c__LONGEST_ROW := ⟨_, PySem.W.mg_of X Gn v__LONGEST_ROW⟩
    c__GREATEST_SIZE := ⟨_, PySem.W.mg_of X Gn v__GREATEST_SIZE⟩
    c_MAX_PARTS := ⟨_, PySem.W.mg_of X Gn v_MAX_PARTS⟩
    c_MAX_LISTED := ⟨_, PySem.W.mg_of X Gn v_MAX_LISTED⟩
    c_MAX_ROWS := ⟨_, PySem.W.mg_of X Gn v_MAX_ROWS⟩
    x_ArrowError := ⟨⟨_, _, _, _, baseValue.F, ex_ArrowError, mg_ArrowError, kp_ArrowError, sb_ArrowError, ty_ArrowError⟩⟩
    x_InvalidParts := ⟨⟨_, _, _, _, baseValue.F, ex_InvalidParts, mg_InvalidParts, kp_InvalidParts, sb_InvalidParts, ty_InvalidParts⟩⟩
    x_InvalidSizes := ⟨⟨_, _, _, _, baseValue.F, ex_InvalidSizes, mg_InvalidSizes, kp_InvalidSizes, sb_InvalidSizes, ty_InvalidSizes⟩⟩
    f_InvalidCount := ⟨⟨ga_InvalidCount, gg_InvalidCount, sb_InvalidCount, hd_InvalidCount⟩, no_InvalidCount⟩
    x_InvalidCount := ⟨⟨_, _, _, _, I_InvalidCount, _, ["self", "value"], baseIndex, ⟨mk_InvalidCount, ov_InvalidCount, hd_InvalidCount, sa_InvalidCount, sb_InvalidCount, ty_InvalidCount, kp_InvalidCount⟩, mg_InvalidCount, in_InvalidCount, it_InvalidCount, tk_InvalidCount, init_ok (k := 0) (f := "value") baseIndex (fun_mk (st := i_InvalidCount) il_InvalidCount ic_InvalidCount ik_InvalidCount) ⟨rfl, rfl, rfl, by decide +kernel, rfl, by decide +kernel, by decide +kernel⟩ rfl (Or.inl rfl) (Or.inl rfl), (fun_mk (st := i_InvalidCount) il_InvalidCount ic_InvalidCount ik_InvalidCount).binds (ps := ["self", "value"]) fun _ _ _ _ _ _ us hl => match us, hl with | [_, _], _ => rfl⟩⟩
    f_TooMany := ⟨⟨ga_TooMany, gg_TooMany, sb_TooMany, hd_TooMany⟩, no_TooMany⟩
    x_TooMany := ⟨⟨_, _, _, _, I_TooMany, _, ["self", "limit"], baseOverflow, ⟨mk_TooMany, ov_TooMany, hd_TooMany, sa_TooMany, sb_TooMany, ty_TooMany, kp_TooMany⟩, mg_TooMany, in_TooMany, it_TooMany, tk_TooMany, init_ok (k := 0) (f := "limit") baseOverflow (fun_mk (st := i_TooMany) il_TooMany ic_TooMany ik_TooMany) ⟨rfl, rfl, rfl, by decide +kernel, rfl, by decide +kernel, by decide +kernel⟩ rfl (Or.inl rfl) (Or.inl rfl), (fun_mk (st := i_TooMany) il_TooMany ic_TooMany ik_TooMany).binds (ps := ["self", "limit"]) fun _ _ _ _ _ _ us hl => match us, hl with | [_, _], _ => rfl⟩⟩
  }
  have R_is_integer : Raw K mg "is_integer" s_is_integer := ⟨⟨_, _, PySem.W.mg_of X Gn a_is_integer, fun_mk (st := s_is_integer) l_is_integer c_is_integer k_is_integer⟩⟩
  have R_is_count : Raw K mg "is_count" s_is_count := ⟨⟨_, _, PySem.W.mg_of X Gn a_is_count, fun_mk (st := s_is_count) l_is_count c_is_count k_is_count⟩⟩
  have R_check_count : Raw K mg "check_count" s_check_count := ⟨⟨_, _, PySem.W.mg_of X Gn a_check_count, fun_mk (st := s_check_count) l_check_count c_check_count k_check_count⟩⟩
  have R_are_counts : Raw K mg "are_counts" s_are_counts := ⟨⟨_, _, PySem.W.mg_of X Gn a_are_counts, fun_mk (st := s_are_counts) l_are_counts c_are_counts k_are_counts⟩⟩
  have R_is_row : Raw K mg "is_row" s_is_row := ⟨⟨_, _, PySem.W.mg_of X Gn a_is_row, fun_mk (st := s_is_row) l_is_row c_is_row k_is_row⟩⟩
  have R_all_choices : Raw K mg "all_choices" s_all_choices := ⟨⟨_, _, PySem.W.mg_of X Gn a_all_choices, fun_mk (st := s_all_choices) l_all_choices c_all_choices k_all_choices⟩⟩
  have R_dot_row : Raw K mg "dot_row" s_dot_row := ⟨⟨_, _, PySem.W.mg_of X Gn a_dot_row, fun_mk (st := s_dot_row) l_dot_row c_dot_row k_dot_row⟩⟩
  have R__do_descend : Raw K mg "_do_descend" s__do_descend := ⟨⟨_, _, PySem.W.mg_of X Gn a__do_descend, fun_mk (st := s__do_descend) l__do_descend c__do_descend k__do_descend⟩⟩
  have R_is_parts : Raw K mg "is_parts" s_is_parts := ⟨⟨_, _, PySem.W.mg_of X Gn a_is_parts, fun_mk (st := s_is_parts) l_is_parts c_is_parts k_is_parts⟩⟩
  have R__check_parts : Raw K mg "_check_parts" s__check_parts := ⟨⟨_, _, PySem.W.mg_of X Gn a__check_parts, fun_mk (st := s__check_parts) l__check_parts c__check_parts k__check_parts⟩⟩
  have R__check_both : Raw K mg "_check_both" s__check_both := ⟨⟨_, _, PySem.W.mg_of X Gn a__check_both, fun_mk (st := s__check_both) l__check_both c__check_both k__check_both⟩⟩
  have R_total_of : Raw K mg "total_of" s_total_of := ⟨⟨_, _, PySem.W.mg_of X Gn a_total_of, fun_mk (st := s_total_of) l_total_of c_total_of k_total_of⟩⟩
  have R__conjugate : Raw K mg "_conjugate" s__conjugate := ⟨⟨_, _, PySem.W.mg_of X Gn a__conjugate, fun_mk (st := s__conjugate) l__conjugate c__conjugate k__conjugate⟩⟩
  have R_conjugate : Raw K mg "conjugate" s_conjugate := ⟨⟨_, _, PySem.W.mg_of X Gn a_conjugate, fun_mk (st := s_conjugate) l_conjugate c_conjugate k_conjugate⟩⟩
  have R__falling : Raw K mg "_falling" s__falling := ⟨⟨_, _, PySem.W.mg_of X Gn a__falling, fun_mk (st := s__falling) l__falling c__falling k__falling⟩⟩
  have R_joined_parts : Raw K mg "joined_parts" s_joined_parts := ⟨⟨_, _, PySem.W.mg_of X Gn a_joined_parts, fun_mk (st := s_joined_parts) l_joined_parts c_joined_parts k_joined_parts⟩⟩
  have R__parts_to : Raw K mg "_parts_to" s__parts_to := ⟨⟨_, _, PySem.W.mg_of X Gn a__parts_to, fun_mk (st := s__parts_to) l__parts_to c__parts_to k__parts_to⟩⟩
  have R_partitions : Raw K mg "partitions" s_partitions := ⟨⟨_, _, PySem.W.mg_of X Gn a_partitions, fun_mk (st := s_partitions) l_partitions c_partitions k_partitions⟩⟩
  have R_rows_of_parts : Raw K mg "rows_of_parts" s_rows_of_parts := ⟨⟨_, _, PySem.W.mg_of X Gn a_rows_of_parts, fun_mk (st := s_rows_of_parts) l_rows_of_parts c_rows_of_parts k_rows_of_parts⟩⟩
  have R__product_number : Raw K mg "_product_number" s__product_number := ⟨⟨_, _, PySem.W.mg_of X Gn a__product_number, fun_mk (st := s__product_number) l__product_number c__product_number k__product_number⟩⟩
  have R_product_number : Raw K mg "product_number" s_product_number := ⟨⟨_, _, PySem.W.mg_of X Gn a_product_number, fun_mk (st := s_product_number) l_product_number c_product_number k_product_number⟩⟩
  have R__law_lot : Raw K mg "_law_lot" s__law_lot := ⟨⟨_, _, PySem.W.mg_of X Gn a__law_lot, fun_mk (st := s__law_lot) l__law_lot c__law_lot k__law_lot⟩⟩
  have R__law_pull : Raw K mg "_law_pull" s__law_pull := ⟨⟨_, _, PySem.W.mg_of X Gn a__law_pull, fun_mk (st := s__law_pull) l__law_pull c__law_pull k__law_pull⟩⟩
  have R__law_one_of : Raw K mg "_law_one_of" s__law_one_of := ⟨⟨_, _, PySem.W.mg_of X Gn a__law_one_of, fun_mk (st := s__law_one_of) l__law_one_of c__law_one_of k__law_one_of⟩⟩
  have R__law_partitions : Raw K mg "_law_partitions" s__law_partitions := ⟨⟨_, _, PySem.W.mg_of X Gn a__law_partitions, fun_mk (st := s__law_partitions) l__law_partitions c__law_partitions k__law_partitions⟩⟩
  have R__law_conjugate : Raw K mg "_law_conjugate" s__law_conjugate := ⟨⟨_, _, PySem.W.mg_of X Gn a__law_conjugate, fun_mk (st := s__law_conjugate) l__law_conjugate c__law_conjugate k__law_conjugate⟩⟩
  have R__law_product_number : Raw K mg "_law_product_number" s__law_product_number := ⟨⟨_, _, PySem.W.mg_of X Gn a__law_product_number, fun_mk (st := s__law_product_number) l__law_product_number c__law_product_number k__law_product_number⟩⟩
  have R__law_pa_drawn : Raw K mg "_law_pa_drawn" s__law_pa_drawn := ⟨⟨_, _, PySem.W.mg_of X Gn a__law_pa_drawn, fun_mk (st := s__law_pa_drawn) l__law_pa_drawn c__law_pa_drawn k__law_pa_drawn⟩⟩
  have R__law_lists_right : Raw K mg "_law_lists_right" s__law_lists_right := ⟨⟨_, _, PySem.W.mg_of X Gn a__law_lists_right, fun_mk (st := s__law_lists_right) l__law_lists_right c__law_lists_right k__law_lists_right⟩⟩
  have R__law_products_right : Raw K mg "_law_products_right" s__law_products_right := ⟨⟨_, _, PySem.W.mg_of X Gn a__law_products_right, fun_mk (st := s__law_products_right) l__law_products_right c__law_products_right k__law_products_right⟩⟩
  have R__law_judged : Raw K mg "_law_judged" s__law_judged := ⟨⟨_, _, PySem.W.mg_of X Gn a__law_judged, fun_mk (st := s__law_judged) l__law_judged c__law_judged k__law_judged⟩⟩
  have R_law : Raw K mg "law" s_law := ⟨⟨_, _, PySem.W.mg_of X Gn a_law, fun_mk (st := s_law) l_law c_law k_law⟩⟩
  have F_is_integer := ok_is_integer T R_is_integer 
  have F_is_count := ok_is_count T R_is_count F_is_integer
  have F_check_count := ok_check_count T R_check_count F_is_count
  have F_are_counts := ok_are_counts T R_are_counts F_is_count
  have F_is_row := ok_is_row T R_is_row F_are_counts
  have F_all_choices := ok_all_choices T R_all_choices 
  have F_dot_row := ok_dot_row T R_dot_row 
  have F__do_descend := ok__do_descend T R__do_descend 
  have F_is_parts := ok_is_parts T R_is_parts F__do_descend F_are_counts
  have F__check_parts := ok__check_parts T R__check_parts F_is_parts
  have F__check_both := ok__check_both T R__check_both F__check_parts
  have F_total_of := ok_total_of T R_total_of F__check_parts
  have F__conjugate := ok__conjugate T R__conjugate 
  have F_conjugate := ok_conjugate T R_conjugate F__check_parts F__conjugate
  have F__falling := ok__falling T R__falling 
  have F_joined_parts := ok_joined_parts T R_joined_parts F__check_both F__falling
  have F__parts_to := ok__parts_to T R__parts_to  20
  have F_partitions := ok_partitions T R_partitions F_check_count F__parts_to
  have F_rows_of_parts := ok_rows_of_parts T R_rows_of_parts F_is_row F__parts_to F_all_choices
  have F__product_number := ok__product_number T R__product_number F_dot_row F__conjugate
  have F_product_number := ok_product_number T R_product_number F__check_both F__product_number
  have F__law_lot := ok__law_lot T R__law_lot 
  have F__law_pull := ok__law_pull T R__law_pull 
  have F__law_one_of := ok__law_one_of T R__law_one_of F__law_pull
  have F__law_partitions := ok__law_partitions T R__law_partitions 
  have F__law_conjugate := ok__law_conjugate T R__law_conjugate 
  have F__law_product_number := ok__law_product_number T R__law_product_number F__law_conjugate
  have F__law_pa_drawn := ok__law_pa_drawn T R__law_pa_drawn F__law_pull F__law_one_of
  have F__law_lists_right := ok__law_lists_right T R__law_lists_right F__law_pull F_partitions F__law_partitions F_rows_of_parts
  have F__law_products_right := ok__law_products_right T R__law_products_right F__law_pa_drawn F__law_one_of F_total_of F_conjugate F__law_conjugate F_joined_parts F_product_number F__law_product_number
  have F__law_judged := ok__law_judged T R__law_judged F__law_pa_drawn F__law_pull F_is_parts
  have F_law := ok_law T R_law F__law_lot F__law_judged F__law_products_right F__law_lists_right F_partitions F_product_number F_joined_parts F_conjugate F_rows_of_parts
  exact F_law
end K09

set_option Elab.async false
set_option linter.all false
set_option maxRecDepth 100000
set_option maxHeartbeats 4000000
namespace K09
open Ki
theorem log_lt {n m : Nat} (h : n < 2 ^ m) (hm : 0 < m) : n.log2 < m := by
  by_cases h0 : n = 0
  · subst h0
    have : Nat.log2 0 = 0 := by decide
    omega
  · exact (Nat.log2_lt h0).mpr h
theorem pull_a {S : Sto} {n : Nat} {l c k t : Int} (hS : S[n]? = some (.lst [.int l, .int c, .int k])) (hl : 0 < l) (ht : 0 < t) (ht2 : t < 2 ^ 62) :
    m__law_pull [.ref n, .int t] S = .ok (.int (l % t)) (S.set n (.lst [.int (l.fdiv t), .int c, .int k])) := by
  have h1 : decide (0 < l) = true := decide_eq_true hl
  have h2 : t ≠ 0 := by omega
  have h3 : t.natAbs.log2 < 9000 := Nat.lt_trans (log_lt (m := 62) (by omega) (by decide)) (by decide)
  have hn : n < S.length := (List.getElem?_eq_some_iff.mp hS).1
  simp [m__law_pull, mFun, b__law_pull, sSeq, sIf, thenS, Ki.bind, mBl, mOp, mVar, ret, lift, vw, dIx, hS, dGt, iCmp, hl, sSet, mBlt, aCons, aNil, dInt, dMod, iOp, cMod, ht, sPut, dDiv, cDiv, h2, h3, sRet, L2.atI, L2.ixN, mC]
/-- a product that is not too long -/
theorem mul_ok {i j : Int} (hi : i.natAbs < 2 ^ 1000) (hj : j.natAbs < 2 ^ 1000) : cMul i j = true := by
  unfold cMul
  have h1 := log_lt hi (by decide)
  have h2 := log_lt hj (by decide)
  exact decide_eq_true (by omega)
theorem mod_lt' {i t : Int} (ht : 0 < t) : 0 ≤ i % t ∧ i % t < t := ⟨Int.emod_nonneg _ (by omega), Int.emod_lt_of_pos _ ht⟩
theorem abs_lt' {i : Int} {n : Nat} (h0 : 0 ≤ i) (h : i < n) : i.natAbs < n := by omega
theorem pull_b {S : Sto} {n : Nat} {l c k t : Int} (hS : S[n]? = some (.lst [.int l, .int c, .int k])) (hl : l ≤ 0) (hc : 0 ≤ c) (hc2 : c < 2 ^ 100) (hk : 0 ≤ k) (hk2 : k < 2 ^ 60) (ht : 0 < t) (ht2 : t < 2 ^ 62) :
    ∃ r, 0 ≤ r ∧ r < t ∧ m__law_pull [.ref n, .int t] S = .ok (.int r) (S.set n (.lst [.int l, .int c, .int (k + 1)])) := by
  have h1 : ¬ 0 < l := by omega
  have hn : n < S.length := (List.getElem?_eq_some_iff.mp hS).1
  obtain ⟨one, ho⟩ : ∃ one, one = (c + 99990001 * (k + 1)) % 2305843009213693409 := ⟨_, rfl⟩
  have o1 := mod_lt' (i := c + 99990001 * (k + 1)) (t := 2305843009213693409) (by decide)
  rw [← ho] at o1
  obtain ⟨two, hw⟩ : ∃ two, two = (one * one + 89 * (k + 1)) % 2305843009213693381 := ⟨_, rfl⟩
  have w1 := mod_lt' (i := one * one + 89 * (k + 1)) (t := 2305843009213693381) (by decide)
  rw [← hw] at w1
  have hS2 : ∀ o, (S.set n o)[n]? = some o := fun o => List.getElem?_set_self hn
  have p62 : (2 : Nat) ^ 62 ≤ 2 ^ 1000 := Nat.pow_le_pow_right (by decide) (by decide)
  have m1 : cMul 99990001 (k + 1) = true := mul_ok (Nat.lt_of_lt_of_le (by decide : (99990001 : Int).natAbs < 2 ^ 62) p62) (Nat.lt_of_lt_of_le (abs_lt' (by omega) (by omega)) p62)
  have m2 : cMul one one = true := mul_ok (Nat.lt_of_lt_of_le (abs_lt' (n := 2 ^ 62) (by omega) (by omega)) p62) (Nat.lt_of_lt_of_le (abs_lt' (n := 2 ^ 62) (by omega) (by omega)) p62)
  have m3 : cMul 89 (k + 1) = true := mul_ok (Nat.lt_of_lt_of_le (by decide : (89 : Int).natAbs < 2 ^ 62) p62) (Nat.lt_of_lt_of_le (abs_lt' (by omega) (by omega)) p62)
  have m4 : cMul two 8675309 = true := mul_ok (Nat.lt_of_lt_of_le (abs_lt' (n := 2 ^ 62) (by omega) (by omega)) p62) (Nat.lt_of_lt_of_le (by decide : (8675309 : Int).natAbs < 2 ^ 62) p62)
  have d1 : cDiv (two * 8675309 + one) 65537 = true := by unfold cDiv; decide
  refine ⟨(two * 8675309 + one).fdiv 65537 % t, (mod_lt' ht).1, (mod_lt' ht).2, ?_⟩
  have c1 : cMod (c + 99990001 * (k + 1)) 2305843009213693409 = true := by unfold cMod; decide
  have c2 : cMod (one * one + 89 * (k + 1)) 2305843009213693381 = true := by unfold cMod; decide
  have c3 : cMod ((two * 8675309 + one).fdiv 65537) t = true := decide_eq_true ht
  simp [m__law_pull, mFun, b__law_pull, sSeq, sIf, thenS, Ki.bind, mBl, mOp, mVar, ret, lift, vw, dIx, hS, dGt, iCmp, h1, sSet, mBlt, aCons, aNil, dInt, dMod, iOp, sPut, dDiv, sRet, L2.atI, L2.ixN, mC, sNext, hS2, dAdd, dMul, m1, c1, ← ho, m2, m3, c2, ← hw, m4, d1, c3]
/-- a lot: where it lies, how often it may be drawn from -/
def Lot (S : Sto) (n : Nat) (b : Nat) : Prop := ∃ l c k : Int, S[n]? = some (.lst [.int l, .int c, .int k]) ∧ 0 ≤ c ∧ c < 2 ^ 100 ∧ 0 ≤ k ∧ k + b < 2 ^ 60
theorem pull_ok {S : Sto} {n b : Nat} {t : Int} (h : Lot S n (b + 1)) (ht : 0 < t) (ht2 : t < 2 ^ 62) :
    ∃ r o, 0 ≤ r ∧ r < t ∧ m__law_pull [.ref n, .int t] S = .ok (.int r) (S.set n o) ∧ Lot (S.set n o) n b := by
  obtain ⟨l, c, k, hS, hc, hc2, hk, hk2⟩ := h
  have hn : n < S.length := (List.getElem?_eq_some_iff.mp hS).1
  by_cases hl : 0 < l
  · exact ⟨_, _, (mod_lt' ht).1, (mod_lt' ht).2, pull_a hS hl ht ht2, _, _, _, List.getElem?_set_self hn, hc, hc2, hk, by omega⟩
  · obtain ⟨r, r0, r1, e⟩ := pull_b hS (by omega) hc hc2 hk (by omega) ht ht2
    exact ⟨r, _, r0, r1, e, _, _, _, List.getElem?_set_self hn, hc, hc2, by omega, by omega⟩
theorem one_ok {S : Sto} {n b : Nat} {xs : List D} (h : Lot S n (b + 1)) (hx : xs ≠ []) (hl : xs.length < 2 ^ 60) :
    ∃ x o, x ∈ xs ∧ m__law_one_of [.ref n, .lst true xs] S = .ok x (S.set n o) ∧ Lot (S.set n o) n b := by
  have hp : 0 < xs.length := List.length_pos_iff.mpr hx
  obtain ⟨r, o, r0, r1, e, h'⟩ := pull_ok (t := (xs.length : Int)) h (by omega) (by omega)
  have hr : r.toNat < xs.length := by omega
  have ix : L2.atI xs r = some xs[r.toNat] := by
    unfold L2.atI L2.ixN
    rw [if_pos r0, if_pos r1]
    simp [hr]
  refine ⟨xs[r.toNat], o, List.getElem_mem hr, ?_, h'⟩
  simp [m__law_one_of, mFun, b__law_one_of, sRet, thenS, mOp, Ki.bind, mVar, mCall, aCons, aNil, ret, mBlt, dLen, vw, lift, e, dIx, ix]
/-- the lot of a cell -/
theorem lot_ok (ns : List Int) (s : Nat) (hs : s < 4) (S : Sto) : ∃ o, m__law_lot [.scr ns, .int s] S = .ok (.ref S.length) (S ++ [o]) ∧ Lot (S ++ [o]) S.length 1000 := by
  have key : ∀ cell : Int, ((if (s : Int) < ns.length then (L2.atI ns s).map D.int else some (.int (61 * s + 37))) = some (.int cell)) →
      ∃ o, m__law_lot [.scr ns, .int s] S = .ok (.ref S.length) (S ++ [o]) ∧ Lot (S ++ [o]) S.length 1000 := by
    intro cell hc
    obtain ⟨m, hm⟩ : ∃ m, m = (if cell < 0 then -cell else cell) % 1152921504606846697 := ⟨_, rfl⟩
    have m0 := mod_lt' (i := if cell < 0 then -cell else cell) (t := 1152921504606846697) (by decide)
    rw [← hm] at m0
    have p62 : (2 : Nat) ^ 62 ≤ 2 ^ 1000 := Nat.pow_le_pow_right (by decide) (by decide)
    have k1 : cMul m 53 = true := mul_ok (Nat.lt_of_lt_of_le (abs_lt' (n := 2 ^ 62) (by omega) (by omega)) p62) (Nat.lt_of_lt_of_le (by decide : (53 : Int).natAbs < 2 ^ 62) p62)
    have k2 : cMul 991 s = true := mul_ok (Nat.lt_of_lt_of_le (by decide : (991 : Int).natAbs < 2 ^ 62) p62) (Nat.lt_of_lt_of_le (abs_lt' (n := 2 ^ 62) (by omega) (by omega)) p62)
    have k3 : cMul 61 s = true := mul_ok (Nat.lt_of_lt_of_le (by decide : (61 : Int).natAbs < 2 ^ 62) p62) (Nat.lt_of_lt_of_le (abs_lt' (n := 2 ^ 62) (by omega) (by omega)) p62)
    have k4 : ∀ b : Int, (b = 0 ∨ b = 1) → cMul 43 b = true := by rintro b (rfl | rfl) <;> decide
    have k5 : cMul 10000000000000000000000000000000000000000000000000000000000 100000000000000000000000000000000000000000000000000000000000 = true := by decide
    have k6 : cPow 10 17 = true := by decide
    have k7 : cPow 10 58 = true := by decide
    have k8 : cPow 10 59 = true := by decide
    have c1 : ∀ x : Int, cMod x 1000000000000000000000000000000000000000000000000000000000000000000000000000000000000000000000000000000000000000000000 = true := fun x => by unfold cMod; decide
    have c2 : ∀ x : Int, cMod x 1152921504606846697 = true := fun x => by unfold cMod; decide
    obtain ⟨e, he, e01⟩ : ∃ e : Int, e = (if cell < 0 then 1 else 0) ∧ (e = 0 ∨ e = 1) := by
      by_cases q : cell < 0 <;> simp [q]
    have k9 := k4 e e01
    obtain ⟨l0, hl0⟩ : ∃ l0 : Int, l0 = (if 0 < (if cell < 0 then -cell else cell) - 100000000000000000 then (if cell < 0 then -cell else cell) - 100000000000000000 else 0) % 1000000000000000000000000000000000000000000000000000000000000000000000000000000000000000000000000000000000000000000000 := ⟨_, rfl⟩
    refine ⟨.lst [.int l0, .int (m * 53 + 991 * s + 43 * e + 9), .int 0], ?_, l0, m * 53 + 991 * s + 43 * e + 9, 0, by simp, by omega, by omega, by omega, by omega⟩
    rw [hl0]
    by_cases hlt : s < ns.length
    · have hlt' : (s : Int) < ns.length := by omega
      rw [if_pos hlt'] at hc
      simp [m__law_lot, mFun, b__law_lot, sSeq, sSet, thenS, mIf, mBl, mOp, Ki.bind, mVar, mBlt, aCons, aNil, ret, dLen, vw, lift, dLt, iCmp, hlt, dIx, hc, dInt, sRet, mNew, dMod, dMax2, dAbs, dSub, iOp, dPow, k6, k7, k8, dMul, k5, c1, c2, ← hm, k1, k2, dAdd, k9, mC, ← he]
    · have hlt' : ¬ (s : Int) < ns.length := by omega
      rw [if_neg hlt'] at hc
      have hc' : cell = 61 * s + 37 := by cases hc; rfl
      simp [m__law_lot, mFun, b__law_lot, sSeq, sSet, thenS, mIf, mBl, mOp, Ki.bind, mVar, mBlt, aCons, aNil, ret, dLen, vw, lift, dLt, iCmp, hlt, dIx, ← hc', dInt, sRet, mNew, dMod, dMax2, dAbs, dSub, iOp, dPow, k6, k7, k8, dMul, k5, c1, c2, ← hm, k1, k2, k3, dAdd, k9, mC, ← he]
  by_cases hlt : s < ns.length
  · refine key ns[s] ?_
    rw [if_pos (by omega)]
    unfold L2.atI L2.ixN
    rw [if_pos (by omega), if_pos (by omega)]
    simp [hlt]
  · exact key _ (if_neg (by omega))
end K09

set_option Elab.async false
set_option linter.all false
set_option maxRecDepth 100000
set_option maxHeartbeats 4000000
namespace K09
open PySem Ki
/-- data that is equal to itself -/
def okT (t : D) : Prop := ∃ p, toPy t = some p ∧ p.canLay0 = true ∧ p.depth ≤ 60 ∧ PyData.eqv p p = true
def okB (t : D) : Bool := match toPy t with
  | some p => p.canLay0 && (decide (p.depth ≤ 60) && PyData.eqv p p)
  | none => false
theorem okT_of {t : D} (h : okB t = true) : okT t := by
  unfold okB at h
  cases e : toPy t with
  | none => rw [e] at h; cases h
  | some p =>
    rw [e] at h
    obtain ⟨h1, h2⟩ := Bool.and_eq_true_iff.mp h
    obtain ⟨h3, h4⟩ := Bool.and_eq_true_iff.mp h2
    exact ⟨p, e, h1, of_decide_eq_true h3, h4⟩
theorem okL : ∀ {ts : List D}, (∀ t ∈ ts, okT t) → ∃ ps, toPyL ts = some ps ∧ PyData.canLayAll0 ps = true ∧ PyData.depthAll ps ≤ 60 ∧ PyData.eqvAll ps ps = true
  | [], _ => ⟨[], by simp [toPyL], by simp [PyData.canLayAll0], by simp [PyData.depthAll], by simp [PyData.eqvAll]⟩
  | t :: ts, h => by
    obtain ⟨p, e1, e2, e3, e4⟩ := h t List.mem_cons_self
    obtain ⟨ps, f1, f2, f3, f4⟩ := okL fun u hu => h u (List.mem_cons_of_mem _ hu)
    exact ⟨p :: ps, by simp [toPyL, e1, f1], by simp [PyData.canLayAll0, e2, f2], by simp only [PyData.depthAll]; omega, by simp [PyData.eqvAll, e4, f4]⟩
theorem eq_self {a b : Bool} {ts : List D} (h : ∀ t ∈ ts, okT t) : dEq (.lst a ts) (.lst b ts) = some (.bl true) := by
  obtain ⟨ps, f1, f2, f3, f4⟩ := okL h
  have sh : SeqAt.shaped (.list ps) = true := by
    unfold SeqAt.shaped
    rw [Bool.and_eq_true]
    exact ⟨by simp [PyData.canLay0, f2], decide_eq_true (by simp only [PyData.depth]; omega)⟩
  simp [dEq, dEqv, toPy, f1, sh, PyData.eqv, f4]
/-- one drawing, then the rest -/
theorem draw {i n b : Nat} {menu : List D} {md : M D} {k : MS} {env : Ev} {S : Sto} (hmd : md env S = .ok (.lst true menu) S) (h0 : env[0]? = some (some (.ref n))) (h : Lot S n (b + 1)) (hx : menu ≠ []) (hl : menu.length < 2 ^ 60) :
    ∃ x o, x ∈ menu ∧ Lot (S.set n o) n b ∧ sSeq (sSet i (mCall m__law_one_of (aCons (mVar 0) (aCons md aNil)))) k env S = k (env.set i (some x)) (S.set n o) := by
  obtain ⟨x, o, hm, e, h'⟩ := one_ok h hx hl
  exact ⟨x, o, hm, h', by simp [sSeq, sSet, thenS, mCall, Ki.bind, aCons, aNil, mVar, h0, Ki.ret, hmd, e]⟩
theorem drawP {i n b : Nat} {menu : List D} {md : M D} {k : MS} {env : Ev} {S : Sto} {P : SRes → Prop} (hmd : md env S = .ok (.lst true menu) S) (h0 : env[0]? = some (some (.ref n))) (h : Lot S n (b + 1)) (hx : menu ≠ []) (hl : menu.length < 2 ^ 60)
    (next : ∀ x ∈ menu, ∀ S1, Lot S1 n b → S.length ≤ S1.length → P (k (env.set i (some x)) S1)) : P (sSeq (sSet i (mCall m__law_one_of (aCons (mVar 0) (aCons md aNil)))) k env S) := by
  obtain ⟨x, o, hm, l, e⟩ := draw (i := i) (k := k) hmd h0 h hx hl
  rw [e]
  exact next x hm _ l (by simp)
theorem Lot.app {S T : Sto} {n b : Nat} (h : Lot S n b) : Lot (S ++ T) n b := by
  obtain ⟨l, c, k, e, q⟩ := h
  exact ⟨l, c, k, by rw [List.getElem?_append_left (List.getElem?_eq_some_iff.mp e).1]; exact e, q⟩
theorem lcL_ok {P : D → Prop} {g : Tg} {mt : M Bool} {me : M D} {env : Ev} {S : Sto} : ∀ ds : List D, (∀ d ∈ ds, ∃ env' bt, g d env = some env' ∧ mt env' S = .ok bt S ∧ (bt = true → ∃ y, me env' S = .ok y S ∧ P y)) → ∃ ys, lcL g mt me env ds S = .ok ys S ∧ ys.length ≤ ds.length ∧ ∀ y ∈ ys, P y
  | [], _ => ⟨[], rfl, Nat.le_refl _, by simp⟩
  | d :: ds, h => by
    obtain ⟨env', bt, e1, e2, e3⟩ := h d List.mem_cons_self
    obtain ⟨ys, f1, f2, f3⟩ := lcL_ok ds fun x hx => h x (List.mem_cons_of_mem _ hx)
    cases bt with
    | false => exact ⟨ys, by rw [lcL]; simp only [e1, e2]; exact f1, by simp; omega, f3⟩
    | true =>
      obtain ⟨y, g1, g2⟩ := e3 rfl
      refine ⟨y :: ys, by rw [lcL]; simp only [e1, e2, g1, f1], by simp; omega, fun z hz => ?_⟩
      rcases List.mem_cons.mp hz with rfl | hz
      · exact g2
      · exact f3 z hz
theorem rgl9 (a : Int) (n : Nat) : (rgD a n).length = n := by simp [rgD]
theorem rgm {a : Int} {n : Nat} {d : D} (h : d ∈ rgD a n) : ∃ i : Nat, i < n ∧ d = .int (a + i) := by
  obtain ⟨i, hi, rfl⟩ := List.mem_map.mp h
  have := List.mem_range'_1.mp hi
  exact ⟨i, by omega, rfl⟩
theorem seq_drop {m : M D} {k : MS} {env : Ev} {S S1 : Sto} {d : D} (h : m env S = .ok d S1) : sSeq (sDrop m) k env S = k env S1 := by simp [sSeq, sDrop, thenS, h]
theorem seq_set {i : Nat} {m : M D} {k : MS} {env env' : Ev} {S S1 : Sto} {d : D} (h : m env S = .ok d S1) (he : env.set i (some d) = env') : sSeq (sSet i m) k env S = k env' S1 := by simp [sSeq, sSet, thenS, h, he]
theorem ret_ok {m : M D} {env : Ev} {S S1 : Sto} {d : D} (h : m env S = .ok d S1) : sRet m env S = .rt d S1 := by simp [sRet, thenS, h]
theorem mOp_ok {op : Op2} {ma mb : M D} {env : Ev} {S S1 S2 : Sto} {a b d : D} (h1 : ma env S = .ok a S1) (h2 : mb env S1 = .ok b S2) (h3 : op (vw S2 a) (vw S2 b) = some d) : mOp op ma mb env S = .ok d S2 := by
  simp [mOp, Ki.bind, h1, h2, h3, lift]
theorem ne_self {a b : Bool} {ts : List D} (h : ∀ t ∈ ts, okT t) : dNe (.lst a ts) (.lst b ts) = some (.bl false) := by
  have e := eq_self (a := a) (b := b) h
  unfold dEq at e
  unfold dNe
  cases q : dEqv (.lst a ts) (.lst b ts) with
  | none => rw [q] at e; cases e
  | some x => rw [q] at e; cases x <;> simp_all
theorem blt1 {op : OpL} {m : M D} {env : Ev} {S S1 : Sto} {d y : D} (h : m env S = .ok d S1) (h2 : op [vw S1 d] = some y) : mBlt op (aCons m aNil) env S = .ok y S1 := by
  simp [mBlt, aCons, aNil, Ki.bind, h, Ki.ret, h2, lift]
theorem and_true {ma mb : M D} {env : Ev} {S S1 : Sto} {r : Res D} (h : ma env S = .ok (.bl true) S1) (h2 : mb env S1 = r) : mAnd ma mb env S = r := by
  simp [mAnd, Ki.bind, h, h2]
theorem args1 {m : M D} {env : Ev} {S S1 : Sto} {d : D} (h : m env S = .ok d S1) : aCons m aNil env S = .ok [d] S1 := by simp [aCons, aNil, Ki.bind, h, Ki.ret]
theorem seq_asg {g : Tg} {m : M D} {k : MS} {env env' : Ev} {S S1 : Sto} {d : D} (h : m env S = .ok d S1) (hg : g d env = some env') : sSeq (sAsg g m) k env S = k env' S1 := by simp [sSeq, sAsg, thenS, h, hg]
theorem if_no {t : M Bool} {a k : MS} {env : Ev} {S : Sto} (h : t env S = .ok false S) : sSeq (sIf t a sNext) k env S = k env S := by simp [sSeq, sIf, thenS, h, sNext]
theorem bl_ok {m : M D} {env : Ev} {S S1 : Sto} {b : Bool} (h : m env S = .ok (.bl b) S1) : mBl m env S = .ok b S1 := by simp [mBl, Ki.bind, h, Ki.ret]
theorem args2 {m : M D} {ms : M (List D)} {env : Ev} {S S1 S2 : Sto} {d : D} {ds : List D} (h : m env S = .ok d S1) (h2 : ms env S1 = .ok ds S2) : aCons m ms env S = .ok (d :: ds) S2 := by simp [aCons, Ki.bind, h, h2, Ki.ret]
theorem tup_ok {m : M (List D)} {env : Ev} {S S1 : Sto} {ds : List D} (h : m env S = .ok ds S1) (h2 : ds.length ≤ 100000) : mTup m env S = .ok (.tup ds) S1 := by simp [mTup, Ki.bind, h, h2, Ki.ret]
theorem lst_ok {m : M (List D)} {env : Ev} {S S1 : Sto} {ds : List D} (h : m env S = .ok ds S1) (h2 : ds.length ≤ 100000) : mLst m env S = .ok (.lst true ds) S1 := by simp [mLst, Ki.bind, h, h2, Ki.ret]
theorem vw_last (S : Sto) (L : List D) : vw (S ++ [.lst L]) (.ref S.length) = .lst false L := by simp [vw]
theorem asgP {P : SRes → Prop} {g : Tg} {m : M D} {k : MS} {env env' : Ev} {S S1 : Sto} {d : D} (h : m env S = .ok d S1) (hg : g d env = some env') (next : P (k env' S1)) : P (sSeq (sAsg g m) k env S) := by rw [seq_asg h hg]; exact next
theorem ifP {P : SRes → Prop} {t : M Bool} {a k : MS} {env : Ev} {S : Sto} (h : t env S = .ok false S) (next : P (k env S)) : P (sSeq (sIf t a sNext) k env S) := by rw [if_no h]; exact next
theorem setP {P : SRes → Prop} {i : Nat} {m : M D} {k : MS} {env env' : Ev} {S S1 : Sto} {d : D} (h : m env S = .ok d S1) (he : env.set i (some d) = env') (next : P (k env' S1)) : P (sSeq (sSet i m) k env S) := by rw [seq_set h he]; exact next
/-- a comprehension whose items change nothing -/
theorem lcL_map {α : Type} {g : Tg} {mt : M Bool} {me : M D} {env : Ev} {S : Sto} {ds : α → D} {p : α → Bool} {f : α → D} : ∀ xs : List α, (∀ x ∈ xs, ∃ env', g (ds x) env = some env' ∧ mt env' S = .ok (p x) S ∧ (p x = true → me env' S = .ok (f x) S)) → lcL g mt me env (xs.map ds) S = .ok ((xs.filter p).map f) S
  | [], _ => rfl
  | x :: xs, h => by
    obtain ⟨env', e1, e2, e3⟩ := h x List.mem_cons_self
    have ih := lcL_map xs fun y hy => h y (List.mem_cons_of_mem _ hy)
    rw [List.map_cons, lcL]
    cases q : p x with
    | false => rw [q] at e2; simp only [e1, e2, ih, List.filter_cons, q]; simp
    | true => rw [q] at e2; simp only [e1, e2, e3 q, ih, List.filter_cons, q]; simp
theorem lc_ok {α : Type} {vs : List Nat} {g : Tg} {mi : M (List D)} {mt : M Bool} {me : M D} {env : Ev} {S : Sto} {ds : α → D} {p : α → Bool} {f : α → D} {xs : List α} (hi : mi env S = .ok (xs.map ds) S) (hl : xs.length ≤ 100000)
    (h : ∀ x ∈ xs, ∃ env', g (ds x) (wipeD env vs) = some env' ∧ mt env' S = .ok (p x) S ∧ (p x = true → me env' S = .ok (f x) S)) : mLc vs g mi mt me env S = .ok (.lst true ((xs.filter p).map f)) S := by
  simp [mLc, hi, hl, lcL_map xs h]
end K09

set_option Elab.async false
set_option linter.all false
set_option maxRecDepth 100000
set_option maxHeartbeats 1000000
namespace K09
open PySem Ki
/-! O09: tuples of ints; conjugates and what they add up to -/
abbrev tI (xs : List Int) : D := .tup (xs.map D.int)
theorem toPyL_int : ∀ xs : List Int, toPyL (xs.map D.int) = some (xs.map PyData.int)
  | [] => by simp [toPyL]
  | x :: xs => by simp [toPyL, toPy, toPyL_int xs]
theorem lay_int : ∀ xs : List Int, PyData.canLayAll0 (xs.map PyData.int) = true
  | [] => by simp [PyData.canLayAll0]
  | x :: xs => by simp [PyData.canLayAll0, PyData.canLay0, lay_int xs]
theorem depth_int : ∀ xs : List Int, PyData.depthAll (xs.map PyData.int) ≤ 1
  | [] => by simp [PyData.depthAll]
  | x :: xs => by
    have := depth_int xs
    simp only [List.map_cons, PyData.depthAll, PyData.depth]
    omega
theorem eqv_int : ∀ xs ys : List Int, PyData.eqvAll (xs.map PyData.int) (ys.map PyData.int) = decide (xs = ys)
  | [], [] => by simp [PyData.eqvAll]
  | [], y :: ys => by simp [PyData.eqvAll]
  | x :: xs, [] => by simp [PyData.eqvAll]
  | x :: xs, y :: ys => by
    simp only [List.map_cons, PyData.eqvAll, PyData.eqv, eqv_int xs ys]
    by_cases h : x = y <;> by_cases k : xs = ys <;> simp [h, k]
theorem eqv_tI (xs ys : List Int) : dEqv (tI xs) (tI ys) = some (decide (xs = ys)) := by
  have sh : ∀ zs : List Int, SeqAt.shaped (.tuple (zs.map PyData.int)) = true := fun zs => by
    have := depth_int zs
    unfold SeqAt.shaped
    rw [Bool.and_eq_true]
    exact ⟨by simp [PyData.canLay0, lay_int], decide_eq_true (by simp only [PyData.depth]; omega)⟩
  simp [dEqv, toPy, toPyL_int, sh, PyData.eqv, eqv_int]
theorem ne_tI (xs ys : List Int) : dNe (tI xs) (tI ys) = some (.bl (!decide (xs = ys))) := by simp [dNe, eqv_tI]
theorem eq_tI (xs ys : List Int) : dEq (tI xs) (tI ys) = some (.bl (decide (xs = ys))) := by simp [dEq, eqv_tI]
theorem ints_tI : ∀ xs : List Int, intsOf (xs.map D.int) = some xs
  | [] => by simp [intsOf]
  | x :: xs => by simp [intsOf, ints_tI xs]
/-- how many are above t -/
def cnt (t : Int) (xs : List Int) : Nat := (xs.filter fun x => decide (t < x)).length
def cj (n : Nat) (xs : List Int) : List Int := (List.range' 0 n).map fun (i : Nat) => ((cnt i xs : Nat) : Int)
theorem row_ok {S : Sto} {xs : List Int} {env : Ev} {i : Nat} (hl : xs.length ≤ 100000) (h0 : env[0]? = some (some (tI xs))) (h1 : env[1]? = some (some (.int i))) (hn : 2 < env.length) :
    mBlt dLen (aCons (mLc [2] (gNm 2) (mSq (mVar 0)) (mBl (mOp dGt (mVar 2) (mVar 1))) (mVar 2)) aNil) env S = .ok (.int (cnt i xs)) S := by
  refine blt1 (d := .lst true ((xs.filter fun x => decide ((i : Int) < x)).map D.int)) (S1 := S) (lc_ok (ds := D.int) (p := fun x => decide ((i : Int) < x)) (f := D.int) (xs := xs) ?_ hl fun x hx => ?_) (by simp [dLen, vw, cnt])
  · simp [mSq, Ki.bind, mVar, h0, items, lift]
  · refine ⟨_, rfl, ?_, fun _ => ?_⟩
    · simp [mBl, mOp, Ki.bind, mVar, wipeD, hn, h1, vw, lift, dGt, iCmp, Ki.ret]
    · simp [mVar, wipeD, hn]
theorem cj_ok {S : Sto} {xs : List Int} {n : Nat} {env : Ev} {mi : M (List D)} (hi : mi env S = .ok [.int n] S) (hl : xs.length ≤ 100000) (hn : n ≤ 100000) (h0 : env[0]? = some (some (tI xs))) (he : 2 < env.length) :
    mTupOf (mLc [1] (gNm 1) (mRg1 mi) mYes (mBlt dLen (aCons (mLc [2] (gNm 2) (mSq (mVar 0)) (mBl (mOp dGt (mVar 2) (mVar 1))) (mVar 2)) aNil))) env S = .ok (tI (cj n xs)) S := by
  have q := lc_ok (vs := [1]) (g := gNm 1) (mi := mRg1 mi) (mt := mYes) (me := mBlt dLen (aCons (mLc [2] (gNm 2) (mSq (mVar 0)) (mBl (mOp dGt (mVar 2) (mVar 1))) (mVar 2)) aNil)) (env := env) (S := S)
    (ds := fun (i : Nat) => D.int (0 + (i : Int))) (p := fun _ => true) (f := fun i => D.int ((cnt i xs : Nat) : Int)) (xs := List.range' 0 n) ?_ (by simpa using hn) fun i hx => ⟨_, rfl, rfl, fun _ => ?_⟩
  · rw [List.filter_eq_self.mpr (by simp)] at q
    simp [mTupOf, Ki.bind, q, vw, dTup, lift, cj, tI, List.map_map, Function.comp_def]
  · have b1 : (-4611686018427387904 : Int) ≤ (n : Int) := by omega
    have b2 : (n : Int) < 4611686018427387904 := by omega
    simp [mRg1, Ki.bind, hi, b1, b2, Ki.ret, rgD]
  · refine row_ok hl ?_ ?_ ?_
    · simp [wipeD, h0]
    · have : 1 < env.length := by omega
      simp [wipeD, gNm, this]
    · simp [wipeD, he]
end K09

set_option Elab.async false
set_option linter.all false
set_option maxRecDepth 100000
set_option maxHeartbeats 1000000
namespace K09
open PySem Ki
/-! P09: the sum of least members is the sum of products of conjugates -/
/-- f 0 + .. + f (n - 1) -/
def upTo (f : Nat → Int) : Nat → Int
  | 0 => 0
  | n + 1 => upTo f n + f n
theorem upTo_add (f g : Nat → Int) : ∀ n, upTo (fun t => f t + g t) n = upTo f n + upTo g n
  | 0 => by simp [upTo]
  | n + 1 => by simp only [upTo, upTo_add f g n]; omega
theorem upTo_eq {f g : Nat → Int} : ∀ {n : Nat}, (∀ t, t < n → f t = g t) → upTo f n = upTo g n
  | 0, _ => rfl
  | n + 1, h => by
    have q := upTo_eq (n := n) fun t q => h t (Nat.lt_succ_of_lt q)
    rw [upTo, upTo, q, h n (Nat.lt_succ_self n)]
theorem upTo_more {f : Nat → Int} {n : Nat} : ∀ {k : Nat}, (∀ t, n ≤ t → f t = 0) → upTo f (n + k) = upTo f n
  | 0, _ => rfl
  | k + 1, h => by
    show upTo f (n + k) + f (n + k) = upTo f n
    rw [upTo_more h, h _ (by omega)]
    omega
theorem upTo_range (f : Nat → Int) : ∀ (n : Nat), ((List.range n).map f).sum = upTo f n
  | 0 => by simp [upTo]
  | n + 1 => by simp [List.range_succ, upTo, upTo_range f n]
/-- is x above t -/
def ab (t : Nat) (x : Int) : Int := if (t : Int) < x then 1 else 0
theorem cnt_cons (t : Nat) (x : Int) (xs : List Int) : ((cnt t (x :: xs) : Nat) : Int) = ab t x + cnt t xs := by
  unfold cnt ab
  by_cases h : (t : Int) < x <;> simp [h]
  omega
theorem ab_min {x y : Int} (hx : 0 ≤ x) (hy : 0 ≤ y) : ∀ {n : Nat}, upTo (fun t => ab t x * ab t y) n = min (min x y) n
  | 0 => by simp only [upTo]; omega
  | n + 1 => by
    rw [upTo, ab_min hx hy]
    unfold ab
    by_cases h1 : (n : Int) < x <;> by_cases h2 : (n : Int) < y <;> simp only [h1, h2, if_true, if_false] <;> omega
/-- the law's sum of least members -/
def mins (xs ys : List Int) : Int := (xs.map fun x => (ys.map fun y => if y < x then y else x).sum).sum
def both (n : Nat) (xs ys : List Int) : Int := upTo (fun t => (cnt t xs : Int) * cnt t ys) n
theorem row_min {n : Nat} {x : Int} (hx : 0 ≤ x) (hn : x ≤ n) : ∀ {ys : List Int}, (∀ y ∈ ys, 0 ≤ y) → upTo (fun t => ab t x * cnt t ys) n = (ys.map fun y => if y < x then y else x).sum
  | [], _ => by
    have e : ∀ m, upTo (fun t => ab t x * ((cnt t [] : Nat) : Int)) m = 0 := fun m => by
      induction m with
      | zero => rfl
      | succ m ih => rw [upTo, ih]; simp [cnt]
    simpa using e n
  | y :: ys, h => by
    have q := row_min hx hn fun z hz => h z (List.mem_cons_of_mem _ hz)
    have e : upTo (fun t => ab t x * ((cnt t (y :: ys) : Nat) : Int)) n = upTo (fun t => ab t x * ab t y) n + upTo (fun t => ab t x * cnt t ys) n := by
      rw [← upTo_add]
      exact upTo_eq fun t _ => by rw [cnt_cons, Int.mul_add]
    rw [e, ab_min hx (h y List.mem_cons_self), q, List.map_cons, List.sum_cons]
    split <;> omega
theorem both_mins {n : Nat} {ys : List Int} (hy : ∀ y ∈ ys, 0 ≤ y) : ∀ {xs : List Int}, (∀ x ∈ xs, 0 ≤ x ∧ x ≤ n) → both n xs ys = mins xs ys
  | [], _ => by
    have e : ∀ m, both m [] ys = 0 := fun m => by
      induction m with
      | zero => rfl
      | succ m ih => unfold both at ih ⊢; rw [upTo, ih]; simp [cnt]
    rw [e]
    rfl
  | x :: xs, h => by
    obtain ⟨h1, h2⟩ := h x List.mem_cons_self
    have q := both_mins hy fun z hz => h z (List.mem_cons_of_mem _ hz)
    have e : both n (x :: xs) ys = upTo (fun t => ab t x * cnt t ys) n + both n xs ys := by
      unfold both
      rw [← upTo_add]
      exact upTo_eq fun t _ => by rw [cnt_cons, Int.add_mul]
    rw [e, row_min h1 h2 hy, q]
    unfold mins
    rw [List.map_cons, List.sum_cons]
theorem both_swap (n : Nat) (xs ys : List Int) : both n xs ys = both n ys xs := upTo_eq fun t _ => Int.mul_comm _ _
theorem cnt_append (t : Nat) (xs ys : List Int) : cnt t (xs ++ ys) = cnt t xs + cnt t ys := by simp [cnt, List.filter_append]
theorem cnt_perm {t : Nat} {xs ys : List Int} (h : xs.Perm ys) : cnt t xs = cnt t ys := (h.filter _).length_eq
theorem both_append (n : Nat) (xs ys zs : List Int) : both n (xs ++ ys) zs = both n xs zs + both n ys zs := by
  unfold both
  rw [← upTo_add]
  exact upTo_eq fun t _ => by rw [cnt_append]; push_cast; rw [Int.add_mul]
theorem cnt_over {n t : Nat} {xs : List Int} (h : ∀ x ∈ xs, x ≤ n) (ht : n ≤ t) : cnt t xs = 0 := by
  unfold cnt
  rw [List.length_eq_zero_iff, List.filter_eq_nil_iff]
  intro x hx
  have := h x hx
  simp
  omega
/-- the products of two conjugates, added up -/
def dot (xs ys : List Int) : Int := (List.zipWith (· * ·) xs ys).sum
theorem dot_cj (n m : Nat) (xs ys : List Int) : dot (cj n xs) (cj m ys) = both (min n m) xs ys := by
  unfold dot cj both
  rw [← upTo_range, ← List.range_eq_range', ← List.range_eq_range']
  congr 1
  refine List.ext_getElem (by simp) fun i h1 h2 => by simp
theorem both_more {n m N : Nat} {xs ys : List Int} (hx : ∀ x ∈ xs, x ≤ n) (hy : ∀ y ∈ ys, y ≤ m) (h1 : n ≤ N) (h2 : m ≤ N) : both (min n m) xs ys = both N xs ys := by
  obtain ⟨k, rfl⟩ : ∃ k, N = min n m + k := ⟨N - min n m, by omega⟩
  unfold both
  rw [upTo_more]
  intro t ht
  by_cases h : n ≤ t
  · rw [cnt_over hx h]; simp
  · rw [cnt_over hy (by omega : m ≤ t)]; simp
theorem dot_mins {n m N : Nat} {xs ys : List Int} (hx : ∀ x ∈ xs, 0 ≤ x ∧ x ≤ n) (hy : ∀ y ∈ ys, 0 ≤ y ∧ y ≤ m) : dot (cj n xs) (cj m ys) = mins xs ys := by
  rw [dot_cj, both_more (N := max n m) (fun x q => (hx x q).2) (fun y q => (hy y q).2) (by omega) (by omega)]
  exact both_mins (fun y q => (hy y q).1) fun x q => ⟨(hx x q).1, by have := (hx x q).2; omega⟩
end K09

set_option Elab.async false
set_option linter.all false
set_option maxRecDepth 100000
set_option maxHeartbeats 1000000
namespace K09
open PySem Ki
/-! Q09: the two ways to conjugates, products -/
theorem fun_rt {nN np : Nat} {mb : MS} {ds : List D} {S S1 : Sto} {d : D} (hl : ds.length = np) (h : mb (ds.map some ++ List.replicate (nN - np) none) S = .rt d S1) : mFun nN np mb ds S = .ok d S1 := by
  simp [mFun, hl, h]
theorem if_true' {c : M Bool} {a b : M D} {env : Ev} {S S1 : Sto} {r : Res D} (h : c env S = .ok true S1) (h2 : a env S1 = r) : mIf c a b env S = r := by
  simp [mIf, Ki.bind, h, h2]
theorem if_false' {c : M Bool} {a b : M D} {env : Ev} {S S1 : Sto} {r : Res D} (h : c env S = .ok false S1) (h2 : b env S1 = r) : mIf c a b env S = r := by
  simp [mIf, Ki.bind, h, h2]
/-- the greatest, 0 of none -/
def mx : List Int → Int
  | [] => 0
  | n :: ns => grI n ns
theorem grI_eq {n : Int} : ∀ {ns : List Int}, (∀ x ∈ ns, x ≤ n) → grI n ns = n
  | [], _ => rfl
  | x :: ns, h => by
    have hx := h x List.mem_cons_self
    show grI (if n < x then x else n) ns = n
    rw [if_neg (by omega)]
    exact grI_eq fun y hy => h y (List.mem_cons_of_mem _ hy)
abbrev Desc (xs : List Int) : Prop := xs.Pairwise (· ≥ ·)
theorem mx_head {xs : List Int} (h : Desc xs) : mx xs = xs.headD 0 := by
  cases xs with
  | nil => rfl
  | cons n ns => exact grI_eq fun x hx => (List.pairwise_cons.mp h).1 x hx
theorem le_head {xs : List Int} (h : Desc xs) : ∀ x ∈ xs, x ≤ xs.headD 0 := by
  cases xs with
  | nil => intro x hx; cases hx
  | cons n ns =>
    intro x hx
    rcases List.mem_cons.mp hx with rfl | hx
    · exact Int.le_refl _
    · exact (List.pairwise_cons.mp h).1 x hx
/-- parts: descending, above 0, none too great -/
structure Pt (xs : List Int) : Prop where
  desc : Desc xs
  pos : ∀ x ∈ xs, 1 ≤ x
  small : xs.sum ≤ 24
theorem sum_nn : ∀ {xs : List Int}, (∀ x ∈ xs, 1 ≤ x) → (xs.length : Int) ≤ xs.sum ∧ ∀ x ∈ xs, x ≤ xs.sum
  | [], _ => ⟨by simp, fun x hx => nomatch hx⟩
  | x :: xs, h => by
    obtain ⟨h1, h2⟩ := sum_nn fun y hy => h y (List.mem_cons_of_mem _ hy)
    have := h x List.mem_cons_self
    refine ⟨by simp only [List.length_cons, List.sum_cons]; omega, fun y hy => ?_⟩
    rw [List.sum_cons]
    rcases List.mem_cons.mp hy with rfl | hy
    · omega
    · have := h2 y hy; omega
namespace Pt
variable {xs : List Int} (h : Pt xs)
include h
theorem len : xs.length ≤ 24 := by have := (sum_nn h.pos).1; have := h.small; omega
theorem le : ∀ x ∈ xs, x ≤ 24 := fun x hx => by have := (sum_nn h.pos).2 x hx; have := h.small; omega
theorem head : 0 ≤ xs.headD 0 ∧ xs.headD 0 ≤ 24 := by
  cases xs with
  | nil => simp
  | cons n ns => have := h.pos n List.mem_cons_self; have := h.le n List.mem_cons_self; simp; omega
theorem bnd : ∀ x ∈ xs, 0 ≤ x ∧ x ≤ ((xs.headD 0).toNat : Nat) := fun x hx => by
  have := h.pos x hx
  have := le_head h.desc x hx
  have := h.head
  omega
end Pt
/-- the conjugate -/
def con (xs : List Int) : List Int := cj (xs.headD 0).toNat xs
theorem prog_cj {xs : List Int} (h : Pt xs) (S : Sto) : m__conjugate [tI xs] S = .ok (tI (con xs)) S := by
  have hh := h.head
  refine fun_rt rfl (ret_ok ?_)
  refine cj_ok (n := (xs.headD 0).toNat) ?_ (by have := h.len; omega) (by omega) rfl (by simp)
  refine args1 ?_
  have e : dMaxD [tI xs, .int 0] = some (.int (mx xs)) := by
    simp only [dMaxD, ints_tI, Option.map_some]
    cases xs <;> rfl
  rw [mx_head h.desc] at e
  have : (((xs.headD 0).toNat : Nat) : Int) = xs.headD 0 := by omega
  rw [this]
  simp [mMaxDf, aCons, aNil, Ki.bind, mVar, Ki.ret, vw, e, lift]
theorem law_cj {xs : List Int} (h : Pt xs) (S : Sto) : m__law_conjugate [tI xs] S = .ok (tI (con xs)) S := by
  have hh := h.head
  refine fun_rt rfl (ret_ok ?_)
  refine cj_ok (n := (xs.headD 0).toNat) ?_ (by have := h.len; omega) (by omega) rfl (by simp)
  refine args1 ?_
  have : (((xs.headD 0).toNat : Nat) : Int) = xs.headD 0 := by omega
  rw [this]
  have e : dNe (tI xs) (.tup []) = some (.bl (!decide (xs = []))) := ne_tI xs []
  have c : mBl (mOp dNe (mVar 0) (mTup aNil)) [some (tI xs), none, none] S = .ok (!decide (xs = [])) S := bl_ok (mOp_ok (a := tI xs) (b := .tup []) (S1 := S) rfl rfl e)
  cases xs with
  | nil => exact if_false' c rfl
  | cons n ns => exact if_true' c (mOp_ok (a := tI (n :: ns)) (b := .int 0) (S1 := S) rfl rfl (by simp [vw, dIx, L2.atI, L2.ixN]))
end K09

set_option Elab.async false
set_option linter.all false
set_option maxRecDepth 100000
set_option maxHeartbeats 1000000
namespace K09
open PySem Ki
/-! R09: what the defs make of tuples of ints -/
def down (xs : List Int) : List Int := (srtI xs).reverse
theorem down_perm (xs : List Int) : (down xs).Perm xs := (List.reverse_perm _).trans (srtI_perm xs)
theorem down_desc (xs : List Int) : Desc (down xs) := List.pairwise_reverse.mpr ((srtI_up xs).imp fun h => h)
theorem down_self {xs : List Int} (h : Desc xs) : down xs = xs := (srtI_rev (.refl xs) h).symm
theorem srtR_t (xs : List Int) : dSortR2 [tI xs] = some (.lst true ((down xs).map D.int)) := by simp [dSortR2, ints_tI, down]
theorem srtR_l (b : Bool) (xs : List Int) : dSortR2 [.lst b (xs.map D.int)] = some (.lst true ((down xs).map D.int)) := by simp [dSortR2, ints_tI, down]
theorem perm_sum {xs ys : List Int} (h : xs.Perm ys) : xs.sum = ys.sum := by
  induction h with
  | nil => rfl
  | cons a _ ih => simp [ih]
  | swap a b l => simp; omega
  | trans _ _ h1 h2 => exact h1.trans h2
/-- a row from lo to hi -/
theorem count_ok {x lo hi : Int} (hx : x.natAbs < 10 ^ 60) (S : Sto) : m_is_count [.int x, .int lo, .int hi] S = .ok (.bl (decide (lo ≤ x) && decide (x ≤ hi))) S := by
  have h1 : m_is_integer [.int x] S = .ok (.bl true) S := by
    have : decide ((if x < 0 then -x else x) < 1000000000000000000000000000000000000000000000000000000000000) = true := decide_eq_true (by split <;> omega)
    simp [m_is_integer, mFun, b_is_integer, sRet, thenS, mAnd, mBlt, aCons, aNil, Ki.bind, mVar, Ki.ret, vw, dIsi, tyOf, subT, lift, mNot, mOp, dAbs, mC, dLt, iCmp, this]
  by_cases c1 : lo ≤ x
  · simp [m_is_count, mFun, b_is_count, sRet, thenS, mAnd, mCall, aCons, aNil, Ki.bind, mVar, Ki.ret, h1, mChain, vw, dLe, iCmp, c1, lift]
  · simp [m_is_count, mFun, b_is_count, sRet, thenS, mAnd, mCall, aCons, aNil, Ki.bind, mVar, Ki.ret, h1, mChain, vw, dLe, iCmp, c1, lift]
theorem bls_map {α : Type} (p : α → Bool) : ∀ xs : List α, blsOf (xs.map fun x => D.bl (p x)) = some (xs.map p)
  | [] => rfl
  | x :: xs => by simp [blsOf, bls_map p xs]
theorem counts_ok {α : Type} {ds : α → D} {p : α → Bool} {lo hi : Int} {S : Sto} {xs : List α} (hl : xs.length ≤ 100000) (h : ∀ x ∈ xs, m_is_count [ds x, .int lo, .int hi] S = .ok (.bl (p x)) S) :
    m_are_counts [.tup (xs.map ds), .int lo, .int hi] S = .ok (.bl (xs.all p)) S := by
  refine fun_rt rfl (ret_ok ?_)
  have c : mBlt dIsi (aCons (mVar 0) (aCons (ret (.ty .tuple)) (aNil))) [some (.tup (xs.map ds)), some (.int lo), some (.int hi), none] S = .ok (.bl true) S := by
    simp [mBlt, aCons, aNil, Ki.bind, mVar, Ki.ret, vw, dIsi, tyOf, subT, lift]
  refine and_true c ?_
  refine blt1 (d := .lst true (xs.map fun x => D.bl (p x))) (S1 := S) ?_ (by simp [dAll, vw, bls_map])
  have q := lc_ok (vs := [3]) (g := gNm 3) (mi := mSq (mVar 0)) (mt := mYes) (me := mCall m_is_count (aCons (mVar 3) (aCons (mVar 1) (aCons (mVar 2) (aNil))))) (env := [some (.tup (xs.map ds)), some (.int lo), some (.int hi), none]) (S := S)
    (ds := ds) (p := fun _ => true) (f := fun x => D.bl (p x)) (xs := xs) ?_ hl fun x hx => ⟨_, rfl, rfl, fun _ => ?_⟩
  · rw [List.filter_eq_self.mpr (by simp)] at q
    exact q
  · simp [mSq, Ki.bind, mVar, items, lift]
  · simp [mCall, aCons, aNil, Ki.bind, mVar, wipeD, Ki.ret, h x hx]
/-- no one is greater than the one ahead -/
def dscB : List Int → Bool
  | x :: y :: xs => decide (y ≤ x) && dscB (y :: xs)
  | _ => true
theorem dscB_iff : ∀ {xs : List Int}, dscB xs = true ↔ Desc xs
  | [] => by simp [dscB]
  | [x] => by simp [dscB]
  | x :: y :: xs => by
    rw [dscB, Bool.and_eq_true, dscB_iff, decide_eq_true_iff]
    constructor
    · rintro ⟨h1, h2⟩
      refine List.pairwise_cons.mpr ⟨fun z hz => ?_, h2⟩
      rcases List.mem_cons.mp hz with rfl | hz
      · exact h1
      · have := (List.pairwise_cons.mp h2).1 z hz
        omega
    · intro h
      obtain ⟨h1, h2⟩ := List.pairwise_cons.mp h
      exact ⟨h1 y List.mem_cons_self, h2⟩
theorem dsc_all : ∀ (xs : List Int), (List.range' 0 (xs.length - 1)).all (fun i => decide (xs[i + 1]?.getD 0 ≤ xs[i]?.getD 0)) = dscB xs
  | [] => rfl
  | [x] => rfl
  | x :: y :: xs => by
    have ih := dsc_all (y :: xs)
    rw [dscB, ← ih]
    have e : (x :: y :: xs).length - 1 = (y :: xs).length - 1 + 1 := by simp
    rw [e, ← List.range_eq_range', ← List.range_eq_range', List.range_succ_eq_map]
    simp [List.all_map, Function.comp_def]
theorem at_int {xs : List Int} {i : Nat} (h : i < xs.length) : L2.atI (xs.map D.int) (i : Int) = some (.int (xs[i]?.getD 0)) := by
  unfold L2.atI L2.ixN
  rw [if_pos (by omega), if_pos (by simpa using h)]
  simp [h]
theorem dsc_ok {xs : List Int} (hl : xs.length ≤ 100000) (S : Sto) : m__do_descend [tI xs] S = .ok (.bl (dscB xs)) S := by
  refine fun_rt rfl (ret_ok ?_)
  rw [← dsc_all]
  refine blt1 (d := .lst true ((List.range' 0 (xs.length - 1)).map fun i => D.bl (decide (xs[i + 1]?.getD 0 ≤ xs[i]?.getD 0)))) (S1 := S) ?_ (by simp only [dAll, vw, bls_map, Option.map_some, List.all_map]; rfl)
  have q := lc_ok (vs := [1]) (g := gNm 1) (mi := mRg1 (aCons (mOp dSub (mBlt dLen (aCons (mVar 0) (aNil))) (mC (.int 1))) (aNil))) (mt := mYes) (me := mOp dGe (mOp dIx (mVar 0) (mVar 1)) (mOp dIx (mVar 0) (mOp dAdd (mVar 1) (mC (.int 1))))) (env := [some (tI xs), none]) (S := S)
    (ds := fun (i : Nat) => D.int (0 + (i : Int))) (p := fun _ => true) (f := fun i => D.bl (decide (xs[i + 1]?.getD 0 ≤ xs[i]?.getD 0))) (xs := List.range' 0 (xs.length - 1)) ?_ (by simp; omega) fun i hi => ⟨_, rfl, rfl, fun _ => ?_⟩
  · rw [List.filter_eq_self.mpr (by simp)] at q
    exact q
  · have b1 : (-4611686018427387904 : Int) ≤ (xs.length : Int) - 1 := by omega
    have b2 : (xs.length : Int) - 1 < 4611686018427387904 := by omega
    have b3 : ((xs.length : Int) - 1).toNat = xs.length - 1 := by omega
    simp [mRg1, Ki.bind, aCons, aNil, mOp, mBlt, mVar, Ki.ret, vw, dLen, lift, dSub, iOp, mC, b1, b2, b3, rgD]
  · have hi' := (List.mem_range'_1.mp hi).2
    have a1 : L2.atI (xs.map D.int) (i : Int) = some (.int (xs[i]?.getD 0)) := at_int (by omega)
    have a2 : L2.atI (xs.map D.int) ((i + 1 : Nat) : Int) = some (.int (xs[i + 1]?.getD 0)) := at_int (by omega)
    have a3 : (((i + 1 : Nat) : Int)) = (i : Int) + 1 := by omega
    rw [a3] at a2
    simp [mOp, Ki.bind, mVar, wipeD, gNm, vw, dIx, lift, a1, a2, mC, Ki.ret, dAdd, iOp, dGe, iCmp]
/-- what is_parts says of ints -/
def isP (xs : List Int) : Bool := xs.all (fun x => decide (1 ≤ x) && decide (x ≤ 24)) && (decide (xs.sum ≤ 24) && dscB xs)
theorem sum_t (xs : List Int) : dSum2 [tI xs] = some (.int xs.sum) := by simp [dSum2, dSum, dSumT, ints_tI]
theorem isP_ok {xs : List Int} (hl : xs.length ≤ 100000) (hb : ∀ x ∈ xs, x.natAbs < 10 ^ 60) (S : Sto) : m_is_parts [tI xs] S = .ok (.bl (isP xs)) S := by
  refine fun_rt rfl (ret_ok ?_)
  have c : mCall m_are_counts (aCons (mVar 0) (aCons (mC (.int 1)) (aCons (mC (.int (24))) (aNil)))) [some (tI xs)] S = .ok (.bl (xs.all (fun x => decide (1 ≤ x) && decide (x ≤ 24)))) S := by
    simp only [mCall, aCons, aNil, Ki.bind, mVar, mC, Ki.ret]
    exact counts_ok hl fun x hx => count_ok (hb x hx) S
  unfold isP
  cases e : xs.all (fun x => decide (1 ≤ x) && decide (x ≤ 24)) with
  | false => rw [e] at c; simp [mAnd, Ki.bind, c, Ki.ret]
  | true =>
    rw [e] at c
    refine and_true c ?_
    have c2 : mOp dLe (mBlt dSum2 (aCons (mVar 0) (aNil))) (mC (.int (24))) [some (tI xs)] S = .ok (.bl (decide (xs.sum ≤ 24))) S := by
      simp [mOp, Ki.bind, mBlt, aCons, aNil, mVar, Ki.ret, vw, sum_t, lift, mC, dLe, iCmp]
    cases e2 : decide (xs.sum ≤ 24) with
    | false => rw [e2] at c2; simp [mAnd, Ki.bind, c2, Ki.ret]
    | true =>
      rw [e2] at c2
      refine and_true c2 ?_
      simp [mCall, aCons, aNil, Ki.bind, mVar, Ki.ret, dsc_ok hl]
theorem Pt.isP_ {xs : List Int} (h : Pt xs) : isP xs = true := by
  unfold K09.isP
  rw [Bool.and_eq_true, Bool.and_eq_true]
  refine ⟨List.all_eq_true.mpr fun x hx => ?_, decide_eq_true h.small, dscB_iff.mpr h.desc⟩
  simp [h.pos x hx, h.le x hx]
theorem Pt.of {xs : List Int} (h : isP xs = true) : Pt xs := by
  unfold K09.isP at h
  rw [Bool.and_eq_true, Bool.and_eq_true] at h
  obtain ⟨h1, h2, h3⟩ := h
  refine ⟨dscB_iff.mp h3, fun x hx => ?_, of_decide_eq_true h2⟩
  have := List.all_eq_true.mp h1 x hx
  simp at this
  exact this.1
theorem Pt.okP {xs : List Int} (h : Pt xs) (S : Sto) : m_is_parts [tI xs] S = .ok (.bl true) S := by
  rw [← h.isP_]
  exact isP_ok (by have := h.len; omega) (fun x hx => by have := h.le x hx; have := h.pos x hx; omega) S
theorem chk {xs : List Int} (h : Pt xs) (S : Sto) : m__check_parts [tI xs] S = .ok .non S := by
  simp [m__check_parts, mFun, b__check_parts, sIf, thenS, tNot', mBl, mCall, aCons, aNil, Ki.bind, mVar, Ki.ret, h.okP S, sNext]
theorem chk2 {xs ys : List Int} (h : Pt xs) (k : Pt ys) (S : Sto) : m__check_both [tI xs, tI ys] S = .ok .non S := by
  simp [m__check_both, mFun, b__check_both, sSeq, sDrop, thenS, mCall, aCons, aNil, Ki.bind, mVar, Ki.ret, chk h S, chk k S]
theorem fn_con {xs : List Int} (h : Pt xs) (S : Sto) : m_conjugate [tI xs] S = .ok (tI (con xs)) S := by
  simp [m_conjugate, mFun, b_conjugate, sSeq, sDrop, sRet, thenS, mCall, aCons, aNil, Ki.bind, mVar, Ki.ret, chk h S, prog_cj h S]
theorem fn_total {xs : List Int} (h : Pt xs) (S : Sto) : m_total_of [tI xs] S = .ok (.int xs.sum) S := by
  simp [m_total_of, mFun, b_total_of, sSeq, sDrop, sRet, thenS, mCall, mBlt, aCons, aNil, Ki.bind, mVar, Ki.ret, chk h S, vw, sum_t, lift]
theorem tupOf_ok {m : M D} {env : Ev} {S S1 : Sto} {d y : D} (h : m env S = .ok d S1) (h2 : dTup (vw S1 d) = some y) : mTupOf m env S = .ok y S1 := by simp [mTupOf, Ki.bind, h, h2, lift]
theorem word_args {f : Fn} {m : M (List D)} {env : Ev} {S S1 : Sto} {ds : List D} (h : m env S = .ok ds S1) : mCall f m env S = f ds S1 := by simp [mCall, Ki.bind, h]
theorem add_tI {xs ys : List Int} (h : xs.length + ys.length ≤ 100000) : dAdd (tI xs) (tI ys) = some (tI (xs ++ ys)) := by
  simp [dAdd, iOp, sAdd, lAdd, tAdd', tI, h]
theorem fn_joined {xs ys : List Int} (h : Pt xs) (k : Pt ys) (hs : xs.sum + ys.sum ≤ 24) (S : Sto) : m_joined_parts [tI xs, tI ys] S = .ok (tI (down (xs ++ ys))) S := by
  have h1 := h.len
  have h2 := k.len
  have e : dAdd (tI xs) (tI ys) = some (tI (xs ++ ys)) := add_tI (by omega)
  have f : m__falling [tI (xs ++ ys)] S = .ok (tI (down (xs ++ ys))) S :=
    fun_rt rfl (ret_ok (tupOf_ok (d := .lst true ((down (xs ++ ys)).map D.int)) (blt1 (d := .lst true ((xs ++ ys).map D.int)) (blt1 (d := tI (xs ++ ys)) rfl rfl) (srtR_l true _)) rfl))
  have g : (mBl (mOp dGt (mOp dAdd (mBlt dSum2 (aCons (mVar 0) (aNil))) (mBlt dSum2 (aCons (mVar 1) (aNil)))) (mC (.int (24))))) [some (tI xs), some (tI ys)] S = .ok false S :=
    bl_ok (mOp_ok (a := .int (xs.sum + ys.sum)) (b := .int 24) (mOp_ok (blt1 (d := tI xs) rfl (sum_t xs)) (blt1 (d := tI ys) rfl (sum_t ys)) rfl) rfl (by
      have : decide ((24 : Int) < xs.sum + ys.sum) = false := decide_eq_false (by omega)
      simp [dGt, iCmp, vw, this]))
  refine fun_rt rfl ?_
  refine (seq_drop (d := .non) (S1 := S) ?_).trans ((if_no g).trans (ret_ok ?_))
  · exact (word_args (ds := [tI xs, tI ys]) rfl).trans (chk2 h k S)
  · exact (word_args (args1 (mOp_ok (a := tI xs) (b := tI ys) rfl rfl e))).trans f
end K09

set_option Elab.async false
set_option linter.all false
set_option maxRecDepth 100000
set_option maxHeartbeats 1000000
namespace K09
open PySem Ki
/-! S09: conjugates there and back, joined ones, products -/
theorem cnt_nil (t : Int) : cnt t [] = 0 := rfl
theorem cnt_le_len (t : Int) (xs : List Int) : cnt t xs ≤ xs.length := List.length_filter_le _ _
theorem cnt_mono {s t : Int} (h : s ≤ t) : ∀ xs : List Int, cnt t xs ≤ cnt s xs
  | [] => Nat.le_refl _
  | x :: xs => by
    have ih := cnt_mono h xs
    unfold cnt at ih ⊢
    by_cases h1 : t < x
    · have : s < x := by omega
      simp [h1, this]; exact ih
    · by_cases h2 : s < x
      · simp [h1, h2]; omega
      · simp [h1, h2]; exact ih
theorem cnt_key {t : Int} : ∀ {xs : List Int}, Desc xs → ∀ i : Nat, (i < cnt t xs ↔ ∃ h : i < xs.length, t < xs[i])
  | [], _, i => by simp [cnt]
  | x :: xs, h, i => by
    obtain ⟨h1, h2⟩ := List.pairwise_cons.mp h
    by_cases c : t < x
    · have e : cnt t (x :: xs) = cnt t xs + 1 := by simp [cnt, c]
      rw [e]
      cases i with
      | zero => simp [c]
      | succ i =>
        have := cnt_key h2 (t := t) i
        simp only [Nat.add_lt_add_iff_right, List.length_cons, List.getElem_cons_succ]
        exact this
    · have e : cnt t (x :: xs) = 0 := by
        unfold cnt
        rw [List.length_eq_zero_iff, List.filter_eq_nil_iff]
        intro y hy
        have : y ≤ x := by
          rcases List.mem_cons.mp hy with rfl | hy
          · exact Int.le_refl _
          · exact h1 y hy
        simp
        omega
      rw [e]
      constructor
      · intro q; omega
      · rintro ⟨q, r⟩
        have : (x :: xs)[i] ≤ x := by
          have := List.getElem_mem q
          rcases List.mem_cons.mp this with e | e
          · omega
          · exact h1 _ e
        omega
theorem cj_len (n : Nat) (xs : List Int) : (cj n xs).length = n := by simp [cj]
theorem cj_get {n i : Nat} {xs : List Int} (h : i < (cj n xs).length) : (cj n xs)[i] = ((cnt i xs : Nat) : Int) := by simp [cj]
theorem cj_desc (n : Nat) (xs : List Int) : Desc (cj n xs) := by
  unfold cj
  refine List.pairwise_map.mpr ?_
  refine (List.pairwise_lt_range' (s := 0) (n := n) (step := 1)).imp fun {a b} h => ?_
  have := cnt_mono (s := (a : Int)) (t := (b : Int)) (by omega) xs
  omega
theorem cj_mem {n : Nat} {xs : List Int} {y : Int} (h : y ∈ cj n xs) : ∃ i : Nat, i < n ∧ y = ((cnt i xs : Nat) : Int) := by
  obtain ⟨i, hi, rfl⟩ := List.mem_map.mp h
  have := (List.mem_range'_1.mp hi).2
  exact ⟨i, by omega, rfl⟩
theorem cj_sum {n : Nat} : ∀ {xs : List Int}, (∀ x ∈ xs, 0 ≤ x ∧ x ≤ n) → (cj n xs).sum = xs.sum := by
  intro xs h
  have e : (cj n xs).sum = upTo (fun t => ((cnt t xs : Nat) : Int)) n := by
    unfold cj
    rw [← List.range_eq_range', upTo_range]
  rw [e]
  clear e
  induction xs with
  | nil =>
    have : ∀ m, upTo (fun t => ((cnt t [] : Nat) : Int)) m = 0 := fun m => by
      induction m with
      | zero => rfl
      | succ m ih => rw [upTo, ih]; rfl
    simpa using this n
  | cons x xs ih =>
    obtain ⟨h1, h2⟩ := h x List.mem_cons_self
    have a : ∀ m : Nat, upTo (fun t => ab t x) m = min x m := fun m => by
      induction m with
      | zero => simp only [upTo]; omega
      | succ m ih =>
        rw [upTo, ih]
        unfold ab
        split <;> omega
    have e : upTo (fun t => ((cnt t (x :: xs) : Nat) : Int)) n = upTo (fun t => ab t x) n + upTo (fun t => ((cnt t xs : Nat) : Int)) n := by
      rw [← upTo_add]
      exact upTo_eq fun t _ => cnt_cons t x xs
    rw [e, a, ih fun y hy => h y (List.mem_cons_of_mem _ hy), List.sum_cons]
    omega
namespace Pt
variable {xs ys zs : List Int} (h : Pt xs)
include h
theorem con_mem {y : Int} (hy : y ∈ con xs) : 1 ≤ y ∧ y ≤ 24 := by
  obtain ⟨i, hi, rfl⟩ := cj_mem hy
  have h1 := cnt_le_len (i : Int) xs
  have h2 := h.len
  have hh := h.head
  have : 0 < cnt (i : Int) xs := (cnt_key h.desc 0).mpr (by
    cases xs with
    | nil => simp at hi
    | cons x xs =>
      refine ⟨by simp, ?_⟩
      simp at hi ⊢
      omega)
  omega
theorem con_sum : (con xs).sum = xs.sum := cj_sum h.bnd
theorem con_pt : Pt (con xs) := ⟨cj_desc _ _, fun y hy => (h.con_mem hy).1, by rw [h.con_sum]; exact h.small⟩
theorem con_con : con (con xs) = xs := by
  have hh := h.head
  have l : ((con xs).headD 0).toNat = xs.length := by
    cases xs with
    | nil => rfl
    | cons x r =>
      have hx := h.pos x List.mem_cons_self
      have e : (con (x :: r)).headD 0 = ((cnt 0 (x :: r) : Nat) : Int) := by
        unfold con cj
        have : ((x :: r).headD 0).toNat = (((x :: r).headD 0).toNat - 1) + 1 := by simp; omega
        rw [this, List.range'_succ]
        rfl
      have c : cnt 0 (x :: r) = (x :: r).length := by
        unfold cnt
        rw [List.filter_eq_self.mpr]
        intro y hy
        have := h.pos y hy
        simp
        omega
      rw [e, c]
      simp
  rw [con, l]
  refine List.ext_getElem (cj_len _ _) fun i h1 h2 => ?_
  rw [cj_get]
  have c : cnt (i : Int) (con xs) = ((List.range' 0 (xs.headD 0).toNat).filter fun (t : Nat) => decide ((t : Int) < xs[i])).length := by
    unfold con cj cnt
    rw [List.filter_map, List.length_map]
    congr 1
    refine List.filter_congr fun t ht => ?_
    have k := cnt_key (t := (t : Int)) h.desc i
    have : ((i : Int) < ((cnt (t : Int) xs : Nat) : Int)) ↔ i < cnt (t : Int) xs := by omega
    simp only [Function.comp_def]
    refine decide_eq_decide.mpr ?_
    exact this.trans (k.trans ⟨fun ⟨_, q⟩ => q, fun q => ⟨h2, q⟩⟩)
  have m := h.bnd xs[i] (List.getElem_mem h2)
  have f : ∀ n : Nat, xs[i] ≤ n → ((List.range' 0 n).filter fun (t : Nat) => decide ((t : Int) < xs[i])).length = xs[i].toNat := by
    intro n hn
    rw [← List.range_eq_range']
    have g : ∀ (n : Nat) (y : Int), 0 ≤ y → ((List.range n).filter fun (t : Nat) => decide ((t : Int) < y)).length = min n y.toNat := by
      intro n y hy
      induction n with
      | zero => simp
      | succ n ih =>
        rw [List.range_succ, List.filter_append, List.length_append, ih]
        by_cases q : (n : Int) < y
        · simp [q]; omega
        · simp [q]; omega
    rw [g n _ m.1]
    omega
  rw [c, f _ m.2]
  omega
end Pt
theorem cj_pad {n k : Nat} {xs : List Int} (h : ∀ x ∈ xs, x ≤ n) : cj (n + k) xs = cj n xs ++ List.replicate k 0 := by
  refine List.ext_getElem (by simp [cj]) fun i h1 h2 => ?_
  rw [cj_get]
  by_cases c : i < n
  · rw [List.getElem_append_left (by simpa [cj] using c), cj_get]
  · rw [List.getElem_append_right (by simpa [cj] using c)]
    rw [cnt_over (n := n) h (by omega)]
    simp
/-- the joined parts -/
def jn (xs ys : List Int) : List Int := down (xs ++ ys)
theorem jn_pt {xs ys : List Int} (h : Pt xs) (k : Pt ys) (hs : xs.sum + ys.sum ≤ 24) : Pt (jn xs ys) := by
  refine ⟨down_desc _, fun x hx => ?_, ?_⟩
  · rcases List.mem_append.mp ((down_perm _).mem_iff.mp hx) with q | q
    · exact h.pos x q
    · exact k.pos x q
  · rw [jn, perm_sum (down_perm _), List.sum_append]
    exact hs
theorem jn_sum (xs ys : List Int) : (jn xs ys).sum = xs.sum + ys.sum := by rw [jn, perm_sum (down_perm _), List.sum_append]
theorem jn_cnt (t : Nat) (xs ys : List Int) : cnt t (jn xs ys) = cnt t xs + cnt t ys := by rw [jn, cnt_perm (down_perm _), cnt_append]
theorem jn_head {xs ys : List Int} (h : Pt xs) (k : Pt ys) : ((jn xs ys).headD 0).toNat = max (xs.headD 0).toNat (ys.headD 0).toNat := by
  have d : Desc (jn xs ys) := down_desc _
  have hx := h.head
  have hy := k.head
  have m : ∀ z, z ∈ jn xs ys ↔ z ∈ xs ∨ z ∈ ys := fun z => (down_perm _).mem_iff.trans List.mem_append
  have le : ∀ {zs : List Int}, (∀ z ∈ zs, z ∈ jn xs ys) → 0 ≤ (jn xs ys).headD 0 → zs.headD 0 ≤ (jn xs ys).headD 0 := by
    intro zs hz h0
    cases zs with
    | nil => exact h0
    | cons z zs => exact le_head d z (hz z List.mem_cons_self)
  cases e : jn xs ys with
  | nil =>
    have e1 : xs = [] := by
      cases xs with
      | nil => rfl
      | cons x _ => have := (m x).mpr (.inl List.mem_cons_self); rw [e] at this; cases this
    have e2 : ys = [] := by
      cases ys with
      | nil => rfl
      | cons x _ => have := (m x).mpr (.inr List.mem_cons_self); rw [e] at this; cases this
    subst e1 e2
    rfl
  | cons j js =>
    have hj : (jn xs ys).headD 0 = j := by rw [e]; rfl
    have jm := (m j).mp (by rw [e]; exact List.mem_cons_self)
    have j0 : 1 ≤ j := jm.elim (h.pos j) (k.pos j)
    have a := le (zs := xs) (fun z q => (m z).mpr (.inl q)) (by omega)
    have b := le (zs := ys) (fun z q => (m z).mpr (.inr q)) (by omega)
    have c : j ≤ xs.headD 0 ∨ j ≤ ys.headD 0 := jm.imp (le_head h.desc j) (le_head k.desc j)
    show j.toNat = _
    omega
/-- the conjugate of the joined ones -/
theorem jn_con {xs ys : List Int} (h : Pt xs) (k : Pt ys) {N : Nat} (hN : N = max (xs.headD 0).toNat (ys.headD 0).toNat) :
    con (jn xs ys) = List.zipWith (· + ·) (con xs ++ List.replicate (N - (xs.headD 0).toNat) 0) (con ys ++ List.replicate (N - (ys.headD 0).toNat) 0) := by
  have a : con xs ++ List.replicate (N - (xs.headD 0).toNat) 0 = cj N xs := by
    have := cj_pad (n := (xs.headD 0).toNat) (k := N - (xs.headD 0).toNat) (xs := xs) fun x q => (h.bnd x q).2
    rw [show (xs.headD 0).toNat + (N - (xs.headD 0).toNat) = N by omega] at this
    exact this.symm
  have b : con ys ++ List.replicate (N - (ys.headD 0).toNat) 0 = cj N ys := by
    have := cj_pad (n := (ys.headD 0).toNat) (k := N - (ys.headD 0).toNat) (xs := ys) fun x q => (k.bnd x q).2
    rw [show (ys.headD 0).toNat + (N - (ys.headD 0).toNat) = N by omega] at this
    exact this.symm
  rw [a, b, con, jn_head h k, ← hN]
  refine List.ext_getElem (by simp [cj]) fun i h1 h2 => ?_
  rw [cj_get, List.getElem_zipWith, cj_get, cj_get, jn_cnt]
  omega
/-- the product number -/
def pn (xs ys : List Int) : Int := both 24 xs ys
theorem dot_pn {xs ys : List Int} (h : Pt xs) (k : Pt ys) : dot (con xs) (con ys) = pn xs ys := by
  have hx := h.head
  have hy := k.head
  rw [con, con, dot_cj]
  exact both_more (fun x q => (h.bnd x q).2) (fun y q => (k.bnd y q).2) (by omega) (by omega)
theorem pn_mins {xs ys : List Int} (h : Pt xs) (k : Pt ys) : mins xs ys = pn xs ys := (both_mins (fun y q => (k.bnd y q).1) fun x q => ⟨(h.bnd x q).1, h.le x q⟩).symm
theorem pn_swap (xs ys : List Int) : pn xs ys = pn ys xs := both_swap _ _ _
theorem pn_jn (xs ys zs : List Int) : pn (jn xs ys) zs = pn xs zs + pn ys zs := by
  rw [← show both 24 (xs ++ ys) zs = pn xs zs + pn ys zs from both_append _ _ _ _]
  exact upTo_eq fun t _ => by rw [jn_cnt, cnt_append]
/-! what the defs make of them -/
theorem zipF_int : ∀ xs ys : List Int, zipF (xs.map D.int) (ys.map D.int) = (xs.zip ys).map fun p => D.tup [.int p.1, .int p.2]
  | [], _ => by simp [zipF]
  | x :: xs, [] => by simp [zipF]
  | x :: xs, y :: ys => by simp [zipF, zipF_int xs ys]
theorem zip_sum {xs ys : List Int} : ((xs.zip ys).map fun p => p.1 * p.2).sum = dot xs ys := by
  unfold dot
  rw [List.zip, List.map_zipWith]
end K09

set_option Elab.async false
set_option linter.all false
set_option maxRecDepth 100000
set_option maxHeartbeats 1000000
namespace K09
open PySem Ki
/-! T09: drawn parts; what is asked of them -/
theorem zip_ok {m1 m2 : M D} {env : Ev} {S : Sto} {us vs : List Int} (h1 : m1 env S = .ok (tI us) S) (h2 : m2 env S = .ok (tI vs) S) :
    mZip (aCons m1 (aCons m2 (aNil))) env S = .ok ((us.zip vs).map fun p => D.tup [.int p.1, .int p.2]) S := by
  simp [mZip, aCons, aNil, Ki.bind, h1, h2, Ki.ret, zipOf, isT, items, zipF_int, lift]
theorem prod_gen {m1 m2 : M D} {a c : Option D} {S : Sto} {us vs : List Int} (h1 : m1 [a, c, none, none] S = .ok (tI us) S) (h2 : m2 [a, c, none, none] S = .ok (tI vs) S) (b1 : ∀ x ∈ us, 1 ≤ x ∧ x ≤ 24) (b2 : ∀ x ∈ vs, 1 ≤ x ∧ x ≤ 24) (hl : us.length ≤ 100000) :
    (mBlt dSum2 (aCons (mLc [2, 3] (gTp [2, 3]) (mZip (aCons m1 (aCons m2 (aNil)))) (mYes) (mOp dMul (mVar 2) (mVar 3))) (aNil))) [a, c, none, none] S = .ok (.int (dot us vs)) S := by
  refine blt1 (d := .lst true ((us.zip vs).map fun p => D.int (p.1 * p.2))) (S1 := S) ?_ ?_
  · have q := lc_ok (vs := [2, 3]) (g := gTp [2, 3]) (mi := mZip (aCons m1 (aCons m2 (aNil)))) (mt := mYes) (me := mOp dMul (mVar 2) (mVar 3)) (env := [a, c, none, none]) (S := S)
      (ds := fun p : Int × Int => D.tup [.int p.1, .int p.2]) (p := fun _ => true) (f := fun p => D.int (p.1 * p.2)) (xs := us.zip vs) ?_ (by simp; omega) fun p hp => ⟨_, rfl, rfl, fun _ => ?_⟩
    · rw [List.filter_eq_self.mpr (by simp)] at q
      exact q
    · exact zip_ok h1 h2
    · obtain ⟨m1, m2⟩ := List.of_mem_zip (a := p.1) (b := p.2) hp
      have c1 := b1 _ m1
      have c2 := b2 _ m2
      refine mOp_ok (a := .int p.1) (b := .int p.2) rfl rfl ?_
      have p62 : (2 : Nat) ^ 62 ≤ 2 ^ 1000 := Nat.pow_le_pow_right (by decide) (by decide)
      have m : cMul p.1 p.2 = true := mul_ok (Nat.lt_of_lt_of_le (abs_lt' (n := 2 ^ 62) (by omega) (by omega)) p62) (Nat.lt_of_lt_of_le (abs_lt' (n := 2 ^ 62) (by omega) (by omega)) p62)
      simp [vw, dMul, iOp, m]
  · have e : ∀ ps : List (Int × Int), intsOf (ps.map fun p => D.int (p.1 * p.2)) = some (ps.map fun p => p.1 * p.2) := fun ps => by
      induction ps with
      | nil => rfl
      | cons p ps ih => simp [intsOf, ih]
    simp [vw, dSum2, dSum, e, zip_sum]
theorem prod_ok {f : Fn} {S : Sto} {xs ys us vs : List Int} (h1 : f [tI xs] S = .ok (tI us) S) (h2 : f [tI ys] S = .ok (tI vs) S) (b1 : ∀ x ∈ us, 1 ≤ x ∧ x ≤ 24) (b2 : ∀ x ∈ vs, 1 ≤ x ∧ x ≤ 24) (hl : us.length ≤ 100000) :
    mFun 4 2 (sRet (mBlt dSum2 (aCons (mLc [2, 3] (gTp [2, 3]) (mZip (aCons (mCall f (aCons (mVar 0) (aNil))) (aCons (mCall f (aCons (mVar 1) (aNil))) (aNil)))) (mYes) (mOp dMul (mVar 2) (mVar 3))) (aNil)))) [tI xs, tI ys] S = .ok (.int (dot us vs)) S :=
  fun_rt rfl (ret_ok (prod_gen (a := some (tI xs)) (c := some (tI ys)) ((word_args (ds := [tI xs]) rfl).trans h1) ((word_args (ds := [tI ys]) rfl).trans h2) b1 b2 hl))
theorem fn_dot {S : Sto} {us vs : List Int} (b1 : ∀ x ∈ us, 1 ≤ x ∧ x ≤ 24) (b2 : ∀ x ∈ vs, 1 ≤ x ∧ x ≤ 24) (hl : us.length ≤ 100000) : m_dot_row [tI us, tI vs] S = .ok (.int (dot us vs)) S :=
  fun_rt rfl (ret_ok (prod_gen (m1 := mVar 0) (m2 := mVar 1) (a := some (tI us)) (c := some (tI vs)) rfl rfl b1 b2 hl))
theorem call_2 {f : Fn} {m m2 : M D} {env : Ev} {S : Sto} {d d2 : D} (h : m env S = .ok d S) (h2 : m2 env S = .ok d2 S) : mCall f (aCons m (aCons m2 aNil)) env S = f [d, d2] S := by simp [mCall, aCons, aNil, Ki.bind, h, h2, Ki.ret]
theorem fn_prod {xs ys : List Int} (h : Pt xs) (k : Pt ys) (S : Sto) : m__product_number [tI xs, tI ys] S = .ok (.int (pn xs ys)) S := by
  rw [← dot_pn h k]
  refine fun_rt rfl (ret_ok ?_)
  refine (call_2 ((word_args (ds := [tI xs]) rfl).trans (prog_cj h S)) ((word_args (ds := [tI ys]) rfl).trans (prog_cj k S))).trans ?_
  exact fn_dot (fun x q => h.con_mem q) (fun x q => k.con_mem q) (by have := h.con_pt.len; omega)
theorem law_prod {xs ys : List Int} (h : Pt xs) (k : Pt ys) (S : Sto) : m__law_product_number [tI xs, tI ys] S = .ok (.int (pn xs ys)) S := by
  rw [← dot_pn h k]
  exact prod_ok (law_cj h S) (law_cj k S) (fun x q => h.con_mem q) (fun x q => k.con_mem q) (by have := h.con_pt.len; omega)
theorem fn_product {xs ys : List Int} (h : Pt xs) (k : Pt ys) (S : Sto) : m_product_number [tI xs, tI ys] S = .ok (.int (pn xs ys)) S := by
  refine fun_rt rfl ((seq_drop (d := .non) (S1 := S) ?_).trans (ret_ok ?_))
  · exact (word_args (ds := [tI xs, tI ys]) rfl).trans (chk2 h k S)
  · exact (word_args (ds := [tI xs, tI ys]) rfl).trans (fn_prod h k S)
/-! drawn parts -/
def bodyP : MS := sIf (mBl (mOp dGt (mVar 3) (mC (.int 0)))) (sSeq (sSet 5 (mOp dAdd (mC (.int 1)) (mCall m__law_pull (aCons (mVar 0) (aCons (mBlt dMin2 (aCons (mVar 3) (aCons (mCall m__law_one_of (aCons (mVar 0) (aCons (mLst (aCons (mC (.int 1)) (aCons (mC (.int 2)) (aCons (mC (.int 3)) (aCons (mVar 3) (aNil)))))) (aNil)))) (aNil)))) (aNil)))))) (sSeq (sDrop (mMut oApp (mVar 4) (aCons (mVar 5) (aNil)))) (sSet 3 (mOp dSub (mVar 3) (mVar 5))))) (sNext)
theorem app_ok {S : Sto} {p : Nat} {xs : List D} {d : D} {mo : M D} {md : M D} {env : Ev} (h1 : mo env S = .ok (.ref p) S) (h2 : md env S = .ok d S) (h : S[p]? = some (.lst xs)) (hl : xs.length < 100000) : mMut oApp mo (aCons md (aNil)) env S = .ok .non (S.set p (.lst (xs ++ [d]))) := by
  simp [mMut, Ki.bind, h1, h, args1 h2, oApp, hl]
theorem vw_at {S : Sto} {p : Nat} {xs : List D} (h : S[p]? = some (.lst xs)) : vw S (.ref p) = .lst false xs := by simp [vw, h]
theorem seq_nx {m k : MS} {env env' : Ev} {S S1 : Sto} (h : m env S = .nx env' S1) : sSeq m k env S = k env' S1 := by simp [sSeq, h]
theorem par2_ok {i j : Nat} {m : M (List D)} {env : Ev} {S S1 : Sto} {a b : D} (h : m env S = .ok [a, b] S1) : sPar2 i j m env S = .nx ((env.set i (some a)).set j (some b)) S1 := by simp [sPar2, thenS, h]
theorem new_ok (env : Ev) (S : Sto) : mNew (aNil) env S = .ok (.ref S.length) (S ++ [.lst []]) := by simp [mNew, aNil, Ki.bind, Ki.ret]
structure Dr (n p : Nat) (most : Int) (b : Nat) (S : Sto) (left : Int) (xs : List Int) : Prop where
  lot : Lot S n b
  ne : n ≠ p
  at_ : S[p]? = some (.lst (xs.map D.int))
  pos : ∀ x ∈ xs, 1 ≤ x
  left0 : 0 ≤ left
  sum : xs.sum + left ≤ most
abbrev envD (n p : Nat) (most left : Int) (e2 e5 : Option D) : Ev := [some (.ref n), some (.int most), e2, some (.int left), some (.ref p), e5]
theorem Lot.put {S : Sto} {n p b : Nat} {o : O} (h : Lot S n b) (hp : n ≠ p) : Lot (S.set p o) n b := by
  obtain ⟨l, c, k, e, q⟩ := h
  exact ⟨l, c, k, by rw [List.getElem?_set_ne (Ne.symm hp)]; exact e, q⟩
theorem Lot.less' {S : Sto} {n b c : Nat} (h : Lot S n b) (hc : c ≤ b) : Lot S n c := by
  obtain ⟨l, d, k, e, q1, q2, q3, q4⟩ := h
  exact ⟨l, d, k, e, q1, q2, q3, by omega⟩
theorem turn_ok {n p b : Nat} {most left : Int} {e2 e5 : Option D} {S : Sto} {xs : List Int} (hm : most ≤ 12) (h : Dr n p most (b + 2) S left xs) :
    ∃ left' e5' S' xs', bodyP (envD n p most left e2 e5) S = .nx (envD n p most left' e2 e5') S' ∧ Dr n p most b S' left' xs' := by
  by_cases hl : 0 < left
  · have c1 : mBl (mOp dGt (mVar 3) (mC (.int 0))) (envD n p most left e2 e5) S = .ok true S := bl_ok (mOp_ok (a := .int left) (b := .int 0) rfl rfl (by simp [dGt, iCmp, vw, hl]))
    obtain ⟨x, o, hx, e1, l1⟩ := one_ok (xs := [.int 1, .int 2, .int 3, .int left]) (b := b + 1) h.lot (by simp) (by simp)
    obtain ⟨y, rfl, hy⟩ : ∃ y : Int, x = .int y ∧ 1 ≤ y := by
      simp only [List.mem_cons, List.mem_nil_iff, or_false] at hx
      rcases hx with rfl | rfl | rfl | rfl
      · exact ⟨_, rfl, by omega⟩
      · exact ⟨_, rfl, by omega⟩
      · exact ⟨_, rfl, by omega⟩
      · exact ⟨_, rfl, by omega⟩
    obtain ⟨m, hm', m1, m2⟩ : ∃ m : Int, m = (if y < left then y else left) ∧ 1 ≤ m ∧ m ≤ left := ⟨_, rfl, by split <;> omega, by split <;> omega⟩
    have sx : xs.sum ≥ 0 := by have := (sum_nn h.pos).1; omega
    obtain ⟨r, o2, r0, r1, e3, l2⟩ := pull_ok (t := m) (b := b) l1 (by omega) (by have := h.sum; omega)
    have np := h.ne
    have hp : p < S.length := (List.getElem?_eq_some_iff.mp h.at_).1
    have at2 : ((S.set n o).set n o2)[p]? = some (.lst (xs.map D.int)) := by
      rw [List.getElem?_set_ne np, List.getElem?_set_ne np]
      exact h.at_
    have len : xs.length < 100000 := by have := (sum_nn h.pos).1; have := h.sum; omega
    refine ⟨left - (1 + r), some (.int (1 + r)), (((S.set n o).set n o2).set p (.lst ((xs ++ [1 + r]).map D.int))), xs ++ [1 + r], ?_, ?_⟩
    · have a1 : mCall m__law_one_of (aCons (mVar 0) (aCons (mLst (aCons (mC (.int 1)) (aCons (mC (.int 2)) (aCons (mC (.int 3)) (aCons (mVar 3) (aNil)))))) (aNil))) (envD n p most left e2 e5) S = .ok (.int y) (S.set n o) := (word_args (ds := [.ref n, .lst true [.int 1, .int 2, .int 3, .int left]]) rfl).trans e1
      have a2 : mBlt dMin2 (aCons (mVar 3) (aCons (mCall m__law_one_of (aCons (mVar 0) (aCons (mLst (aCons (mC (.int 1)) (aCons (mC (.int 2)) (aCons (mC (.int 3)) (aCons (mVar 3) (aNil)))))) (aNil)))) (aNil))) (envD n p most left e2 e5) S = .ok (.int m) (S.set n o) := by
        have q := args2 (m := mVar 3) (env := envD n p most left e2 e5) (S := S) (S1 := S) (d := .int left) rfl (args1 a1)
        simp [mBlt, Ki.bind, q, vw, dMin2, lift, hm']
      have a3 : mOp dAdd (mC (.int 1)) (mCall m__law_pull (aCons (mVar 0) (aCons (mBlt dMin2 (aCons (mVar 3) (aCons (mCall m__law_one_of (aCons (mVar 0) (aCons (mLst (aCons (mC (.int 1)) (aCons (mC (.int 2)) (aCons (mC (.int 3)) (aCons (mVar 3) (aNil)))))) (aNil)))) (aNil)))) (aNil)))) (envD n p most left e2 e5) S = .ok (.int (1 + r)) ((S.set n o).set n o2) :=
        mOp_ok (a := .int 1) (b := .int r) rfl ((word_args (args2 (d := .ref n) rfl (args1 a2))).trans e3) rfl
      have a4 : mMut oApp (mVar 4) (aCons (mVar 5) (aNil)) (envD n p most left e2 (some (.int (1 + r)))) ((S.set n o).set n o2) = .ok .non (((S.set n o).set n o2).set p (.lst ((xs ++ [1 + r]).map D.int))) := by
        exact app_ok (d := .int (1 + r)) rfl rfl at2 (by simpa using len) |>.trans (by simp)
      unfold bodyP sIf thenS
      rw [c1]
      show sSeq _ _ _ _ = _
      rw [seq_set (env' := envD n p most left e2 (some (.int (1 + r)))) a3 rfl, seq_drop a4]
      rfl
    · have hp' : p < ((S.set n o).set n o2).length := by simpa using hp
      refine ⟨l2.put np, np, List.getElem?_set_self hp', fun z hz => ?_, by omega, ?_⟩
      · rcases List.mem_append.mp hz with q | q
        · exact h.pos z q
        · rw [List.mem_singleton.mp q]; omega
      · rw [List.sum_append]
        have := h.sum
        simp
        omega
  · have c1 : mBl (mOp dGt (mVar 3) (mC (.int 0))) (envD n p most left e2 e5) S = .ok false S := bl_ok (mOp_ok (a := .int left) (b := .int 0) rfl rfl (by simp [dGt, iCmp, vw]; omega))
    refine ⟨left, e5, S, xs, ?_, h.lot.less' (by omega), h.ne, h.at_, h.pos, h.left0, h.sum⟩
    unfold bodyP sIf thenS
    rw [c1]
    rfl
theorem turns_ok {n p b : Nat} {most : Int} (hm : most ≤ 12) : ∀ (ds : List D) {left : Int} {e2 e5 : Option D} {S : Sto} {xs : List Int}, Dr n p most (b + 2 * ds.length) S left xs →
    ∃ left' e2' e5' S' xs', forL (gNm 2) bodyP ds (envD n p most left e2 e5) S = .nx (envD n p most left' e2' e5') S' ∧ Dr n p most b S' left' xs'
  | [], left, e2, e5, S, xs, h => ⟨left, e2, e5, S, xs, rfl, h⟩
  | d :: ds, left, e2, e5, S, xs, h => by
    obtain ⟨l1, f1, S1, x1, t1, q1⟩ := turn_ok (e2 := some d) (e5 := e5) (b := b + 2 * ds.length) hm (by simpa [Nat.mul_add, Nat.add_assoc] using h)
    obtain ⟨l2, g2, f2, S2, x2, t2, q2⟩ := turns_ok hm ds (e2 := some d) (e5 := f1) q1
    exact ⟨l2, g2, f2, S2, x2, by rw [forL]; show (match bodyP (envD n p most left (some d) e5) S with | .nx e S' => forL (gNm 2) bodyP ds e S' | .ct e S' => forL (gNm 2) bodyP ds e S' | .bk e S' => .nx e S' | .rt x S' => .rt x S' | .exc x e S' => .exc x e S' | .bad => .bad) = _; rw [t1]; exact t2, q2⟩
theorem drawn_ok {S : Sto} {n b : Nat} {most : Int} (hm0 : 0 ≤ most) (hm : most ≤ 12) (h : Lot S n (b + 25)) :
    ∃ xs S', Pt xs ∧ xs.sum ≤ most ∧ m__law_pa_drawn [.ref n, .int most] S = .ok (tI xs) S' ∧ Lot S' n b := by
  obtain ⟨r, o, r0, r1, e, l⟩ := pull_ok (t := most + 1) (b := b + 24) (h.less' (by omega)) (by omega) (by omega)
  have hn : n < S.length := by obtain ⟨_, _, _, q, _⟩ := h; exact (List.getElem?_eq_some_iff.mp q).1
  obtain ⟨S1, hS1⟩ : ∃ S1, S1 = S.set n o := ⟨_, rfl⟩
  rw [← hS1] at e l
  have hn1 : n < S1.length := by rw [hS1]; simpa using hn
  have l' : Lot (S1 ++ [.lst []]) n (b + 24) := l.app
  have d0 : Dr n S1.length most (b + 24) (S1 ++ [.lst []]) r [] :=
    ⟨l', by omega, by simp, by simp, r0, by simp; omega⟩
  obtain ⟨left', e2', e5', S', xs, t, q⟩ := turns_ok (b := b) (most := most) hm (rgD 0 most.toNat) (e2 := none) (e5 := none) (by rw [rgl9]; exact ⟨d0.lot.less' (by omega), d0.ne, d0.at_, d0.pos, d0.left0, d0.sum⟩)
  have sx := (sum_nn q.pos).1
  have ds : (down xs).sum = xs.sum := perm_sum (down_perm _)
  have pt : Pt (down xs) := ⟨down_desc _, fun x hx => q.pos x ((down_perm _).mem_iff.mp hx), by rw [ds]; have := q.sum; have := q.left0; omega⟩
  refine ⟨down xs, S', pt, by rw [ds]; have := q.sum; have := q.left0; omega, ?_, q.lot⟩
  have c1 : decide (-(2 ^ 62) ≤ most) = true := decide_eq_true (by omega)
  have c2 : decide (most < 2 ^ 62) = true := decide_eq_true (by omega)
  have p1 : (sPar2 3 4 (aCons (mCall m__law_pull (aCons (mVar 0) (aCons (mOp dAdd (mVar 1) (mC (.int 1))) (aNil)))) (aCons (mNew (aNil)) (aNil)))) [some (.ref n), some (.int most), none, none, none, none] S = .nx (envD n S1.length most r none none) (S1 ++ [.lst []]) := by
    have a1 : mCall m__law_pull (aCons (mVar 0) (aCons (mOp dAdd (mVar 1) (mC (.int 1))) (aNil))) [some (.ref n), some (.int most), none, none, none, none] S = .ok (.int r) S1 := (word_args (ds := [.ref n, .int (most + 1)]) rfl).trans e
    exact par2_ok (args2 a1 (args1 (new_ok _ S1)))
  have p2 : (sForR1 (gNm 2) (aCons (mVar 1) (aNil)) bodyP) (envD n S1.length most r none none) (S1 ++ [.lst []]) = .nx (envD n S1.length most left' e2' e5') S' := by
    have a : (aCons (mVar 1) (aNil)) (envD n S1.length most r none none) (S1 ++ [.lst []]) = .ok [.int most] (S1 ++ [.lst []]) := rfl
    unfold sForR1 thenS
    rw [a]
    simp only [c1, c2, Bool.and_self, if_true]
    exact t
  have p3 : (sRet (mTupOf (mBlt dSortR2 (aCons (mVar 4) (aNil))))) (envD n S1.length most left' e2' e5') S' = .rt (tI (down xs)) S' := by
    refine ret_ok (tupOf_ok (d := .lst true ((down xs).map D.int)) (blt1 (d := .ref S1.length) rfl ?_) rfl)
    have v : vw S' (.ref S1.length) = .lst false (xs.map D.int) := vw_at q.at_
    rw [v]
    exact srtR_l false xs
  refine fun_rt rfl ?_
  exact (seq_nx p1).trans ((seq_nx p2).trans p3)
end K09

set_option Elab.async false
set_option linter.all false
set_option maxRecDepth 100000
set_option maxHeartbeats 1000000
namespace K09
open PySem Ki
/-! U09: products are right -/
theorem eqv_lI (a b : Bool) (xs ys : List Int) : dEqv (.lst a (xs.map D.int)) (.lst b (ys.map D.int)) = some (decide (xs = ys)) := by
  have sh : ∀ zs : List Int, SeqAt.shaped (.list (zs.map PyData.int)) = true := fun zs => by
    have := depth_int zs
    unfold SeqAt.shaped
    rw [Bool.and_eq_true]
    exact ⟨by simp [PyData.canLay0, lay_int], decide_eq_true (by simp only [PyData.depth]; omega)⟩
  simp [dEqv, toPy, toPyL_int, sh, PyData.eqv, eqv_int]
theorem ne_lI (a b : Bool) (xs : List Int) : dNe (.lst a (xs.map D.int)) (.lst b (xs.map D.int)) = some (.bl false) := by simp [dNe, eqv_lI]
theorem ne_tS (xs : List Int) : dNe (tI xs) (tI xs) = some (.bl false) := by simp [ne_tI]
theorem sh_int (x : Int) : SeqAt.shaped (.int x) = true := by simp [SeqAt.shaped, PyData.canLay0, PyData.depth]
theorem ne_i (x : Int) : dNe (.int x) (.int x) = some (.bl false) := by simp [dNe, dEqv, toPy, sh_int, PyData.eqv]
theorem eq_i (x : Int) : dEq (.int x) (.int x) = some (.bl true) := by simp [dEq, dEqv, toPy, sh_int, PyData.eqv]
theorem or_no {a c : M Bool} {env : Ev} {S S1 : Sto} {r : Res Bool} (h : a env S = .ok false S1) (h2 : c env S1 = r) : tOr' a c env S = r := by
  unfold tOr' Ki.bind
  rw [h]
  exact h2
theorem no_ {op : Op2} {ma mb : M D} {env : Ev} {S S1 S2 : Sto} {a b : D} (h1 : ma env S = .ok a S1) (h2 : mb env S1 = .ok b S2) (h3 : op (vw S2 a) (vw S2 b) = some (.bl false)) : mBl (mOp op ma mb) env S = .ok false S2 := bl_ok (mOp_ok h1 h2 h3)
/-- a call of one, of two -/
theorem c1_ {f : Fn} {m : M D} {env : Ev} {S S1 : Sto} {d : D} {r : Res D} (h : m env S = .ok d S1) (h2 : f [d] S1 = r) : mCall f (aCons m (aNil)) env S = r := (word_args (args1 h)).trans h2
theorem c2_ {f : Fn} {m1 m2 : M D} {env : Ev} {S S1 S2 : Sto} {d1 d2 : D} {r : Res D} (h : m1 env S = .ok d1 S1) (h' : m2 env S1 = .ok d2 S2) (h2 : f [d1, d2] S2 = r) : mCall f (aCons m1 (aCons m2 (aNil))) env S = r := (word_args (args2 h (args1 h'))).trans h2
/-- one drawing of parts -/
theorem one_drawn {env : Ev} {S : Sto} {n b : Nat} (h0 : env[0]? = some (some (.ref n))) (h : Lot S n (b + 26)) :
    ∃ xs S', Pt xs ∧ xs.sum ≤ 12 ∧ (mCall m__law_pa_drawn (aCons (mVar 0) (aCons (mCall m__law_one_of (aCons (mVar 0) (aCons (mLst (aCons (mC (.int 4)) (aCons (mC (.int 8)) (aCons (mC (.int 12)) (aNil))))) (aNil)))) (aNil)))) env S = .ok (tI xs) S' ∧ Lot S' n b := by
  obtain ⟨x, o, hx, e, l⟩ := one_ok (xs := [.int 4, .int 8, .int 12]) (b := b + 25) h (by simp) (by simp)
  obtain ⟨y, rfl, y0, y1⟩ : ∃ y : Int, x = .int y ∧ 0 ≤ y ∧ y ≤ 12 := by
    simp only [List.mem_cons, List.mem_nil_iff, or_false] at hx
    rcases hx with rfl | rfl | rfl
    · exact ⟨_, rfl, by omega, by omega⟩
    · exact ⟨_, rfl, by omega, by omega⟩
    · exact ⟨_, rfl, by omega, by omega⟩
  obtain ⟨xs, S', p, s, e2, l2⟩ := drawn_ok y0 y1 l
  have v (S : Sto) : mVar 0 env S = .ok (.ref n) S := by unfold mVar; rw [h0]
  have m : mCall m__law_one_of (aCons (mVar 0) (aCons (mLst (aCons (mC (.int 4)) (aCons (mC (.int 8)) (aCons (mC (.int 12)) (aNil))))) (aNil))) env S = .ok (.int y) (S.set n o) := c2_ (v S) (d2 := .lst true [.int 4, .int 8, .int 12]) rfl e
  exact ⟨xs, S', p, by omega, c2_ (v S) m e2, l2⟩
def Good (n b : Nat) (r : SRes) : Prop := ∃ S', r = .rt (.bl true) S' ∧ Lot S' n b
theorem sum_l (b : Bool) (xs : List Int) : dSum2 [.lst b (xs.map D.int)] = some (.int xs.sum) := by simp only [dSum2, dSum, ints_tI]; rfl
theorem blt2 {op : OpL} {m1 m2 : M D} {env : Ev} {S S1 S2 : Sto} {a b y : D} (h1 : m1 env S = .ok a S1) (h2 : m2 env S1 = .ok b S2) (h3 : op [vw S2 a, vw S2 b] = some y) : mBlt op (aCons m1 (aCons m2 (aNil))) env S = .ok y S2 := by
  simp only [mBlt, Ki.bind, args2 h1 (args1 h2), List.map_cons, List.map_nil, h3, lift]
theorem sum_c {xs : List Int} {g : Int → Int} {me : M D} {env : Ev} {S : Sto} {i j : Nat} (hl : xs.length ≤ 100000) (h0 : env[j]? = some (some (tI xs))) (h : ∀ x ∈ xs, me ((wipeD env [i]).set i (some (.int x))) S = .ok (.int (g x)) S) :
    mBlt dSum2 (aCons (mLc [i] (gNm i) (mSq (mVar j)) (mYes) me) (aNil)) env S = .ok (.int (xs.map g).sum) S := by
  refine blt1 (d := .lst true ((xs.map g).map D.int)) (S1 := S) ?_ (sum_l _ _)
  have q := lc_ok (vs := [i]) (g := gNm i) (mi := mSq (mVar j)) (mt := mYes) (me := me) (env := env) (S := S) (ds := D.int) (p := fun _ => true) (f := fun x => D.int (g x)) (xs := xs) ?_ hl fun x hx => ⟨_, rfl, rfl, fun _ => h x hx⟩
  · rw [List.filter_eq_self.mpr (by simp)] at q
    rw [q, List.map_map]
    rfl
  · simp [mSq, Ki.bind, mVar, h0, items, lift]
theorem rep0 (k : Int) (h0 : 0 ≤ k) (h1 : k ≤ 1000) : dRepL (.lst true [.int 0]) (.int k) = some (.lst true ((List.replicate k.toNat (0 : Int)).map D.int)) := by
  have a : decide (0 ≤ k) = true := decide_eq_true h0
  have b : decide (k ≤ 1000) = true := decide_eq_true h1
  have e : ∀ n : Nat, (List.replicate n [D.int 0]).flatten = List.replicate n (D.int 0) := fun n => by
    induction n with
    | zero => rfl
    | succ n ih => rw [List.replicate_succ, List.flatten_cons, ih]; rfl
  simp [dRepL, a, b, e]
theorem addL {a b : Bool} {xs ys : List Int} (h : xs.length + ys.length ≤ 100000) : dAdd (.lst a (xs.map D.int)) (.lst b (ys.map D.int)) = some (.lst true ((xs ++ ys).map D.int)) := by
  simp [dAdd, iOp, sAdd, lAdd, h]
theorem zipL_ok {us vs : List Int} {a b : Bool} {env : Ev} {S : Sto} {i j : Nat} (h1 : env[i]? = some (some (.lst a (us.map D.int)))) (h2 : env[j]? = some (some (.lst b (vs.map D.int)))) :
    mZip (aCons (mVar i) (aCons (mVar j) (aNil))) env S = .ok ((us.zip vs).map fun p => D.tup [.int p.1, .int p.2]) S := by
  simp [mZip, aCons, aNil, Ki.bind, mVar, h1, h2, Ki.ret, zipOf, isT, items, zipF_int, lift]
theorem products_ok {S : Sto} {n b : Nat} (h : Lot S n (b + 78)) : ∃ S', m__law_products_right [.ref n] S = .ok (.bl true) S' ∧ Lot S' n b := by
  suffices hb : Good n b (b__law_products_right [some (.ref n), none, none, none, none, none, none, none, none, none, none, none] S) by
    obtain ⟨S', e, q⟩ := hb
    exact ⟨S', fun_rt rfl e, q⟩
  have g0 (i : Int) : (([some (.ref n), none, none, none, none, none, none, none, none, none, none, none] : Ev).set 9 (some (.int i)))[0]? = some (some (.ref n)) := rfl
  obtain ⟨xs, S1, px, sx, e1, l1⟩ := one_drawn (b := b + 52) (g0 0) h
  obtain ⟨ys, S2, py, sy, e2, l2⟩ := one_drawn (b := b + 26) (g0 1) l1
  obtain ⟨zs, S3, pz, sz, e3, l3⟩ := one_drawn (b := b) (g0 2) l2
  unfold b__law_products_right
  refine asgP (P := Good n b) (g := gTpL [6, 7, 8]) (d := .lst true [tI xs, tI ys, tI zs]) (S1 := S3) (env' := [some (.ref n), none, none, none, none, none, some (tI xs), some (tI ys), some (tI zs), none, none, none]) ?_ rfl ?_
  · have r : mRg1 (aCons (mC (.int 3)) (aNil)) ([some (.ref n), none, none, none, none, none, none, none, none, none, none, none] : Ev) S = .ok [.int 0, .int 1, .int 2] S := rfl
    unfold mLc
    rw [r]
    have t1 := e1
    have t2 := e2
    have t3 := e3
    simp only [List.length_cons, List.length_nil, lcL, gNm, mYes, Ki.ret]
    have w : wipeD ([some (.ref n), none, none, none, none, none, none, none, none, none, none, none] : Ev) [9] = [some (.ref n), none, none, none, none, none, none, none, none, none, none, none] := rfl
    rw [w, t1]
    simp only []
    rw [t2]
    simp only []
    rw [t3]
    simp
  generalize hE : ([some (.ref n), none, none, none, none, none, some (tI xs), some (tI ys), some (tI zs), none, none, none] : Ev) = E
  have v6 (S : Sto) : mVar 6 E S = .ok (tI xs) S := by rw [← hE]; rfl
  have v7 (S : Sto) : mVar 7 E S = .ok (tI ys) S := by rw [← hE]; rfl
  have k6 (S : Sto) : mCall m_conjugate (aCons (mVar 6) (aNil)) E S = .ok (tI (con xs)) S := c1_ (v6 S) (fn_con px S)
  have k7 (S : Sto) : mCall m_conjugate (aCons (mVar 7) (aNil)) E S = .ok (tI (con ys)) S := c1_ (v7 S) (fn_con py S)
  have j1 := jn_pt px py (by omega)
  refine ifP (P := Good n b) (or_no (no_ (k6 S3) (c1_ (v6 S3) (law_cj px S3)) (ne_tS _)) (or_no (no_ (c1_ (k7 S3) (fn_con py.con_pt S3)) (v7 S3) (by rw [py.con_con]; exact ne_tS _)) (no_ (c1_ (v6 S3) (fn_total px S3)) (blt1 (v6 S3) (sum_t xs)) (ne_i _)))) ?_
  refine setP (P := Good n b) (d := tI (jn xs ys)) (S1 := S3) (env' := [some (.ref n), some (tI (jn xs ys)), none, none, none, none, some (tI xs), some (tI ys), some (tI zs), none, none, none]) (c2_ (v6 S3) (v7 S3) (fn_joined px py (by omega) S3)) (by rw [← hE]; rfl) ?_
  clear v6 v7 k6 k7 hE
  clear E
  generalize hE : ([some (.ref n), some (tI (jn xs ys)), none, none, none, none, some (tI xs), some (tI ys), some (tI zs), none, none, none] : Ev) = E
  have v1 (S : Sto) : mVar 1 E S = .ok (tI (jn xs ys)) S := by rw [← hE]; rfl
  have v6 (S : Sto) : mVar 6 E S = .ok (tI xs) S := by rw [← hE]; rfl
  have v7 (S : Sto) : mVar 7 E S = .ok (tI ys) S := by rw [← hE]; rfl
  have k6 (S : Sto) : mCall m_conjugate (aCons (mVar 6) (aNil)) E S = .ok (tI (con xs)) S := c1_ (v6 S) (fn_con px S)
  have k7 (S : Sto) : mCall m_conjugate (aCons (mVar 7) (aNil)) E S = .ok (tI (con ys)) S := c1_ (v7 S) (fn_con py S)
  refine ifP (P := Good n b) (or_no (no_ (v1 S3) (tupOf_ok (d := .lst true ((jn xs ys).map D.int)) (blt1 (mOp_ok (v6 S3) (v7 S3) (add_tI (by have := px.len; have := py.len; omega))) (srtR_t _)) rfl) (ne_tS _)) (no_ (c1_ (v1 S3) (fn_total j1 S3)) (mOp_ok (a := .int xs.sum) (b := .int ys.sum) (blt1 (v6 S3) (sum_t xs)) (blt1 (v7 S3) (sum_t ys)) rfl) (by rw [jn_sum]; exact ne_i _))) ?_
  obtain ⟨lx, hlx, lx0, lx1⟩ : ∃ l : Int, l = ((con xs).length : Int) ∧ 0 ≤ l ∧ l ≤ 24 := ⟨_, rfl, by omega, by have := px.con_pt.len; omega⟩
  obtain ⟨ly, hly, ly0, ly1⟩ : ∃ l : Int, l = ((con ys).length : Int) ∧ 0 ≤ l ∧ l ≤ 24 := ⟨_, rfl, by omega, by have := py.con_pt.len; omega⟩
  obtain ⟨N, hN⟩ : ∃ N : Int, N = (if ly > lx then ly else lx) := ⟨_, rfl⟩
  have N1 : lx ≤ N := by rw [hN]; split <;> omega
  have N2 : ly ≤ N := by rw [hN]; split <;> omega
  have N3 : N ≤ 24 := by rw [hN]; split <;> omega
  have p34 : (sPar2 3 4 (aCons (mBlt dList (aCons (mCall m_conjugate (aCons (mVar 6) (aNil))) (aNil))) (aCons (mBlt dList (aCons (mCall m_conjugate (aCons (mVar 7) (aNil))) (aNil))) (aNil)))) E S3 = .nx [some (.ref n), some (tI (jn xs ys)), none, some (.lst true ((con xs).map D.int)), some (.lst true ((con ys).map D.int)), none, some (tI xs), some (tI ys), some (tI zs), none, none, none] S3 := by
    rw [par2_ok (args2 (blt1 (k6 S3) rfl) (args1 (blt1 (k7 S3) rfl))), ← hE]
    rfl
  show Good n b (sSeq _ _ E S3)
  rw [seq_nx p34]
  refine setP (P := Good n b) (d := .int N) (S1 := S3) (env' := [some (.ref n), some (tI (jn xs ys)), some (.int N), some (.lst true ((con xs).map D.int)), some (.lst true ((con ys).map D.int)), none, some (tI xs), some (tI ys), some (tI zs), none, none, none]) ?_ rfl ?_
  · exact blt2 (a := .int lx) (b := .int ly) (S1 := S3) (blt1 (d := .lst true ((con xs).map D.int)) rfl (by simp [dLen, vw, hlx])) (blt1 (d := .lst true ((con ys).map D.int)) rfl (by simp [dLen, vw, hly])) (by simp [vw, dMax2, hN])
  obtain ⟨fx, hfx⟩ : ∃ f : List Int, f = con xs ++ List.replicate (N - lx).toNat 0 := ⟨_, rfl⟩
  obtain ⟨fy, hfy⟩ : ∃ f : List Int, f = con ys ++ List.replicate (N - ly).toNat 0 := ⟨_, rfl⟩
  refine setP (P := Good n b) (d := .lst true (fx.map D.int)) (S1 := S3) (env' := [some (.ref n), some (tI (jn xs ys)), some (.int N), some (.lst true (fx.map D.int)), some (.lst true ((con ys).map D.int)), none, some (tI xs), some (tI ys), some (tI zs), none, none, none]) ?_ rfl ?_
  · refine mOp_ok (a := .lst true ((con xs).map D.int)) (b := .lst true ((List.replicate (N - lx).toNat (0 : Int)).map D.int)) rfl (mOp_ok (a := .lst true [.int 0]) (b := .int (N - lx)) rfl (mOp_ok (a := .int N) (b := .int lx) rfl (blt1 (d := .lst true ((con xs).map D.int)) rfl (by simp [dLen, vw, hlx])) rfl) (rep0 _ (by omega) (by omega))) ?_
    rw [hfx]
    exact addL (by rw [List.length_replicate]; omega)
  refine setP (P := Good n b) (d := .lst true (fy.map D.int)) (S1 := S3) (env' := [some (.ref n), some (tI (jn xs ys)), some (.int N), some (.lst true (fx.map D.int)), some (.lst true (fy.map D.int)), none, some (tI xs), some (tI ys), some (tI zs), none, none, none]) ?_ rfl ?_
  · refine mOp_ok (a := .lst true ((con ys).map D.int)) (b := .lst true ((List.replicate (N - ly).toNat (0 : Int)).map D.int)) rfl (mOp_ok (a := .lst true [.int 0]) (b := .int (N - ly)) rfl (mOp_ok (a := .int N) (b := .int ly) rfl (blt1 (d := .lst true ((con ys).map D.int)) rfl (by simp [dLen, vw, hly])) rfl) (rep0 _ (by omega) (by omega))) ?_
    rw [hfy]
    exact addL (by rw [List.length_replicate]; omega)
  clear v1 v6 v7 k6 k7 p34 hE
  clear E
  generalize hE : ([some (.ref n), some (tI (jn xs ys)), some (.int N), some (.lst true (fx.map D.int)), some (.lst true (fy.map D.int)), none, some (tI xs), some (tI ys), some (tI zs), none, none, none] : Ev) = E
  have v1 (S : Sto) : mVar 1 E S = .ok (tI (jn xs ys)) S := by rw [← hE]; rfl
  have z : con (jn xs ys) = List.zipWith (· + ·) fx fy := by
    have hx := px.head
    have hy := py.head
    have lcx : (con xs).length = (xs.headD 0).toNat := cj_len _ _
    have lcy : (con ys).length = (ys.headD 0).toNat := cj_len _ _
    have N4 : N.toNat = max (xs.headD 0).toNat (ys.headD 0).toNat := by
      rw [hN]
      split <;> omega
    rw [jn_con px py N4, hfx, hfy]
    have q1 : (N - lx).toNat = N.toNat - (xs.headD 0).toNat := by omega
    have q2 : (N - ly).toNat = N.toNat - (ys.headD 0).toNat := by omega
    rw [q1, q2]
  have lfx : fx.length ≤ 100000 := by rw [hfx, List.length_append, List.length_replicate]; omega
  have zc : (mLc [10, 11] (gTp [10, 11]) (mZip (aCons (mVar 3) (aCons (mVar 4) (aNil)))) (mYes) (mOp dAdd (mVar 10) (mVar 11))) E S3 = .ok (.lst true ((con (jn xs ys)).map D.int)) S3 := by
    have q := lc_ok (vs := [10, 11]) (g := gTp [10, 11]) (mi := mZip (aCons (mVar 3) (aCons (mVar 4) (aNil)))) (mt := mYes) (me := mOp dAdd (mVar 10) (mVar 11)) (env := E) (S := S3)
      (ds := fun p : Int × Int => D.tup [.int p.1, .int p.2]) (p := fun _ => true) (f := fun p => D.int (p.1 + p.2)) (xs := fx.zip fy) (by rw [← hE]; exact zipL_ok rfl rfl) (by simp; omega) fun p hp => ⟨[some (.ref n), some (tI (jn xs ys)), some (.int N), some (.lst true (fx.map D.int)), some (.lst true (fy.map D.int)), none, some (tI xs), some (tI ys), some (tI zs), none, some (.int p.1), some (.int p.2)], by rw [← hE]; rfl, rfl, fun _ => mOp_ok (a := .int p.1) (b := .int p.2) rfl rfl rfl⟩
    rw [List.filter_eq_self.mpr (by simp)] at q
    rw [q, z, List.zip, List.map_zipWith, List.map_zipWith]
  refine ifP (P := Good n b) (no_ (blt1 (c1_ (v1 S3) (fn_con j1 S3)) rfl) zc (ne_lI _ _ _)) ?_
  refine setP (P := Good n b) (d := .int (mins xs ys)) (S1 := S3) (env' := [some (.ref n), some (tI (jn xs ys)), some (.int N), some (.lst true (fx.map D.int)), some (.lst true (fy.map D.int)), some (.int (mins xs ys)), some (tI xs), some (tI ys), some (tI zs), none, none, none]) ?_ (by rw [← hE]; rfl) ?_
  · refine sum_c (g := fun x => (ys.map fun y => if y < x then y else x).sum) (by have := px.len; omega) (by rw [← hE]; rfl) fun x hx => ?_
    refine sum_c (g := fun y => if y < x then y else x) (by have := py.len; omega) (by rw [← hE]; rfl) fun y hy => ?_
    rw [← hE]
    have q := args2 (m := mVar 10) (ms := aCons (mVar 11) (aNil)) (env := ([some (.ref n), some (tI (jn xs ys)), some (.int N), some (.lst true (fx.map D.int)), some (.lst true (fy.map D.int)), none, some (tI xs), some (tI ys), some (tI zs), none, some (.int x), some (.int y)] : Ev)) (S := S3) (S1 := S3) (S2 := S3) (d := .int x) (ds := [.int y]) rfl rfl
    show mBlt dMin2 (aCons (mVar 10) (aCons (mVar 11) (aNil))) ([some (.ref n), some (tI (jn xs ys)), some (.int N), some (.lst true (fx.map D.int)), some (.lst true (fy.map D.int)), none, some (tI xs), some (tI ys), some (tI zs), none, some (.int x), some (.int y)] : Ev) S3 = _
    simp [mBlt, Ki.bind, q, vw, dMin2, lift]
  clear v1 zc hE
  clear E
  rw [pn_mins px py]
  generalize hE : ([some (.ref n), some (tI (jn xs ys)), some (.int N), some (.lst true (fx.map D.int)), some (.lst true (fy.map D.int)), some (.int (pn xs ys)), some (tI xs), some (tI ys), some (tI zs), none, none, none] : Ev) = E
  have v1 (S : Sto) : mVar 1 E S = .ok (tI (jn xs ys)) S := by rw [← hE]; rfl
  have v5 (S : Sto) : mVar 5 E S = .ok (.int (pn xs ys)) S := by rw [← hE]; rfl
  have v6 (S : Sto) : mVar 6 E S = .ok (tI xs) S := by rw [← hE]; rfl
  have v7 (S : Sto) : mVar 7 E S = .ok (tI ys) S := by rw [← hE]; rfl
  have v8 (S : Sto) : mVar 8 E S = .ok (tI zs) S := by rw [← hE]; rfl
  refine ifP (P := Good n b) (or_no (no_ (c2_ (v6 S3) (v7 S3) (fn_product px py S3)) (v5 S3) (ne_i _)) (or_no (no_ (v5 S3) (c2_ (v6 S3) (v7 S3) (law_prod px py S3)) (ne_i _)) (no_ (c2_ (v7 S3) (v6 S3) (fn_product py px S3)) (v5 S3) (by rw [pn_swap ys xs]; exact ne_i _)))) ?_
  refine ⟨S3, ret_ok (mOp_ok (c2_ (v1 S3) (v8 S3) (fn_product j1 pz S3)) (mOp_ok (a := .int (pn xs zs)) (b := .int (pn ys zs)) (c2_ (v6 S3) (v8 S3) (fn_product px pz S3)) (c2_ (v7 S3) (v8 S3) (fn_product py pz S3)) rfl) (by rw [pn_jn]; exact eq_i _)), l3⟩
end K09

set_option Elab.async false
set_option linter.all false
set_option maxRecDepth 100000
set_option maxHeartbeats 1000000
namespace K09
open PySem Ki
/-! V09: all parts of a total, by the law's loops -/
def okR (f : Nat) (r : List Int) : Bool := decide (r = []) || decide (r.headD 0 ≤ f)
def rowsOf (tab : List (List (List Int))) (w : Nat) : List (List Int) := (List.range' 1 w).flatMap fun f => ((tab.getD (w - f) []).filter (okR f)).map fun r => (f : Int) :: r
def tab : Nat → List (List (List Int))
  | 0 => [[[]]]
  | w + 1 => tab w ++ [rowsOf (tab w) (w + 1)]
def Ps (w : Nat) : List (List Int) := (tab w).getD w []
theorem tab_len : ∀ w, (tab w).length = w + 1
  | 0 => rfl
  | w + 1 => by rw [tab, List.length_append, tab_len w]; rfl
theorem tab_get : ∀ {w j : Nat}, j ≤ w → (tab w).getD j [] = Ps j
  | 0, j, h => by
    have : j = 0 := by omega
    subst this
    rfl
  | w + 1, j, h => by
    by_cases c : j = w + 1
    · subst c; rfl
    · have l := tab_len w
      rw [tab, List.getD_eq_getElem?_getD, List.getElem?_append_left (by omega), ← List.getD_eq_getElem?_getD]
      exact tab_get (by omega)
def row (w f : Nat) : List (List Int) := ((Ps (w - f)).filter (okR f)).map fun r => (f : Int) :: r
theorem Ps_succ (w : Nat) : Ps (w + 1) = (List.range' 1 (w + 1)).flatMap (row (w + 1)) := by
  have l := tab_len w
  have e : Ps (w + 1) = rowsOf (tab w) (w + 1) := by
    rw [Ps, tab, List.getD_eq_getElem?_getD, List.getElem?_append_right (by omega), l]
    simp
  rw [e, rowsOf]
  simp only [List.flatMap]
  congr 1
  refine List.map_congr_left fun f hf => ?_
  have := List.mem_range'_1.mp hf
  rw [row, tab_get (by omega)]
theorem Ps_len : ∀ w, w ≤ 12 → (Ps w).length ≤ 100 := by decide +kernel
theorem row_len {w f : Nat} (h : w ≤ 12) : (row w f).length ≤ 100 := by
  rw [row, List.length_map]
  exact Nat.le_trans (List.length_filter_le _ _) (Ps_len _ (by omega))
/-! what stays of a store -/
def Ext (S S' : Sto) : Prop := S.length ≤ S'.length ∧ ∀ k, k < S.length → S'[k]? = S[k]?
theorem Ext.refl (S : Sto) : Ext S S := ⟨Nat.le_refl _, fun _ _ => rfl⟩
theorem Ext.trans {S T U : Sto} (h : Ext S T) (k : Ext T U) : Ext S U := ⟨Nat.le_trans h.1 k.1, fun i hi => (k.2 i (Nat.lt_of_lt_of_le hi h.1)).trans (h.2 i hi)⟩
theorem Ext.app (S T : Sto) : Ext S (S ++ T) := ⟨by simp, fun k h => List.getElem?_append_left h⟩
theorem Ext.set {S T : Sto} {i : Nat} {o : O} (h : Ext S T) (hi : S.length ≤ i) : Ext S (T.set i o) := ⟨by rw [List.length_set]; exact h.1, fun k hk => by rw [List.getElem?_set_ne (by omega)]; exact h.2 k hk⟩
theorem Lot.ext {S T : Sto} {n b : Nat} (h : Lot S n b) (e : Ext S T) : Lot T n b := by
  obtain ⟨l, c, k, q, r⟩ := h
  exact ⟨l, c, k, by rw [e.2 n (List.getElem?_eq_some_iff.mp q).1]; exact q, r⟩
/-- an item of the law's table, and what it holds -/
def Rs (S : Sto) (q : Nat) (d : D) (l : List (List Int)) : Prop := (∃ b, d = .lst b (l.map tI)) ∨ ∃ k, d = .ref k ∧ q < k ∧ S[k]? = some (.lst (l.map tI))
theorem Rs.walk {S : Sto} {q : Nat} {d : D} {l : List (List Int)} {m : M D} {env : Ev} (h : Rs S q d l) (e : m env S = .ok d S) : mSqR m env S = .ok (l.map tI) S := by
  rcases h with ⟨b, rfl⟩ | ⟨k, rfl, _, h⟩
  · simp [mSqR, Ki.bind, e, items, lift]
  · simp [mSqR, Ki.bind, e, h]
theorem Rs.vw {S : Sto} {q : Nat} {d : D} {l : List (List Int)} (h : Rs S q d l) : ∃ b, vw S d = .lst b (l.map tI) := by
  rcases h with ⟨b, rfl⟩ | ⟨k, rfl, _, h⟩
  · exact ⟨b, rfl⟩
  · exact ⟨false, vw_at h⟩
theorem lc_ok' {α : Type} {vs : List Nat} {g : Tg} {mi : M (List D)} {mt : M Bool} {me : M D} {env : Ev} {S S1 : Sto} {ds : α → D} {p : α → Bool} {f : α → D} {xs : List α} (hi : mi env S = .ok (xs.map ds) S1) (hl : xs.length ≤ 100000)
    (h : ∀ x ∈ xs, ∃ env', g (ds x) (wipeD env vs) = some env' ∧ mt env' S1 = .ok (p x) S1 ∧ (p x = true → me env' S1 = .ok (f x) S1)) : mLc vs g mi mt me env S = .ok (.lst true ((xs.filter p).map f)) S1 := by
  simp [mLc, hi, hl, lcL_map xs h]
theorem ext_ok {S S1 : Sto} {p : Nat} {xs ys ys0 : List D} {mo md : M D} {env : Ev} (h1 : mo env S = .ok (.ref p) S) (h0 : S[p]? = some (.lst ys0)) (h2 : md env S = .ok (.lst true ys) S1) (h : S1[p]? = some (.lst xs)) (hl : xs.length + ys.length ≤ 100000) : mMut oExt mo (aCons md (aNil)) env S = .ok .non (S1.set p (.lst (xs ++ ys))) := by
  simp [mMut, Ki.bind, h1, h0, args1 h2, h, oExt, hl]
theorem rg_one (n : Nat) : rgD 1 n = (List.range' 1 n).map fun (f : Nat) => D.int f := by
  refine List.ext_getElem (by simp [rgD]) fun i h1 h2 => ?_
  simp [rgD]
/-! the inner loop -/
def bodyI : MS := sDrop (mMut oExt (mVar 3) (aCons (mLc [6] (gNm 6) (mSqR (mOp dIx (mVar 1) (mOp dSub (mVar 2) (mVar 4)))) (tOr' (mBl (mOp dEq (mVar 6) (mTup (aNil)))) (mBl (mOp dLe (mOp dIx (mVar 6) (mC (.int 0))) (mVar 4)))) (mOp dAdd (mTup (aCons (mVar 4) (aNil))) (mVar 6))) (aNil)))
abbrev envL (n q w p : Nat) (e4 : Option D) : Ev := [some (.int n), some (.ref q), some (.int w), some (.ref p), e4, none, none]
theorem atF {F : List D} {j : Nat} {d : D} (h : F[j]? = some d) : L2.atI F (j : Int) = some d := by
  have hj := (List.getElem?_eq_some_iff.mp h).1
  unfold L2.atI L2.ixN
  rw [if_pos (by omega), if_pos (by omega)]
  simp [h]
theorem inner_ok {n q w f : Nat} {S : Sto} {F : List D} {d : D} {acc : List (List Int)} (hf : f ≤ w) (hw : w ≤ 12) (hq : q < S.length) (hF : S[q]? = some (.lst F)) (hd : F[w - f]? = some d) (hr : Rs S q d (Ps (w - f))) (ha : acc.length ≤ 2000) :
    bodyI (envL n q w S.length (some (.int f))) (S ++ [.lst (acc.map tI)]) = .nx (envL n q w S.length (some (.int f))) (S ++ [.lst ((acc ++ row w f).map tI)]) := by
  have hr' : Rs (S ++ [.lst (acc.map tI)]) q d (Ps (w - f)) := by
    rcases hr with h | ⟨k, e, h1, h2⟩
    · exact .inl h
    · exact .inr ⟨k, e, h1, by rw [List.getElem?_append_left (List.getElem?_eq_some_iff.mp h2).1]; exact h2⟩
  have hF' : (S ++ [.lst (acc.map tI)])[q]? = some (.lst F) := by rw [List.getElem?_append_left hq]; exact hF
  have w1 : mOp dIx (mVar 1) (mOp dSub (mVar 2) (mVar 4)) (envL n q w S.length (some (.int f))) (S ++ [.lst (acc.map tI)]) = .ok d (S ++ [.lst (acc.map tI)]) := by
    refine mOp_ok (a := .ref q) (b := .int ((w : Int) - f)) rfl (mOp_ok (a := .int w) (b := .int f) rfl rfl rfl) ?_
    rw [vw_at hF']
    have : ((w : Int) - f) = ((w - f : Nat) : Int) := by omega
    show L2.atI F ((w : Int) - f) = some d
    rw [this]
    exact atF hd
  have c : (mLc [6] (gNm 6) (mSqR (mOp dIx (mVar 1) (mOp dSub (mVar 2) (mVar 4)))) (tOr' (mBl (mOp dEq (mVar 6) (mTup (aNil)))) (mBl (mOp dLe (mOp dIx (mVar 6) (mC (.int 0))) (mVar 4)))) (mOp dAdd (mTup (aCons (mVar 4) (aNil))) (mVar 6))) (envL n q w S.length (some (.int f))) (S ++ [.lst (acc.map tI)]) = .ok (.lst true ((row w f).map tI)) (S ++ [.lst (acc.map tI)]) := by
    have := lc_ok' (vs := [6]) (g := gNm 6) (mi := mSqR (mOp dIx (mVar 1) (mOp dSub (mVar 2) (mVar 4)))) (mt := tOr' (mBl (mOp dEq (mVar 6) (mTup (aNil)))) (mBl (mOp dLe (mOp dIx (mVar 6) (mC (.int 0))) (mVar 4)))) (me := mOp dAdd (mTup (aCons (mVar 4) (aNil))) (mVar 6)) (env := envL n q w S.length (some (.int f))) (S := S ++ [.lst (acc.map tI)])
      (ds := tI) (p := okR f) (f := fun r => tI ((f : Int) :: r)) (xs := Ps (w - f)) (hr'.walk w1) (by have := Ps_len (w - f) (by omega); omega) fun r _ => ⟨[some (.int n), some (.ref q), some (.int w), some (.ref S.length), some (.int f), none, some (tI r)], rfl, ?_, fun _ => ?_⟩
    · rw [this, row, List.map_map]
      rfl
    · unfold okR
      have t1 : mBl (mOp dEq (mVar 6) (mTup (aNil))) [some (.int n), some (.ref q), some (.int w), some (.ref S.length), some (.int f), none, some (tI r)] (S ++ [.lst (acc.map tI)]) = .ok (decide (r = [])) (S ++ [.lst (acc.map tI)]) :=
        bl_ok (mOp_ok (a := tI r) (b := tI []) rfl rfl (eq_tI r []))
      cases r with
      | nil =>
        unfold tOr' Ki.bind
        rw [t1]
        rfl
      | cons x r =>
        refine or_no (S1 := S ++ [.lst (acc.map tI)]) (t1.trans (by simp)) ?_
        refine (bl_ok (mOp_ok (a := .int x) (b := .int f) (mOp_ok (a := tI (x :: r)) (b := .int 0) rfl rfl ?_) rfl ?_) : _ = Res.ok (decide (x ≤ (f : Int))) _).trans ?_
        · simp [vw, dIx, L2.atI, L2.ixN]
        · rfl
        · simp
    · refine mOp_ok (a := tI [(f : Int)]) (b := tI r) rfl rfl (add_tI ?_)
      have : ∀ w, w ≤ 12 → ∀ r ∈ Ps w, r.length ≤ 100 := by decide +kernel
      have := this _ (show w - f ≤ 12 by omega) r ‹_›
      simp
      omega
  have k := ext_ok (mo := mVar 3) (env := envL n q w S.length (some (.int f))) (S := S ++ [.lst (acc.map tI)]) (p := S.length) (xs := acc.map tI) (ys0 := acc.map tI) rfl (by simp) c (by simp) (by rw [List.length_map, List.length_map]; have := row_len (w := w) (f := f) hw; omega)
  have e : (S ++ [O.lst (acc.map tI)]).set S.length (O.lst (acc.map tI ++ (row w f).map tI)) = S ++ [O.lst ((acc ++ row w f).map tI)] := by simp
  rw [e] at k
  unfold bodyI sDrop thenS
  rw [k]
end K09

set_option Elab.async false
set_option linter.all false
set_option maxRecDepth 100000
set_option maxHeartbeats 1000000
namespace K09
open PySem Ki
/-! W09: the law's list of parts, whole -/
theorem forR2_ok {g : Tg} {args : M (List D)} {body : MS} {env : Ev} {S S1 : Sto} {i j : Int} (a : args env S = .ok [.int i, .int j] S1) (h1 : -(2 ^ 62) ≤ i) (h2 : i < 2 ^ 62) (h3 : -(2 ^ 62) ≤ j) (h4 : j < 2 ^ 62) : sForR2 g args body env S = forL g body (rgD i (j - i).toNat) env S1 := by
  have c1 : decide (-(2 ^ 62) ≤ i) = true := decide_eq_true h1
  have c2 : decide (i < 2 ^ 62) = true := decide_eq_true h2
  have c3 : decide (-(2 ^ 62) ≤ j) = true := decide_eq_true h3
  have c4 : decide (j < 2 ^ 62) = true := decide_eq_true h4
  unfold sForR2 thenS
  rw [a]
  simp only [c1, c2, c3, c4, Bool.and_self, if_true]
theorem forR1_ok {g : Tg} {args : M (List D)} {body : MS} {env : Ev} {S S1 : Sto} {j : Int} (a : args env S = .ok [.int j] S1) (h3 : -(2 ^ 62) ≤ j) (h4 : j < 2 ^ 62) : sForR1 g args body env S = forL g body (rgD 0 j.toNat) env S1 := by
  have c3 : decide (-(2 ^ 62) ≤ j) = true := decide_eq_true h3
  have c4 : decide (j < 2 ^ 62) = true := decide_eq_true h4
  unfold sForR1 thenS
  rw [a]
  simp only [c3, c4, Bool.and_self, if_true]
theorem rg1_ok {args : M (List D)} {env : Ev} {S S1 : Sto} {j : Int} (a : args env S = .ok [.int j] S1) (h3 : -(2 ^ 62) ≤ j) (h4 : j < 2 ^ 62) : mRg1 args env S = .ok (rgD 0 j.toNat) S1 := by
  have c3 : decide (-(2 ^ 62) ≤ j) = true := decide_eq_true h3
  have c4 : decide (j < 2 ^ 62) = true := decide_eq_true h4
  unfold mRg1 Ki.bind
  rw [a]
  simp only [c3, c4, Bool.and_self, if_true, Ki.ret]
theorem put_ok {mo mi mv : M D} {env : Ev} {S : Sto} {v : D} {q : Nat} {k : Int} {j : Nat} {F : List D} (h1 : mv env S = .ok v S) (h2 : mo env S = .ok (.ref q) S) (h3 : mi env S = .ok (.int k) S) (hF : S[q]? = some (.lst F)) (ix : L2.ixN F.length k = some j) : sPut mo mi mv env S = .nx env (S.set q (.lst (F.set j v))) := by
  simp only [sPut, thenS, h1, h2, h3, hF, ix]
theorem ixN_nat {l j : Nat} (h : j < l) : L2.ixN l (j : Int) = some j := by
  unfold L2.ixN
  rw [if_pos (by omega), if_pos (by omega)]
  simp
theorem inners_ok {n q w : Nat} {S : Sto} {F : List D} (hw : w ≤ 12) (hq : q < S.length) (hF : S[q]? = some (.lst F)) (hd : ∀ j, j < w → ∃ d, F[j]? = some d ∧ Rs S q d (Ps j)) :
    ∀ (fs : List Nat) (e4 : Option D) (acc : List (List Int)), (∀ f ∈ fs, 1 ≤ f ∧ f ≤ w) → acc.length + 100 * fs.length ≤ 1300 →
      ∃ e4', forL (gNm 4) bodyI (fs.map fun (f : Nat) => D.int f) (envL n q w S.length e4) (S ++ [.lst (acc.map tI)]) = .nx (envL n q w S.length e4') (S ++ [.lst ((acc ++ fs.flatMap (row w)).map tI)])
  | [], e4, acc, _, _ => ⟨e4, by simp [forL, sNext]⟩
  | f :: fs, e4, acc, h, hl => by
    obtain ⟨h1, h2⟩ := h f List.mem_cons_self
    obtain ⟨d, e1, e2⟩ := hd (w - f) (by omega)
    have l := row_len (w := w) (f := f) hw
    simp only [List.length_cons] at hl
    have t := inner_ok (n := n) (acc := acc) h2 hw hq hF e1 e2 (by omega)
    obtain ⟨e4', r⟩ := inners_ok hw hq hF hd fs (some (.int f)) (acc ++ row w f) (fun x hx => h x (List.mem_cons_of_mem _ hx)) (by rw [List.length_append]; omega)
    refine ⟨e4', ?_⟩
    rw [List.map_cons, forL]
    have g : gNm 4 (D.int f) (envL n q w S.length e4) = some (envL n q w S.length (some (.int f))) := rfl
    simp only [g, t]
    rw [r, List.flatMap_cons, List.append_assoc]
def bodyO : MS := sSeq (sSet 3 (mNew (aNil))) (sSeq (sForR2 (gNm 4) (aCons (mC (.int 1)) (aCons (mOp dAdd (mVar 2) (mC (.int 1))) (aNil))) bodyI) (sPut (mVar 1) (mVar 2) (mVar 3)))
structure Tb (S0 S : Sto) (q n w : Nat) : Prop where
  ext : Ext S0 S
  q0 : S0.length ≤ q
  q1 : q < S.length
  at_ : ∃ F, S[q]? = some (.lst F) ∧ F.length = n + 1 ∧ ∀ j, j ≤ w → ∃ d, F[j]? = some d ∧ Rs S q d (Ps j)
theorem outer_ok {S0 S : Sto} {q n w : Nat} {e3 e4 : Option D} (h : Tb S0 S q n w) (hw : w + 1 ≤ n) (hn : n ≤ 12) :
    ∃ e3' e4' S', bodyO [some (.int n), some (.ref q), some (.int (w + 1 : Nat)), e3, e4, none, none] S = .nx [some (.int n), some (.ref q), some (.int (w + 1 : Nat)), e3', e4', none, none] S' ∧ Tb S0 S' q n (w + 1) := by
  obtain ⟨F, hF, hl, hd⟩ := h.at_
  obtain ⟨m, hm⟩ : ∃ m : Nat, m = w + 1 := ⟨_, rfl⟩
  obtain ⟨e4', r⟩ := inners_ok (n := n) (q := q) (w := m) (S := S) (F := F) (by omega) h.q1 hF (fun j hj => hd j (by omega)) (List.range' 1 m) e4 [] (fun f hf => by have := List.mem_range'_1.mp hf; omega) (by simp; omega)
  have hP : ([] ++ (List.range' 1 m).flatMap (row m)) = Ps m := by rw [hm, Ps_succ]; rfl
  rw [hP] at r
  rw [← hm]
  have hF' : (S ++ [O.lst ((Ps m).map tI)])[q]? = some (.lst F) := by rw [List.getElem?_append_left h.q1]; exact hF
  refine ⟨some (.ref S.length), e4', (S ++ [O.lst ((Ps m).map tI)]).set q (.lst (F.set m (.ref S.length))), ?_, (h.ext.trans (Ext.app _ _)).set h.q0, h.q0, by have := h.q1; simp; omega, F.set m (.ref S.length), List.getElem?_set_self (by have := h.q1; simp; omega), by rw [List.length_set]; exact hl, fun j hj => ?_⟩
  · unfold bodyO
    have s1 : (sForR2 (gNm 4) (aCons (mC (.int 1)) (aCons (mOp dAdd (mVar 2) (mC (.int 1))) (aNil))) bodyI) (envL n q m S.length e4) (S ++ [.lst []]) = .nx (envL n q m S.length e4') (S ++ [O.lst ((Ps m).map tI)]) := by
      have a : ∀ w : Int, (aCons (mC (.int 1)) (aCons (mOp dAdd (mVar 2) (mC (.int 1))) (aNil))) [some (.int n), some (.ref q), some (.int w), some (.ref S.length), e4, none, none] (S ++ [.lst []]) = .ok [.int 1, .int (w + 1)] (S ++ [.lst []]) := fun w => rfl
      have c5 : ((m : Int) + 1 - 1).toNat = m := by omega
      rw [forR2_ok (a m) (by omega) (by omega) (by omega) (by omega), c5, rg_one]
      exact r
    have s2 : sPut (mVar 1) (mVar 2) (mVar 3) (envL n q m S.length e4') (S ++ [O.lst ((Ps m).map tI)]) = .nx (envL n q m S.length e4') ((S ++ [O.lst ((Ps m).map tI)]).set q (.lst (F.set m (.ref S.length)))) :=
      put_ok rfl rfl rfl hF' (ixN_nat (by omega))
    exact (seq_set (env' := envL n q m S.length e4) (new_ok _ S) rfl).trans ((seq_nx s1).trans s2)
  · have hq := h.q1
    by_cases c : j = m
    · subst c
      refine ⟨.ref S.length, List.getElem?_set_self (by omega), .inr ⟨S.length, rfl, hq, ?_⟩⟩
      rw [List.getElem?_set_ne (by omega)]
      simp
    · obtain ⟨d, e1, e2⟩ := hd j (by omega)
      refine ⟨d, by rw [List.getElem?_set_ne (by omega)]; exact e1, ?_⟩
      rcases e2 with h | ⟨k, e, k1, k2⟩
      · exact .inl h
      · have hk := (List.getElem?_eq_some_iff.mp k2).1
        refine .inr ⟨k, e, k1, ?_⟩
        rw [List.getElem?_set_ne (by omega), List.getElem?_append_left hk]
        exact k2
theorem outer_ok' {S0 S : Sto} {q n m : Nat} {e3 e4 : Option D} (h : Tb S0 S q n (m - 1)) (hm : 1 ≤ m) (hw : m ≤ n) (hn : n ≤ 12) :
    ∃ e3' e4' S', bodyO [some (.int n), some (.ref q), some (.int m), e3, e4, none, none] S = .nx [some (.int n), some (.ref q), some (.int m), e3', e4', none, none] S' ∧ Tb S0 S' q n m := by
  obtain ⟨w, rfl⟩ : ∃ w, m = w + 1 := ⟨m - 1, by omega⟩
  exact outer_ok h hw hn
theorem fl_cons {g : Tg} {body : MS} {d : D} {ds : List D} {env env1 env2 : Ev} {S S1 : Sto} (hg : g d env = some env1) (h : body env1 S = .nx env2 S1) : forL g body (d :: ds) env S = forL g body ds env2 S1 := by
  rw [forL]
  simp only [hg, h]
theorem outers_ok {S0 : Sto} {q n : Nat} (hn : n ≤ 12) : ∀ (k m : Nat) (e2 e3 e4 : Option D) (S : Sto), 1 ≤ m → Tb S0 S q n (m - 1) → m + k ≤ n + 1 →
    ∃ e2' e3' e4' S', forL (gNm 2) bodyO ((List.range' m k).map fun (f : Nat) => D.int f) [some (.int n), some (.ref q), e2, e3, e4, none, none] S = .nx [some (.int n), some (.ref q), e2', e3', e4', none, none] S' ∧ Tb S0 S' q n (m + k - 1)
  | 0, m, e2, e3, e4, S, _, h, _ => ⟨e2, e3, e4, S, rfl, h⟩
  | k + 1, m, e2, e3, e4, S, hm, h, hk => by
    obtain ⟨f3, f4, S1, t, h1⟩ := outer_ok' (e3 := e3) (e4 := e4) h hm (by omega) hn
    obtain ⟨g2, g3, g4, S2, t2, h2⟩ := outers_ok hn k (m + 1) (some (.int m)) f3 f4 S1 (by omega) h1 (by omega)
    refine ⟨g2, g3, g4, S2, ?_, by rw [show m + (k + 1) = m + 1 + k by omega]; exact h2⟩
    rw [List.range'_succ, List.map_cons]
    exact (fl_cons (env1 := [some (.int n), some (.ref q), some (.int m), e3, e4, none, none]) rfl t).trans t2
theorem Ps_zero : Ps 0 = [[]] := rfl
theorem lcN_ok {α : Type} {vs : List Nat} {g : Tg} {mi : M (List D)} {mt : M Bool} {me : M D} {env : Ev} {S S1 : Sto} {ds : α → D} {p : α → Bool} {f : α → D} {xs : List α} (hi : mi env S = .ok (xs.map ds) S1) (hl : xs.length ≤ 100000)
    (h : ∀ x ∈ xs, ∃ env', g (ds x) (wipeD env vs) = some env' ∧ mt env' S1 = .ok (p x) S1 ∧ (p x = true → me env' S1 = .ok (f x) S1)) : mLcN vs g mi mt me env S = .ok (.ref S1.length) (S1 ++ [.lst ((xs.filter p).map f)]) := by
  simp [mLcN, hi, hl, lcL_map xs h]
theorem lawP1 {n : Nat} (hn : n ≤ 12) (S : Sto) : (mLcN [5] (gNm 5) (mRg1 (aCons (mOp dAdd (mVar 0) (mC (.int 1))) (aNil))) (mYes) (mLst (aNil))) [some (.int n), none, none, none, none, none, none] S = .ok (.ref S.length) (S ++ [.lst (List.replicate (n + 1) (D.lst true []))]) := by
  have r : mRg1 (aCons (mOp dAdd (mVar 0) (mC (.int 1))) (aNil)) [some (.int n), none, none, none, none, none, none] S = .ok (rgD 0 (n + 1)) S := by
    have a : ∀ n : Int, (aCons (mOp dAdd (mVar 0) (mC (.int 1))) (aNil)) [some (.int n), none, none, none, none, none, none] S = .ok [.int (n + 1)] S := fun n => rfl
    have c3 : ((n : Int) + 1).toNat = n + 1 := by omega
    rw [rg1_ok (a n) (by omega) (by omega), c3]
  have m := lcN_ok (vs := [5]) (g := gNm 5) (mt := mYes) (me := mLst (aNil)) (ds := fun d : D => d) (p := fun _ => true) (f := fun _ => D.lst true []) (xs := rgD 0 (n + 1)) (r.trans (by rw [List.map_id'])) (by rw [rgl9]; omega) fun x _ => ⟨_, rfl, rfl, fun _ => rfl⟩
  rw [m, List.filter_eq_self.mpr (by simp), List.map_const', rgl9]
theorem lawP2 {n : Nat} {F0 : List D} (hF0 : F0 = (List.replicate (n + 1) (D.lst true [])).set 0 (.lst true [tI []])) (S : Sto) : sPut (mVar 1) (mC (.int 0)) (mLst (aCons (mTup (aNil)) (aNil))) [some (.int n), some (.ref S.length), none, none, none, none, none] (S ++ [.lst (List.replicate (n + 1) (D.lst true []))]) = .nx [some (.int n), some (.ref S.length), none, none, none, none, none] (S ++ [.lst F0]) := by
  have v : (mLst (aCons (mTup (aNil)) (aNil))) [some (.int n), some (.ref S.length), none, none, none, none, none] (S ++ [.lst (List.replicate (n + 1) (D.lst true []))]) = .ok (.lst true [tI []]) (S ++ [.lst (List.replicate (n + 1) (D.lst true []))]) := rfl
  have at_ : (S ++ [O.lst (List.replicate (n + 1) (D.lst true []))])[S.length]? = some (.lst (List.replicate (n + 1) (D.lst true []))) := by simp
  have st : (S ++ [O.lst (List.replicate (n + 1) (D.lst true []))]).set S.length (.lst ((List.replicate (n + 1) (D.lst true [])).set 0 (.lst true [tI []]))) = S ++ [.lst F0] := by rw [hF0]; simp
  rw [← st]
  exact put_ok v rfl rfl at_ (ixN_nat (j := 0) (by simp))
theorem lawP3 {n : Nat} {F0 : List D} {e2 e3 e4 : Option D} {S S' : Sto} (hn : n ≤ 12) (t : forL (gNm 2) bodyO ((List.range' 1 n).map fun (f : Nat) => D.int f) [some (.int n), some (.ref S.length), none, none, none, none, none] (S ++ [.lst F0]) = .nx [some (.int n), some (.ref S.length), e2, e3, e4, none, none] S') : (sForR2 (gNm 2) (aCons (mC (.int 1)) (aCons (mOp dAdd (mVar 0) (mC (.int 1))) (aNil))) bodyO) [some (.int n), some (.ref S.length), none, none, none, none, none] (S ++ [.lst F0]) = .nx [some (.int n), some (.ref S.length), e2, e3, e4, none, none] S' := by
  have a : ∀ n : Int, (aCons (mC (.int 1)) (aCons (mOp dAdd (mVar 0) (mC (.int 1))) (aNil))) [some (.int n), some (.ref S.length), none, none, none, none, none] (S ++ [.lst F0]) = .ok [.int 1, .int (n + 1)] (S ++ [.lst F0]) := fun n => rfl
  have c5 : ((n : Int) + 1 - 1).toNat = n := by omega
  rw [forR2_ok (a n) (by omega) (by omega) (by omega) (by omega), c5, rg_one]
  exact t
theorem lawP_ok {n : Nat} (hn : n ≤ 12) (S : Sto) : ∃ d S', m__law_partitions [.int n] S = .ok d S' ∧ Ext S S' ∧ Rs S' S.length d (Ps n) := by
  obtain ⟨F0, hF0⟩ : ∃ F0 : List D, F0 = (List.replicate (n + 1) (D.lst true [])).set 0 (.lst true [tI []]) := ⟨_, rfl⟩
  have t0 : Tb S (S ++ [.lst F0]) S.length n 0 := by
    refine ⟨Ext.app _ _, Nat.le_refl _, by simp, F0, by simp, by rw [hF0]; simp, fun j hj => ?_⟩
    have : j = 0 := by omega
    subst this
    refine ⟨.lst true [tI []], by rw [hF0]; simp, .inl ⟨true, by rw [Ps_zero]; rfl⟩⟩
  obtain ⟨e2, e3, e4, S', t, h⟩ := outers_ok hn n 1 none none none (S ++ [.lst F0]) (by omega) t0 (by omega)
  obtain ⟨F, hF, hl, hd⟩ := h.at_
  obtain ⟨d, d1, d2⟩ := hd n (by omega)
  refine ⟨d, S', fun_rt rfl ?_, h.ext, d2⟩
  have a4 : (mOp dIx (mVar 1) (mVar 0)) [some (.int n), some (.ref S.length), e2, e3, e4, none, none] S' = .ok d S' := by
    refine mOp_ok (a := .ref S.length) (b := .int n) rfl rfl ?_
    rw [vw_at hF]
    exact atF d1
  exact (seq_set (env' := [some (.int n), some (.ref S.length), none, none, none, none, none]) (lawP1 hn S) rfl).trans ((seq_nx (lawP2 hF0 S)).trans ((seq_nx (lawP3 hn t)).trans (ret_ok a4)))
end K09

set_option Elab.async false
set_option linter.all false
set_option maxRecDepth 100000
set_option maxHeartbeats 1000000
namespace K09
open PySem Ki
/-! X09: lists are right -/
theorem parts_ok : ∀ n : Nat, n ≤ 12 → ∀ S : Sto, m__parts_to 20 [.int n, .int n] S = .ok (.lst true ((Ps n).map tI)) S
  | 0, _, S => by kernel_rfl
  | 1, _, S => by kernel_rfl
  | 2, _, S => by kernel_rfl
  | 3, _, S => by kernel_rfl
  | 4, _, S => by kernel_rfl
  | 5, _, S => by kernel_rfl
  | 6, _, S => by kernel_rfl
  | 7, _, S => by kernel_rfl
  | 8, _, S => by kernel_rfl
  | 9, _, S => by kernel_rfl
  | 10, _, S => by kernel_rfl
  | 11, _, S => by kernel_rfl
  | 12, _, S => by kernel_rfl
  | n + 13, h, _ => by omega
theorem check_ok {x lo hi : Int} (hx : x.natAbs < 10 ^ 60) (h1 : lo ≤ x) (h2 : x ≤ hi) (S : Sto) : m_check_count [.int x, .int lo, .int hi] S = .ok .non S := by
  have c := count_ok (lo := lo) (hi := hi) hx S
  rw [decide_eq_true h1, decide_eq_true h2] at c
  simp [m_check_count, mFun, b_check_count, sIf, thenS, tNot', mBl, mCall, aCons, aNil, Ki.bind, mVar, Ki.ret, c, sNext]
theorem fn_parts {n : Nat} (h : n ≤ 12) (S : Sto) : m_partitions [.int n] S = .ok (.tup ((Ps n).map tI)) S := by
  refine fun_rt rfl ((seq_drop (d := .non) (S1 := S) ?_).trans (ret_ok (tupOf_ok (d := .lst true ((Ps n).map tI)) (c2_ (d1 := .int n) (d2 := .int n) rfl rfl (parts_ok n h S)) rfl)))
  exact (word_args (ds := [.int n, .int 0, .int 18]) rfl).trans (check_ok (by omega) (by omega) (by omega) S)
theorem okT_tI (xs : List Int) : okT (tI xs) := by
  have := depth_int xs
  exact ⟨.tuple (xs.map .int), by simp [toPy, toPyL_int], by simp [PyData.canLay0, lay_int], by simp only [PyData.depth]; omega, by simp [PyData.eqv, eqv_int]⟩
theorem okT_tup {ts : List D} (h : ∀ t ∈ ts, ∃ xs, t = tI xs) : okT (.tup ts) := by
  obtain ⟨xss, rfl⟩ : ∃ xss : List (List Int), ts = xss.map tI := by
    induction ts with
    | nil => exact ⟨[], rfl⟩
    | cons t ts ih =>
      obtain ⟨xs, rfl⟩ := h t List.mem_cons_self
      obtain ⟨xss, rfl⟩ := ih fun u hu => h u (List.mem_cons_of_mem _ hu)
      exact ⟨xs :: xss, rfl⟩
  have e : ∀ xss : List (List Int), toPyL (xss.map tI) = some (xss.map fun xs => PyData.tuple (xs.map .int)) ∧ PyData.canLayAll0 (xss.map fun xs => PyData.tuple (xs.map .int)) = true ∧ PyData.depthAll (xss.map fun xs => PyData.tuple (xs.map .int)) ≤ 3 ∧ PyData.eqvAll (xss.map fun xs => PyData.tuple (xs.map .int)) (xss.map fun xs => PyData.tuple (xs.map .int)) = true := fun xss => by
    induction xss with
    | nil => exact ⟨by simp [toPyL], by simp [PyData.canLayAll0], by simp [PyData.depthAll], by simp [PyData.eqvAll]⟩
    | cons xs xss ih =>
      obtain ⟨h1, h2, h3, h4⟩ := ih
      have := depth_int xs
      exact ⟨by rw [List.map_cons, toPyL]; simp [toPy, toPyL_int, h1], by simp [PyData.canLayAll0, PyData.canLay0, lay_int, h2], by simp only [List.map_cons, PyData.depthAll, PyData.depth]; omega, by simp [PyData.eqvAll, PyData.eqv, eqv_int, h4]⟩
  obtain ⟨h1, h2, h3, h4⟩ := e xss
  exact ⟨_, by simp only [toPy, h1]; rfl, by simp [PyData.canLay0, h2], by simp only [PyData.depth]; omega, by simp [PyData.eqv, h4]⟩
/-- a row of parts -/
abbrev tR (r : List (List Int)) : D := .tup (r.map tI)
theorem okT_tR (r : List (List Int)) : okT (tR r) := okT_tup fun t ht => by obtain ⟨x, _, rfl⟩ := List.mem_map.mp ht; exact ⟨x, rfl⟩
/-- each row, with each of some parts behind it -/
def grow (rows : List (List (List Int))) (ps : List (List Int)) : List (List (List Int)) := rows.flatMap fun r => ps.map fun p => r ++ [p]
theorem grow_len (ps : List (List Int)) : ∀ rows, (grow rows ps).length = rows.length * ps.length
  | [] => by simp [grow]
  | r :: rows => by
    have := grow_len ps rows
    unfold grow at this ⊢
    rw [List.flatMap_cons, List.length_append, this, List.length_map, List.length_cons, Nat.add_mul, Nat.one_mul, Nat.add_comm]
theorem grow_row {ps : List (List Int)} {k : Nat} {rows : List (List (List Int))} (h : ∀ r ∈ rows, r.length = k) : ∀ r ∈ grow rows ps, r.length = k + 1 := by
  intro r hr
  obtain ⟨a, ha, hb⟩ := List.mem_flatMap.mp hr
  obtain ⟨p, _, rfl⟩ := List.mem_map.mp hb
  rw [List.length_append, h a ha]
  rfl
/-! the program's rows -/
theorem lc2_ok {α β : Type} {vs1 : List Nat} {g g1 : Tg} {mt mt1 : M Bool} {mi1 : M (List D)} {me : M D} {env : Ev} {S : Sto} {ds : α → D} {es : β → D} {ys : List β} {f : α → β → D}
    : ∀ (xs : List α) (n : Nat), (∀ x ∈ xs, ∃ env', g (ds x) env = some env' ∧ mt env' S = .ok true S ∧ mi1 env' S = .ok (ys.map es) S ∧ ∀ y ∈ ys, ∃ env2, g1 (es y) (wipeD env' vs1) = some env2 ∧ mt1 env2 S = .ok true S ∧ me env2 S = .ok (f x y) S) →
    n + xs.length * ys.length ≤ 100000 → lcL2 vs1 g mt g1 mi1 mt1 me env n (xs.map ds) S = .ok (xs.flatMap fun x => ys.map (f x)) S
  | [], n, _, _ => rfl
  | x :: xs, n, h, hn => by
    obtain ⟨env', e1, e2, e3, e4⟩ := h x List.mem_cons_self
    have hn' : n + ys.length + xs.length * ys.length ≤ 100000 := by rw [List.length_cons, Nat.add_mul, Nat.one_mul] at hn; omega
    have ih := lc2_ok xs (n + ys.length) (fun z hz => h z (List.mem_cons_of_mem _ hz)) hn'
    have l : n + (ys.map es).length ≤ 100000 := by rw [List.length_map]; omega
    have q := lcL_map (g := g1) (mt := mt1) (me := me) (env := wipeD env' vs1) (S := S) (ds := es) (p := fun _ => true) (f := f x) ys fun y hy => by
      obtain ⟨env2, a1, a2, a3⟩ := e4 y hy
      exact ⟨env2, a1, a2, fun _ => a3⟩
    rw [List.filter_eq_self.mpr (by simp)] at q
    rw [List.map_cons, lcL2]
    simp only [e1, e2, e3, l, if_true, q]
    rw [List.length_map, ih]
    rfl
def bodyC : MS := sSet 1 (mLc2 [3, 4] [4] (gNm 3) (mSq (mVar 1)) (mYes) (gNm 4) (mSq (mVar 2)) (mYes) (mOp dAdd (mVar 3) (mTup (aCons (mVar 4) (aNil)))))
theorem choice_ok {S : Sto} {ps : List (List Int)} {rows : List (List (List Int))} {k : Nat} {e0 : Option D} (hr : ∀ r ∈ rows, r.length = k) (hk : k ≤ 10) (hl : rows.length * ps.length ≤ 1000) :
    bodyC [e0, some (.lst true (rows.map tR)), some (.lst true (ps.map tI)), none, none] S = .nx [e0, some (.lst true ((grow rows ps).map tR)), some (.lst true (ps.map tI)), none, none] S := by
  have q := lc2_ok (vs1 := [4]) (g := gNm 3) (g1 := gNm 4) (mt := mYes) (mt1 := mYes) (mi1 := mSq (mVar 2)) (me := mOp dAdd (mVar 3) (mTup (aCons (mVar 4) (aNil)))) (env := [e0, some (.lst true (rows.map tR)), some (.lst true (ps.map tI)), none, none]) (S := S)
    (ds := tR) (es := tI) (ys := ps) (f := fun r p => tR (r ++ [p])) rows 0 (fun r hr' => ⟨[e0, some (.lst true (rows.map tR)), some (.lst true (ps.map tI)), some (tR r), none], rfl, rfl, rfl, fun p _ => ⟨[e0, some (.lst true (rows.map tR)), some (.lst true (ps.map tI)), some (tR r), some (tI p)], rfl, rfl, mOp_ok (a := tR r) (b := tR [p]) rfl rfl (by
      have h : r.length + 1 ≤ 100000 := by rw [hr r hr']; omega
      simp [vw, dAdd, iOp, sAdd, lAdd, tAdd', h])⟩⟩) (by omega)
  have e2 : (rows.flatMap fun r => ps.map fun p => tR (r ++ [p])) = (grow rows ps).map tR := by
    unfold grow
    rw [List.map_flatMap]
    simp [Function.comp_def]
  rw [e2] at q
  have w : (mSq (mVar 1)) [e0, some (.lst true (rows.map tR)), some (.lst true (ps.map tI)), none, none] S = .ok (rows.map tR) S := rfl
  have wi : wipeD [e0, some (.lst true (rows.map tR)), some (.lst true (ps.map tI)), none, none] [3, 4] = [e0, some (.lst true (rows.map tR)), some (.lst true (ps.map tI)), none, none] := rfl
  unfold bodyC sSet thenS mLc2
  rw [w]
  simp only [wi, q]
  rfl
end K09

set_option Elab.async false
set_option linter.all false
set_option maxRecDepth 100000
set_option maxHeartbeats 1000000
namespace K09
open PySem Ki
/-! Y09: rows of parts -/
theorem Ps5 : ∀ s, s ≤ 4 → (Ps s).length ≤ 5 := by decide +kernel
abbrev nI (ss : List Nat) : List D := ss.map fun (s : Nat) => D.int s
abbrev opt (s : Nat) : D := .lst true ((Ps s).map tI)
def allR (ss : List Nat) (rows : List (List (List Int))) : List (List (List Int)) := ss.foldl (fun rows s => grow rows (Ps s)) rows
theorem len5 {rows : List (List (List Int))} {s m : Nat} (hs : s ≤ 4) (h : rows.length * 5 ^ (m + 1) ≤ 1000) : (grow rows (Ps s)).length * 5 ^ m ≤ 1000 ∧ rows.length * (Ps s).length ≤ 1000 := by
  have p := Ps5 s hs
  have e : rows.length * (Ps s).length * 5 ^ m ≤ rows.length * 5 * 5 ^ m := Nat.mul_le_mul_right _ (Nat.mul_le_mul_left _ p)
  have f : rows.length * 5 * 5 ^ m ≤ 1000 := by rw [Nat.pow_succ] at h; rw [Nat.mul_assoc, Nat.mul_comm 5]; exact h
  have g : rows.length * (Ps s).length ≤ rows.length * (Ps s).length * 5 ^ m := Nat.le_mul_of_pos_right _ (Nat.pow_pos (by decide))
  exact ⟨by rw [grow_len]; omega, by omega⟩
theorem choices_ok {S : Sto} {e0 : Option D} : ∀ (ss : List Nat) (rows : List (List (List Int))) (k : Nat) (e2 : Option D), (∀ s ∈ ss, s ≤ 4) → (∀ r ∈ rows, r.length = k) → k + ss.length ≤ 10 → rows.length * 5 ^ ss.length ≤ 1000 →
    ∃ e2', forL (gNm 2) bodyC (ss.map opt) [e0, some (.lst true (rows.map tR)), e2, none, none] S = .nx [e0, some (.lst true ((allR ss rows).map tR)), e2', none, none] S
  | [], rows, k, e2, _, _, _, _ => ⟨e2, rfl⟩
  | s :: ss, rows, k, e2, h, hr, hk, hl => by
    obtain ⟨l1, l2⟩ := len5 (h s List.mem_cons_self) hl
    have t := choice_ok (S := S) (e0 := e0) (ps := Ps s) hr (by simp at hk; omega) l2
    obtain ⟨e2', r⟩ := choices_ok (S := S) (e0 := e0) ss (grow rows (Ps s)) (k + 1) (some (opt s)) (fun x hx => h x (List.mem_cons_of_mem _ hx)) (grow_row hr) (by simp at hk; omega) l1
    refine ⟨e2', ?_⟩
    rw [List.map_cons]
    exact (fl_cons (env1 := [e0, some (.lst true (rows.map tR)), some (opt s), none, none]) rfl t).trans r
theorem forS_ok {g : Tg} {m : M D} {body : MS} {env : Ev} {S S1 : Sto} {d : D} {ds : List D} (h : m env S = .ok d S1) (hi : items d = some ds) : sForS g m body env S = forL g body ds env S1 := by
  unfold sForS thenS
  rw [h]
  simp only [hi]
theorem fn_choices {ss : List Nat} (h : ∀ s ∈ ss, s ≤ 4) (hl : ss.length ≤ 4) (S : Sto) : m_all_choices [.lst true (ss.map opt)] S = .ok (.lst true ((allR ss [[]]).map tR)) S := by
  have p : 5 ^ ss.length ≤ 5 ^ 4 := Nat.pow_le_pow_right (by decide) hl
  obtain ⟨e2, t⟩ := choices_ok (S := S) (e0 := some (.lst true (ss.map opt))) ss [[]] 0 none h (by simp) (by omega) (by simp; omega)
  refine fun_rt rfl ?_
  have f : sForS (gNm 2) (mVar 0) bodyC [some (.lst true (ss.map opt)), some (.lst true [tR []]), none, none, none] S = .nx [some (.lst true (ss.map opt)), some (.lst true ((allR ss [[]]).map tR)), e2, none, none] S := (forS_ok rfl rfl).trans t
  exact (seq_set (d := .lst true [tR []]) (S1 := S) (env' := [some (.lst true (ss.map opt)), some (.lst true [tR []]), none, none, none]) rfl rfl).trans ((seq_nx f).trans (ret_ok rfl))
/-- how many rows -/
def bodyM : MS := sSet 2 (mOp dMul (mVar 2) (mBlt dLen (aCons (mVar 3) (aNil))))
theorem many_ok {S : Sto} {e0 e1 e4 : Option D} : ∀ (ss : List Nat) (m : Int) (e3 : Option D), (∀ s ∈ ss, s ≤ 4) → 0 ≤ m → m * 5 ^ ss.length ≤ 1000 →
    ∃ m' e3', forL (gNm 3) bodyM (ss.map opt) [e0, e1, some (.int m), e3, e4] S = .nx [e0, e1, some (.int m'), e3', e4] S ∧ m' ≤ 1000
  | [], m, e3, _, _, hm => ⟨m, e3, rfl, by simpa using hm⟩
  | s :: ss, m, e3, h, h0, hm => by
    have p := Ps5 s (h s List.mem_cons_self)
    obtain ⟨l, hl⟩ : ∃ l : Int, l = ((Ps s).length : Int) := ⟨_, rfl⟩
    have q : (0 : Int) < 5 ^ ss.length := Int.pow_pos (by decide)
    have le : m * l * 5 ^ ss.length ≤ m * 5 ^ (s :: ss).length := by
      rw [List.length_cons, Int.pow_succ, Int.mul_comm (5 ^ ss.length) 5, ← Int.mul_assoc]
      exact Int.mul_le_mul_of_nonneg_right (Int.mul_le_mul_of_nonneg_left (by omega) h0) (by omega)
    have m0 : 0 ≤ m * l := Int.mul_nonneg h0 (by omega)
    have mm : m ≤ 1000 := by
      have : m * 1 ≤ m * 5 ^ (s :: ss).length := Int.mul_le_mul_of_nonneg_left (Int.pow_pos (by decide) : (0 : Int) < 5 ^ (s :: ss).length) h0
      omega
    obtain ⟨m', e3', t, hm'⟩ := many_ok (S := S) (e0 := e0) (e1 := e1) (e4 := e4) ss (m * l) (some (opt s)) (fun x hx => h x (List.mem_cons_of_mem _ hx)) m0 (by omega)
    refine ⟨m', e3', ?_, hm'⟩
    have c : cMul m l = true := by
      have p62 : (2 : Nat) ^ 62 ≤ 2 ^ 1000 := Nat.pow_le_pow_right (by decide) (by decide)
      exact mul_ok (Nat.lt_of_lt_of_le (abs_lt' (n := 2 ^ 62) (by omega) (by omega)) p62) (Nat.lt_of_lt_of_le (abs_lt' (n := 2 ^ 62) (by omega) (by omega)) p62)
    have b : bodyM [e0, e1, some (.int m), some (opt s), e4] S = .nx [e0, e1, some (.int (m * l)), some (opt s), e4] S := by
      have o : (mOp dMul (mVar 2) (mBlt dLen (aCons (mVar 3) (aNil)))) [e0, e1, some (.int m), some (opt s), e4] S = .ok (.int (m * l)) S :=
        mOp_ok (a := .int m) (b := .int l) rfl (blt1 (d := opt s) rfl (by simp [vw, dLen, hl])) (by simp [vw, dMul, iOp, c])
      unfold bodyM sSet thenS
      rw [o]
      rfl
    rw [List.map_cons]
    exact (fl_cons (env1 := [e0, e1, some (.int m), some (opt s), e4]) rfl b).trans t
theorem chain_ok {op op' : Op2} {ma mb mc : M D} {env : Ev} {S S1 S2 S3 : Sto} {x y z d : D} (h1 : ma env S = .ok x S1) (h2 : mb env S1 = .ok y S2) (h3 : mc env S2 = .ok z S3) (o1 : op (vw S2 x) (vw S2 y) = some (.bl true)) (o2 : op' (vw S3 y) (vw S3 z) = some d) : mChain op op' ma mb mc env S = .ok d S3 := by
  simp only [mChain, Ki.bind, h1, h2, h3, o1, o2, lift]
theorem is_row {ss : List Nat} (h : ∀ s ∈ ss, s ≤ 4) (h1 : 1 ≤ ss.length) (hl : ss.length ≤ 4) (S : Sto) : m_is_row [.tup (nI ss)] S = .ok (.bl true) S := by
  refine fun_rt rfl (ret_ok ?_)
  have c : mCall m_are_counts (aCons (mVar 0) (aCons (mC (.int 0)) (aCons (mC (.int (6))) (aNil)))) [some (.tup (nI ss))] S = .ok (.bl true) S := by
    refine (word_args (ds := [.tup (nI ss), .int 0, .int 6]) rfl).trans ?_
    have := counts_ok (ds := fun (s : Nat) => D.int s) (p := fun s => decide ((0 : Int) ≤ s) && decide ((s : Int) ≤ 6)) (lo := 0) (hi := 6) (S := S) (xs := ss) (by omega) fun s hs => count_ok (by have := h s hs; omega) S
    rw [this]
    rw [show ss.all (fun s => decide ((0 : Int) ≤ s) && decide ((s : Int) ≤ 6)) = true from List.all_eq_true.mpr fun s hs => by have := h s hs; simp; omega]
  refine and_true c ?_
  have c1 : decide ((1 : Int) ≤ (ss.length : Int)) = true := decide_eq_true (by omega)
  have c2 : decide ((ss.length : Int) ≤ 6) = true := decide_eq_true (by omega)
  have b : mBlt dLen (aCons (mVar 0) (aNil)) [some (.tup (nI ss))] S = .ok (.int ss.length) S := blt1 (d := .tup (nI ss)) rfl (by simp [vw, dLen])
  exact chain_ok (x := .int 1) (y := .int ss.length) (z := .int 6) rfl b rfl (by simp only [vw, dLe, iCmp, c1]) (by simp only [vw, dLe, iCmp, c2])
theorem fn_rows {ss : List Nat} (h : ∀ s ∈ ss, s ≤ 4) (h1 : 1 ≤ ss.length) (hl : ss.length ≤ 4) (S : Sto) : m_rows_of_parts [.tup (nI ss)] S = .ok (.tup ((allR ss [[]]).map tR)) S := by
  have p : (5 : Int) ^ ss.length ≤ 5 ^ 4 := by
    have : 5 ^ ss.length ≤ 5 ^ 4 := Nat.pow_le_pow_right (by decide) hl
    exact_mod_cast this
  obtain ⟨m, e3, t, hm⟩ := many_ok (S := S) (e0 := some (.tup (nI ss))) (e1 := some (.lst true (ss.map opt))) (e4 := none) ss 1 none h (by decide) (by omega)
  refine fun_rt rfl ?_
  have i1 : (tNot' (mBl (mCall m_is_row (aCons (mVar 0) (aNil))))) [some (.tup (nI ss)), none, none, none, none] S = .ok false S := by
    have : mCall m_is_row (aCons (mVar 0) (aNil)) [some (.tup (nI ss)), none, none, none, none] S = .ok (.bl true) S := c1_ (d := .tup (nI ss)) rfl (is_row h h1 hl S)
    unfold tNot' Ki.bind
    rw [bl_ok this]
    rfl
  have o1 : (mLc [4] (gNm 4) (mSq (mVar 0)) (mYes) (mCall (m__parts_to 20) (aCons (mVar 4) (aCons (mVar 4) (aNil))))) [some (.tup (nI ss)), none, none, none, none] S = .ok (.lst true (ss.map opt)) S := by
    have q := lc_ok' (vs := [4]) (g := gNm 4) (mi := mSq (mVar 0)) (mt := mYes) (me := mCall (m__parts_to 20) (aCons (mVar 4) (aCons (mVar 4) (aNil)))) (env := [some (.tup (nI ss)), none, none, none, none]) (S := S) (S1 := S)
      (ds := fun (s : Nat) => D.int s) (p := fun _ => true) (f := opt) (xs := ss) rfl (by omega) fun s hs => ⟨[some (.tup (nI ss)), none, none, none, some (.int s)], rfl, rfl, fun _ => c2_ (d1 := .int s) (d2 := .int s) rfl rfl (parts_ok s (by have := h s hs; omega) S)⟩
    rw [List.filter_eq_self.mpr (by simp)] at q
    exact q
  have f1 : sForS (gNm 3) (mVar 1) bodyM [some (.tup (nI ss)), some (.lst true (ss.map opt)), some (.int 1), none, none] S = .nx [some (.tup (nI ss)), some (.lst true (ss.map opt)), some (.int m), e3, none] S := (forS_ok rfl rfl).trans t
  have i2 : (mBl (mOp dGt (mVar 2) (mC (.int (3000))))) [some (.tup (nI ss)), some (.lst true (ss.map opt)), some (.int m), e3, none] S = .ok false S := no_ (a := .int m) (b := .int 3000) rfl rfl (by simp [vw, dGt, iCmp]; omega)
  exact (if_no i1).trans ((seq_set (env' := [some (.tup (nI ss)), some (.lst true (ss.map opt)), none, none, none]) o1 rfl).trans ((seq_set (d := .int 1) (S1 := S) (env' := [some (.tup (nI ss)), some (.lst true (ss.map opt)), some (.int 1), none, none]) rfl rfl).trans ((seq_nx f1).trans ((if_no i2).trans (ret_ok (tupOf_ok (c1_ (d := .lst true (ss.map opt)) rfl (fn_choices h hl S)) rfl))))))
end K09

set_option Elab.async false
set_option linter.all false
set_option maxRecDepth 100000
set_option maxHeartbeats 1000000
namespace K09
open PySem Ki
/-! Z09: the law's rows; its lists are right -/
def bodyE : MS := sDrop (mMut oExt (mVar 5) (aCons (mLc [8] (gNm 8) (mSqR (mCall m__law_partitions (aCons (mVar 4) (aNil)))) (mYes) (mOp dAdd (mVar 6) (mTup (aCons (mVar 8) (aNil))))) (aNil)))
def bodyD : MS := sSeq (sSet 5 (mNew (aNil))) (sSeq (sForS (gNm 6) (mVar 3) bodyE) (sSet 3 (mBlt dList (aCons (mVar 5) (aNil)))))
theorem ext_one {e0 e1 e2 e3 : Option D} {dS : D} {ps : List (List Int)} {p : Nat} {S0 S : Sto} {acc : List (List (List Int))} {r : List (List Int)} (hlaw : ∀ S, ∃ d S', m__law_partitions [dS] S = .ok d S' ∧ Ext S S' ∧ Rs S' S.length d ps) (p5 : ps.length ≤ 5) (hr : r.length ≤ 10) (hx : Ext S0 S) (hp : S0.length ≤ p) (ha : S[p]? = some (.lst (acc.map tR))) (hl : acc.length ≤ 2000) :
    ∃ S', bodyE [e0, e1, e2, e3, some dS, some (.ref p), some (tR r), none, none] S = .nx [e0, e1, e2, e3, some dS, some (.ref p), some (tR r), none, none] S' ∧ Ext S0 S' ∧ S'[p]? = some (.lst ((acc ++ ps.map fun q => r ++ [q]).map tR)) := by
  obtain ⟨d, S1, t, x1, rs⟩ := hlaw S
  have pS := (List.getElem?_eq_some_iff.mp ha).1
  have a1 : S1[p]? = some (.lst (acc.map tR)) := by rw [x1.2 p pS]; exact ha
  have w : mSqR (mCall m__law_partitions (aCons (mVar 4) (aNil))) [e0, e1, e2, e3, some dS, some (.ref p), some (tR r), none, none] S = .ok (ps.map tI) S1 := by
    have c : mCall m__law_partitions (aCons (mVar 4) (aNil)) [e0, e1, e2, e3, some dS, some (.ref p), some (tR r), none, none] S = .ok d S1 := c1_ (d := dS) rfl t
    rcases rs with ⟨b, rfl⟩ | ⟨k, rfl, _, h⟩
    · simp [mSqR, Ki.bind, c, items, lift]
    · simp [mSqR, Ki.bind, c, h]
  have c := lc_ok' (vs := [8]) (g := gNm 8) (mi := mSqR (mCall m__law_partitions (aCons (mVar 4) (aNil)))) (mt := mYes) (me := mOp dAdd (mVar 6) (mTup (aCons (mVar 8) (aNil)))) (env := [e0, e1, e2, e3, some dS, some (.ref p), some (tR r), none, none]) (S := S) (S1 := S1)
    (ds := tI) (p := fun _ => true) (f := fun q => tR (r ++ [q])) (xs := ps) w (by omega) fun q _ => ⟨[e0, e1, e2, e3, some dS, some (.ref p), some (tR r), none, some (tI q)], rfl, rfl, fun _ => mOp_ok (a := tR r) (b := tR [q]) rfl rfl (by
      have h : r.length + 1 ≤ 100000 := by omega
      simp [vw, dAdd, iOp, sAdd, lAdd, tAdd', h])⟩
  rw [List.filter_eq_self.mpr (by simp)] at c
  have k := ext_ok (mo := mVar 5) (p := p) (xs := acc.map tR) (ys0 := acc.map tR) rfl ha c a1 (by rw [List.length_map, List.length_map]; omega)
  refine ⟨S1.set p (.lst (acc.map tR ++ ps.map fun q => tR (r ++ [q]))), ?_, (hx.trans x1).set hp, ?_⟩
  · unfold bodyE sDrop thenS
    rw [k]
  · rw [List.getElem?_set_self (Nat.lt_of_lt_of_le pS x1.1), List.map_append, List.map_map]
    rfl
theorem ext_all {e0 e1 e2 e3 : Option D} {dS : D} {ps : List (List Int)} {p : Nat} {S0 : Sto} (hlaw : ∀ S, ∃ d S', m__law_partitions [dS] S = .ok d S' ∧ Ext S S' ∧ Rs S' S.length d ps) (p5 : ps.length ≤ 5) (hp : S0.length ≤ p) : ∀ (rows : List (List (List Int))) (acc : List (List (List Int))) (e6 : Option D) (S : Sto), (∀ r ∈ rows, r.length ≤ 10) → Ext S0 S → S[p]? = some (.lst (acc.map tR)) → acc.length + rows.length * 5 ≤ 2000 →
    ∃ e6' S', forL (gNm 6) bodyE (rows.map tR) [e0, e1, e2, e3, some dS, some (.ref p), e6, none, none] S = .nx [e0, e1, e2, e3, some dS, some (.ref p), e6', none, none] S' ∧ Ext S0 S' ∧ S'[p]? = some (.lst ((acc ++ grow rows ps).map tR))
  | [], acc, e6, S, _, hx, ha, _ => ⟨e6, S, rfl, hx, by simpa [grow] using ha⟩
  | r :: rows, acc, e6, S, h, hx, ha, hl => by
    obtain ⟨S1, t, x1, a1⟩ := ext_one (e0 := e0) (e1 := e1) (e2 := e2) (e3 := e3) hlaw p5 (h r List.mem_cons_self) hx hp ha (by rw [List.length_cons] at hl; omega)
    obtain ⟨e6', S2, t2, x2, a2⟩ := ext_all (e0 := e0) (e1 := e1) (e2 := e2) (e3 := e3) hlaw p5 hp rows (acc ++ ps.map fun q => r ++ [q]) (some (tR r)) S1 (fun z hz => h z (List.mem_cons_of_mem _ hz)) x1 a1 (by rw [List.length_cons] at hl; rw [List.length_append, List.length_map]; omega)
    refine ⟨e6', S2, ?_, x2, ?_⟩
    · rw [List.map_cons]
      exact (fl_cons (env1 := [e0, e1, e2, e3, some dS, some (.ref p), some (tR r), none, none]) rfl t).trans t2
    · rw [a2, List.append_assoc]
      rfl
theorem due_one {e0 e1 e2 : Option D} {e5 e6 : Option D} {s k : Nat} {S : Sto} {rows : List (List (List Int))} (hs : s ≤ 4) (hr : ∀ r ∈ rows, r.length = k) (hk : k ≤ 10) (hl : rows.length * 5 ≤ 2000) :
    ∃ e5' e6' S', bodyD [e0, e1, e2, some (.lst true (rows.map tR)), some (.int s), e5, e6, none, none] S = .nx [e0, e1, e2, some (.lst true ((grow rows (Ps s)).map tR)), some (.int s), e5', e6', none, none] S' ∧ Ext S S' := by
  obtain ⟨e6', S', t, x, a⟩ := ext_all (e0 := e0) (e1 := e1) (e2 := e2) (e3 := some (.lst true (rows.map tR))) (dS := .int s) (ps := Ps s) (p := S.length) (S0 := S) (lawP_ok (n := s) (by omega)) (Ps5 s hs) (Nat.le_refl _) rows [] e6 (S ++ [.lst []]) (fun r h => by rw [hr r h]; exact hk) (Ext.app _ _) (by simp) (by simpa using hl)
  refine ⟨some (.ref S.length), e6', S', ?_, x⟩
  have f : sForS (gNm 6) (mVar 3) bodyE [e0, e1, e2, some (.lst true (rows.map tR)), some (.int s), some (.ref S.length), e6, none, none] (S ++ [.lst []]) = .nx [e0, e1, e2, some (.lst true (rows.map tR)), some (.int s), some (.ref S.length), e6', none, none] S' := (forS_ok rfl rfl).trans t
  have l : (sSet 3 (mBlt dList (aCons (mVar 5) (aNil)))) [e0, e1, e2, some (.lst true (rows.map tR)), some (.int s), some (.ref S.length), e6', none, none] S' = .nx [e0, e1, e2, some (.lst true ((grow rows (Ps s)).map tR)), some (.int s), some (.ref S.length), e6', none, none] S' := by
    have b : mBlt dList (aCons (mVar 5) (aNil)) [e0, e1, e2, some (.lst true (rows.map tR)), some (.int s), some (.ref S.length), e6', none, none] S' = .ok (.lst true ((grow rows (Ps s)).map tR)) S' := blt1 (d := .ref S.length) rfl (by rw [vw_at a]; rfl)
    unfold sSet thenS
    rw [b]
    rfl
  exact (seq_set (env' := [e0, e1, e2, some (.lst true (rows.map tR)), some (.int s), some (.ref S.length), e6, none, none]) (new_ok _ S) rfl).trans ((seq_nx f).trans l)
theorem due_all {e0 e1 e2 : Option D} : ∀ (ss : List Nat) (rows : List (List (List Int))) (k : Nat) (e4 e5 e6 : Option D) (S : Sto), (∀ s ∈ ss, s ≤ 4) → (∀ r ∈ rows, r.length = k) → k + ss.length ≤ 10 → rows.length * 5 ^ ss.length ≤ 1000 →
    ∃ e4' e5' e6' S', forL (gNm 4) bodyD (nI ss) [e0, e1, e2, some (.lst true (rows.map tR)), e4, e5, e6, none, none] S = .nx [e0, e1, e2, some (.lst true ((allR ss rows).map tR)), e4', e5', e6', none, none] S' ∧ Ext S S'
  | [], rows, k, e4, e5, e6, S, _, _, _, _ => ⟨e4, e5, e6, S, rfl, Ext.refl _⟩
  | s :: ss, rows, k, e4, e5, e6, S, h, hr, hk, hl => by
    have hs := h s List.mem_cons_self
    obtain ⟨l1, l2⟩ := len5 hs hl
    have l5 : rows.length * 5 ≤ 2000 := by
      rw [List.length_cons, Nat.pow_succ, Nat.mul_comm (5 ^ _) 5, ← Nat.mul_assoc] at hl
      have : rows.length * 5 * 1 ≤ rows.length * 5 * 5 ^ ss.length := Nat.mul_le_mul_left _ (Nat.pow_pos (by decide))
      omega
    obtain ⟨f5, f6, S1, t, x1⟩ := due_one (e0 := e0) (e1 := e1) (e2 := e2) (e5 := e5) (e6 := e6) (S := S) hs hr (by simp at hk; omega) l5
    obtain ⟨g4, g5, g6, S2, t2, x2⟩ := due_all (e0 := e0) (e1 := e1) (e2 := e2) ss (grow rows (Ps s)) (k + 1) (some (.int s)) f5 f6 S1 (fun x hx => h x (List.mem_cons_of_mem _ hx)) (grow_row hr) (by simp at hk; omega) l1
    refine ⟨g4, g5, g6, S2, ?_, x1.trans x2⟩
    show forL (gNm 4) bodyD (D.int s :: nI ss) _ _ = _
    exact (fl_cons (env1 := [e0, e1, e2, some (.lst true (rows.map tR)), some (.int s), e5, e6, none, none]) rfl t).trans t2
/-- drawn sizes -/
theorem draws_ok {n b : Nat} {env : Ev} (h0 : ∀ d, (env.set 7 (some d))[0]? = some (some (.ref n))) : ∀ (ds : List D) (S : Sto), Lot S n (b + ds.length) →
    ∃ ss S', lcL (gNm 7) mYes (mCall m__law_pull (aCons (mVar 0) (aCons (mC (.int 5)) (aNil)))) env ds S = .ok (nI ss) S' ∧ ss.length = ds.length ∧ (∀ s ∈ ss, s ≤ 4) ∧ Lot S' n b
  | [], S, h => ⟨[], S, rfl, rfl, by simp, h⟩
  | d :: ds, S, h => by
    obtain ⟨r, o, r0, r1, e, l⟩ := pull_ok (t := 5) (b := b + ds.length) h (by omega) (by omega)
    obtain ⟨ss, S', t, hl, h4, l'⟩ := draws_ok h0 ds (S.set n o) l
    obtain ⟨s, rfl⟩ : ∃ s : Nat, r = s := ⟨r.toNat, by omega⟩
    refine ⟨s :: ss, S', ?_, by simp [hl], fun x hx => ?_, l'⟩
    · have v : mVar 0 (env.set 7 (some d)) S = .ok (.ref n) S := by unfold mVar; rw [h0]
      have c : mCall m__law_pull (aCons (mVar 0) (aCons (mC (.int 5)) (aNil))) (env.set 7 (some d)) S = .ok (.int s) (S.set n o) := c2_ v (d2 := .int 5) rfl e
      have y : mYes (env.set 7 (some d)) S = .ok true S := rfl
      rw [lcL]
      simp only [gNm, y, c]
      rw [t]
      rfl
    · rcases List.mem_cons.mp hx with rfl | hx
      · omega
      · exact h4 x hx
theorem ifP' {P : SRes → Prop} {t : M Bool} {a k : MS} {env : Ev} {S S1 : Sto} (h : t env S = .ok false S1) (next : P (k env S1)) : P (sSeq (sIf t a sNext) k env S) := by
  have : sSeq (sIf t a sNext) k env S = k env S1 := by simp [sSeq, sIf, thenS, h, sNext]
  rw [this]
  exact next
theorem lists_ok {S : Sto} {n b : Nat} (h : Lot S n (b + 6)) : ∃ S', m__law_lists_right [.ref n] S = .ok (.bl true) S' ∧ Lot S' n b := by
  suffices hb : Good n b (b__law_lists_right [some (.ref n), none, none, none, none, none, none, none, none] S) by
    obtain ⟨S', e, q⟩ := hb
    exact ⟨S', fun_rt rfl e, q⟩
  obtain ⟨r, o, r0, r1, e, l⟩ := pull_ok (t := 13) (b := b + 5) h (by omega) (by omega)
  obtain ⟨k, rfl⟩ : ∃ k : Nat, r = k := ⟨r.toNat, by omega⟩
  have hk : k ≤ 12 := by omega
  refine setP (P := Good n b) (d := .int k) (S1 := S.set n o) (env' := [some (.ref n), some (.int k), none, none, none, none, none, none, none]) (c2_ (d1 := .ref n) (d2 := .int 13) rfl rfl e) rfl ?_
  generalize S.set n o = S1 at l
  obtain ⟨d, S2, t, x2, rs⟩ := lawP_ok hk S1
  obtain ⟨b2, v2⟩ := rs.vw
  have ne : dNe (.lst true ((Ps k).map tI)) (.lst b2 ((Ps k).map tI)) = some (.bl false) := ne_self fun t ht => by obtain ⟨x, _, rfl⟩ := List.mem_map.mp ht; exact okT_tI x
  refine ifP' (P := Good n b) (S1 := S2) (no_ (a := .lst true ((Ps k).map tI)) (S1 := S1) (S2 := S2) (blt1 (c1_ (d := .int k) rfl (fn_parts hk S1)) rfl) (c1_ (d := .int k) rfl t) (by rw [v2]; exact ne)) ?_
  have l2 := l.ext x2
  clear t rs v2 ne
  obtain ⟨r, o2, q0, q1, e2, l3⟩ := pull_ok (t := 4) (b := b + 4) l2 (by omega) (by omega)
  obtain ⟨ss, S4, t4, hl4, h4, l4⟩ := draws_ok (n := n) (b := b) (env := [some (.ref n), some (.int k), none, none, none, none, none, none, none]) (fun d => rfl) (rgD 0 (1 + r).toNat) (S2.set n o2) (by rw [rgl9]; exact l3.less' (by omega))
  rw [rgl9] at hl4
  have a : (aCons (mOp dAdd (mC (.int 1)) (mCall m__law_pull (aCons (mVar 0) (aCons (mC (.int 4)) (aNil))))) (aNil)) [some (.ref n), some (.int k), none, none, none, none, none, none, none] S2 = .ok [.int (1 + r)] (S2.set n o2) :=
    args1 (mOp_ok (a := .int 1) (b := .int r) rfl (c2_ (d1 := .ref n) (d2 := .int 4) rfl rfl e2) rfl)
  have c : (mLc [7] (gNm 7) (mRg1 (aCons (mOp dAdd (mC (.int 1)) (mCall m__law_pull (aCons (mVar 0) (aCons (mC (.int 4)) (aNil))))) (aNil))) (mYes) (mCall m__law_pull (aCons (mVar 0) (aCons (mC (.int 5)) (aNil))))) [some (.ref n), some (.int k), none, none, none, none, none, none, none] S2 = .ok (.lst true (nI ss)) S4 := by
    have w : wipeD [some (.ref n), some (.int k), none, none, none, none, none, none, none] [7] = [some (.ref n), some (.int k), none, none, none, none, none, none, none] := rfl
    have lim : (rgD 0 (1 + r).toNat).length ≤ 100000 := by rw [rgl9]; omega
    unfold mLc
    rw [rg1_ok a (by omega) (by omega)]
    simp only [lim, if_true, w, t4]
  refine setP (P := Good n b) (d := .tup (nI ss)) (S1 := S4) (env' := [some (.ref n), some (.int k), some (.tup (nI ss)), none, none, none, none, none, none]) (tupOf_ok c rfl) rfl ?_
  refine setP (P := Good n b) (d := .lst true [tR []]) (S1 := S4) (env' := [some (.ref n), some (.int k), some (.tup (nI ss)), some (.lst true [tR []]), none, none, none, none, none]) rfl rfl ?_
  have p5 : 5 ^ ss.length ≤ 5 ^ 4 := Nat.pow_le_pow_right (by decide) (by omega)
  obtain ⟨f4, f5, f6, S5, t5, x5⟩ := due_all (e0 := some (.ref n)) (e1 := some (.int k)) (e2 := some (.tup (nI ss))) ss [[]] 0 none none none S4 h4 (by simp) (by omega) (by simp; omega)
  have f : sForS (gNm 4) (mVar 2) bodyD [some (.ref n), some (.int k), some (.tup (nI ss)), some (.lst true [tR []]), none, none, none, none, none] S4 = .nx [some (.ref n), some (.int k), some (.tup (nI ss)), some (.lst true ((allR ss [[]]).map tR)), f4, f5, f6, none, none] S5 := (forS_ok rfl rfl).trans t5
  show Good n b (sSeq (sForS (gNm 4) (mVar 2) bodyD) _ _ S4)
  rw [seq_nx f]
  have eq1 : dEq (.lst true ((allR ss [[]]).map tR)) (.lst true ((allR ss [[]]).map tR)) = some (.bl true) := eq_self fun t ht => by obtain ⟨x, _, rfl⟩ := List.mem_map.mp ht; exact okT_tR x
  have z0 : ∀ env, (mOp dEq (mCall m_rows_of_parts (aCons (mTup (aCons (mC (.int 0)) (aNil))) (aNil))) (mTup (aCons (mTup (aCons (mTup (aNil)) (aNil))) (aNil)))) env S5 = .ok (.bl true) S5 := fun env => by kernel_rfl
  exact ⟨S5, ret_ok (and_true (mOp_ok (blt1 (c1_ (d := .tup (nI ss)) rfl (fn_rows h4 (by omega) (by omega) S5)) rfl) rfl eq1) (z0 _)), l4.ext x5⟩
end K09

set_option Elab.async false
set_option linter.all false
set_option maxRecDepth 100000
set_option maxHeartbeats 1000000
namespace K09
open PySem Ki
/-! A09: values near parts are judged -/
/-- the parts with another value at one place, as a list of values -/
def nearD (ps : List Int) (i : Nat) (d : D) : List D := (ps.take i).map D.int ++ [d] ++ (ps.drop (i + 1)).map D.int
def near (ps : List Int) (i : Nat) (v : Int) : List Int := ps.take i ++ [v] ++ ps.drop (i + 1)
theorem near_int (ps : List Int) (i : Nat) (v : Int) : nearD ps i (.int v) = (near ps i v).map D.int := by simp [nearD, near]
theorem cut_to (xs : List D) (i : Nat) (h : i ≤ xs.length) : cutD xs none (some (i : Int)) = xs.take i := by
  unfold cutD
  rw [HT.sIx_none, HT.sIx_nat]
  simp [Nat.min_eq_left h]
theorem cut_from (xs : List D) (i : Nat) (h : i ≤ xs.length) : cutD xs (some (i : Int)) none = xs.drop i := by
  unfold cutD
  rw [HT.sIx_none, HT.sIx_nat, Nat.min_eq_left h]
  exact List.take_of_length_le (by simp)
theorem sl_to {m l : M D} {env : Ev} {S : Sto} {xs : List D} {i : Nat} (h1 : m env S = .ok (.tup xs) S) (h2 : l env S = .ok (.int i) S) (h : i ≤ xs.length) : mSl m (mNoPart) (mPart l) env S = .ok (.tup (xs.take i)) S := by
  simp [mSl, Ki.bind, h1, mNoPart, Ki.ret, mPart, h2, lift, vw, dSl, cut_to xs i h]
theorem sl_from {m l : M D} {env : Ev} {S : Sto} {xs : List D} {i : Nat} (h1 : m env S = .ok (.tup xs) S) (h2 : l env S = .ok (.int (i : Nat)) S) (h : i ≤ xs.length) : mSl m (mPart l) (mNoPart) env S = .ok (.tup (xs.drop i)) S := by
  simp [mSl, Ki.bind, h1, mNoPart, Ki.ret, mPart, h2, lift, vw, dSl, cut_from xs i h]
theorem add_t {xs ys : List D} (h : xs.length + ys.length ≤ 100000) : dAdd (.tup xs) (.tup ys) = some (.tup (xs ++ ys)) := by
  simp [dAdd, iOp, sAdd, lAdd, tAdd', h]
/-- is it an integer from 1 to 24 -/
def inR : D → Bool
  | .int x => decide (1 ≤ x) && decide (x ≤ 24)
  | _ => false
theorem parts_no {L : List D} {S : Sto} (hl : L.length ≤ 100000) (h : ∀ d ∈ L, m_is_count [d, .int 1, .int 24] S = .ok (.bl (inR d)) S) (hn : ∃ d ∈ L, inR d = false) : m_is_parts [.tup L] S = .ok (.bl false) S := by
  refine fun_rt rfl (ret_ok ?_)
  have c := counts_ok (ds := fun d : D => d) (p := inR) (lo := 1) (hi := 24) (S := S) (xs := L) hl h
  rw [List.map_id'] at c
  rw [show L.all inR = false from by
    obtain ⟨d, hd, e⟩ := hn
    exact List.all_eq_false.mpr ⟨d, hd, by simp [e]⟩] at c
  have c' : mCall m_are_counts (aCons (mVar 0) (aCons (mC (.int 1)) (aCons (mC (.int (24))) (aNil)))) [some (.tup L)] S = .ok (.bl false) S := (word_args (ds := [.tup L, .int 1, .int 24]) rfl).trans c
  simp [mAnd, Ki.bind, c', Ki.ret]
/-- one value -/
def bodyJ : MS := sSeq (sSet 5 (mOp dAdd (mOp dAdd (mSl (mVar 1) (mNoPart) (mPart (mVar 2))) (mTup (aCons (mVar 3) (aNil)))) (mSl (mVar 1) (mPart (mOp dAdd (mVar 2) (mC (.int 1)))) (mNoPart)))) (sSeq (sSet 6 (mAnd (mBlt dIsi (aCons (mVar 3) (aCons (ret (.ty .int)) (aNil)))) (mAnd (mNot (mBlt dIsi (aCons (mVar 3) (aCons (ret (.ty .bool)) (aNil))))) (mOp dGt (mVar 3) (mC (.int 0)))))) (sSeq (sSet 6 (mAnd (mVar 6) (mAnd (mOp dEq (mBlt dList (aCons (mVar 5) (aNil))) (mBlt dSortR2 (aCons (mVar 5) (aNil)))) (mOp dLt (mBlt dSum2 (aCons (mVar 5) (aNil))) (mC (.int 25)))))) (sIf (mBl (mOp dNe (mBlt dRepr (aCons (mCall m_is_parts (aCons (mVar 5) (aNil))) (aNil))) (mBlt dRepr (aCons (mVar 6) (aNil))))) (sRet (mC (.bl false))) (sNext))))
abbrev envJ (n : Nat) (ps : List Int) (i : Int) (e3 e5 e6 : Option D) : Ev := [some (.ref n), some (tI ps), some (.int i), e3, none, e5, e6]
theorem rep_b (b : Bool) : dRepr [.bl b] = some (.str (if b then "True" else "False")) := by cases b <;> kernel_rfl
theorem ne_rep (b : Bool) : dNe (.str (if b then "True" else "False")) (.str (if b then "True" else "False")) = some (.bl false) := by cases b <;> kernel_rfl
theorem near_ok {n i : Nat} {ps : List Int} {d : D} {S : Sto} {e5 : Option D} {e6 : Option D} (hi : i < ps.length) (hl : ps.length ≤ 100) :
    (mOp dAdd (mOp dAdd (mSl (mVar 1) (mNoPart) (mPart (mVar 2))) (mTup (aCons (mVar 3) (aNil)))) (mSl (mVar 1) (mPart (mOp dAdd (mVar 2) (mC (.int 1)))) (mNoPart))) (envJ n ps i (some d) e5 e6) S = .ok (.tup (nearD ps i d)) S := by
  have h1 := sl_to (m := mVar 1) (l := mVar 2) (env := envJ n ps i (some d) e5 e6) (S := S) (xs := ps.map D.int) (i := i) rfl rfl (by rw [List.length_map]; omega)
  have v : ∀ j : Int, (mOp dAdd (mVar 2) (mC (.int 1))) [some (.ref n), some (tI ps), some (.int j), some d, none, e5, e6] S = .ok (.int (j + 1)) S := fun j => rfl
  have h2 := sl_from (m := mVar 1) (l := mOp dAdd (mVar 2) (mC (.int 1))) (env := envJ n ps i (some d) e5 e6) (S := S) (xs := ps.map D.int) (i := i + 1) rfl (v i) (by rw [List.length_map]; omega)
  have t : (mTup (aCons (mVar 3) (aNil))) (envJ n ps i (some d) e5 e6) S = .ok (.tup [d]) S := tup_ok (args1 rfl) (by simp)
  refine (mOp_ok (mOp_ok h1 t (add_t (by simp; omega))) h2 (add_t (by simp; omega))).trans ?_
  rw [nearD, List.map_take, List.map_drop]
theorem turnJ {n i : Nat} {ps : List Int} {d : D} {b : Bool} {S : Sto} {e5 e6 : Option D} (hi : i < ps.length) (hl : ps.length ≤ 100) (hp : m_is_parts [.tup (nearD ps i d)] S = .ok (.bl b) S)
    (h1 : ∃ c, (∀ e5 e6, (mAnd (mBlt dIsi (aCons (mVar 3) (aCons (ret (.ty .int)) (aNil)))) (mAnd (mNot (mBlt dIsi (aCons (mVar 3) (aCons (ret (.ty .bool)) (aNil))))) (mOp dGt (mVar 3) (mC (.int 0))))) (envJ n ps i (some d) e5 e6) S = .ok (.bl c) S) ∧
      (mAnd (mVar 6) (mAnd (mOp dEq (mBlt dList (aCons (mVar 5) (aNil))) (mBlt dSortR2 (aCons (mVar 5) (aNil)))) (mOp dLt (mBlt dSum2 (aCons (mVar 5) (aNil))) (mC (.int 25))))) (envJ n ps i (some d) (some (.tup (nearD ps i d))) (some (.bl c))) S = .ok (.bl b) S) :
    ∃ e5' e6', bodyJ (envJ n ps i (some d) e5 e6) S = .nx (envJ n ps i (some d) e5' e6') S := by
  obtain ⟨c, h2, h3⟩ := h1
  refine ⟨some (.tup (nearD ps i d)), some (.bl b), ?_⟩
  have ne : (mBl (mOp dNe (mBlt dRepr (aCons (mCall m_is_parts (aCons (mVar 5) (aNil))) (aNil))) (mBlt dRepr (aCons (mVar 6) (aNil))))) (envJ n ps i (some d) (some (.tup (nearD ps i d))) (some (.bl b))) S = .ok false S :=
    no_ (blt1 (c1_ (d := .tup (nearD ps i d)) rfl hp) (rep_b b)) (blt1 (d := .bl b) rfl (rep_b b)) (ne_rep b)
  have f : (sIf (mBl (mOp dNe (mBlt dRepr (aCons (mCall m_is_parts (aCons (mVar 5) (aNil))) (aNil))) (mBlt dRepr (aCons (mVar 6) (aNil))))) (sRet (mC (.bl false))) (sNext)) (envJ n ps i (some d) (some (.tup (nearD ps i d))) (some (.bl b))) S = .nx (envJ n ps i (some d) (some (.tup (nearD ps i d))) (some (.bl b))) S := by
    unfold sIf thenS
    rw [ne]
    rfl
  exact (seq_set (env' := envJ n ps i (some d) (some (.tup (nearD ps i d))) e6) (near_ok hi hl) rfl).trans ((seq_set (env' := envJ n ps i (some d) (some (.tup (nearD ps i d))) (some (.bl c))) (h2 _ _) rfl).trans ((seq_set (env' := envJ n ps i (some d) (some (.tup (nearD ps i d))) (some (.bl b))) h3 rfl).trans f))
theorem turn_no {n i : Nat} {ps : List Int} {d : D} {S : Sto} {e5 e6 : Option D} (hps : Pt ps) (hi : i < ps.length) (hl : ps.length ≤ 100) (hd : m_is_count [d, .int 1, .int 24] S = .ok (.bl (inR d)) S) (hr : inR d = false)
    (h2 : ∀ e5 e6, (mAnd (mBlt dIsi (aCons (mVar 3) (aCons (ret (.ty .int)) (aNil)))) (mAnd (mNot (mBlt dIsi (aCons (mVar 3) (aCons (ret (.ty .bool)) (aNil))))) (mOp dGt (mVar 3) (mC (.int 0))))) (envJ n ps i (some d) e5 e6) S = .ok (.bl false) S) :
    ∃ e5' e6', bodyJ (envJ n ps i (some d) e5 e6) S = .nx (envJ n ps i (some d) e5' e6') S := by
  have m : ∀ x ∈ ps, m_is_count [.int x, .int 1, .int 24] S = .ok (.bl (inR (.int x))) S := fun x hx => count_ok (by have := hps.le x hx; have := hps.pos x hx; omega) S
  refine turnJ (b := false) hi hl (parts_no ?_ (fun e he => ?_) ⟨d, by simp [nearD], hr⟩) ⟨false, h2, rfl⟩
  · simp [nearD]; omega
  · rcases List.mem_append.mp he with he | he
    · rcases List.mem_append.mp he with he | he
      · obtain ⟨x, hx, rfl⟩ := List.mem_map.mp he
        exact m x (List.mem_of_mem_take hx)
      · rw [List.mem_singleton.mp he]; exact hd
    · obtain ⟨x, hx, rfl⟩ := List.mem_map.mp he
      exact m x (List.mem_of_mem_drop hx)
theorem isP_due {ys : List Int} (h : ∀ y ∈ ys, 1 ≤ y) : isP ys = (decide (ys = down ys) && decide (ys.sum < 25)) := by
  have e : dscB ys = decide (ys = down ys) := by
    by_cases q : Desc ys
    · rw [dscB_iff.mpr q, decide_eq_true (down_self q).symm]
    · have : dscB ys = false := by
        cases c : dscB ys with
        | false => rfl
        | true => exact absurd (dscB_iff.mp c) q
      rw [this]
      exact (decide_eq_false fun r => q (by rw [r]; exact down_desc _)).symm
  unfold isP
  rw [e]
  by_cases s : ys.sum ≤ 24
  · have a : ys.all (fun x => decide (1 ≤ x) && decide (x ≤ 24)) = true := List.all_eq_true.mpr fun x hx => by
      have := h x hx
      have := (sum_nn h).2 x hx
      simp
      omega
    have s' : ys.sum < 25 := by omega
    rw [a, decide_eq_true s, decide_eq_true s']
    simp
  · have s' : ¬ ys.sum < 25 := by omega
    rw [decide_eq_false s, decide_eq_false s']
    simp
theorem turn_int {n i : Nat} {ps : List Int} {v : Int} {S : Sto} {e5 e6 : Option D} (hps : Pt ps) (hi : i < ps.length) (hl : ps.length ≤ 100) (hv : 1 ≤ v) (hv2 : v ≤ 1000) :
    ∃ e5' e6', bodyJ (envJ n ps i (some (.int v)) e5 e6) S = .nx (envJ n ps i (some (.int v)) e5' e6') S := by
  have pos : ∀ y ∈ near ps i v, 1 ≤ y ∧ y ≤ 1000 := fun y hy => by
    rcases List.mem_append.mp hy with hy | hy
    · rcases List.mem_append.mp hy with hy | hy
      · have := hps.pos y (List.mem_of_mem_take hy)
        have := hps.le y (List.mem_of_mem_take hy)
        omega
      · rw [List.mem_singleton.mp hy]; exact ⟨hv, hv2⟩
    · have := hps.pos y (List.mem_of_mem_drop hy)
      have := hps.le y (List.mem_of_mem_drop hy)
      omega
  have len : (near ps i v).length ≤ 100000 := by simp [near]; omega
  generalize hy : near ps i v = ys at pos len
  have hd : nearD ps i (.int v) = ys.map D.int := by rw [near_int, hy]
  refine turnJ (b := isP ys) hi hl (by rw [hd]; exact isP_ok len (fun x hx => by have := pos x hx; omega) S) ⟨true, fun e5 e6 => ?_, ?_⟩
  · have c : decide (0 < v) = true := decide_eq_true (by omega)
    refine and_true (rfl : _ = Res.ok (D.bl true) S) (and_true (rfl : _ = Res.ok (D.bl true) S) (mOp_ok (a := .int v) (b := .int 0) rfl rfl ?_))
    simp [vw, dGt, iCmp, c]
  · rw [hd, isP_due fun y q => (pos y q).1]
    refine and_true (rfl : _ = Res.ok (D.bl true) S) ?_
    have e1 : (mOp dEq (mBlt dList (aCons (mVar 5) (aNil))) (mBlt dSortR2 (aCons (mVar 5) (aNil)))) (envJ n ps i (some (.int v)) (some (tI ys)) (some (.bl true))) S = .ok (.bl (decide (ys = down ys))) S :=
      mOp_ok (blt1 (d := tI ys) (y := .lst true (ys.map D.int)) rfl rfl) (blt1 (d := tI ys) rfl (srtR_t ys)) (by simp [vw, dEq, eqv_lI])
    have e2 : (mOp dLt (mBlt dSum2 (aCons (mVar 5) (aNil))) (mC (.int 25))) (envJ n ps i (some (.int v)) (some (tI ys)) (some (.bl true))) S = .ok (.bl (decide (ys.sum < 25))) S :=
      mOp_ok (a := .int ys.sum) (b := .int 25) (blt1 (d := tI ys) rfl (sum_t ys)) rfl (by simp [vw, dLt, iCmp])
    cases q : decide (ys = down ys) with
    | false =>
      rw [q] at e1
      unfold mAnd Ki.bind
      rw [e1]
      rfl
    | true =>
      rw [q] at e1
      exact and_true e1 e2
end K09

set_option Elab.async false
set_option linter.all false
set_option maxRecDepth 100000
set_option maxHeartbeats 1000000
namespace K09
open PySem Ki
/-! B09: judged; the law -/
theorem judged_ok {S : Sto} {n b : Nat} (h : Lot S n (b + 26)) : ∃ S', m__law_judged [.ref n] S = .ok (.bl true) S' ∧ Lot S' n b := by
  suffices hb : Good n b (b__law_judged [some (.ref n), none, none, none, none, none, none] S) by
    obtain ⟨S', e, q⟩ := hb
    exact ⟨S', fun_rt rfl e, q⟩
  obtain ⟨xs, S1, px, sx, e1, l1⟩ := drawn_ok (most := 9) (b := b + 1) (by decide) (by decide) h
  obtain ⟨ps, hps⟩ : ∃ ps, ps = xs ++ [1] := ⟨_, rfl⟩
  have lx := px.len
  have pp : Pt ps := by
    refine ⟨?_, fun x hx => ?_, ?_⟩
    · rw [hps]
      refine List.pairwise_append.mpr ⟨px.desc, List.pairwise_singleton _ _, fun a ha c hc => ?_⟩
      rw [List.mem_singleton.mp hc]
      exact px.pos a ha
    · rw [hps] at hx
      rcases List.mem_append.mp hx with q | q
      · exact px.pos x q
      · rw [List.mem_singleton.mp q]; decide
    · rw [hps, List.sum_append]
      simp
      omega
  have lp : ps.length ≤ 100 := by rw [hps]; simp; omega
  have lp0 : 0 < ps.length := by rw [hps]; simp
  refine setP (P := Good n b) (d := tI ps) (S1 := S1) (env' := [some (.ref n), some (tI ps), none, none, none, none, none]) (mOp_ok (c2_ (d1 := .ref n) (d2 := .int 9) rfl rfl e1) (b := tI [1]) rfl (by rw [hps]; exact add_tI (by simp; omega))) rfl ?_
  obtain ⟨r, o, r0, r1, e2, l2⟩ := pull_ok (t := (ps.length : Int)) (b := b) l1 (by omega) (by omega)
  obtain ⟨i, rfl⟩ : ∃ i : Nat, r = i := ⟨r.toNat, by omega⟩
  have hi : i < ps.length := by omega
  refine setP (P := Good n b) (d := .int i) (S1 := S1.set n o) (env' := [some (.ref n), some (tI ps), some (.int i), none, none, none, none]) (c2_ (d1 := .ref n) (d2 := .int ps.length) rfl (blt1 (d := tI ps) rfl (by simp [vw, dLen])) e2) rfl ?_
  generalize S1.set n o = S2 at l2
  obtain ⟨x, hx, x1, x2⟩ : ∃ x : Int, ps[i]?.getD 0 = x ∧ 1 ≤ x ∧ x ≤ 24 := by
    have : ps[i]?.getD 0 = ps[i] := by simp [hi]
    exact ⟨_, rfl, by rw [this]; exact pp.pos _ (List.getElem_mem hi), by rw [this]; exact pp.le _ (List.getElem_mem hi)⟩
  have ix : L2.atI (ps.map D.int) (i : Int) = some (.int x) := by rw [← hx]; exact at_int hi
  have it : (mOp dIx (mVar 1) (mVar 2)) [some (.ref n), some (tI ps), some (.int i), none, none, none, none] S2 = .ok (.int x) S2 := mOp_ok (a := tI ps) (b := .int i) rfl rfl ix
  have tu : (mTup (aCons (mC (.int 0)) (aCons (mNeg (mC (.int 1))) (aCons (mC (.bl true)) (aCons (mC .non) (aCons (mC (.str "1")) (aCons (mTup (aCons (mC (.int 1)) (aNil))) (aCons (mOp dAdd (mOp dIx (mVar 1) (mVar 2)) (mC (.int 1))) (aCons (mOp dAdd (mOp dIx (mVar 1) (mVar 2)) (mC (.int 24))) (aNil)))))))))) [some (.ref n), some (tI ps), some (.int i), none, none, none, none] S2 = .ok (.tup [.int 0, .int (-1), .bl true, .non, .str "1", .tup [.int 1], .int (x + 1), .int (x + 24)]) S2 :=
    tup_ok (args2 (d := .int 0) rfl (args2 (d := .int (-1)) rfl (args2 (d := .bl true) rfl (args2 (d := .non) rfl (args2 (d := .str "1") rfl (args2 (d := .tup [.int 1]) rfl (args2 (mOp_ok (a := .int x) (b := .int 1) it rfl rfl) (args1 (mOp_ok (a := .int x) (b := .int 24) it rfl rfl)))))))) ) (by simp)
  obtain ⟨f3, f5, f6, t⟩ : ∃ f3 f5 f6, forL (gNm 3) bodyJ [.int 0, .int (-1), .bl true, .non, .str "1", .tup [.int 1], .int (x + 1), .int (x + 24)] (envJ n ps i none none none) S2 = .nx (envJ n ps i f3 f5 f6) S2 := by
    obtain ⟨a5, a6, t0⟩ := turn_no (n := n) (d := .int 0) (S := S2) (e5 := none) (e6 := none) pp hi lp (by kernel_rfl) rfl (fun _ _ => by kernel_rfl)
    obtain ⟨b5, b6, t1⟩ := turn_no (n := n) (d := .int (-1)) (S := S2) (e5 := a5) (e6 := a6) pp hi lp (by kernel_rfl) rfl (fun _ _ => by kernel_rfl)
    obtain ⟨c5, c6, t2⟩ := turn_no (n := n) (d := .bl true) (S := S2) (e5 := b5) (e6 := b6) pp hi lp (by kernel_rfl) rfl (fun _ _ => by kernel_rfl)
    obtain ⟨d5, d6, t3⟩ := turn_no (n := n) (d := .non) (S := S2) (e5 := c5) (e6 := c6) pp hi lp (by kernel_rfl) rfl (fun _ _ => by kernel_rfl)
    obtain ⟨e5, e6, t4⟩ := turn_no (n := n) (d := .str "1") (S := S2) (e5 := d5) (e6 := d6) pp hi lp (by kernel_rfl) rfl (fun _ _ => by kernel_rfl)
    obtain ⟨g5, g6, t5⟩ := turn_no (n := n) (d := .tup [.int 1]) (S := S2) (e5 := e5) (e6 := e6) pp hi lp (by kernel_rfl) rfl (fun _ _ => by kernel_rfl)
    obtain ⟨h5, h6, t6⟩ := turn_int (n := n) (v := x + 1) (S := S2) (e5 := g5) (e6 := g6) pp hi lp (by omega) (by omega)
    obtain ⟨k5, k6, t7⟩ := turn_int (n := n) (v := x + 24) (S := S2) (e5 := h5) (e6 := h6) pp hi lp (by omega) (by omega)
    exact ⟨_, k5, k6, (fl_cons rfl t0).trans ((fl_cons rfl t1).trans ((fl_cons rfl t2).trans ((fl_cons rfl t3).trans ((fl_cons rfl t4).trans ((fl_cons rfl t5).trans ((fl_cons rfl t6).trans ((fl_cons rfl t7).trans rfl)))))))⟩
  show Good n b (sSeq (sForS (gNm 3) _ bodyJ) _ _ S2)
  rw [seq_nx ((forS_ok tu rfl).trans t)]
  have od : (mLc [3] (gNm 3) (mSq (mTup (aCons (mC .non) (aCons (mC (.int 3)) (aCons (mBlt dList (aCons (mVar 1) (aNil))) (aCons (ret (.dic [])) (aCons (mC (.str "1")) (aCons (mTup (aCons (mC (.int 25)) (aNil))) (aCons (mTup (aCons (mC (.int 13)) (aCons (mC (.int 12)) (aNil)))) (aCons (mOp dRepT2 (mTup (aCons (mC (.int 1)) (aNil))) (mC (.int 25))) (aCons (mTup (aCons (mC (.int 1)) (aCons (mC (.int 2)) (aNil)))) (aNil)))))))))))) (mBl (mCall m_is_parts (aCons (mVar 3) (aNil)))) (mVar 3)) (envJ n ps i f3 f5 f6) S2 = .ok (.lst true []) S2 := by
    have q := lc_ok' (vs := [3]) (g := gNm 3) (mi := mSq (mTup (aCons (mC .non) (aCons (mC (.int 3)) (aCons (mBlt dList (aCons (mVar 1) (aNil))) (aCons (ret (.dic [])) (aCons (mC (.str "1")) (aCons (mTup (aCons (mC (.int 25)) (aNil))) (aCons (mTup (aCons (mC (.int 13)) (aCons (mC (.int 12)) (aNil)))) (aCons (mOp dRepT2 (mTup (aCons (mC (.int 1)) (aNil))) (mC (.int 25))) (aCons (mTup (aCons (mC (.int 1)) (aCons (mC (.int 2)) (aNil)))) (aNil)))))))))))) (mt := mBl (mCall m_is_parts (aCons (mVar 3) (aNil)))) (me := mVar 3) (env := envJ n ps i f3 f5 f6) (S := S2) (S1 := S2)
      (ds := fun d : D => d) (p := fun _ => false) (f := fun d => d) (xs := [.non, .int 3, .lst true (ps.map D.int), .dic [], .str "1", tI [25], tI [13, 12], tI (List.replicate 25 1), tI [1, 2]]) rfl (by simp) fun d hd => ⟨[some (.ref n), some (tI ps), some (.int i), some d, none, f5, f6], rfl, ?_, fun h => nomatch h⟩
    · rw [q]; simp
    · refine bl_ok (c1_ (d := d) rfl ?_)
      simp only [List.mem_cons, List.mem_nil_iff, or_false] at hd
      rcases hd with rfl | rfl | rfl | rfl | rfl | rfl | rfl | rfl | rfl
      · kernel_rfl
      · kernel_rfl
      · kernel_rfl
      · kernel_rfl
      · kernel_rfl
      · kernel_rfl
      · kernel_rfl
      · kernel_rfl
      · kernel_rfl
  refine setP (P := Good n b) (d := .lst true []) (S1 := S2) (env' := [some (.ref n), some (tI ps), some (.int i), f3, some (.lst true []), f5, f6]) od rfl ?_
  have z1 : ∀ (env : Ev), (mOp dEq (mVar 4) (mLst (aNil))) [some (.ref n), some (tI ps), some (.int i), f3, some (.lst true []), f5, f6] S2 = .ok (.bl true) S2 := fun env => by kernel_rfl
  refine ⟨S2, ret_ok (and_true (z1 []) (and_true (S1 := S2) (c1_ (d := .tup []) (S1 := S2) rfl (by kernel_rfl)) (and_true (S1 := S2) (c1_ (d := tI (List.replicate 24 1)) (S1 := S2) (by kernel_rfl) (by kernel_rfl)) (and_true (S1 := S2) (c1_ (d := tI [24]) (S1 := S2) rfl (by kernel_rfl)) (c1_ (d := tI ps) (S1 := S2) rfl (pp.okP S2)))))), l2⟩
/-! the law -/
def spotB : MS := sSeq (sSet 3 (mCall m__law_lot (aCons (mVar 0) (aCons (mVar 1) (aNil))))) (sIf (tOr' (tNot' (mBl (mCall m__law_lists_right (aCons (mVar 3) (aNil))))) (tOr' (tNot' (mBl (mCall m__law_products_right (aCons (mVar 3) (aNil))))) (tNot' (mBl (mCall m__law_judged (aCons (mVar 3) (aNil))))))) (sRet (mC (.bl false))) (sNext))
theorem not_ok {m : M D} {env : Ev} {S S1 : Sto} (h : m env S = .ok (.bl true) S1) : tNot' (mBl m) env S = .ok false S1 := by
  unfold tNot' Ki.bind
  rw [bl_ok h]
  rfl
theorem spot_ok {ns : List Int} {s : Nat} (hs : s < 3) {e2 e3 : Option D} {S : Sto} : ∃ e3' S', spotB [some (.scr ns), some (.int s), e2, e3] S = .nx [some (.scr ns), some (.int s), e2, e3'] S' := by
  obtain ⟨o, e, l⟩ := lot_ok ns s (by omega) S
  obtain ⟨S1, e1, l1⟩ := lists_ok (b := 200) (n := S.length) (S := S ++ [o]) (l.less' (by omega))
  obtain ⟨S2, e2', l2⟩ := products_ok (b := 100) (n := S.length) (S := S1) (l1.less' (by omega))
  obtain ⟨S3, e3', l3⟩ := judged_ok (b := 10) (n := S.length) (S := S2) (l2.less' (by omega))
  refine ⟨some (.ref S.length), S3, ?_⟩
  have t : (tOr' (tNot' (mBl (mCall m__law_lists_right (aCons (mVar 3) (aNil))))) (tOr' (tNot' (mBl (mCall m__law_products_right (aCons (mVar 3) (aNil))))) (tNot' (mBl (mCall m__law_judged (aCons (mVar 3) (aNil))))))) [some (.scr ns), some (.int s), e2, some (.ref S.length)] (S ++ [o]) = .ok false S3 :=
    or_no (not_ok (c1_ (d := .ref S.length) rfl e1)) (or_no (not_ok (c1_ (d := .ref S.length) rfl e2')) (not_ok (c1_ (d := .ref S.length) rfl e3')))
  have f : (sIf (tOr' (tNot' (mBl (mCall m__law_lists_right (aCons (mVar 3) (aNil))))) (tOr' (tNot' (mBl (mCall m__law_products_right (aCons (mVar 3) (aNil))))) (tNot' (mBl (mCall m__law_judged (aCons (mVar 3) (aNil))))))) (sRet (mC (.bl false))) (sNext)) [some (.scr ns), some (.int s), e2, some (.ref S.length)] (S ++ [o]) = .nx [some (.scr ns), some (.int s), e2, some (.ref S.length)] S3 := by
    unfold sIf thenS
    rw [t]
    rfl
  exact (seq_set (env' := [some (.scr ns), some (.int s), e2, some (.ref S.length)]) (c2_ (d1 := .scr ns) (d2 := .int s) rfl rfl e) rfl).trans f
theorem spots_ok {ns : List Int} : ∀ (L : List D), (∀ d ∈ L, ∃ s : Nat, s < 3 ∧ d = .int s) → ∀ (e1 e2 e3 : Option D) (S : Sto), ∃ e1' e3' S', forL (gNm 1) spotB L [some (.scr ns), e1, e2, e3] S = .nx [some (.scr ns), e1', e2, e3'] S'
  | [], _, e1, e2, e3, S => ⟨e1, e3, S, rfl⟩
  | d :: L, h, e1, e2, e3, S => by
    obtain ⟨s, hs, rfl⟩ := h d List.mem_cons_self
    obtain ⟨f3, S1, t⟩ := spot_ok (ns := ns) hs (e2 := e2) (e3 := e3) (S := S)
    obtain ⟨g1, g3, S2, t2⟩ := spots_ok L (fun x hx => h x (List.mem_cons_of_mem _ hx)) (some (.int s)) e2 f3 S1
    exact ⟨g1, g3, S2, (fl_cons (env1 := [some (.scr ns), some (.int s), e2, e3]) rfl t).trans t2⟩
theorem law_true (ns : List Int) (hl : ns.length ≤ 63) (_ : ∀ i ∈ ns, Builtin.Int.intBits i ≤ 1048576) : ∃ S', m_law [.scr ns] [] = .ok (.bl true) S' := by
  suffices hb : ∃ S', b_law [some (.scr ns), none, none, none] [] = .rt (.bl true) S' by
    obtain ⟨S', e⟩ := hb
    exact ⟨S', fun_rt rfl e⟩
  obtain ⟨m, hm, hm1, hm3⟩ : ∃ m : Int, m = (if (if (ns.length : Int) < 3 then (ns.length : Int) else 3) > 1 then (if (ns.length : Int) < 3 then (ns.length : Int) else 3) else 1) ∧ 1 ≤ m ∧ m ≤ 3 := ⟨_, rfl, by split <;> (try split) <;> omega, by split <;> (try split) <;> omega⟩
  have args : (aCons (mBlt dMax2 (aCons (mC (.int 1)) (aCons (mBlt dMin2 (aCons (mC (.int 3)) (aCons (mBlt dLen (aCons (mVar 0) (aNil))) (aNil)))) (aNil)))) (aNil)) [some (.scr ns), none, none, none] [] = .ok [.int m] [] := by
    simp [aCons, aNil, Ki.bind, mBlt, mC, Ki.ret, mVar, vw, dLen, lift, dMin2, dMax2, hm]
  obtain ⟨f1, f3, S, t⟩ := spots_ok (ns := ns) (rgD 0 m.toNat) (fun d hd => by
    obtain ⟨i, hi, rfl⟩ := rgm hd
    exact ⟨i, by omega, by rw [Int.zero_add]⟩) none none none []
  have f : (sForR1 (gNm 1) (aCons (mBlt dMax2 (aCons (mC (.int 1)) (aCons (mBlt dMin2 (aCons (mC (.int 3)) (aCons (mBlt dLen (aCons (mVar 0) (aNil))) (aNil)))) (aNil)))) (aNil)) spotB) [some (.scr ns), none, none, none] [] = .nx [some (.scr ns), f1, none, f3] S := (forR1_ok args (by omega) (by omega)).trans t
  refine ⟨S, (seq_nx f).trans ?_⟩
  have w : (mLst (aCons (mCall m_conjugate (aCons (mTup (aCons (mC (.int 4)) (aCons (mC (.int 2)) (aCons (mC (.int 2)) (aCons (mC (.int 1)) (aNil)))))) (aNil))) (aCons (mCall m_joined_parts (aCons (mTup (aCons (mC (.int 3)) (aCons (mC (.int 1)) (aNil)))) (aCons (mTup (aCons (mC (.int 2)) (aNil))) (aNil)))) (aCons (mCall m_product_number (aCons (mTup (aCons (mC (.int 2)) (aCons (mC (.int 1)) (aNil)))) (aCons (mTup (aCons (mC (.int 2)) (aNil))) (aNil)))) (aCons (mBlt dLen (aCons (mCall m_partitions (aCons (mC (.int 18)) (aNil))) (aNil))) (aNil)))))) [some (.scr ns), f1, none, f3] S = .ok (.lst true [tI [4, 3, 1, 1], tI [3, 2, 1], .int 3, .int 385]) S := by kernel_rfl
  refine (seq_set (env' := [some (.scr ns), f1, some (.lst true [tI [4, 3, 1, 1], tI [3, 2, 1], .int 3, .int 385]), f3]) w rfl).trans ?_
  have i1 : (mBl (mOp dNe (mVar 2) (mLst (aCons (mTup (aCons (mC (.int 4)) (aCons (mC (.int 3)) (aCons (mC (.int 1)) (aCons (mC (.int 1)) (aNil)))))) (aCons (mTup (aCons (mC (.int 3)) (aCons (mC (.int 2)) (aCons (mC (.int 1)) (aNil))))) (aCons (mC (.int 3)) (aCons (mC (.int 385)) (aNil)))))))) [some (.scr ns), f1, some (.lst true [tI [4, 3, 1, 1], tI [3, 2, 1], .int 3, .int 385]), f3] S = .ok false S := by kernel_rfl
  refine (if_no i1).trans (ret_ok (and_true (S1 := S) (by kernel_rfl) (by kernel_rfl)))
end K09

set_option Elab.async false
set_option linter.all false
open PySem PySem.W PyProof.Rows
set_option maxRecDepth 100000 in
set_option maxHeartbeats 0 in
theorem PySem.Challenge.cw_arrowsizes_k09_whole_partitions_and_prod_holds : PySem.Challenge.rw_arrowsizes_k09_whole_partitions_and_prod.Holds := by
  w_on; o_law; k_head; (case hw => w_witness2)
  k_fill
  refine Ki.walk_end (l := PySem.Challenge.rw_arrowsizes_k09_whole_partitions_and_prod) (n := 63) (k := 24) (m := K09.m_law) rfl (by decide) rfl ⟨rfl, by decide, by decide⟩ ?hFacts ?hLaw
  case hLaw => exact K09.law_true
  case hFacts =>
    intro w mg fa h Y Gn hmg
    refine' K09.all_mk (ts := []) Y Gn (fun P hP => nomatch hP) ?a_is_integer ?l_is_integer ?c_is_integer ?k_is_integer ?a_is_count ?l_is_count ?c_is_count ?k_is_count ?a_check_count ?l_check_count ?c_check_count ?k_check_count ?a_are_counts ?l_are_counts ?c_are_counts ?k_are_counts ?a_is_row ?l_is_row ?c_is_row ?k_is_row ?a_all_choices ?l_all_choices ?c_all_choices ?k_all_choices ?a_dot_row ?l_dot_row ?c_dot_row ?k_dot_row ?a__do_descend ?l__do_descend ?c__do_descend ?k__do_descend ?a_is_parts ?l_is_parts ?c_is_parts ?k_is_parts ?a__check_parts ?l__check_parts ?c__check_parts ?k__check_parts ?a__check_both ?l__check_both ?c__check_both ?k__check_both ?a_total_of ?l_total_of ?c_total_of ?k_total_of ?a__conjugate ?l__conjugate ?c__conjugate ?k__conjugate ?a_conjugate ?l_conjugate ?c_conjugate ?k_conjugate ?a__falling ?l__falling ?c__falling ?k__falling ?a_joined_parts ?l_joined_parts ?c_joined_parts ?k_joined_parts ?a__parts_to ?l__parts_to ?c__parts_to ?k__parts_to ?a_partitions ?l_partitions ?c_partitions ?k_partitions ?a_rows_of_parts ?l_rows_of_parts ?c_rows_of_parts ?k_rows_of_parts ?a__product_number ?l__product_number ?c__product_number ?k__product_number ?a_product_number ?l_product_number ?c_product_number ?k_product_number ?a__law_lot ?l__law_lot ?c__law_lot ?k__law_lot ?a__law_pull ?l__law_pull ?c__law_pull ?k__law_pull ?a__law_one_of ?l__law_one_of ?c__law_one_of ?k__law_one_of ?a__law_partitions ?l__law_partitions ?c__law_partitions ?k__law_partitions ?a__law_conjugate ?l__law_conjugate ?c__law_conjugate ?k__law_conjugate ?a__law_product_number ?l__law_product_number ?c__law_product_number ?k__law_product_number ?a__law_pa_drawn ?l__law_pa_drawn ?c__law_pa_drawn ?k__law_pa_drawn ?a__law_lists_right ?l__law_lists_right ?c__law_lists_right ?k__law_lists_right ?a__law_products_right ?l__law_products_right ?c__law_products_right ?k__law_products_right ?a__law_judged ?l__law_judged ?c__law_judged ?k__law_judged ?a_law ?l_law ?c_law ?k_law ?z_abs ?z_all ?z_bool ?z_int ?z_isinstance ?z_len ?z_list ?z_max ?z_min ?z_range ?z_repr ?z_sorted ?z_sum ?z_tuple ?z_zip ?v__BEYOND_DIGITS ?v__LONGEST_ROW ?v__GREATEST_SIZE ?v_MAX_PARTS ?v_MAX_LISTED ?v_MAX_ROWS ?n_ArrowError ?kp_ArrowError ?sb_ArrowError ?ty_ArrowError ?ex_ArrowError ?n_InvalidParts ?kp_InvalidParts ?sb_InvalidParts ?ty_InvalidParts ?ex_InvalidParts ?n_InvalidSizes ?kp_InvalidSizes ?sb_InvalidSizes ?ty_InvalidSizes ?ex_InvalidSizes ?n_InvalidCount ?kp_InvalidCount ?sb_InvalidCount ?ty_InvalidCount ?mk_InvalidCount ?ov_InvalidCount ?hd_InvalidCount ?sa_InvalidCount ?in_InvalidCount ?it_InvalidCount ?tk_InvalidCount ?no_InvalidCount ?ga_InvalidCount ?gg_InvalidCount ?il_InvalidCount ?ic_InvalidCount ?ik_InvalidCount ?n_TooMany ?kp_TooMany ?sb_TooMany ?ty_TooMany ?mk_TooMany ?ov_TooMany ?hd_TooMany ?sa_TooMany ?in_TooMany ?it_TooMany ?tk_TooMany ?no_TooMany ?ga_TooMany ?gg_TooMany ?il_TooMany ?ic_TooMany ?ik_TooMany
    (case a_is_integer => k_is)
    (case l_is_integer => k_is)
    (case c_is_integer => k_is)
    (case k_is_integer => k_is)
    (case a_is_count => k_is)
    (case l_is_count => k_is)
    (case c_is_count => k_is)
    (case k_is_count => k_is)
    (case a_check_count => k_is)
    (case l_check_count => k_is)
    (case c_check_count => k_is)
    (case k_check_count => k_is)
    (case a_are_counts => k_is)
    (case l_are_counts => k_is)
    (case c_are_counts => k_is)
    (case k_are_counts => k_is)
    (case a_is_row => k_is)
    (case l_is_row => k_is)
    (case c_is_row => k_is)
    (case k_is_row => k_is)
    (case a_all_choices => k_is)
    (case l_all_choices => k_is)
    (case c_all_choices => k_is)
    (case k_all_choices => k_is)
    (case a_dot_row => k_is)
    (case l_dot_row => k_is)
    (case c_dot_row => k_is)
    (case k_dot_row => k_is)
    (case a__do_descend => k_is)
    (case l__do_descend => k_is)
    (case c__do_descend => k_is)
    (case k__do_descend => k_is)
    (case a_is_parts => k_is)
    (case l_is_parts => k_is)
    (case c_is_parts => k_is)
    (case k_is_parts => k_is)
    (case a__check_parts => k_is)
    (case l__check_parts => k_is)
    (case c__check_parts => k_is)
    (case k__check_parts => k_is)
    (case a__check_both => k_is)
    (case l__check_both => k_is)
    (case c__check_both => k_is)
    (case k__check_both => k_is)
    (case a_total_of => k_is)
    (case l_total_of => k_is)
    (case c_total_of => k_is)
    (case k_total_of => k_is)
    (case a__conjugate => k_is)
    (case l__conjugate => k_is)
    (case c__conjugate => k_is)
    (case k__conjugate => k_is)
    (case a_conjugate => k_is)
    (case l_conjugate => k_is)
    (case c_conjugate => k_is)
    (case k_conjugate => k_is)
    (case a__falling => k_is)
    (case l__falling => k_is)
    (case c__falling => k_is)
    (case k__falling => k_is)
    (case a_joined_parts => k_is)
    (case l_joined_parts => k_is)
    (case c_joined_parts => k_is)
    (case k_joined_parts => k_is)
    (case a__parts_to => k_is)
    (case l__parts_to => k_is)
    (case c__parts_to => k_is)
    (case k__parts_to => k_is)
    (case a_partitions => k_is)
    (case l_partitions => k_is)
    (case c_partitions => k_is)
    (case k_partitions => k_is)
    (case a_rows_of_parts => k_is)
    (case l_rows_of_parts => k_is)
    (case c_rows_of_parts => k_is)
    (case k_rows_of_parts => k_is)
    (case a__product_number => k_is)
    (case l__product_number => k_is)
    (case c__product_number => k_is)
    (case k__product_number => k_is)
    (case a_product_number => k_is)
    (case l_product_number => k_is)
    (case c_product_number => k_is)
    (case k_product_number => k_is)
    (case a__law_lot => k_is)
    (case l__law_lot => k_is)
    (case c__law_lot => k_is)
    (case k__law_lot => k_is)
    (case a__law_pull => k_is)
    (case l__law_pull => k_is)
    (case c__law_pull => k_is)
    (case k__law_pull => k_is)
    (case a__law_one_of => k_is)
    (case l__law_one_of => k_is)
    (case c__law_one_of => k_is)
    (case k__law_one_of => k_is)
    (case a__law_partitions => k_is)
    (case l__law_partitions => k_is)
    (case c__law_partitions => k_is)
    (case k__law_partitions => k_is)
    (case a__law_conjugate => k_is)
    (case l__law_conjugate => k_is)
    (case c__law_conjugate => k_is)
    (case k__law_conjugate => k_is)
    (case a__law_product_number => k_is)
    (case l__law_product_number => k_is)
    (case c__law_product_number => k_is)
    (case k__law_product_number => k_is)
    (case a__law_pa_drawn => k_is)
    (case l__law_pa_drawn => k_is)
    (case c__law_pa_drawn => k_is)
    (case k__law_pa_drawn => k_is)
    (case a__law_lists_right => k_is)
    (case l__law_lists_right => k_is)
    (case c__law_lists_right => k_is)
    (case k__law_lists_right => k_is)
    (case a__law_products_right => k_is)
    (case l__law_products_right => k_is)
    (case c__law_products_right => k_is)
    (case k__law_products_right => k_is)
    (case a__law_judged => k_is)
    (case l__law_judged => k_is)
    (case c__law_judged => k_is)
    (case k__law_judged => k_is)
    (case a_law => k_is)
    (case l_law => k_is)
    (case c_law => k_is)
    (case k_law => k_is)
    (case z_abs => k_is)
    (case z_all => k_is)
    (case z_bool => k_is)
    (case z_int => k_is)
    (case z_isinstance => k_is)
    (case z_len => k_is)
    (case z_list => k_is)
    (case z_max => k_is)
    (case z_min => k_is)
    (case z_range => k_is)
    (case z_repr => k_is)
    (case z_sorted => k_is)
    (case z_sum => k_is)
    (case z_tuple => k_is)
    (case z_zip => k_is)
    (case v__BEYOND_DIGITS => k_is)
    (case v__LONGEST_ROW => k_is)
    (case v__GREATEST_SIZE => k_is)
    (case v_MAX_PARTS => k_is)
    (case v_MAX_LISTED => k_is)
    (case v_MAX_ROWS => k_is)
    (case n_ArrowError => k_is)
    (case kp_ArrowError => k_is)
    (case sb_ArrowError => k_is)
    (case ty_ArrowError => k_is)
    (case ex_ArrowError => kernel_rfl)
    (case n_InvalidParts => k_is)
    (case kp_InvalidParts => k_is)
    (case sb_InvalidParts => k_is)
    (case ty_InvalidParts => k_is)
    (case ex_InvalidParts => kernel_rfl)
    (case n_InvalidSizes => k_is)
    (case kp_InvalidSizes => k_is)
    (case sb_InvalidSizes => k_is)
    (case ty_InvalidSizes => k_is)
    (case ex_InvalidSizes => kernel_rfl)
    (case n_InvalidCount => k_is)
    (case kp_InvalidCount => k_is)
    (case sb_InvalidCount => k_is)
    (case ty_InvalidCount => k_is)
    (case mk_InvalidCount => kernel_rfl)
    (case ov_InvalidCount => kernel_rfl)
    (case hd_InvalidCount => k_is)
    (case sa_InvalidCount => k_is)
    (case in_InvalidCount => k_is)
    (case it_InvalidCount => k_is)
    (case tk_InvalidCount => k_is)
    (case no_InvalidCount => k_is)
    (case ga_InvalidCount => k_is)
    (case gg_InvalidCount => k_is)
    (case il_InvalidCount => k_is)
    (case ic_InvalidCount => k_is)
    (case ik_InvalidCount => k_is)
    (case n_TooMany => k_is)
    (case kp_TooMany => k_is)
    (case sb_TooMany => k_is)
    (case ty_TooMany => k_is)
    (case mk_TooMany => kernel_rfl)
    (case ov_TooMany => kernel_rfl)
    (case hd_TooMany => k_is)
    (case sa_TooMany => k_is)
    (case in_TooMany => k_is)
    (case it_TooMany => k_is)
    (case tk_TooMany => k_is)
    (case no_TooMany => k_is)
    (case ga_TooMany => k_is)
    (case gg_TooMany => k_is)
    (case il_TooMany => k_is)
    (case ic_TooMany => k_is)
    (case ik_TooMany => k_is)

