import PyProof.Rows.All
import Wide.All
import OpenK.AllK
import Wide.FinOn
import HandS.Base
import HandS.Call
import HandS.List
import HandS.Comp
import HandS.Words
import HandS.Dict
import HandS.Iter
import HandS.Text
import HandS.Wide
import HandS.WideBits
import HandS.Conv
import HandS.Ends
import HandS.Set
import HandS.SetFor
import HandS.Strs
import KE.SortData
import HandS.Style
import HandS.IsInst
import HandS.DictComp
import HandS.More
import PyProof.ReprRoads
import KE.DataEq
import PyProof.ReprLen
import PyProof.FitsInt
import KE.GoesMore
import KE.GoesEnum
import HandS.Zip
import HandS.Property
import HandS.RevTup
import HandS.TupAny
import KE.SortKeyHeap
import KE.KSortKey
import HandS.SortKw
import HandS.Codes
import PyProof.ListStr
import HandS.NoneIn
import HandS.SlotsOwn
import HandS.Replace
import PyProof.InstNe
import KE.DataMinMax
import HandS.SetBool
import KE.RegKIsAll
import KE.GoesNew
import HandS.ExcOwn
import HandS.ExcValue
import HandS.Evl
import PySem.Challenge.RW_closerworks_k73_whole_rules_in_tables
set_option Elab.async false
set_option linter.all false
set_option maxRecDepth 100000
set_option maxHeartbeats 8000000
namespace Vx
open PySem L2
/-! ### heaps: G what never changes, F what is owned (by this def or its callers), H all -/
abbrev Ex := Evl.Ex
theorem Ex.refl (H : Hp) : Ex H H := Evl.Ex.refl H
theorem Ex.trans {H H1 H2 : Hp} (a : Ex H H1) (b : Ex H1 H2) : Ex H H2 := Evl.Ex.trans a b
structure W (F G H : Hp) : Prop where
  g : Ex G H
  f : Ex F H
  d : ∀ a o, F a = some o → G a = none
theorem W.fresh {F G H : Hp} {p : Addr} (w : W F G H) (h : H p = none) : G p = none ∧ F p = none := by
  constructor
  · cases e : G p with
    | none => rfl
    | some o => rw [w.g p o e] at h; cases h
  · cases e : F p with
    | none => rfl
    | some o => rw [w.f p o e] at h; cases h
theorem Ex.upd {H : Hp} {p : Addr} {o : HO} (h : H p = none) : Ex H (upd H p o) := fun a u e => by
  rw [upd_ne (ne_of_none e h)]
  exact e
theorem Ex.upd2 {G H : Hp} {p : Addr} {o : HO} (e : Ex G H) : Ex (L2.upd G p o) (L2.upd H p o) := fun a u q => by
  by_cases h : a = p
  · subst h
    rw [upd_same] at q ⊢
    exact q
  · rw [upd_ne h] at q ⊢
    exact e a u q
/-- a new object that never changes -/
theorem W.new {F G H : Hp} {p : Addr} {o : HO} (w : W F G H) (h : H p = none) : W F (L2.upd G p o) (L2.upd H p o) :=
  ⟨w.g.upd2, w.f.trans (Ex.upd h), fun a u q => by rw [upd_ne (ne_of_none (w.f a u q) h)]; exact w.d a u q⟩
/-- a new object that is owned -/
theorem W.own {F G H : Hp} {p : Addr} {o : HO} (w : W F G H) (h : H p = none) : W (L2.upd F p o) G (L2.upd H p o) :=
  ⟨w.g.trans (Ex.upd h), w.f.upd2, fun a u q => by
    by_cases e : a = p
    · subst e
      exact (w.fresh h).1
    · rw [upd_ne e] at q
      exact w.d a u q⟩
/-- an owned object changes -/
theorem W.set {F G H : Hp} {p : Addr} {o u : HO} (w : W F G H) (h : F p = some o) : W (L2.upd F p u) G (L2.upd H p u) :=
  ⟨fun a v q => by
    have n : a ≠ p := fun e => by
      subst e
      rw [w.d _ _ h] at q
      cases q
    rw [upd_ne n]
    exact w.g a v q, w.f.upd2, fun a v q => by
    by_cases e : a = p
    · subst e
      exact w.d _ _ h
    · rw [upd_ne e] at q
      exact w.d a v q⟩
/-- an owned object is let go: it never changes from now on -/
def del (F : Hp) (p : Addr) : Hp := fun a => if a = p then none else F a
theorem del_ne {F : Hp} {a p : Addr} (h : a ≠ p) : del F p a = F a := if_neg h
theorem del_same {F : Hp} {p : Addr} : del F p p = none := if_pos rfl
theorem W.free {F G H : Hp} {p : Addr} {o : HO} (w : W F G H) (h : F p = some o) : W (del F p) (L2.upd G p o) H :=
  ⟨fun a v q => by
    by_cases e : a = p
    · subst e
      rw [upd_same] at q
      cases q
      exact w.f _ _ h
    · rw [upd_ne e] at q
      exact w.g a v q, fun a v q => by
    by_cases e : a = p
    · subst e
      rw [del_same] at q
      cases q
    · rw [del_ne e] at q
      exact w.f a v q, fun a v q => by
    by_cases e : a = p
    · subst e
      rw [del_same] at q
      cases q
    · rw [del_ne e] at q
      rw [upd_ne e]
      exact w.d a v q⟩
theorem W.less {F F' G H : Hp} (w : W F G H) (e : Ex F' F) : W F' G H := ⟨w.g, e.trans w.f, fun a o h => w.d a o (e a o h)⟩
/-! ### what a value stands for -/
class Rep (α : Type) where
  rep : PySem.W.Frag → Hp → α → V → Prop
  mono : ∀ {K : PySem.W.Frag} {G G' : Hp} {a : α} {v : V}, Ex G G' → rep K G a v → rep K G' a v
open Rep (rep)
theorem Paired.mono {α β : Type} {R S : α → β → Prop} (h : ∀ a b, R a b → S a b) : ∀ {xs : List α} {ys : List β}, PySem.Paired R xs ys → PySem.Paired S xs ys
  | _, _, .nil => .nil
  | _, _, .cons r t => .cons (h _ _ r) (Paired.mono h t)
instance : Rep Int := ⟨fun _ _ i v => v = .int i, fun _ h => h⟩
instance : Rep Bool := ⟨fun _ _ b v => v = .bl b, fun _ h => h⟩
instance : Rep Str := ⟨fun _ _ s v => v = .str s, fun _ h => h⟩
instance : Rep Unit := ⟨fun _ _ _ v => v = .non, fun _ h => h⟩
instance {α : Type} [Rep α] : Rep (Option α) := ⟨fun K G a v => match a with | none => v = .non | some x => rep K G x v, fun {K G G' a v} e h => by
  cases a with
  | none => exact h
  | some x => exact Rep.mono e h⟩
instance {α : Type} [Rep α] : Rep (List α) := ⟨fun K G xs v => ∃ p vs, v = .ref p ∧ G p = some (.lst vs) ∧ PySem.Paired (rep K G) xs vs,
  fun e ⟨p, vs, h1, h2, h3⟩ => ⟨p, vs, h1, e _ _ h2, Paired.mono (fun _ _ r => Rep.mono e r) h3⟩⟩
/-- a tuple of things of one kind -/
structure Tup (α : Type) where
  l : List α
  deriving DecidableEq
instance {α : Type} [Rep α] : Rep (Tup α) := ⟨fun K G xs v => ∃ p vs, v = .ref p ∧ G p = some (.tup vs) ∧ PySem.Paired (rep K G) xs.l vs,
  fun e ⟨p, vs, h1, h2, h3⟩ => ⟨p, vs, h1, e _ _ h2, Paired.mono (fun _ _ r => Rep.mono e r) h3⟩⟩
/-- a pair, a triple -/
structure T2 (α β : Type) where
  a : α
  b : β
  deriving DecidableEq
structure T3 (α β γ : Type) where
  a : α
  b : β
  c : γ
  deriving DecidableEq
instance {α β : Type} [Rep α] [Rep β] : Rep (T2 α β) := ⟨fun K G x v => ∃ p va vb, v = .ref p ∧ G p = some (.tup [va, vb]) ∧ rep K G x.a va ∧ rep K G x.b vb,
  fun e ⟨p, va, vb, h1, h2, h3, h4⟩ => ⟨p, va, vb, h1, e _ _ h2, Rep.mono e h3, Rep.mono e h4⟩⟩
instance {α β γ : Type} [Rep α] [Rep β] [Rep γ] : Rep (T3 α β γ) := ⟨fun K G x v => ∃ p va vb vc, v = .ref p ∧ G p = some (.tup [va, vb, vc]) ∧ rep K G x.a va ∧ rep K G x.b vb ∧ rep K G x.c vc,
  fun e ⟨p, va, vb, vc, h1, h2, h3, h4, h5⟩ => ⟨p, va, vb, vc, h1, e _ _ h2, Rep.mono e h3, Rep.mono e h4, Rep.mono e h5⟩⟩
/-- a list of the world's (the script) -/
structure Scr where
  l : List Int
instance : Rep Scr := ⟨fun K G x v => ∃ p, v = .ref p ∧ SqL K G p (x.l.map V.int), fun e ⟨p, h1, h2⟩ => ⟨p, h1, by
  rcases h2 with (h | ⟨o, h⟩) | h
  · exact .inl (.inl (e _ _ h))
  · exact .inl (.inr ⟨o, e _ _ h⟩)
  · exact .inr h⟩⟩
/-- a dict, read -/
structure Dct (β : Type) where
  l : List (Key × β)
instance {β : Type} [Rep β] : Rep (Dct β) := ⟨fun K G x v => ∃ p kvs, v = .ref p ∧ G p = some (.dK kvs) ∧ PySem.Paired (fun (q : Key × β) (r : Key × V) => q.1 = r.1 ∧ rep K G q.2 r.2) x.l kvs,
  fun e ⟨p, kvs, h1, h2, h3⟩ => ⟨p, kvs, h1, e _ _ h2, Paired.mono (fun _ _ ⟨r1, r2⟩ => ⟨r1, Rep.mono e r2⟩) h3⟩⟩
/-! ### slots and environments -/
class Slot (τ : Type) where
  sr : PySem.W.Frag → Hp → Hp → List Addr → Option V → τ → Prop
  mono : ∀ {K : PySem.W.Frag} {G G' F : Hp} {L : List Addr} {o : Option V} {t : τ}, Ex G G' → sr K G F L o t → sr K G' F L o t
  /-- it leans on its own cells alone -/
  keep : ∀ {K : PySem.W.Frag} {G F F' : Hp} {L : List Addr} {o : Option V} {t : τ}, (∀ q ∈ L, F' q = F q) → sr K G F L o t → sr K G F' L o t
  there : ∀ {K : PySem.W.Frag} {G F : Hp} {L : List Addr} {o : Option V} {t : τ}, sr K G F L o t → ∀ q ∈ L, F q ≠ none
structure Any where
instance (priority := low) {α : Type} [Rep α] : Slot α := ⟨fun K G _ L o t => L = [] ∧ ∃ v, o = some v ∧ rep K G t v, fun e ⟨h1, v, h2, h3⟩ => ⟨h1, v, h2, Rep.mono e h3⟩, fun _ h => h, fun h q hq => by
  rw [h.1] at hq
  cases hq⟩
instance : Slot Any := ⟨fun _ _ _ L _ _ => L = [], fun _ h => h, fun _ h => h, fun h q hq => by
  rw [h] at hq
  cases hq⟩
/-- a list of one's own: it may be changed -/
structure OL (α : Type) where
  l : List α
instance {α : Type} [Rep α] : Slot (OL α) := ⟨fun K G F L o t => ∃ q vs, L = [q] ∧ o = some (.ref q) ∧ F q = some (.lst vs) ∧ PySem.Paired (rep K G) t.l vs,
  fun e ⟨q, vs, h1, h2, h3, h4⟩ => ⟨q, vs, h1, h2, h3, Paired.mono (fun _ _ r => Rep.mono e r) h4⟩,
  fun k ⟨q, vs, h1, h2, h3, h4⟩ => ⟨q, vs, h1, h2, by rw [k q (by rw [h1]; exact List.mem_singleton.mpr rfl)]; exact h3, h4⟩, fun ⟨q, vs, h1, h2, h3, h4⟩ b hb => by
    rw [h1] at hb
    rw [List.mem_singleton.mp hb, h3]
    exact fun z => by cases z⟩
/-- a dict of one's own -/
structure OD (β : Type) where
  l : List (Key × β)
instance {β : Type} [Rep β] : Slot (OD β) := ⟨fun K G F L o t => ∃ q kvs, L = [q] ∧ o = some (.ref q) ∧ F q = some (.dK kvs) ∧ PySem.Paired (fun (q : Key × β) (r : Key × V) => q.1 = r.1 ∧ rep K G q.2 r.2) t.l kvs,
  fun e ⟨q, vs, h1, h2, h3, h4⟩ => ⟨q, vs, h1, h2, h3, Paired.mono (fun _ _ ⟨r1, r2⟩ => ⟨r1, Rep.mono e r2⟩) h4⟩,
  fun k ⟨q, vs, h1, h2, h3, h4⟩ => ⟨q, vs, h1, h2, by rw [k q (by rw [h1]; exact List.mem_singleton.mpr rfl)]; exact h3, h4⟩, fun ⟨q, vs, h1, h2, h3, h4⟩ b hb => by
    rw [h1] at hb
    rw [List.mem_singleton.mp hb, h3]
    exact fun z => by cases z⟩
/-- the kinds that own nothing -/
class VSlot (τ : Type) [Slot τ] : Prop where
  nil : ∀ {K : PySem.W.Frag} {G F : Hp} {L : List Addr} {o : Option V} {t : τ}, Slot.sr K G F L o t → L = []
instance (priority := low) {α : Type} [Rep α] : VSlot α := ⟨fun {K G F L o t} h => (show L = [] ∧ _ from h).1⟩
instance : VSlot Any := ⟨fun h => h⟩
class EnvR (Γ : Type) where
  er : PySem.W.Frag → Hp → Hp → List Addr → St → Γ → Prop
  mono : ∀ {K : PySem.W.Frag} {G G' F : Hp} {L : List Addr} {σ : St} {γ : Γ}, Ex G G' → er K G F L σ γ → er K G' F L σ γ
  keep : ∀ {K : PySem.W.Frag} {G F F' : Hp} {L : List Addr} {σ : St} {γ : Γ}, (∀ q ∈ L, F' q = F q) → er K G F L σ γ → er K G F' L σ γ
  there : ∀ {K : PySem.W.Frag} {G F : Hp} {L : List Addr} {σ : St} {γ : Γ}, er K G F L σ γ → ∀ q ∈ L, F q ≠ none
open EnvR (er)
instance : EnvR Unit := ⟨fun _ _ _ L σ _ => L = [] ∧ σ = [], fun _ h => h, fun _ h => h, fun h q hq => by
  rw [h.1] at hq
  cases hq⟩
instance {τ Γ : Type} [Slot τ] [EnvR Γ] : EnvR (τ × Γ) := ⟨fun K G F L σ γ => ∃ L1 L2 o σ', L = L1 ++ L2 ∧ σ = o :: σ' ∧ Slot.sr K G F L1 o γ.1 ∧ er K G F L2 σ' γ.2 ∧ ∀ q ∈ L1, q ∉ L2,
  fun e ⟨L1, L2, o, σ', h1, h2, h3, h4, h5⟩ => ⟨L1, L2, o, σ', h1, h2, Slot.mono e h3, EnvR.mono e h4, h5⟩,
  fun k ⟨L1, L2, o, σ', h1, h2, h3, h4, h5⟩ => ⟨L1, L2, o, σ', h1, h2, Slot.keep (fun q hq => k q (by rw [h1]; exact List.mem_append_left _ hq)) h3, EnvR.keep (fun q hq => k q (by rw [h1]; exact List.mem_append_right _ hq)) h4, h5⟩,
  fun ⟨L1, L2, o, σ', h1, h2, h3, h4, h5⟩ q hq => by
    rw [h1] at hq
    rcases List.mem_append.mp hq with h | h
    · exact Slot.there h3 q h
    · exact EnvR.there h4 q h⟩
/-- the value of the i-th slot -/
structure Get (i : Nat) (Γ α : Type) [EnvR Γ] [Rep α] where
  get : Γ → α
  ok : ∀ {K : PySem.W.Frag} {G F : Hp} {L : List Addr} {σ : St} {γ : Γ}, er K G F L σ γ → ∃ v, σ[i]? = some (some v) ∧ rep K G (get γ) v
def gz {Γ α : Type} [EnvR Γ] [Rep α] : Get 0 (α × Γ) α := ⟨fun γ => γ.1, fun ⟨L1, L2, o, σ', h1, h2, h3, h4, h5⟩ => by
  obtain ⟨_, v, e, r⟩ := h3
  subst h2
  exact ⟨v, by rw [e]; rfl, r⟩⟩
def gs {i : Nat} {τ Γ α : Type} [Slot τ] [EnvR Γ] [Rep α] (g : Get i Γ α) : Get (i + 1) (τ × Γ) α := ⟨fun γ => g.get γ.2, fun ⟨L1, L2, o, σ', h1, h2, h3, h4, h5⟩ => by
  obtain ⟨v, e, r⟩ := g.ok h4
  subst h2
  exact ⟨v, e, r⟩⟩
/-- the i-th slot, that owns nothing, is given a value -/
structure Put (i : Nat) (Γ τ Γ' : Type) [EnvR Γ] [Rep τ] [EnvR Γ'] where
  put : Γ → τ → Γ'
  ok : ∀ {K : PySem.W.Frag} {G F : Hp} {L : List Addr} {σ : St} {γ : Γ} {t : τ} {v : V}, er K G F L σ γ → rep K G t v → er K G F L (σ.set i (some v)) (put γ t)
def pz {τ₀ Γ τ : Type} [Slot τ₀] [VSlot τ₀] [EnvR Γ] [Rep τ] : Put 0 (τ₀ × Γ) τ (τ × Γ) := ⟨fun γ t => (t, γ.2), fun ⟨L1, L2, o, σ', h1, h2, h3, h4, h5⟩ r => by
  subst h2
  have e := VSlot.nil h3
  exact ⟨[], L2, _, σ', by rw [h1, e], rfl, ⟨rfl, _, rfl, r⟩, h4, fun q hq => by cases hq⟩⟩
def ps {i : Nat} {τ₀ Γ τ Γ' : Type} [Slot τ₀] [EnvR Γ] [Rep τ] [EnvR Γ'] (p : Put i Γ τ Γ') : Put (i + 1) (τ₀ × Γ) τ (τ₀ × Γ') := ⟨fun γ t => (γ.1, p.put γ.2 t), fun ⟨L1, L2, o, σ', h1, h2, h3, h4, h5⟩ r => by
  subst h2
  exact ⟨L1, L2, o, _, h1, rfl, h3, p.ok h4 r, h5⟩⟩
/-- some slots are forgotten -/
structure Wk (Γ Γ' : Type) [EnvR Γ] [EnvR Γ'] where
  wk : Γ → Γ'
  ok : ∀ {K : PySem.W.Frag} {G F : Hp} {L : List Addr} {σ : St} {γ : Γ}, er K G F L σ γ → ∃ L', L'.Sublist L ∧ er K G F L' σ (wk γ)
def wid {Γ : Type} [EnvR Γ] : Wk Γ Γ := ⟨fun γ => γ, fun h => ⟨_, List.Sublist.refl _, h⟩⟩
def wn : Wk Unit Unit := wid
def wk {τ Γ Γ' : Type} [Slot τ] [EnvR Γ] [EnvR Γ'] (w : Wk Γ Γ') : Wk (τ × Γ) (τ × Γ') := ⟨fun γ => (γ.1, w.wk γ.2), fun ⟨L1, L2, o, σ', h1, h2, h3, h4, h5⟩ => by
  obtain ⟨L', s, e⟩ := w.ok h4
  subst h2
  exact ⟨L1 ++ L', by rw [h1]; exact List.Sublist.append (List.Sublist.refl _) s, L1, L', o, σ', rfl, rfl, h3, e, fun q hq z => h5 q hq (s.subset z)⟩⟩
def wa {τ Γ Γ' : Type} [Slot τ] [EnvR Γ] [EnvR Γ'] (w : Wk Γ Γ') : Wk (τ × Γ) (Any × Γ') := ⟨fun γ => (⟨⟩, w.wk γ.2), fun ⟨L1, L2, o, σ', h1, h2, h3, h4, h5⟩ => by
  obtain ⟨L', s, e⟩ := w.ok h4
  subst h2
  exact ⟨L', by rw [h1]; exact List.Sublist.trans s (List.sublist_append_right _ _), [], L', o, σ', rfl, rfl, rfl, e, fun q hq => by cases hq⟩⟩
end Vx
namespace Vx
open Rep (rep)
open EnvR (er)
open PySem L2
theorem PE.le {X : Cx} {e : Expr} {t t' : TE} (h : PE X e t) (k : ∀ σ H Q, t' σ H Q → t σ H Q) : PE X e t' := ⟨fun pins s σ H Q I q => h.run pins s σ H Q I (k σ H Q q)⟩
theorem PT.le {X : Cx} {e : Expr} {t t' : TT} (h : PT X e t) (k : ∀ σ H Q, t' σ H Q → t σ H Q) : PT X e t' := ⟨fun pins s σ H Q I q => h.run pins s σ H Q I (k σ H Q q)⟩
theorem PA.le {X : Cx} {e : List Expr} {t t' : TA} (h : PA X e t) (k : ∀ σ H Q, t' σ H Q → t σ H Q) : PA X e t' := ⟨fun pos pins s σ H Q I q => h.run pos pins s σ H Q I (k σ H Q q)⟩
theorem PS.le {X : Cx} {st : Stmt} {t t' : TS} (h : PS X st t) (k : ∀ D σ H, t' D σ H → t D σ H) : PS X st t' := ⟨fun pins s σ H D I q => h.run pins s σ H D I (k D σ H q)⟩
theorem PSs.le {X : Cx} {st : List Stmt} {t t' : TS} (h : PSs X st t) (k : ∀ D σ H, t' D σ H → t D σ H) : PSs X st t' := ⟨fun pins s σ H D I q => h.run pins s σ H D I (k D σ H q)⟩
/-- how an operand is told: F, G, H -/
abbrev RR (α : Type) := Hp → Hp → Hp → α → V → Prop
abbrev RE (K : PySem.W.Frag) {α : Type} [Rep α] : RR α := fun _ G _ a v => rep K G a v
/-- a list to be read (one's own, or one that never changes) -/
def RL (K : PySem.W.Frag) {α : Type} [Rep α] : RR (List α) := fun F G _ xs v => ∃ p vs, v = .ref p ∧ (G p = some (.lst vs) ∨ F p = some (.lst vs)) ∧ PySem.Paired (rep K G) xs vs
def RMono {α : Type} (R : RR α) : Prop := ∀ {F G H G2 H2 : Hp} {a : α} {v : V}, Ex G G2 → W F G2 H2 → R F G H a v → R F G2 H2 a v
theorem re_mono {K : PySem.W.Frag} {α : Type} [Rep α] : RMono (RE K (α := α)) := fun e _ h => Rep.mono e h
theorem rl_mono {K : PySem.W.Frag} {α : Type} [Rep α] : RMono (RL K (α := α)) := fun e _ ⟨p, vs, h1, h2, h3⟩ => ⟨p, vs, h1, h2.imp (e _ _) id, Paired.mono (fun _ _ r => Rep.mono e r) h3⟩
theorem rl_of {K : PySem.W.Frag} {α : Type} [Rep α] {F G H : Hp} {xs : List α} {v : V} (h : rep K G xs v) : RL K F G H xs v := let ⟨p, vs, h1, h2, h3⟩ := h; ⟨p, vs, h1, .inl h2, h3⟩
/-- an own list, just made -/
def RF (K : PySem.W.Frag) {α : Type} [Rep α] : RR (List α) := fun F G H xs v => ∃ p vs, v = .ref p ∧ F p = none ∧ G p = none ∧ H p = some (.lst vs) ∧ PySem.Paired (rep K G) xs vs
section
variable {Γ : Type} [EnvR Γ] {α β δ : Type}
/-- what an expression is worth -/
def tev (K : PySem.W.Frag) (R : RR α) (f : Γ → Option α) : TE := fun σ H Q => ∃ F G L γ a, W F G H ∧ er K G F L σ γ ∧ f γ = some a ∧ ∀ v G2 H2, Ex G G2 → W F G2 H2 → R F G2 H2 a v → Q v H2
def tet (K : PySem.W.Frag) (f : Γ → Option Bool) : TT := fun σ H Q => ∃ F G L γ a, W F G H ∧ er K G F L σ γ ∧ f γ = some a ∧ ∀ G2 H2, Ex G G2 → W F G2 H2 → Q a H2
abbrev VO (X : Cx) (e : Expr) (R : RR α) (f : Γ → Option α) : Prop := PE X e (tev X.K R f)
abbrev VE [Rep α] (X : Cx) (e : Expr) (f : Γ → Option α) : Prop := PE X e (tev X.K (RE X.K) f)
abbrev VL [Rep α] (X : Cx) (e : Expr) (f : Γ → Option (List α)) : Prop := PE X e (tev X.K (RL X.K) f)
abbrev VF [Rep α] (X : Cx) (e : Expr) (f : Γ → Option (List α)) : Prop := PE X e (tev X.K (RF X.K) f)
abbrev VT (X : Cx) (e : Expr) (f : Γ → Option Bool) : Prop := PT X e (tet X.K f)
/-! ### the shapes of mirrors -/
def fv {i : Nat} [Rep α] (g : Get i Γ α) : Γ → Option α := fun γ => some (g.get γ)
def fc (c : α) : Γ → Option α := fun _ => some c
def f1 (φ : α → Option β) (f : Γ → Option α) : Γ → Option β := fun γ => (f γ).bind φ
def f2 (φ : α → β → Option δ) (f : Γ → Option α) (g : Γ → Option β) : Γ → Option δ := fun γ => (f γ).bind fun x => (g γ).bind fun y => φ x y
def fif (c : Γ → Option Bool) (f g : Γ → Option α) : Γ → Option α := fun γ => (c γ).bind fun b => if b then f γ else g γ
def fand (f g : Γ → Option Bool) : Γ → Option Bool := fun γ => (f γ).bind fun b => if b then g γ else some false
def foor (f g : Γ → Option Bool) : Γ → Option Bool := fun γ => (f γ).bind fun b => if b then some true else g γ
def fnot (f : Γ → Option Bool) : Γ → Option Bool := fun γ => (f γ).map (!·)
variable {X : Cx} {e a b c : Expr} {pos : Pos}
theorem ve_var {i : Nat} [Rep α] (g : Get i Γ α) {x : Str} (hN : X.N[i]? = some x := by rfl) (hv : Vis X.env.scope x := by first | exact Or.inl rfl | exact Or.inr (Or.inl rfl) | exact Or.inr (Or.inr rfl)) (hd : (x == ("__debug__" : Str)) = false := by decide)
    (hcd : (x == ("__classdict__" : Str)) = false := by decide) : VE X (.Name x pos) (fv g) := PE.le (pe_var hN hv hd hcd) fun σ H Q ⟨F, G, L, γ, a, w, h, ea, q⟩ => by
  obtain ⟨v, hi, r⟩ := g.ok h
  cases ea
  exact ⟨v, hi, q v G H (Ex.refl G) w r⟩
theorem ve_int {i : Int} {j} : VE X (.Constant (.int i) j pos) (fc (Γ := Γ) i) := PE.le pe_int fun σ H Q ⟨F, G, L, γ, a, w, h, ea, q⟩ => by
  cases ea
  exact q _ G H (Ex.refl G) w rfl
theorem ve_str {x : Str} {j} : VE X (.Constant (.str x) j pos) (fc (Γ := Γ) x) := PE.le pe_str fun σ H Q ⟨F, G, L, γ, a, w, h, ea, q⟩ => by
  cases ea
  exact q _ G H (Ex.refl G) w rfl
theorem ve_bl {x : Bool} {j} : VE X (.Constant (.bool x) j pos) (fc (Γ := Γ) x) := PE.le pe_bl fun σ H Q ⟨F, G, L, γ, a, w, h, ea, q⟩ => by
  cases ea
  exact q _ G H (Ex.refl G) w rfl
theorem ve_non {j} : VE X (.Constant .none j pos) (fc (Γ := Γ) ()) := PE.le pe_non fun σ H Q ⟨F, G, L, γ, a, w, h, ea, q⟩ => by
  cases ea
  exact q _ G H (Ex.refl G) w rfl
/-- None where something else may stand -/
theorem ve_nonO [Rep α] {j} : VE X (.Constant .none j pos) (fc (Γ := Γ) (none : Option α)) := PE.le pe_non fun σ H Q ⟨F, G, L, γ, a, w, h, ea, q⟩ => by
  cases ea
  exact q _ G H (Ex.refl G) w rfl
theorem ve_glob [Rep α] {x : Str} {y : α} {v : V} {u : Value} (hg : Gl X x) (hm : X.mg x = some u) (r : RelV v u) (h : ∀ G, rep X.K G y v) (hd : (x == ("__debug__" : Str)) = false := by decide) : VE X (.Name x pos) (fc (Γ := Γ) y) := PE.le (pe_glob hg hm r hd) fun σ H Q ⟨F, G, L, γ, a, w, _, ea, q⟩ => by
  cases ea
  exact q _ G H (Ex.refl G) w (h G)
theorem VE.some [Rep α] {f : Γ → Option α} (h : VE X e f) : VE X e (f1 (fun x => some (some x)) f) := PE.le h fun σ H Q ⟨F, G, L, γ, a, w, he, ea, q⟩ => by
  unfold f1 at ea
  cases e1 : f γ with
  | none => rw [e1] at ea; cases ea
  | some x =>
    rw [e1] at ea
    cases ea
    exact ⟨F, G, L, γ, x, w, he, e1, fun v G2 H2 e2 w2 r => q v G2 H2 e2 w2 r⟩
theorem VE.l [Rep α] {f : Γ → Option (List α)} (h : VE X e f) : VL X e f := PE.le h fun σ H Q ⟨F, G, L, γ, a, w, he, ea, q⟩ =>
  ⟨F, G, L, γ, a, w, he, ea, fun v G2 H2 e2 w2 r => q v G2 H2 e2 w2 (rl_of r)⟩
/-- a list just made never changes if nobody owns it -/
theorem VF.up [Rep α] {f : Γ → Option (List α)} (h : VF X e f) : VE X e f := PE.le h fun σ H Q ⟨F, G, L, γ, a, w, he, ea, q⟩ =>
  ⟨F, G, L, γ, a, w, he, ea, fun v G2 H2 e2 w2 ⟨p, vs, h1, h2, h3, h4, h5⟩ => by
    have ex : Ex G2 (upd G2 p (.lst vs)) := Ex.upd h3
    refine q v (upd G2 p (.lst vs)) H2 (e2.trans ex) ⟨fun a o z => ?_, w2.f, fun a o z => ?_⟩ ⟨p, vs, h1, upd_same, Paired.mono (fun _ _ r => Rep.mono ex r) h5⟩
    · by_cases hap : a = p
      · subst hap
        rw [upd_same] at z
        rw [← z]
        exact h4
      · rw [upd_ne hap] at z
        exact w2.g a o z
    · have hap : a ≠ p := fun y => by
        rw [y, h2] at z
        cases z
      rw [upd_ne hap]
      exact w2.d a o z⟩
/-! ### operators by values -/
def Op2 (r : L2.R2) (R1 : RR α) (R2 : RR β) (R3 : RR δ) (φ : α → β → Option δ) : Prop := ∀ F G H x y z vx vy Q, W F G H → R1 F G H x vx → R2 F G H y vy → φ x y = some z → (∀ v G2 H2, Ex G G2 → W F G2 H2 → R3 F G2 H2 z v → Q v H2) → r vx vy H Q
theorem tev2 {K : PySem.W.Frag} {r : L2.R2} {R1 : RR α} {R2 : RR β} {R3 : RR δ} {φ : α → β → Option δ} {f : Γ → Option α} {g : Γ → Option β} (o : Op2 r R1 R2 R3 φ) (mo : RMono R1) {σ : L2.St} {H : Hp} {Q : VK} (h : tev K R3 (f2 φ f g) σ H Q) :
    tev K R1 f σ H fun x H1 => tev K R2 g σ H1 fun y H2 => r x y H2 Q := by
  obtain ⟨F, G, L, γ, a, w, he, ea, q⟩ := h
  unfold f2 at ea
  cases e1 : f γ with
  | none => rw [e1] at ea; cases ea
  | some x =>
    rw [e1] at ea
    cases e2 : g γ with
    | none => simp only [Option.bind_some] at ea; rw [e2] at ea; cases ea
    | some y =>
      simp only [Option.bind_some] at ea
      rw [e2] at ea
      exact ⟨F, G, L, γ, x, w, he, e1, fun v G2 H2 x2 w2 r2 => ⟨F, G2, L, γ, y, w2, EnvR.mono x2 he, e2, fun v' G3 H3 x3 w3 r3 =>
        o F G3 H3 x y a v v' Q w3 (mo x3 w3 r2) r3 ea fun v4 G4 H4 x4 w4 r4 => q v4 G4 H4 ((x2.trans x3).trans x4) w4 r4⟩⟩
variable {f : Γ → Option α} {g : Γ → Option β}
theorem vo_op {op : Operator} {r : L2.R2} {R1 : RR α} {R2 : RR β} {R3 : RR δ} {φ : α → β → Option δ} (ho : OpR X (binaryOp op) r) (o : Op2 r R1 R2 R3 φ) (mo : RMono R1) (ha : VO X a R1 f) (hb : VO X b R2 g) : VO X (.BinOp a op b pos) R3 (f2 φ f g) :=
  PE.le (pe_op ho ha hb) fun σ H Q h => tev2 o mo h
theorem vo_cmp {op : CmpOp} {r : L2.R2} {R1 : RR α} {R2 : RR β} {φ : α → β → Option Bool} (ho : OpR X (compareOp op) r) (o : Op2 r R1 R2 (RE X.K) φ) (mo : RMono R1) (ha : VO X a R1 f) (hb : VO X b R2 g) (hm : behindInMarks op b = false) : VE X (.Compare a [op] [b] pos) (f2 φ f g) :=
  PE.le (pe_cmpR ho ha hb hm) fun σ H Q h => tev2 o mo h
theorem tet_of {K : PySem.W.Frag} {f : Γ → Option Bool} {t : TE} {σ : L2.St} {H : Hp} {Q : Bool → Hp → Prop} (k : ∀ Q : VK, tev K (RE K) f σ H Q → t σ H Q) (h : tet K f σ H Q) : tTest t σ H Q := by
  obtain ⟨F, G, L, γ, a, w, he, ea, q⟩ := h
  exact k _ ⟨F, G, L, γ, a, w, he, ea, fun v G2 H2 e2 w2 r => ⟨a, r, q G2 H2 e2 w2⟩⟩
theorem vt_cmp {op : CmpOp} {r : L2.R2} {R1 : RR α} {R2 : RR β} {φ : α → β → Option Bool} (ho : OpR X (compareOp op) r) (o : Op2 r R1 R2 (RE X.K) φ) (mo : RMono R1) (ha : VO X a R1 f) (hb : VO X b R2 g) (hm : behindInMarks op b = false) : VT X (.Compare a [op] [b] pos) (f2 φ f g) :=
  PT.le (pt_cmpR ho ha hb hm) fun σ H Q h => tet_of (fun Q h => tev2 o mo h) h
/-- any expression that gives a truth value, as a test -/
theorem vt_val {f : Γ → Option Bool} (h : VE X e f) (he : ∀ whole, isTrue e X.env whole = (do let v ← whole; standAt e.pos; holding [v] (truthy v)) := by intro _; rfl) : VT X e f :=
  PT.le (pt_val h he) fun σ H Q h => tet_of (t := tev X.K (RE X.K) f) (fun Q h => h) h
theorem line_ge : 100000 ≤ sizeLine := by decide
/-! ### and, or, not, if .. else -/
theorem vt_and2 {f g : Γ → Option Bool} {t u : TT} {K : PySem.W.Frag} (ht : ∀ σ H Q, tet K f σ H Q → t σ H Q) (hu : ∀ σ H Q, tet K g σ H Q → u σ H Q) {σ : L2.St} {H : Hp} {Q} (h : tet K (fand f g) σ H Q) : tAnd t u σ H Q := by
  obtain ⟨F, G, L, γ, a, w, he, ea, q⟩ := h
  unfold fand at ea
  cases e1 : f γ with
  | none => rw [e1] at ea; cases ea
  | some x =>
    rw [e1] at ea
    refine ht _ _ _ ⟨F, G, L, γ, x, w, he, e1, fun G2 H2 e2 w2 => ?_⟩
    cases x with
    | true => exact hu _ _ _ ⟨F, G2, L, γ, a, w2, EnvR.mono e2 he, ea, fun G3 H3 e3 w3 => q G3 H3 (e2.trans e3) w3⟩
    | false =>
      cases ea
      exact q G2 H2 e2 w2
theorem vt_or2 {f g : Γ → Option Bool} {t u : TT} {K : PySem.W.Frag} (ht : ∀ σ H Q, tet K f σ H Q → t σ H Q) (hu : ∀ σ H Q, tet K g σ H Q → u σ H Q) {σ : L2.St} {H : Hp} {Q} (h : tet K (foor f g) σ H Q) : tOr t u σ H Q := by
  obtain ⟨F, G, L, γ, a, w, he, ea, q⟩ := h
  unfold foor at ea
  cases e1 : f γ with
  | none => rw [e1] at ea; cases ea
  | some x =>
    rw [e1] at ea
    refine ht _ _ _ ⟨F, G, L, γ, x, w, he, e1, fun G2 H2 e2 w2 => ?_⟩
    cases x with
    | true =>
      cases ea
      exact q G2 H2 e2 w2
    | false => exact hu _ _ _ ⟨F, G2, L, γ, a, w2, EnvR.mono e2 he, ea, fun G3 H3 e3 w3 => q G3 H3 (e2.trans e3) w3⟩
abbrev VW (X : Cx) (e : Expr) (f : Γ → Option Bool) : Prop := PW X e (tet X.K f)
theorem PW.le {X : Cx} {e : Expr} {t t' : TT} (h : PW X e t) (k : ∀ σ H Q, t' σ H Q → t σ H Q) : PW X e t' := ⟨fun wh pins s σ H Q I q => h.run wh pins s σ H Q I (k σ H Q q)⟩
variable {rest : List Expr} {p q : Γ → Option Bool}
theorem vw_and1 (h : VT X a p) : VW X (.BoolOp .And [a] pos) p := pw_and1 h
theorem vw_or1 (h : VT X a p) : VW X (.BoolOp .Or [a] pos) p := pw_or1 h
theorem vw_and (h : VT X a p) (k : VW X (.BoolOp .And (b :: rest) pos) q) : VW X (.BoolOp .And (a :: b :: rest) pos) (fand p q) := PW.le (pw_and h k) fun _ _ _ z => vt_and2 (fun _ _ _ z => z) (fun _ _ _ z => z) z
theorem vw_or (h : VT X a p) (k : VW X (.BoolOp .Or (b :: rest) pos) q) : VW X (.BoolOp .Or (a :: b :: rest) pos) (foor p q) := PW.le (pw_or h k) fun _ _ _ z => vt_or2 (fun _ _ _ z => z) (fun _ _ _ z => z) z
theorem vw_t (h : VW X e p) : VT X e p := PW.pt h
theorem vt_not (h : VT X a p) : VT X (.UnaryOp .Not a pos) (fnot p) := PT.le (pt_not h) fun σ H Q ⟨F, G, L, γ, x, w, he, ea, k⟩ => by
  unfold fnot at ea
  cases e1 : p γ with
  | none => rw [e1] at ea; cases ea
  | some y =>
    rw [e1] at ea
    cases ea
    exact ⟨F, G, L, γ, y, w, he, e1, fun G2 H2 e2 w2 => k G2 H2 e2 w2⟩
theorem ve_one {op} (h : VE X a p) : VE X (.BoolOp op [a] pos) p := pe_one h
theorem ve_and (h : VE X a p) (k : VE X (.BoolOp .And (b :: rest) pos) q) : VE X (.BoolOp .And (a :: b :: rest) pos) (fand p q) := PE.le (pe_and h k) fun σ H Q ⟨F, G, L, γ, z, w, he, ea, kk⟩ => by
  unfold fand at ea
  cases e1 : p γ with
  | none => rw [e1] at ea; cases ea
  | some x =>
    rw [e1] at ea
    refine ⟨F, G, L, γ, x, w, he, e1, fun v G2 H2 e2 w2 r => ⟨x, r, ?_⟩⟩
    cases x with
    | true => exact ⟨F, G2, L, γ, z, w2, EnvR.mono e2 he, ea, fun v G3 H3 e3 w3 r => kk v G3 H3 (e2.trans e3) w3 r⟩
    | false =>
      cases ea
      exact kk _ G2 H2 e2 w2 rfl
theorem ve_or (h : VE X a p) (k : VE X (.BoolOp .Or (b :: rest) pos) q) : VE X (.BoolOp .Or (a :: b :: rest) pos) (foor p q) := PE.le (pe_or h k) fun σ H Q ⟨F, G, L, γ, z, w, he, ea, kk⟩ => by
  unfold foor at ea
  cases e1 : p γ with
  | none => rw [e1] at ea; cases ea
  | some x =>
    rw [e1] at ea
    refine ⟨F, G, L, γ, x, w, he, e1, fun v G2 H2 e2 w2 r => ⟨x, r, ?_⟩⟩
    cases x with
    | true =>
      cases ea
      exact kk _ G2 H2 e2 w2 rfl
    | false => exact ⟨F, G2, L, γ, z, w2, EnvR.mono e2 he, ea, fun v G3 H3 e3 w3 r => kk v G3 H3 (e2.trans e3) w3 r⟩
theorem ve_not (h : VE X a p) : VE X (.UnaryOp .Not a pos) (fnot p) := PE.le (pe_not h) fun σ H Q ⟨F, G, L, γ, x, w, he, ea, k⟩ => by
  unfold fnot at ea
  cases e1 : p γ with
  | none => rw [e1] at ea; cases ea
  | some y =>
    rw [e1] at ea
    cases ea
    exact ⟨F, G, L, γ, y, w, he, e1, fun v G2 H2 e2 w2 r => ⟨y, r, k _ G2 H2 e2 w2 rfl⟩⟩
theorem vo_if {R : RR α} {f g : Γ → Option α} (hc : VT X c p) (ha : VO X a R f) (hb : VO X b R g) : VO X (.IfExp c a b pos) R (fif p f g) := PE.le (pe_ifExp hc ha hb) fun σ H Q ⟨F, G, L, γ, z, w, he, ea, kk⟩ => by
  unfold fif at ea
  cases e1 : p γ with
  | none => rw [e1] at ea; cases ea
  | some x =>
    rw [e1] at ea
    refine ⟨F, G, L, γ, x, w, he, e1, fun G2 H2 e2 w2 => ?_⟩
    cases x with
    | true => exact ⟨F, G2, L, γ, z, w2, EnvR.mono e2 he, ea, fun v G3 H3 e3 w3 r => kk v G3 H3 (e2.trans e3) w3 r⟩
    | false => exact ⟨F, G2, L, γ, z, w2, EnvR.mono e2 he, ea, fun v G3 H3 e3 w3 r => kk v G3 H3 (e2.trans e3) w3 r⟩
/-! ### argument lists -/
class RepL (A : Type) where
  rl : PySem.W.Frag → Hp → A → List V → Prop
  mono : ∀ {K : PySem.W.Frag} {G G' : Hp} {a : A} {vs : List V}, Ex G G' → rl K G a vs → rl K G' a vs
  n : Nat
  len : ∀ {K : PySem.W.Frag} {G : Hp} {a : A} {vs : List V}, rl K G a vs → vs.length = n
instance : RepL Unit := ⟨fun _ _ _ vs => vs = [], fun _ h => h, 0, fun h => by rw [h]; rfl⟩
instance {α A : Type} [Rep α] [RepL A] : RepL (α × A) := ⟨fun K G a vs => ∃ v r, vs = v :: r ∧ rep K G a.1 v ∧ RepL.rl K G a.2 r, fun e ⟨v, r, h1, h2, h3⟩ => ⟨v, r, h1, Rep.mono e h2, RepL.mono e h3⟩, RepL.n A + 1, fun ⟨v, r, h1, h2, h3⟩ => by rw [h1, List.length_cons, RepL.len h3]⟩
def tea {A : Type} [RepL A] (K : PySem.W.Frag) (f : Γ → Option A) : TA := fun σ H Q => ∃ F G L γ a, W F G H ∧ er K G F L σ γ ∧ f γ = some a ∧ ∀ vs G2 H2, Ex G G2 → W F G2 H2 → RepL.rl K G2 a vs → Q vs H2
abbrev VA {A : Type} [RepL A] (X : Cx) (es : List Expr) (f : Γ → Option A) : Prop := PA X es (tea X.K f)
def fnil : Γ → Option Unit := fun _ => some ()
def fcons {A : Type} (f : Γ → Option α) (g : Γ → Option A) : Γ → Option (α × A) := fun γ => (f γ).bind fun x => (g γ).bind fun y => some (x, y)
theorem va_nil : VA X [] (fnil (Γ := Γ)) := PA.le pa_nil fun σ H Q ⟨F, G, L, γ, a, w, he, ea, q⟩ => by
  cases ea
  exact q [] G H (Ex.refl G) w rfl
theorem va_cons {A : Type} [RepL A] [Rep α] {es : List Expr} {f : Γ → Option α} {g : Γ → Option A} (h : VE X e f) (k : VA X es g) (hs : starEach (e :: es) X.env = (false, eval e X.env) :: starEach es X.env := by rfl) : VA X (e :: es) (fcons f g) :=
  PA.le (pa_cons h k hs) fun σ H Q ⟨F, G, L, γ, a, w, he, ea, q⟩ => by
    unfold fcons at ea
    cases e1 : f γ with
    | none => rw [e1] at ea; cases ea
    | some x =>
      rw [e1] at ea
      cases e2 : g γ with
      | none => simp only [Option.bind_some] at ea; rw [e2] at ea; cases ea
      | some y =>
        simp only [Option.bind_some] at ea
        rw [e2] at ea
        cases ea
        exact ⟨F, G, L, γ, x, w, he, e1, fun v G2 H2 x2 w2 r2 => ⟨F, G2, L, γ, y, w2, EnvR.mono x2 he, e2, fun vs G3 H3 x3 w3 r3 => q (v :: vs) G3 H3 (x2.trans x3) w3 ⟨v, vs, rfl, Rep.mono x3 r2, r3⟩⟩⟩
/-! ### what a def promises, by its mirror -/
/-- a def that changes nothing -/
def spF {A ρ : Type} [RepL A] [Rep ρ] (K : PySem.W.Frag) (m : A → Option ρ) : Sp := fun vs H Q _ => ∃ F G a r, W F G H ∧ RepL.rl K G a vs ∧ m a = some r ∧ ∀ v G2 H2, Ex G G2 → W F G2 H2 → rep K G2 r v → Q v H2
/-- a def that makes a list for its caller -/
def spN {A α : Type} [RepL A] [Rep α] (K : PySem.W.Frag) (m : A → Option (List α)) : Sp := fun vs H Q _ => ∃ F G a r, W F G H ∧ RepL.rl K G a vs ∧ m a = some r ∧ ∀ v G2 H2, Ex G G2 → W F G2 H2 → RF K F G2 H2 r v → Q v H2
/-- a def that changes the list of ints that it is given first -/
def spM {A ρ : Type} [RepL A] [Rep ρ] (K : PySem.W.Frag) (m : List Int → A → Option (ρ × List Int)) : Sp := fun vs H Q _ => ∃ F G p vs' s a r s', vs = .ref p :: vs' ∧ W F G H ∧ F p = some (.lst (s.map V.int)) ∧ RepL.rl K G a vs' ∧ m s a = some (r, s') ∧
  ∀ v F2 G2 H2, Ex G G2 → W F2 G2 H2 → F2 p = some (.lst (s'.map V.int)) → (∀ b, b ≠ p → F2 b = F b) → rep K G2 r v → Q v H2
variable {A ρ : Type} [RepL A] [Rep ρ] {m : A → Option ρ} {k : Nat} {fa : Addr} {fd : FuncData} {psn : List Str} {x : Str} {pp : Pos} {es : List Expr} {g : Γ → Option A}
end
end Vx
namespace Vx
open Rep (rep)
open EnvR (er)
open PySem L2
/-! ### expressions that change the list of ints that stands first (the draw) -/
section
variable {Γ : Type} [EnvR Γ] {α β δ : Type}
/-- an expression that may change the cells of the environment -/
def tem (K : PySem.W.Frag) (R : RR α) (f : Γ → Option (α × Γ)) : TE := fun σ H Q => ∃ F G L γ a γ', W F G H ∧ er K G F L σ γ ∧ f γ = some (a, γ') ∧
  ∀ v F2 G2 H2, Ex G G2 → W F2 G2 H2 → (∀ b, b ∉ L → F2 b = F b) → er K G2 F2 L σ γ' → R F2 G2 H2 a v → Q v H2
def tmt (K : PySem.W.Frag) (f : Γ → Option (Bool × Γ)) : TT := fun σ H Q => ∃ F G L γ a γ', W F G H ∧ er K G F L σ γ ∧ f γ = some (a, γ') ∧
  ∀ F2 G2 H2, Ex G G2 → W F2 G2 H2 → (∀ b, b ∉ L → F2 b = F b) → er K G2 F2 L σ γ' → Q a H2
def tma {A : Type} [RepL A] (K : PySem.W.Frag) (f : Γ → Option (A × Γ)) : TA := fun σ H Q => ∃ F G L γ a γ', W F G H ∧ er K G F L σ γ ∧ f γ = some (a, γ') ∧
  ∀ vs F2 G2 H2, Ex G G2 → W F2 G2 H2 → (∀ b, b ∉ L → F2 b = F b) → er K G2 F2 L σ γ' → RepL.rl K G2 a vs → Q vs H2
abbrev MO (X : Cx) (e : Expr) (R : RR α) (f : Γ → Option (α × Γ)) : Prop := PE X e (tem X.K R f)
abbrev ME [Rep α] (X : Cx) (e : Expr) (f : Γ → Option (α × Γ)) : Prop := PE X e (tem X.K (RE X.K) f)
abbrev MA {A : Type} [RepL A] (X : Cx) (es : List Expr) (f : Γ → Option (A × Γ)) : Prop := PA X es (tma X.K f)
def up (f : Γ → Option α) : Γ → Option (α × Γ) := fun γ => (f γ).map (·, γ)
def m1 (φ : α → Option β) (f : Γ → Option (α × Γ)) : Γ → Option (β × Γ) := fun γ => (f γ).bind fun (x, γ') => (φ x).map (·, γ')
def m2 (φ : α → β → Option δ) (f : Γ → Option (α × Γ)) (g : Γ → Option (β × Γ)) : Γ → Option (δ × Γ) := fun γ => (f γ).bind fun (x, γ') => (g γ').bind fun (y, γ'') => (φ x y).map (·, γ'')
def mcons {A : Type} (f : Γ → Option (α × Γ)) (g : Γ → Option (A × Γ)) : Γ → Option ((α × A) × Γ) := m2 (fun x y => some (x, y)) f g
variable {X : Cx} {e a b c : Expr} {pos : Pos}
theorem up_some {f : Γ → Option α} {γ γ' : Γ} {x : α} (h : up f γ = some (x, γ')) : f γ = some x ∧ γ' = γ := by
  unfold up at h
  cases e : f γ with
  | none => rw [e] at h; cases h
  | some y =>
    rw [e] at h
    cases h
    exact ⟨rfl, rfl⟩
theorem vo_up {R : RR α} {f : Γ → Option α} (h : VO X e R f) : MO X e R (up f) := PE.le h fun σ H Q ⟨F, G, L, γ, x, γ', w, he, ea, q⟩ => by
  obtain ⟨ex, rfl⟩ := up_some ea
  exact ⟨F, G, L, γ', x, w, he, ex, fun v G2 H2 e2 w2 r => q v F G2 H2 e2 w2 (fun _ _ => rfl) (EnvR.mono e2 he) r⟩
theorem va_up {A : Type} [RepL A] {es : List Expr} {f : Γ → Option A} (h : VA X es f) : MA X es (up f) := PA.le h fun σ H Q ⟨F, G, L, γ, x, γ', w, he, ea, q⟩ => by
  obtain ⟨ex, rfl⟩ := up_some ea
  exact ⟨F, G, L, γ', x, w, he, ex, fun v G2 H2 e2 w2 r => q v F G2 H2 e2 w2 (fun _ _ => rfl) (EnvR.mono e2 he) r⟩
theorem m1_some {φ : α → Option β} {f : Γ → Option (α × Γ)} {γ γ' : Γ} {y : β} (h : m1 φ f γ = some (y, γ')) : ∃ x, f γ = some (x, γ') ∧ φ x = some y := by
  unfold m1 at h
  cases e : f γ with
  | none => rw [e] at h; cases h
  | some p =>
    rw [e] at h
    simp only [Option.bind_some] at h
    cases e2 : φ p.1 with
    | none => rw [e2] at h; cases h
    | some z =>
      rw [e2] at h
      cases h
      exact ⟨p.1, rfl, e2⟩
theorem m2_some {φ : α → β → Option δ} {f : Γ → Option (α × Γ)} {g : Γ → Option (β × Γ)} {γ γ' : Γ} {z : δ} (h : m2 φ f g γ = some (z, γ')) : ∃ x γ1 y, f γ = some (x, γ1) ∧ g γ1 = some (y, γ') ∧ φ x y = some z := by
  unfold m2 at h
  cases e : f γ with
  | none => rw [e] at h; cases h
  | some p =>
    rw [e] at h
    simp only [Option.bind_some] at h
    cases e1 : g p.2 with
    | none => rw [e1] at h; cases h
    | some q =>
      rw [e1] at h
      simp only [Option.bind_some] at h
      cases e2 : φ p.1 q.1 with
      | none => rw [e2] at h; cases h
      | some z =>
        rw [e2] at h
        cases h
        exact ⟨p.1, p.2, q.1, rfl, e1, e2⟩
theorem off_trans {L : List Addr} {F F2 F3 : Hp} (a : ∀ b, b ∉ L → F2 b = F b) (c : ∀ b, b ∉ L → F3 b = F2 b) : ∀ b, b ∉ L → F3 b = F b := fun b h => (c b h).trans (a b h)
/-- what was worth x stays so, whatever the draw does -/
def MMono {α : Type} (R : RR α) : Prop := ∀ {F F2 G H G2 H2 : Hp} {a : α} {v : V}, Ex G G2 → W F2 G2 H2 → R F G H a v → R F2 G2 H2 a v
theorem re_mmono {K : PySem.W.Frag} {α : Type} [Rep α] : MMono (RE K (α := α)) := fun e _ h => Rep.mono e h
theorem tem2 {K : PySem.W.Frag} {r : L2.R2} {R1 : RR α} {R2 : RR β} {R3 : RR δ} {φ : α → β → Option δ} {f : Γ → Option (α × Γ)} {g : Γ → Option (β × Γ)} (o : Op2 r R1 R2 R3 φ) (mo : MMono R1) {σ : L2.St} {H : Hp} {Q : VK} (h : tem K R3 (m2 φ f g) σ H Q) :
    tem K R1 f σ H fun x H1 => tem K R2 g σ H1 fun y H2 => r x y H2 Q := by
  obtain ⟨F, G, L, γ, z, γ', w, he, ea, q⟩ := h
  obtain ⟨x, γ1, y, e1, e2, e3⟩ := m2_some ea
  exact ⟨F, G, L, γ, x, γ1, w, he, e1, fun v F2 G2 H2 x2 w2 of er2 rx => ⟨F2, G2, L, γ1, y, γ', w2, er2, e2, fun v' F3 G3 H3 x3 w3 of3 er3 ry =>
    o F3 G3 H3 x y z v v' Q w3 (mo x3 w3 rx) ry e3 fun v4 G4 H4 x4 w4 r4 => q v4 F3 G4 H4 ((x2.trans x3).trans x4) w4 (off_trans of of3) (EnvR.mono x4 er3) r4⟩⟩
theorem mo_op {op : Operator} {r : L2.R2} {R1 : RR α} {R2 : RR β} {R3 : RR δ} {φ : α → β → Option δ} {f : Γ → Option (α × Γ)} {g : Γ → Option (β × Γ)} (ho : OpR X (binaryOp op) r) (o : Op2 r R1 R2 R3 φ) (mo : MMono R1) (ha : MO X a R1 f) (hb : MO X b R2 g) : MO X (.BinOp a op b pos) R3 (m2 φ f g) :=
  PE.le (pe_op ho ha hb) fun σ H Q h => tem2 o mo h
def mand (f g : Γ → Option (Bool × Γ)) : Γ → Option (Bool × Γ) := fun γ => (f γ).bind fun (b, γ') => if b then g γ' else some (false, γ')
def moor (f g : Γ → Option (Bool × Γ)) : Γ → Option (Bool × Γ) := fun γ => (f γ).bind fun (b, γ') => if b then some (true, γ') else g γ'
def mnot (f : Γ → Option (Bool × Γ)) : Γ → Option (Bool × Γ) := fun γ => (f γ).map fun (b, γ') => (!b, γ')
def mif (c : Γ → Option (Bool × Γ)) (f g : Γ → Option (α × Γ)) : Γ → Option (α × Γ) := fun γ => (c γ).bind fun (b, γ') => if b then f γ' else g γ'
variable {rest : List Expr} {p q : Γ → Option (Bool × Γ)}
theorem ma_cons {A : Type} [RepL A] [Rep α] {es : List Expr} {f : Γ → Option (α × Γ)} {g : Γ → Option (A × Γ)} (h : ME X e f) (k : MA X es g) (hs : starEach (e :: es) X.env = (false, eval e X.env) :: starEach es X.env := by rfl) : MA X (e :: es) (mcons f g) :=
  PA.le (pa_cons h k hs) fun σ H Q ⟨F, G, L, γ, z, γ', w, he, ea, q⟩ => by
    obtain ⟨x, γ1, y, e1, e2, e3⟩ := m2_some ea
    cases e3
    exact ⟨F, G, L, γ, x, γ1, w, he, e1, fun v F2 G2 H2 x2 w2 of er2 rx => ⟨F2, G2, L, γ1, y, γ', w2, er2, e2, fun vs F3 G3 H3 x3 w3 of3 er3 ry => q (v :: vs) F3 G3 H3 (x2.trans x3) w3 (off_trans of of3) er3 ⟨v, vs, rfl, Rep.mono x3 rx, ry⟩⟩⟩
end
end Vx
namespace Vx
open Rep (rep)
open EnvR (er)
open PySem L2
/-- a walk yields xs, whatever comes beside -/
def Walks {τ : Type} [Rep τ] (K : PySem.W.Frag) (G : Hp) (J : It) (xs : List τ) : Prop := ∀ F' G' H', Ex G G' → W F' G' H' → ∀ i, (∀ t, xs[i]? = some t → J.go i H' ∧ ∀ x H'', J.yld i H' x H'' → ∃ G'', Ex G' G'' ∧ W F' G'' H'' ∧ rep K G'' t x) ∧ (xs.length ≤ i → J.stop i H')
theorem Walks.mono {τ : Type} [Rep τ] {K : PySem.W.Frag} {G G2 : Hp} {J : It} {xs : List τ} (h : Walks K G J xs) (e : Ex G G2) : Walks K G2 J xs := fun F' G' H' x w => h F' G' H' (e.trans x) w
theorem PI.le {X : Cx} {tg e : Expr} {t t' : TI} (h : PI X tg e t) (k : ∀ σ H Q, t' σ H Q → t σ H Q) : PI X tg e t' := ⟨fun pins s σ H Q I q => h.run pins s σ H Q I (k σ H Q q)⟩
section
variable {Γ : Type} [EnvR Γ] {α β τ : Type} [Rep τ]
def tiv (K : PySem.W.Frag) (g : Γ → Option (List τ)) : TI := fun σ H R => ∃ F G L γ xs, W F G H ∧ er K G F L σ γ ∧ g γ = some xs ∧ ∀ J G2 H2, Ex G G2 → W F G2 H2 → Walks K G2 J xs → R J H2
def tim (K : PySem.W.Frag) (g : Γ → Option (List τ × Γ)) : TI := fun σ H R => ∃ F G L γ xs γ', W F G H ∧ er K G F L σ γ ∧ g γ = some (xs, γ') ∧ ∀ J F2 G2 H2, Ex G G2 → W F2 G2 H2 → (∀ b, b ∉ L → F2 b = F b) → er K G2 F2 L σ γ' → Walks K G2 J xs → R J H2
abbrev VI (X : Cx) (tg e : Expr) (g : Γ → Option (List τ)) : Prop := PI X tg e (tiv X.K g)
abbrev MI (X : Cx) (tg e : Expr) (g : Γ → Option (List τ × Γ)) : Prop := PI X tg e (tim X.K g)
variable {X : Cx} {tg e : Expr} {pos : Pos}
theorem vi_up {g : Γ → Option (List τ)} (h : VI X tg e g) : MI X tg e (up g) := PI.le h fun σ H R ⟨F, G, L, γ, xs, γ', w, he, ea, q⟩ => by
  obtain ⟨ex, rfl⟩ := up_some ea
  exact ⟨F, G, L, γ', xs, w, he, ex, fun J G2 H2 e2 w2 wl => q J F G2 H2 e2 w2 (fun _ _ => rfl) (EnvR.mono e2 he) wl⟩
theorem paired_get {α β : Type} {R : α → β → Prop} : ∀ {xs : List α} {ys : List β} {i : Nat} {x : α}, PySem.Paired R xs ys → xs[i]? = some x → ∃ y, ys[i]? = some y ∧ R x y
  | _, _, _, _, .nil, e => by simp at e
  | _, _, 0, _, .cons r _, e => by simp at e; subst e; exact ⟨_, rfl, r⟩
  | _, _, i + 1, x, .cons _ t, e => by
    obtain ⟨u, h1, h2⟩ := paired_get (i := i) (x := x) t (by simpa using e)
    exact ⟨u, by simpa using h1, h2⟩
theorem paired_len {α β : Type} {R : α → β → Prop} : ∀ {xs : List α} {ys : List β}, PySem.Paired R xs ys → xs.length = ys.length
  | _, _, .nil => rfl
  | _, _, .cons _ t => congrArg (· + 1) (paired_len t)
theorem paired_app {α β : Type} {R : α → β → Prop} : ∀ {xs xs' : List α} {ys ys' : List β}, PySem.Paired R xs ys → PySem.Paired R xs' ys' → PySem.Paired R (xs ++ xs') (ys ++ ys')
  | _, _, _, _, .nil, s => s
  | _, _, _, _, .cons r t, s => .cons r (paired_app t s)
theorem walks_list {K : PySem.W.Frag} {G : Hp} {p : Addr} {vs : List V} {xs : List τ} (h : G p = some (.lst vs)) (r : PySem.Paired (rep K G) xs vs) : Walks K G (Itl K p) xs := fun F' G' H' e w i => by
  have hl : SqL K H' p vs := .inl (.inl (w.g _ _ (e _ _ h)))
  refine ⟨fun t ht => ?_, fun hi => ⟨vs, hl, by rw [← paired_len r]; exact hi⟩⟩
  obtain ⟨v, hv, rv⟩ := paired_get r ht
  refine ⟨⟨vs, v, hl, hv⟩, fun x H'' hy => ?_⟩
  obtain ⟨rfl, f⟩ := hy
  obtain rfl : v = x := Option.some.inj (hv.symm.trans (f _ hl))
  exact ⟨G', Ex.refl _, w, Rep.mono e rv⟩
theorem walks_tup {K : PySem.W.Frag} {G : Hp} {p : Addr} {vs : List V} {xs : List τ} (h : G p = some (.tup vs)) (r : PySem.Paired (rep K G) xs vs) : Walks K G (Itt K p) xs := fun F' G' H' e w i => by
  have hl : SqT K H' p vs := .inl (.inl (w.g _ _ (e _ _ h)))
  refine ⟨fun t ht => ?_, fun hi => ⟨vs, hl, by rw [← paired_len r]; exact hi⟩⟩
  obtain ⟨v, hv, rv⟩ := paired_get r ht
  refine ⟨⟨vs, v, hl, hv⟩, fun x H'' hy => ?_⟩
  obtain ⟨rfl, f⟩ := hy
  obtain rfl : v = x := Option.some.inj (hv.symm.trans (f _ hl))
  exact ⟨G', Ex.refl _, w, Rep.mono e rv⟩
theorem vi_list {f : Γ → Option (List τ)} (h : VE X e f) : VI X tg e f := PI.le (pi_list h) fun σ H R ⟨F, G, L, γ, xs, w, he, ea, q⟩ =>
  ⟨F, G, L, γ, xs, w, he, ea, fun v G2 H2 e2 w2 ⟨p, vs, h1, h2, h3⟩ => ⟨p, h1, ⟨vs, .inl (.inl (w2.g _ _ h2))⟩, q _ G2 H2 e2 w2 (walks_list h2 h3)⟩⟩
theorem vi_tup {f : Γ → Option (Tup τ)} (h : VE X e f) : VI X tg e (f1 (fun t => some t.l) f) := PI.le (pi_tup h) fun σ H R ⟨F, G, L, γ, xs, w, he, ea, q⟩ => by
  unfold f1 at ea
  cases e1 : f γ with
  | none => rw [e1] at ea; cases ea
  | some x =>
    rw [e1] at ea
    cases ea
    exact ⟨F, G, L, γ, x, w, he, e1, fun v G2 H2 e2 w2 ⟨p, vs, h1, h2, h3⟩ => ⟨p, h1, ⟨vs, .inl (.inl (w2.g _ _ h2))⟩, q _ G2 H2 e2 w2 (walks_tup h2 h3)⟩⟩
/-- a text's signs -/
def signs (s : Str) : List Str := s.cps.toList.map fun c => ⟨#[c]⟩
theorem walks_str {K : PySem.W.Frag} {G : Hp} {s : Str} : Walks K G (Its s) (signs s) := fun F' G' H' e w i => by
  refine ⟨fun t ht => ?_, fun hi => (show s.cps.size ≤ i by simpa [signs] using hi)⟩
  have hi : i < s.cps.size := by
    have := (List.getElem?_eq_some_iff.mp ht).1
    simpa [signs] using this
  refine ⟨hi, fun x H'' hy => ?_⟩
  obtain ⟨rfl, c, hc, rfl⟩ := hy
  refine ⟨G', Ex.refl _, w, ?_⟩
  have : (signs s)[i]? = some ⟨#[c]⟩ := by
    unfold signs
    rw [List.getElem?_map, Array.getElem?_toList, hc]
    rfl
  rw [ht] at this
  cases this
  rfl
theorem vi_str {f : Γ → Option Str} (h : VE X e f) : VI X tg e (f1 (fun s => some (signs s)) f) := PI.le (pi_str h) fun σ H R ⟨F, G, L, γ, xs, w, he, ea, q⟩ => by
  unfold f1 at ea
  cases e1 : f γ with
  | none => rw [e1] at ea; cases ea
  | some x =>
    rw [e1] at ea
    cases ea
    exact ⟨F, G, L, γ, x, w, he, e1, fun v G2 H2 e2 w2 r => ⟨x, r, q _ G2 H2 e2 w2 walks_str⟩⟩
/-- range(lo, hi) -/
def rng (lo hi : Int) : List Int := (List.range (hi - lo).toNat).map fun (i : Nat) => lo + (i : Int)
theorem walks_rng {K : PySem.W.Frag} {G : Hp} {lo hi : Int} : Walks K G (Itr lo (hi - lo).toNat) (rng lo hi) := fun F' G' H' e w i => by
  refine ⟨fun t ht => ?_, fun hi' => (show (hi - lo).toNat ≤ i by simpa [rng] using hi')⟩
  have hi1 : i < (hi - lo).toNat := by
    have := (List.getElem?_eq_some_iff.mp ht).1
    simpa [rng] using this
  refine ⟨hi1, fun x H'' hy => ?_⟩
  obtain ⟨rfl, rfl⟩ := hy
  refine ⟨G', Ex.refl _, w, ?_⟩
  unfold rng at ht
  rw [List.getElem?_map, List.getElem?_range hi1] at ht
  cases ht
  rfl
def rangeOf1 (j : Int) : Option (List Int) := if -1000000 ≤ j ∧ j ≤ 1000000 then some (rng 0 j) else none
theorem vi_range1 {a : Expr} {p : Pos} {f : Γ → Option Int} (h : VE X a f) (hm : X.mg "range" = none) (hg : Gl X "range" := by rfl) (hs : starEach [a] X.env = [(false, eval a X.env)] := by rfl) : VI X tg (.Call (.Name "range" p) [a] [] pos) (f1 rangeOf1 f) :=
  PI.le (pi_range1 hg hm (pa_cons h pa_nil hs) hs) fun σ H R ⟨F, G, L, γ, xs, w, he, ea, q⟩ => by
    unfold f1 at ea
    cases e1 : f γ with
    | none => rw [e1] at ea; cases ea
    | some j =>
      rw [e1] at ea
      simp only [Option.bind_some] at ea
      unfold rangeOf1 at ea
      split at ea
      · rename_i hb
        cases ea
        refine ⟨F, G, L, γ, j, w, he, e1, fun v G2 H2 e2 w2 r => ⟨j, by cases r; rfl, by omega, by omega, ?_⟩⟩
        have hz : j.toNat = (j - 0).toNat := by rw [Int.sub_zero]
        rw [hz]
        exact q _ G2 H2 e2 w2 walks_rng
      · cases ea
/-- range of a drawn number -/
theorem mi_range1 {a : Expr} {p : Pos} {f : Γ → Option (Int × Γ)} (h : ME X a f) (hm : X.mg "range" = none) (hg : Gl X "range" := by rfl) (hs : starEach [a] X.env = [(false, eval a X.env)] := by rfl) : MI X tg (.Call (.Name "range" p) [a] [] pos) (m1 rangeOf1 f) :=
  PI.le (pi_range1 hg hm (pa_cons h pa_nil hs) hs) fun σ H R ⟨F, G, L, γ, xs, γ', w, he, ea, q⟩ => by
    obtain ⟨j, e1, e2⟩ := m1_some ea
    unfold rangeOf1 at e2
    split at e2
    · rename_i hb
      cases e2
      refine ⟨F, G, L, γ, j, γ', w, he, e1, fun v F2 G2 H2 e2 w2 of er2 r => ⟨j, by cases r; rfl, by omega, by omega, ?_⟩⟩
      have hz : j.toNat = (j - 0).toNat := by rw [Int.sub_zero]
      rw [hz]
      exact q _ F2 G2 H2 e2 w2 of er2 walks_rng
    · cases e2
/-! ### comprehensions -/
def lcGo (t : τ → Option Bool) (e : τ → Option α) : List τ → Option (List α)
  | [] => some []
  | x :: xs => (t x).bind fun b => if b then (e x).bind fun y => (lcGo t e xs).map (y :: ·) else lcGo t e xs
def lcSt {S : Type} (t : τ → S → Option (Bool × S)) (e : τ → S → Option (α × S)) : List τ → S → Option (List α × S)
  | [], s => some ([], s)
  | x :: xs, s => (t x s).bind fun (b, s1) => if b then (e x s1).bind fun (y, s2) => (lcSt t e xs s2).map fun (ys, s3) => (y :: ys, s3) else lcSt t e xs s1
variable {i : Nat} {Γe : Type} [EnvR Γe]
def flc (p : Put i Γ τ Γe) (g : Γ → Option (List τ)) (t : Γe → Option Bool) (e : Γe → Option α) : Γ → Option (List α) := fun γ => (g γ).bind fun xs => if xs.length ≤ 100000 then lcGo (fun x => t (p.put γ x)) (fun x => e (p.put γ x)) xs else none
/-- the draw goes on behind each turn -/
structure Bk (i : Nat) (Γ τ Γe : Type) [EnvR Γ] [Rep τ] [EnvR Γe] where
  back : Γe → Γ
  ok : ∀ {K : PySem.W.Frag} {G F : Hp} {L : List Addr} {σ : St} {γ : Γe} {o : Option V}, er K G F L (σ.set i o) γ → er K G F L σ (back γ)
def bz {Γ τ : Type} [EnvR Γ] [Rep τ] : Bk 0 (Any × Γ) τ (τ × Γ) := ⟨fun γ => (⟨⟩, γ.2), fun {K G F L σ γ o} ⟨L1, L2, u, σ', h1, h2, h3, h4, h5⟩ => by
  cases σ with
  | nil => cases h2
  | cons x σ0 =>
    have e : σ0 = σ' := (List.cons.inj h2).2
    subst e
    have z : L1 = [] := VSlot.nil h3
    exact ⟨[], L2, x, σ0, by rw [h1, z], rfl, rfl, h4, fun q hq => by cases hq⟩⟩
def bs {i : Nat} {τ₀ Γ τ Γe : Type} [Slot τ₀] [EnvR Γ] [Rep τ] [EnvR Γe] (b : Bk i Γ τ Γe) : Bk (i + 1) (τ₀ × Γ) τ (τ₀ × Γe) := ⟨fun γ => (γ.1, b.back γ.2), fun {K G F L σ γ o} ⟨L1, L2, u, σ', h1, h2, h3, h4, h5⟩ => by
  cases σ with
  | nil => cases h2
  | cons x σ0 =>
    have e1 : x = u := (List.cons.inj h2).1
    have e2 : σ0.set i o = σ' := (List.cons.inj h2).2
    subst e1
    subst e2
    exact ⟨L1, L2, x, σ0, h1, rfl, h3, b.ok h4, h5⟩⟩
def mlc (p : Put i Γ τ Γe) (bk : Bk i Γ τ Γe) (g : Γ → Option (List τ × Γ)) (t : Γe → Option (Bool × Γe)) (e : Γe → Option (α × Γe)) : Γ → Option (List α × Γ) := fun γ => (g γ).bind fun (xs, γ1) => if xs.length ≤ 100000 then
  lcSt (fun x γ => (t (p.put γ x)).map fun (b, γ') => (b, bk.back γ')) (fun x γ => (e (p.put γ x)).map fun (y, γ') => (y, bk.back γ')) xs γ1 else none
abbrev VTs (X : Cx) (ifs : List Expr) (f : Γ → Option Bool) : Prop := PTs X ifs (tet X.K f)
abbrev MTs (X : Cx) (ifs : List Expr) (f : Γ → Option (Bool × Γ)) : Prop := PTs X ifs (tmt X.K f)
theorem PTs.le {X : Cx} {e : List Expr} {t t' : TT} (h : PTs X e t) (k : ∀ σ H Q, t' σ H Q → t σ H Q) : PTs X e t' := ⟨fun pins s σ H Q I q => h.run pins s σ H Q I (k σ H Q q)⟩
def fyes : Γ → Option Bool := fun _ => some true
theorem vts_nil : VTs X [] (fyes (Γ := Γ)) := PTs.le pts_nil fun σ H Q ⟨F, G, L, γ, x, w, he, ea, q⟩ => by
  cases ea
  exact q G H (Ex.refl G) w
theorem vts_one {c : Expr} {f : Γ → Option Bool} (h : VT X c f) : VTs X [c] f := pts_one h
theorem vts_up {ifs : List Expr} {f : Γ → Option Bool} (h : VTs X ifs f) : MTs X ifs (up f) := PTs.le h fun σ H Q ⟨F, G, L, γ, x, γ', w, he, ea, q⟩ => by
  obtain ⟨ex, rfl⟩ := up_some ea
  exact ⟨F, G, L, γ', x, w, he, ex, fun G2 H2 e2 w2 => q F G2 H2 e2 w2 (fun _ _ => rfl) (EnvR.mono e2 he)⟩
theorem set_set' {σ : St} {i : Nat} {a b : Option V} : (σ.set i a).set i b = σ.set i b := List.set_set ..
variable [Rep α]
/-- the turns of a comprehension -/
theorem tlc {K : PySem.W.Frag} {p : Put i Γ τ Γe} {bk : Bk i Γ τ Γe} {g : Γ → Option (List τ × Γ)} {t : Γe → Option (Bool × Γe)} {e : Γe → Option (α × Γe)} {σ : L2.St} {H : Hp} {Q : VK} (h : tem K (RF K) (mlc p bk g t e) σ H Q) :
    tLc (tim K g) (gName i) (tmt K t) (tem K (RE K) e) [i] σ H Q := by
  obtain ⟨F, G, L, γ, zs, γ', w, he, ea, q⟩ := h
  unfold mlc at ea
  cases e0 : g γ with
  | none => rw [e0] at ea; cases ea
  | some r =>
  obtain ⟨xs, γ1⟩ := r
  rw [e0] at ea
  simp only [Option.bind_some] at ea
  split at ea
  case isFalse => cases ea
  rename_i hlen
  refine ⟨F, G, L, γ, xs, γ1, w, he, e0, fun J F1 G1 H1 x1 w1 of1 er1 wl D hD => ?_⟩
  have fd := w1.fresh hD
  have nD : ∀ {F' : Hp} {acc : List V}, (∀ q ∈ L, q ≠ D) := fun {F' acc} q hq z => EnvR.there er1 q hq (by rw [z]; exact fd.2)
  refine ⟨fun j m H' => m = xs.length - j ∧ j ≤ xs.length ∧ ∃ F2 G2 acc ys γ2 rest, Ex G1 G2 ∧ W (upd F2 D (.lst acc)) G2 H' ∧ F2 D = none ∧ (∀ b, b ∉ L → F2 b = F b) ∧ er K G2 F2 L σ γ2 ∧ PySem.Paired (rep K G2) ys acc ∧ acc.length ≤ j ∧
      lcSt (fun x γ => (t (p.put γ x)).map fun (b, γ') => (b, bk.back γ')) (fun x γ => (e (p.put γ x)).map fun (y, γ') => (y, bk.back γ')) (xs.drop j) γ2 = some (rest, γ') ∧ zs = ys ++ rest, ⟨xs.length, by simp, Nat.zero_le _, F1, G1, [], [], γ1, zs, Ex.refl _, w1.own hD, fd.2, of1, er1, .nil, Nat.zero_le _, ea, rfl⟩, ?_⟩
  rintro j m H' ⟨rfl, hj, F2, G2, acc, ys, γ2, rest, x2, w2, fD, of2, er2, r2, hacc, go, rfl⟩
  have wb : W F2 G2 H' := w2.less fun a o z => by
    rw [upd_ne (fun y => by rw [y, fD] at z; cases z)]
    exact z
  have keepE : ∀ {F3 G3 : Hp} {γ3 : Γ} {acc : List V}, er K G3 F3 L σ γ3 → er K G3 (upd F3 D (.lst acc)) L σ γ3 := fun {F3 G3 γ3 acc} z => EnvR.keep (fun q hq => upd_ne (nD (F' := F2) (acc := []) q hq)) z
  by_cases hlt : j < xs.length
  · obtain ⟨x, hx⟩ : ∃ x, xs[j]? = some x := ⟨xs[j], List.getElem?_eq_getElem hlt⟩
    obtain ⟨hgo, hyl⟩ := (wl (upd F2 D (.lst acc)) G2 H' x2 w2 j).1 x hx
    have hdrop : xs.drop j = x :: xs.drop (j + 1) := by
      rw [List.drop_eq_getElem_cons hlt]
      have : xs[j] = x := Option.some.inj ((List.getElem?_eq_getElem hlt).symm.trans hx)
      rw [this]
    rw [hdrop] at go
    unfold lcSt at go
    refine .inr ⟨hgo, fun H3 => ∃ F2 G2 acc ys γ2 rest', Ex G1 G2 ∧ W (upd F2 D (.lst acc)) G2 H3 ∧ F2 D = none ∧ (∀ b, b ∉ L → F2 b = F b) ∧ er K G2 F2 L σ γ2 ∧ PySem.Paired (rep K G2) ys acc ∧ acc.length ≤ j + 1 ∧
      lcSt (fun x γ => (t (p.put γ x)).map fun (b, γ') => (b, bk.back γ')) (fun x γ => (e (p.put γ x)).map fun (y, γ') => (y, bk.back γ')) (xs.drop (j + 1)) γ2 = some (rest', γ') ∧ _ = ys ++ rest', fun H3 z => ⟨xs.length - (j + 1), by omega, rfl, hlt, z⟩, fun xv H3 hy => ?_⟩
    obtain ⟨G3, x3, w3, rx⟩ := hyl xv H3 hy
    have er3 : er K G3 (upd F2 D (.lst acc)) L (σ.set i (some xv)) (p.put γ2 x) := p.ok (keepE (EnvR.mono x3 er2)) rx
    show wipe ((σ.set i none).set i (some xv)) [i] = wipe σ [i] ∧ _
    refine ⟨by show ((σ.set i none).set i (some xv)).set i none = σ.set i none; rw [set_set', set_set'], ?_⟩
    rw [show (wipe σ [i]).set i (some xv) = σ.set i (some xv) from set_set']
    cases et : t (p.put γ2 x) with
    | none =>
      rw [et] at go
      cases go
    | some rb =>
      obtain ⟨b, γb⟩ := rb
      rw [et] at go
      simp only [Option.map_some, Option.bind_some] at go
      refine ⟨_, G3, L, _, b, γb, w3, er3, et, fun F4 G4 H4 x4 w4 of4 er4 => ?_⟩
      have hF4 : F4 D = some (.lst acc) := by
        rw [of4 D (fun z => nD (F' := F2) (acc := []) D z rfl), upd_same]
      have er4' : er K G4 F4 L σ (bk.back γb) := bk.ok er4
      have off4 : ∀ b, b ∉ L → del F4 D b = F b := fun b hb => by
        by_cases hbD : b = D
        · rw [hbD, del_same]
          exact (by rw [← of1 D (fun z => nD (F' := F2) (acc := []) D z rfl)]; exact fd.2.symm)
        · rw [del_ne hbD, of4 b hb, upd_ne hbD]
          exact of2 b hb
      have updel : ∀ {F5 : Hp} {o : HO}, F5 D = some o → upd (del F5 D) D o = F5 := fun {F5 o} z => by
        funext a
        by_cases haD : a = D
        · rw [haD, upd_same, z]
        · rw [upd_ne haD, del_ne haD]
      cases b with
      | false =>
        simp only [Bool.false_eq_true, if_false] at go ⊢
        refine ⟨del F4 D, G4, acc, ys, bk.back γb, rest, (x2.trans x3).trans x4, by rw [updel hF4]; exact w4, del_same, off4, EnvR.keep (fun q hq => del_ne (nD (F' := F2) (acc := []) q hq)) er4', Paired.mono (fun _ _ z => Rep.mono (x3.trans x4) z) r2, by omega, go, rfl⟩
      | true =>
        simp only [if_true] at go ⊢
        cases ee : e (p.put (bk.back γb) x) with
        | none =>
          rw [ee] at go
          cases go
        | some ry =>
          obtain ⟨y, γy⟩ := ry
          rw [ee] at go
          simp only [Option.map_some, Option.bind_some] at go
          cases eg : lcSt (fun x γ => (t (p.put γ x)).map fun (b, γ') => (b, bk.back γ')) (fun x γ => (e (p.put γ x)).map fun (y, γ') => (y, bk.back γ')) (xs.drop (j + 1)) (bk.back γy) with
          | none =>
            rw [eg] at go
            cases go
          | some rr =>
            obtain ⟨rest', γr⟩ := rr
            rw [eg] at go
            simp only [Option.map_some] at go
            cases go
            have er4'' : er K G4 F4 L (σ.set i (some xv)) (p.put (bk.back γb) x) := p.ok er4' (Rep.mono x4 rx)
            refine ⟨F4, G4, L, _, y, γy, w4, er4'', ee, fun yv F5 G5 H5 x5 w5 of5 er5 ry => ?_⟩
            have hF5 : F5 D = some (.lst acc) := by
              rw [of5 D (fun z => nD (F' := F2) (acc := []) D z rfl)]
              exact hF4
            refine ⟨acc, w5.f _ _ hF5, Nat.lt_of_lt_of_le (Nat.lt_of_le_of_lt hacc (Nat.lt_of_lt_of_le hlt hlen)) line_ge, del F5 D, G5, acc ++ [yv], ys ++ [y], bk.back γy, rest', ((x2.trans x3).trans x4).trans x5, ?_, del_same, fun b hb => ?_,
              EnvR.keep (fun q hq => del_ne (nD (F' := F2) (acc := []) q hq)) (bk.ok er5), paired_app (Paired.mono (fun _ _ z => Rep.mono ((x3.trans x4).trans x5) z) r2) (.cons ry .nil), ?_, eg, ?_⟩
            · have : upd (del F5 D) D (.lst (acc ++ [yv])) = upd F5 D (.lst (acc ++ [yv])) := by
                funext a
                by_cases haD : a = D
                · rw [haD, upd_same, upd_same]
                · rw [upd_ne haD, upd_ne haD, del_ne haD]
              rw [this]
              exact w5.set hF5
            · by_cases hbD : b = D
              · rw [hbD, del_same]
                exact (by rw [← of1 D (fun z => nD (F' := F2) (acc := []) D z rfl)]; exact fd.2.symm)
              · rw [del_ne hbD, of5 b hb]
                rw [← off4 b hb, del_ne hbD]
            · rw [List.length_append, List.length_singleton]
              omega
            · rw [List.append_assoc]
              rfl
  · have hj' : j = xs.length := by omega
    subst hj'
    rw [List.drop_length] at go
    unfold lcSt at go
    cases go
    refine .inl ⟨(wl (upd F2 D (.lst acc)) G2 H' x2 w2 xs.length).2 (Nat.le_refl _), ?_⟩
    rw [List.append_nil] at q
    exact q _ F2 G2 H' (x1.trans x2) wb of2 er2 ⟨D, acc, rfl, fD, w2.d D _ upd_same, w2.f _ _ upd_same, r2⟩
end
end Vx
namespace Vx
open Rep (rep)
open EnvR (er)
open PySem L2
/-- a slot that holds nothing known, for a comprehension's own name -/
structure PB (i : Nat) (Γ τ Γe : Type) [EnvR Γ] [Rep τ] [EnvR Γe] where
  p : Put i Γ τ Γe
  b : Bk i Γ τ Γe
  bp : ∀ γ t, b.back (p.put γ t) = γ
def cz {Γ τ : Type} [EnvR Γ] [Rep τ] : PB 0 (Any × Γ) τ (τ × Γ) := ⟨pz, bz, fun γ t => rfl⟩
def cs {i : Nat} {τ₀ Γ τ Γe : Type} [Slot τ₀] [EnvR Γ] [Rep τ] [EnvR Γe] (c : PB i Γ τ Γe) : PB (i + 1) (τ₀ × Γ) τ (τ₀ × Γe) := ⟨ps c.p, bs c.b, fun γ t => by
  show (γ.1, c.b.back (c.p.put γ.2 t)) = γ
  rw [c.bp]⟩
section
variable {Γ : Type} [EnvR Γ] {α β τ : Type} [Rep τ] [Rep α] {i : Nat} {Γe : Type} [EnvR Γe]
/-- the turns of a comprehension that changes nothing -/
theorem tlcp {K : PySem.W.Frag} {p : Put i Γ τ Γe} {g : Γ → Option (List τ)} {t : Γe → Option Bool} {e : Γe → Option α} {σ : L2.St} {H : Hp} {Q : VK} (h : tev K (RF K) (flc p g t e) σ H Q) :
    tLc (tiv K g) (gName i) (tet K t) (tev K (RE K) e) [i] σ H Q := by
  obtain ⟨F, G, L, γ, zs, w, he, ea, q⟩ := h
  unfold flc at ea
  cases e0 : g γ with
  | none => rw [e0] at ea; cases ea
  | some xs =>
  rw [e0] at ea
  simp only [Option.bind_some] at ea
  split at ea
  case isFalse => cases ea
  rename_i hlen
  refine ⟨F, G, L, γ, xs, w, he, e0, fun J G1 H1 x1 w1 wl D hD => ?_⟩
  have fd := w1.fresh hD
  have nD : ∀ q ∈ L, q ≠ D := fun q hq z => EnvR.there he q hq (by rw [z]; exact fd.2)
  refine ⟨fun j m H' => m = xs.length - j ∧ j ≤ xs.length ∧ ∃ G2 acc ys rest, Ex G1 G2 ∧ W (upd F D (.lst acc)) G2 H' ∧ PySem.Paired (rep K G2) ys acc ∧ acc.length ≤ j ∧
      lcGo (fun x => t (p.put γ x)) (fun x => e (p.put γ x)) (xs.drop j) = some rest ∧ zs = ys ++ rest, ⟨xs.length, by simp, Nat.zero_le _, G1, [], [], zs, Ex.refl _, w1.own hD, .nil, Nat.zero_le _, ea, rfl⟩, ?_⟩
  rintro j m H' ⟨rfl, hj, G2, acc, ys, rest, x2, w2, r2, hacc, go, rfl⟩
  have fDx : ∀ acc : List V, Ex F (upd F D (.lst acc)) := fun acc a o z => by
    rw [upd_ne (fun y => by rw [y, fd.2] at z; cases z)]
    exact z
  by_cases hlt : j < xs.length
  · obtain ⟨x, hx⟩ : ∃ x, xs[j]? = some x := ⟨xs[j], List.getElem?_eq_getElem hlt⟩
    obtain ⟨hgo, hyl⟩ := (wl (upd F D (.lst acc)) G2 H' x2 w2 j).1 x hx
    have hdrop : xs.drop j = x :: xs.drop (j + 1) := by
      rw [List.drop_eq_getElem_cons hlt]
      have : xs[j] = x := Option.some.inj ((List.getElem?_eq_getElem hlt).symm.trans hx)
      rw [this]
    rw [hdrop] at go
    unfold lcGo at go
    refine .inr ⟨hgo, fun H3 => ∃ G2 acc ys rest', Ex G1 G2 ∧ W (upd F D (.lst acc)) G2 H3 ∧ PySem.Paired (rep K G2) ys acc ∧ acc.length ≤ j + 1 ∧
      lcGo (fun x => t (p.put γ x)) (fun x => e (p.put γ x)) (xs.drop (j + 1)) = some rest' ∧ _ = ys ++ rest', fun H3 z => ⟨xs.length - (j + 1), by omega, rfl, hlt, z⟩, fun xv H3 hy => ?_⟩
    obtain ⟨G3, x3, w3, rx⟩ := hyl xv H3 hy
    have er3 : er K G3 (upd F D (.lst acc)) L (σ.set i (some xv)) (p.put γ x) := p.ok (EnvR.keep (fun q hq => upd_ne (nD q hq)) (EnvR.mono ((x1.trans x2).trans x3) he)) rx
    show wipe ((σ.set i none).set i (some xv)) [i] = wipe σ [i] ∧ _
    refine ⟨by show ((σ.set i none).set i (some xv)).set i none = σ.set i none; rw [set_set', set_set'], ?_⟩
    rw [show (wipe σ [i]).set i (some xv) = σ.set i (some xv) from set_set']
    cases et : t (p.put γ x) with
    | none =>
      rw [et] at go
      cases go
    | some b =>
      rw [et] at go
      simp only [Option.bind_some] at go
      refine ⟨_, G3, L, _, b, w3, er3, et, fun G4 H4 x4 w4 => ?_⟩
      cases b with
      | false =>
        simp only [Bool.false_eq_true, if_false] at go ⊢
        exact ⟨G4, acc, ys, rest, (x2.trans x3).trans x4, w4, Paired.mono (fun _ _ z => Rep.mono (x3.trans x4) z) r2, by omega, go, rfl⟩
      | true =>
        simp only [if_true] at go ⊢
        cases ee : e (p.put γ x) with
        | none =>
          rw [ee] at go
          cases go
        | some y =>
          rw [ee] at go
          simp only [Option.bind_some] at go
          cases eg : lcGo (fun x => t (p.put γ x)) (fun x => e (p.put γ x)) (xs.drop (j + 1)) with
          | none =>
            rw [eg] at go
            cases go
          | some rest' =>
            rw [eg] at go
            simp only [Option.map_some] at go
            cases go
            refine ⟨_, G4, L, _, y, w4, EnvR.mono x4 er3, ee, fun yv G5 H5 x5 w5 ry => ?_⟩
            refine ⟨acc, w5.f _ _ upd_same, Nat.lt_of_lt_of_le (Nat.lt_of_le_of_lt hacc (Nat.lt_of_lt_of_le hlt hlen)) line_ge, G5, acc ++ [yv], ys ++ [y], rest', ((x2.trans x3).trans x4).trans x5, ?_,
              paired_app (Paired.mono (fun _ _ z => Rep.mono ((x3.trans x4).trans x5) z) r2) (.cons ry .nil), ?_, (by first | exact eg | rfl), ?_⟩
            · have := w5.set (u := .lst (acc ++ [yv])) upd_same
              rw [upd_upd] at this
              exact this
            · rw [List.length_append, List.length_singleton]
              omega
            · rw [List.append_assoc]
              rfl
  · have hj' : j = xs.length := by omega
    subst hj'
    rw [List.drop_length] at go
    unfold lcGo at go
    cases go
    refine .inl ⟨(wl (upd F D (.lst acc)) G2 H' x2 w2 xs.length).2 (Nat.le_refl _), ?_⟩
    rw [List.append_nil] at q
    exact q _ G2 H' (x1.trans x2) (w2.less (fDx acc)) ⟨D, acc, rfl, fd.2, w2.d D _ upd_same, w2.f _ _ upd_same, r2⟩
variable {X : Cx} {elt iter : Expr} {ifs : List Expr} {scope : Scope} {pos tpos : Pos} {x : Str}
/-- [elt for x in iter if ..], x in slot i; the draw goes on -/
theorem mf_lc (c : PB i Γ τ Γe) {g : Γ → Option (List τ × Γ)} {t : Γe → Option (Bool × Γe)} {e : Γe → Option (α × Γe)} (hc : X.calm = true) (hN : X.N.Nodup) (hi : MI X (.Name x tpos) iter g) (ok : blkC X.N X.env.scope scope [(x, i)] = true)
    (hg : ∀ (s : Shared) (H : Hp) (C : Addr) (cl : List (Str × Addr)) (fp : List Addr), PG (X.blk s H scope (compEnvC scope cl C X.env) fp) (.Name x tpos) (gName i))
    (ht : ∀ (s : Shared) (H : Hp) (C : Addr) (cl : List (Str × Addr)) (fp : List Addr), MTs (X.blk s H scope (compEnvC scope cl C X.env) fp) ifs t)
    (he : ∀ (s : Shared) (H : Hp) (C : Addr) (cl : List (Str × Addr)) (fp : List Addr), ME (X.blk s H scope (compEnvC scope cl C X.env) fp) elt e) (hs : ∀ x, foldedSetIterable iter X.env x = pure x := by intro _; rfl) :
    MO X (.ListComp elt [⟨.Name x tpos, iter, ifs, 0⟩] scope pos) (RF X.K) (mlc c.p c.b g t e) :=
  PE.le (pe_lc (own := [(x, i)]) (g := gName i) hc hN hi (blkOk_by ok) hg ht he hs) fun σ H Q h => tlc h
theorem vf_lc (p : Put i Γ τ Γe) {g : Γ → Option (List τ)} {t : Γe → Option Bool} {e : Γe → Option α} (hc : X.calm = true) (hN : X.N.Nodup) (hi : VI X (.Name x tpos) iter g) (ok : blkC X.N X.env.scope scope [(x, i)] = true)
    (hg : ∀ (s : Shared) (H : Hp) (C : Addr) (cl : List (Str × Addr)) (fp : List Addr), PG (X.blk s H scope (compEnvC scope cl C X.env) fp) (.Name x tpos) (gName i))
    (ht : ∀ (s : Shared) (H : Hp) (C : Addr) (cl : List (Str × Addr)) (fp : List Addr), VTs (X.blk s H scope (compEnvC scope cl C X.env) fp) ifs t)
    (he : ∀ (s : Shared) (H : Hp) (C : Addr) (cl : List (Str × Addr)) (fp : List Addr), VE (X.blk s H scope (compEnvC scope cl C X.env) fp) elt e) (hs : ∀ x, foldedSetIterable iter X.env x = pure x := by intro _; rfl) :
    VF X (.ListComp elt [⟨.Name x tpos, iter, ifs, 0⟩] scope pos) (flc p g t e) :=
  PE.le (pe_lc (own := [(x, i)]) (g := gName i) hc hN hi (blkOk_by ok) hg ht he hs) fun σ H Q h => tlcp h
end
end Vx
namespace Vx
open Rep (rep)
open EnvR (er)
open PySem L2
/-! ### what a def must leave of the list that it was given: nothing, or the list of ints in slot 0 -/
class Md (S : Type) where
  own : S → Addr → Hp → Prop
  atp : Addr → L2.St → Prop
  okI : Nat → Bool
  keep : ∀ {p : Addr} {σ : L2.St} {i : Nat} {o : Option V}, okI i = true → atp p σ → atp p (σ.set i o)
instance : Md Unit := ⟨fun _ _ _ => True, fun _ _ => True, fun _ => true, fun _ h => h⟩
instance : Md (List Int) := ⟨fun s p F => F p = some (.lst (s.map V.int)), fun p σ => σ[0]? = some (some (.ref p)), fun i => match i with | 0 => false | _ => true, fun {p σ i o} h k => by
  cases i with
  | zero => cases h
  | succ n =>
    cases σ with
    | nil => cases k
    | cons x r => exact k⟩
class Hd (S : Type) [Md S] (Γ : Type) [EnvR Γ] where
  hd : Γ → S
  ok : ∀ {K : PySem.W.Frag} {G F : Hp} {L : List Addr} {σ : L2.St} {γ : Γ} {p : Addr}, er K G F L σ γ → Md.atp S p σ → Md.own (hd γ) p F
instance {Γ : Type} [EnvR Γ] : Hd Unit Γ := ⟨fun _ => (), fun _ _ => trivial⟩
theorem ints_of {K : PySem.W.Frag} {G : Hp} : ∀ {xs : List Int} {vs : List V}, PySem.Paired (rep K G) xs vs → vs = xs.map V.int
  | _, _, .nil => rfl
  | x :: xs, v :: vs, .cons r t => by
    have e : v = .int x := r
    rw [e, ints_of t]
    rfl
theorem of_ints {K : PySem.W.Frag} {G : Hp} : ∀ {xs : List Int}, PySem.Paired (rep K G) xs (xs.map V.int)
  | [] => .nil
  | _ :: _ => .cons rfl of_ints
instance {Γ : Type} [EnvR Γ] : Hd (List Int) (OL Int × Γ) := ⟨fun γ => γ.1.l, fun {K G F L σ γ p} h k => by
  obtain ⟨L1, L2, o, σ', h1, h2, ⟨q, vs, h3, h4, h5, h6⟩, _⟩ := h
  subst h2
  have e : o = some (V.ref p) := Option.some.inj k
  rw [h4] at e
  cases e
  show F p = some (.lst (γ.1.l.map V.int))
  rw [h5, ints_of h6]⟩
inductive Fl (Γ S ρ : Type) where
  | nx (γ : Γ)
  | rt (r : ρ) (s : S)
def Fl.bnd {Γ Γ' S ρ : Type} (x : Fl Γ S ρ) (k : Γ → Option (Fl Γ' S ρ)) : Option (Fl Γ' S ρ) := match x with
  | .nx γ => k γ
  | .rt r s => some (.rt r s)
/-- what else was owned is as it was -/
def Off (L : List Addr) (F F2 : Hp) : Prop := ∀ b o, b ∉ L → F b = some o → F2 b = some o
def Sub (L L2 : List Addr) (F : Hp) : Prop := ∀ b ∈ L2, b ∈ L ∨ F b = none
theorem Off.refl {L : List Addr} {F : Hp} : Off L F F := fun _ _ _ h => h
theorem Sub.refl {L : List Addr} {F : Hp} : Sub L L F := fun _ h => .inl h
theorem Off.trans {L L2 : List Addr} {F F2 F3 : Hp} (a : Off L F F2) (s : Sub L L2 F) (b : Off L2 F2 F3) : Off L F F3 := fun c o h e => b c o (fun z => by
  rcases s c z with q | q
  · exact h q
  · rw [q] at e
    cases e) (a c o h e)
theorem Sub.trans {L L2 L3 : List Addr} {F F2 : Hp} (a : Sub L L2 F) (s : Sub L2 L3 F2) (o : Off L F F2) : Sub L L3 F := fun c h => by
  rcases s c h with q | q
  · exact a c q
  · by_cases hL : c ∈ L
    · exact .inl hL
    · cases e : F c with
      | none => exact .inr rfl
      | some u =>
        rw [o c u hL e] at q
        cases q
theorem Off.of {L : List Addr} {F F2 : Hp} (h : ∀ b, b ∉ L → F2 b = F b) : Off L F F2 := fun b o hb e => (h b hb).trans e
section
variable {Γ Γ' Γ'' S ρ : Type} [EnvR Γ] [EnvR Γ'] [EnvR Γ''] [Md S] {α β τ : Type}
def Post (K : PySem.W.Frag) (R : RR ρ) (D : Ends) (F G : Hp) (L : List Addr) (p : Addr) : Fl Γ' S ρ → Prop
  | .nx γ' => ∀ σ' L2 F2 G2 H2, Ex G G2 → W F2 G2 H2 → L2.Nodup → Off L F F2 → Sub L L2 F → er K G2 F2 L2 σ' γ' → Md.atp S p σ' → D.nx σ' H2
  | .rt x s => ∀ v F2 G2 H2, Ex G G2 → W F2 G2 H2 → Off L F F2 → Md.own s p F2 → R F2 G2 H2 x v → D.rt v H2
theorem Post.trans {K : PySem.W.Frag} {R : RR ρ} {D : Ends} {F G F2 G2 : Hp} {L L2 : List Addr} {p : Addr} {r : Fl Γ' S ρ} (h : Post K R D F G L p r) (x : Ex G G2) (o : Off L F F2) (s : Sub L L2 F) : Post K R D F2 G2 L2 p r := by
  cases r with
  | nx γ => exact fun σ' L3 F3 G3 H3 x3 w3 n3 o3 s3 er3 at3 => h σ' L3 F3 G3 H3 (x.trans x3) w3 n3 (o.trans s o3) (s.trans s3 o) er3 at3
  | rt y t => exact fun v F3 G3 H3 x3 w3 o3 ow r3 => h v F3 G3 H3 (x.trans x3) w3 (o.trans s o3) ow r3
def tst (K : PySem.W.Frag) (S : Type) [Md S] (R : RR ρ) (f : Γ → Option (Fl Γ' S ρ)) : TS := fun D σ H => ∃ F G L γ p r, W F G H ∧ L.Nodup ∧ er K G F L σ γ ∧ Md.atp S p σ ∧ f γ = some r ∧ Post K R D F G L p r
abbrev VS (X : Cx) (S : Type) [Md S] (R : RR ρ) (st : Stmt) (f : Γ → Option (Fl Γ' S ρ)) : Prop := PS X st (tst X.K S R f)
abbrev VSs (X : Cx) (S : Type) [Md S] (R : RR ρ) (st : List Stmt) (f : Γ → Option (Fl Γ' S ρ)) : Prop := PSs X st (tst X.K S R f)
variable {X : Cx} {R : RR ρ} {e a b c : Expr} {pos : Pos} {st : Stmt} {sts : List Stmt}
/-! ### blocks -/
def snil (w : Wk Γ Γ') : Γ → Option (Fl Γ' S ρ) := fun γ => some (.nx (w.wk γ))
def sseq (f : Γ → Option (Fl Γ' S ρ)) (g : Γ' → Option (Fl Γ'' S ρ)) : Γ → Option (Fl Γ'' S ρ) := fun γ => (f γ).bind fun x => x.bnd g
theorem vs_nil (w : Wk Γ Γ') : VSs X S R [] (snil (S := S) w) := PSs.le pss_nil fun D σ H ⟨F, G, L, γ, p, r, wd, nd, he, ha, ea, k⟩ => by
  cases ea
  obtain ⟨L', sl, e'⟩ := w.ok he
  exact k σ L' F G H (Ex.refl _) wd (nd.sublist sl) Off.refl (fun b hb => .inl (sl.subset hb)) e' ha
theorem vs_cons {f : Γ → Option (Fl Γ' S ρ)} {g : Γ' → Option (Fl Γ'' S ρ)} (h : VS X S R st f) (k : VSs X S R sts g) : VSs X S R (st :: sts) (sseq f g) := PSs.le (pss_cons h k) fun D σ H ⟨F, G, L, γ, p, r, wd, nd, he, ha, ea, q⟩ => by
  unfold sseq at ea
  cases e1 : f γ with
  | none => rw [e1] at ea; cases ea
  | some x =>
    rw [e1] at ea
    refine ⟨F, G, L, γ, p, x, wd, nd, he, ha, e1, ?_⟩
    cases x with
    | nx γ' => exact fun σ' L2 F2 G2 H2 x2 w2 n2 o2 s2 er2 at2 => ⟨F2, G2, L2, γ', p, r, w2, n2, er2, at2, ea, q.trans x2 o2 s2⟩
    | rt x s =>
      cases ea
      exact q
/-- a statement that is never reached -/
def snever : Γ → Option (Fl Γ' S ρ) := fun _ => none
/-! ### x = e -/
def sset {i : Nat} [Rep α] (p : Put i Γ α Γ') (f : Γ → Option α) : Γ → Option (Fl Γ' S ρ) := fun γ => (f γ).map fun a => .nx (p.put γ a)
def ssetm {i : Nat} [Rep α] (p : Put i Γ α Γ') (f : Γ → Option (α × Γ)) : Γ → Option (Fl Γ' S ρ) := fun γ => (f γ).map fun (a, γ) => .nx (p.put γ a)
/-- the own cells are younger than what comes now -/
theorem vs_setM {i : Nat} [Rep α] (pt : Put i Γ α Γ') {x : Str} {pos' : Pos} {f : Γ → Option (α × Γ)} (hN : X.N.Nodup) (h : ME X e f) (hi : X.N[i]? = some x := by rfl) (hx : Loc X.env.scope x := by first | exact Or.inl rfl | exact Or.inr rfl) (ho : Md.okI S i = true := by rfl) (hs : swapsWith e (some (.Name x pos')) pos.line X.env = pure false := by rfl)
    (hf : X.fn x = true ∨ X.env.scope.names.lookup x = some .local := by first | exact .inl rfl | exact .inr rfl) : VS X S R (.Assign [.Name x pos'] e pos) (ssetm (S := S) pt f) :=
  PS.le (ps_set hN hi hx h hs hf) fun D σ H ⟨F, G, L, γ, p, r, wd, nd, he, ha, ea, k⟩ => by
    unfold ssetm at ea
    cases e1 : f γ with
    | none => rw [e1] at ea; cases ea
    | some y =>
      rw [e1] at ea
      cases ea
      refine ⟨F, G, L, γ, y.1, y.2, wd, he, e1, fun v F2 G2 H2 x2 w2 of er2 r2 => ?_⟩
      exact k _ L F2 G2 H2 x2 w2 nd (Off.of of) Sub.refl (pt.ok er2 r2) (Md.keep ho ha)
theorem vs_set {i : Nat} [Rep α] (pt : Put i Γ α Γ') {x : Str} {pos' : Pos} {f : Γ → Option α} (hN : X.N.Nodup) (h : VE X e f) (hi : X.N[i]? = some x := by rfl) (hx : Loc X.env.scope x := by first | exact Or.inl rfl | exact Or.inr rfl) (ho : Md.okI S i = true := by rfl) (hs : swapsWith e (some (.Name x pos')) pos.line X.env = pure false := by rfl)
    (hf : X.fn x = true ∨ X.env.scope.names.lookup x = some .local := by first | exact .inl rfl | exact .inr rfl) : VS X S R (.Assign [.Name x pos'] e pos) (sset (S := S) pt f) :=
  PS.le (ps_set hN hi hx h hs hf) fun D σ H ⟨F, G, L, γ, p, r, wd, nd, he, ha, ea, k⟩ => by
    unfold sset at ea
    cases e1 : f γ with
    | none => rw [e1] at ea; cases ea
    | some y =>
      rw [e1] at ea
      cases ea
      refine ⟨F, G, L, γ, y, wd, he, e1, fun v G2 H2 x2 w2 r2 => ?_⟩
      exact k _ L F G2 H2 x2 w2 nd Off.refl Sub.refl (pt.ok (EnvR.mono x2 he) r2) (Md.keep ho ha)
/-! ### return -/
def sret [Hd S Γ] (f : Γ → Option ρ) : Γ → Option (Fl Γ' S ρ) := fun γ => (f γ).map fun a => .rt a (Hd.hd γ)
def sretm [Hd S Γ] (f : Γ → Option (ρ × Γ)) : Γ → Option (Fl Γ' S ρ) := fun γ => (f γ).map fun (a, γ) => .rt a (Hd.hd γ)
theorem vs_ret [Hd S Γ] {f : Γ → Option ρ} (h : VO X e R f) : VS X S R (.Return (some e) pos) (sret (S := S) (Γ' := Γ') f) := PS.le (ps_ret h) fun D σ H ⟨F, G, L, γ, p, r, wd, nd, he, ha, ea, k⟩ => by
  unfold sret at ea
  cases e1 : f γ with
  | none => rw [e1] at ea; cases ea
  | some y =>
    rw [e1] at ea
    cases ea
    exact ⟨F, G, L, γ, y, wd, he, e1, fun v G2 H2 x2 w2 r2 => k v F G2 H2 x2 w2 Off.refl (Hd.ok he ha) r2⟩
theorem vs_retM [Hd S Γ] {f : Γ → Option (ρ × Γ)} (h : MO X e R f) : VS X S R (.Return (some e) pos) (sretm (S := S) (Γ' := Γ') f) := PS.le (ps_ret h) fun D σ H ⟨F, G, L, γ, p, r, wd, nd, he, ha, ea, k⟩ => by
  unfold sretm at ea
  cases e1 : f γ with
  | none => rw [e1] at ea; cases ea
  | some y =>
    rw [e1] at ea
    cases ea
    exact ⟨F, G, L, γ, y.1, y.2, wd, he, e1, fun v F2 G2 H2 x2 w2 of er2 r2 => k v F2 G2 H2 x2 w2 (Off.of of) (Hd.ok er2 ha) r2⟩
/-! ### if -/
def sif (c : Γ → Option Bool) (f g : Γ → Option (Fl Γ' S ρ)) : Γ → Option (Fl Γ' S ρ) := fun γ => (c γ).bind fun b => if b then f γ else g γ
def sifm (c : Γ → Option (Bool × Γ)) (f g : Γ → Option (Fl Γ' S ρ)) : Γ → Option (Fl Γ' S ρ) := fun γ => (c γ).bind fun (b, γ) => if b then f γ else g γ
theorem vs_if {cf : Γ → Option Bool} {f g : Γ → Option (Fl Γ' S ρ)} {bs cs : List Stmt} (hc : VT X c cf) (hf : VSs X S R bs f) (hg : VSs X S R cs g) : VS X S R (.If c bs cs pos) (sif cf f g) := PS.le (ps_if hc hf hg) fun D σ H ⟨F, G, L, γ, p, r, wd, nd, he, ha, ea, k⟩ => by
  unfold sif at ea
  cases e1 : cf γ with
  | none => rw [e1] at ea; cases ea
  | some y =>
    rw [e1] at ea
    refine ⟨F, G, L, γ, y, wd, he, e1, fun G2 H2 x2 w2 => ?_⟩
    have k' := k.trans x2 (Off.refl (F := F)) (Sub.refl (L := L))
    cases y with
    | true => exact ⟨F, G2, L, γ, p, r, w2, nd, EnvR.mono x2 he, ha, ea, k'⟩
    | false => exact ⟨F, G2, L, γ, p, r, w2, nd, EnvR.mono x2 he, ha, ea, k'⟩
/-! ### an expression alone -/
def sex {α : Type} (f : Γ → Option α) : Γ → Option (Fl Γ S ρ) := fun γ => (f γ).map fun _ => .nx γ
def sexm {α : Type} (f : Γ → Option (α × Γ)) : Γ → Option (Fl Γ S ρ) := fun γ => (f γ).map fun (_, γ) => .nx γ
theorem vs_ex {α : Type} {R' : RR α} {f : Γ → Option α} (h : VO X e R' f) (hs : swapsWith e none pos.line X.env = pure false := by rfl) : VS X S R (.Expr e pos) (sex (S := S) f) := PS.le (ps_expr h hs) fun D σ H ⟨F, G, L, γ, p, r, wd, nd, he, ha, ea, k⟩ => by
  unfold sex at ea
  cases e1 : f γ with
  | none => rw [e1] at ea; cases ea
  | some y =>
    rw [e1] at ea
    cases ea
    exact ⟨F, G, L, γ, y, wd, he, e1, fun v G2 H2 x2 w2 r2 => k σ L F G2 H2 x2 w2 nd Off.refl Sub.refl (EnvR.mono x2 he) ha⟩
/-! ### for -/
def forL {S : Type} (step : τ → Γ → Option (Fl Γ S ρ)) : List τ → Γ → Option (Fl Γ S ρ)
  | [], γ => some (.nx γ)
  | x :: xs, γ => (step x γ).bind fun r => r.bnd (forL step xs)
/-- how an item comes to the target's slots -/
structure Tg (Γ τ Γe : Type) [EnvR Γ] [Rep τ] [EnvR Γe] (K : PySem.W.Frag) (S : Type) [Md S] (g : TG) where
  put : Γ → τ → Γe
  ok : ∀ {F G H : Hp} {L : List Addr} {σ : L2.St} {γ : Γ} {t : τ} {v : V} {p : Addr} {Q : L2.St → Hp → Prop}, W F G H → er K G F L σ γ → Md.atp S p σ → rep K G t v → (∀ σ', er K G F L σ' (put γ t) → Md.atp S p σ' → Q σ' H) → g v σ H Q
def tgName {i : Nat} [Rep τ] {Γe : Type} [EnvR Γe] {K : PySem.W.Frag} (p : Put i Γ τ Γe) (ho : Md.okI S i = true := by rfl) : Tg Γ τ Γe K S (gName i) := ⟨p.put, fun w he ha r k => k _ (p.ok he r) (Md.keep ho ha)⟩
def sfor [Rep τ] {Γh Γe : Type} [EnvR Γh] [EnvR Γe] (w : Wk Γ Γh) (put : Γh → τ → Γe) (g : Γ → Option (List τ)) (f : Γe → Option (Fl Γh S ρ)) : Γ → Option (Fl Γh S ρ) := fun γ => (g γ).bind fun xs => forL (fun x γ => f (put γ x)) xs (w.wk γ)
def sform [Rep τ] {Γh Γe : Type} [EnvR Γh] [EnvR Γe] (w : Wk Γ Γh) (put : Γh → τ → Γe) (g : Γ → Option (List τ × Γ)) (f : Γe → Option (Fl Γh S ρ)) : Γ → Option (Fl Γh S ρ) := fun γ => (g γ).bind fun (xs, γ) => forL (fun x γ => f (put γ x)) xs (w.wk γ)
theorem tfor [Rep τ] {Γh Γe : Type} [EnvR Γh] [EnvR Γe] {K : PySem.W.Frag} {w : Wk Γ Γh} {tg : TG} (T : Tg Γh τ Γe K S tg) {g : Γ → Option (List τ × Γ)} {f : Γe → Option (Fl Γh S ρ)} {D : Ends} {σ : L2.St} {H : Hp} (h : tst K S R (sform w T.put g f) D σ H) :
    tFor (tim K g) tg (tst K S R f) D σ H := by
  obtain ⟨F, G, L, γ, p, r, wd, nd, he, ha, ea, k⟩ := h
  unfold sform at ea
  cases e1 : g γ with
  | none => rw [e1] at ea; cases ea
  | some y =>
  obtain ⟨xs, γ1⟩ := y
  rw [e1] at ea
  simp only [Option.bind_some] at ea
  refine ⟨F, G, L, γ, xs, γ1, wd, he, e1, fun J F1 G1 H1 x1 w1 of1 er1 wl => ?_⟩
  refine ⟨fun j m σ' H' => m = xs.length - j ∧ j ≤ xs.length ∧ ∃ F2 G2 L2 γ2, Ex G1 G2 ∧ W F2 G2 H' ∧ L2.Nodup ∧ Off L F F2 ∧ Sub L L2 F ∧ er K G2 F2 L2 σ' γ2 ∧ Md.atp S p σ' ∧ forL (fun x γ => f (T.put γ x)) (xs.drop j) γ2 = some r, ?_, ?_⟩
  · obtain ⟨L', sl, er'⟩ := w.ok er1
    exact ⟨xs.length, by simp, Nat.zero_le _, F1, G1, L', w.wk γ1, Ex.refl _, w1, nd.sublist sl, Off.of of1, fun b hb => .inl (sl.subset hb), er', ha, ea⟩
  · rintro j m σ' H' ⟨rfl, hj, F2, G2, L2, γ2, x2, w2, n2, o2, s2, er2, at2, go⟩
    by_cases hlt : j < xs.length
    · obtain ⟨x, hx⟩ : ∃ x, xs[j]? = some x := ⟨xs[j], List.getElem?_eq_getElem hlt⟩
      obtain ⟨hgo, hyl⟩ := (wl F2 G2 H' x2 w2 j).1 x hx
      have hdrop : xs.drop j = x :: xs.drop (j + 1) := by
        rw [List.drop_eq_getElem_cons hlt]
        have : xs[j] = x := Option.some.inj ((List.getElem?_eq_getElem hlt).symm.trans hx)
        rw [this]
      rw [hdrop] at go
      unfold forL at go
      cases e2 : f (T.put γ2 x) with
      | none =>
        simp only [e2] at go
        cases go
      | some fr =>
      simp only [e2, Option.bind_some] at go
      refine .inr ⟨hgo, fun σ' H3 => ∃ F2 G2 L2 γ2, Ex G1 G2 ∧ W F2 G2 H3 ∧ L2.Nodup ∧ Off L F F2 ∧ Sub L L2 F ∧ er K G2 F2 L2 σ' γ2 ∧ Md.atp S p σ' ∧ forL (fun x γ => f (T.put γ x)) (xs.drop (j + 1)) γ2 = some r,
        fun σ' H3 z => ⟨xs.length - (j + 1), by omega, rfl, hlt, z⟩, fun xv H3 hy => ?_⟩
      obtain ⟨G3, x3, w3, rx⟩ := hyl xv H3 hy
      refine T.ok w3 (EnvR.mono x3 er2) at2 rx fun σ4 er4 at4 => ?_
      refine ⟨F2, G3, L2, _, p, fr, w3, n2, er4, at4, e2, ?_⟩
      cases fr with
      | nx γ5 => exact fun σ5 L5 F5 G5 H5 x5 w5 n5 o5 s5 er5 at5 => ⟨F5, G5, L5, γ5, (x2.trans x3).trans x5, w5, n5, o2.trans s2 o5, s2.trans s5 o2, er5, at5, go⟩
      | rt y s =>
        cases go
        exact fun v F5 G5 H5 x5 w5 o5 ow r5 => k v F5 G5 H5 (((x1.trans x2).trans x3).trans x5) w5 (o2.trans s2 o5) ow r5
    · have hj' : j = xs.length := by omega
      subst hj'
      rw [List.drop_length] at go
      unfold forL at go
      cases go
      exact .inl ⟨(wl F2 G2 H' x2 w2 xs.length).2 (Nat.le_refl _), k σ' L2 F2 G2 H' (x1.trans x2) w2 n2 o2 s2 er2 at2⟩
end
end Vx
namespace Vx
open Rep (rep)
open EnvR (er)
open PySem L2
/-! ### lists of one's own -/
structure Own (i : Nat) (Γ α Γd : Type) [EnvR Γ] [Rep α] [EnvR Γd] where
  get : Γ → List α
  set : Γ → List α → Γ
  drop : Γ → Γd
  ok : ∀ {K : PySem.W.Frag} {G F : Hp} {L : List Addr} {σ : L2.St} {γ : Γ}, er K G F L σ γ → ∃ q vs, σ[i]? = some (some (.ref q)) ∧ q ∈ L ∧ F q = some (.lst vs) ∧ PySem.Paired (rep K G) (get γ) vs ∧
    (∀ {G' : Hp} {ys : List α} {vs' : List V}, Ex G G' → PySem.Paired (rep K G') ys vs' → er K G' (upd F q (.lst vs')) L σ (set γ ys)) ∧
    ∃ L', (∀ b ∈ L', b ∈ L ∧ b ≠ q) ∧ L'.Sublist L ∧ er K G (del F q) L' σ (drop γ)
def oz {Γ α : Type} [EnvR Γ] [Rep α] : Own 0 (OL α × Γ) α (Any × Γ) := ⟨fun γ => γ.1.l, fun γ ys => (⟨ys⟩, γ.2), fun γ => (⟨⟩, γ.2), fun {K G F L σ γ} ⟨L1, L2, o, σ', h1, h2, ⟨q, vs, h3, h4, h5, h6⟩, h7, h8⟩ => by
  subst h2
  have hq : q ∉ L2 := h8 q (by rw [h3]; exact List.mem_singleton.mpr rfl)
  refine ⟨q, vs, by rw [h4]; rfl, by rw [h1, h3]; exact List.mem_append_left _ (List.mem_singleton.mpr rfl), h5, h6, fun {G' ys vs'} e r => ?_, L2, fun b hb => ⟨by rw [h1]; exact List.mem_append_right _ hb, fun z => hq (by rw [← z]; exact hb)⟩, by rw [h1]; exact List.sublist_append_right _ _, ?_⟩
  · exact ⟨L1, L2, o, σ', h1, rfl, ⟨q, vs', h3, h4, upd_same, r⟩, EnvR.keep (fun b hb => upd_ne (fun z => hq (by rw [← z]; exact hb))) (EnvR.mono e h7), h8⟩
  · exact ⟨[], L2, o, σ', rfl, rfl, rfl, EnvR.keep (fun b hb => del_ne (fun z => hq (by rw [← z]; exact hb))) h7, fun _ hb => by cases hb⟩⟩
def os {i : Nat} {τ Γ α Γd : Type} [Slot τ] [EnvR Γ] [Rep α] [EnvR Γd] (w : Own i Γ α Γd) : Own (i + 1) (τ × Γ) α (τ × Γd) := ⟨fun γ => w.get γ.2, fun γ ys => (γ.1, w.set γ.2 ys), fun γ => (γ.1, w.drop γ.2), fun {K G F L σ γ} ⟨L1, L2, o, σ', h1, h2, h3, h4, h5⟩ => by
  obtain ⟨q, vs, k1, k2, k3, k4, k5, L', k6, k7, k8⟩ := w.ok h4
  subst h2
  have hq : q ∉ L1 := fun z => h5 q z k2
  refine ⟨q, vs, k1, by rw [h1]; exact List.mem_append_right _ k2, k3, k4, fun {G' ys vs'} e r => ?_, L1 ++ L', fun b hb => ?_, by rw [h1]; exact List.Sublist.append (List.Sublist.refl _) k7, ?_⟩
  · exact ⟨L1, L2, o, σ', h1, rfl, Slot.keep (fun b hb => upd_ne (fun z => hq (by rw [← z]; exact hb))) (Slot.mono e h3), k5 e r, h5⟩
  · rcases List.mem_append.mp hb with h | h
    · exact ⟨by rw [h1]; exact List.mem_append_left _ h, fun z => hq (by rw [← z]; exact h)⟩
    · exact ⟨by rw [h1]; exact List.mem_append_right _ (k6 b h).1, (k6 b h).2⟩
  · exact ⟨L1, L', o, σ', rfl, rfl, Slot.keep (fun b hb => del_ne (fun z => hq (by rw [← z]; exact hb))) h3, k8, fun b hb hb' => h5 b hb (k6 b hb').1⟩⟩
/-- the i-th slot is given a list just made -/
structure PutO (i : Nat) (Γ α Γ' : Type) [EnvR Γ] [Rep α] [EnvR Γ'] where
  put : Γ → List α → Γ'
  ok : ∀ {K : PySem.W.Frag} {G F : Hp} {L : List Addr} {σ : L2.St} {γ : Γ} {q : Addr} {xs : List α} {vs : List V}, er K G F L σ γ → q ∉ L → F q = some (.lst vs) → PySem.Paired (rep K G) xs vs →
    ∃ L', (∀ b ∈ L', b ∈ L ∨ b = q) ∧ (L.Nodup → L'.Nodup) ∧ er K G F L' (σ.set i (some (.ref q))) (put γ xs)
def poz {τ₀ Γ α : Type} [Slot τ₀] [EnvR Γ] [Rep α] : PutO 0 (τ₀ × Γ) α (OL α × Γ) := ⟨fun γ xs => (⟨xs⟩, γ.2), fun {K G F L σ γ q xs vs} ⟨L1, L2, o, σ', h1, h2, h3, h4, h5⟩ hq hF r => by
  subst h2
  have hq2 : q ∉ L2 := fun z => hq (by rw [h1]; exact List.mem_append_right _ z)
  exact ⟨q :: L2, fun b hb => by
    rcases List.mem_cons.mp hb with h | h
    · exact .inr h
    · exact .inl (by rw [h1]; exact List.mem_append_right _ h), fun nd => List.nodup_cons.mpr ⟨hq2, by rw [h1] at nd; exact (List.nodup_append.mp nd).2.1⟩, [q], L2, _, σ', rfl, rfl, ⟨q, vs, rfl, rfl, hF, r⟩, h4, fun b hb => by
      rw [List.mem_singleton.mp hb]
      exact hq2⟩⟩
def pos' {i : Nat} {τ Γ α Γ' : Type} [Slot τ] [EnvR Γ] [Rep α] [EnvR Γ'] (p : PutO i Γ α Γ') : PutO (i + 1) (τ × Γ) α (τ × Γ') := ⟨fun γ xs => (γ.1, p.put γ.2 xs), fun {K G F L σ γ q xs vs} ⟨L1, L2, o, σ', h1, h2, h3, h4, h5⟩ hq hF r => by
  subst h2
  have hq2 : q ∉ L2 := fun z => hq (by rw [h1]; exact List.mem_append_right _ z)
  have hq1 : q ∉ L1 := fun z => hq (by rw [h1]; exact List.mem_append_left _ z)
  obtain ⟨L', k1, k2, k3⟩ := p.ok h4 hq2 hF r
  have dj : ∀ b ∈ L1, b ∉ L' := fun b hb hb' => by
    rcases k1 b hb' with h | h
    · exact h5 b hb h
    · exact hq1 (by rw [← h]; exact hb)
  refine ⟨L1 ++ L', fun b hb => ?_, fun nd => ?_, L1, L', o, _, rfl, rfl, h3, k3, dj⟩
  · rcases List.mem_append.mp hb with h | h
    · exact .inl (by rw [h1]; exact List.mem_append_left _ h)
    · rcases k1 b h with h | h
      · exact .inl (by rw [h1]; exact List.mem_append_right _ h)
      · exact .inr h
  · rw [h1] at nd
    obtain ⟨n1, n2, n3⟩ := List.nodup_append.mp nd
    exact List.nodup_append.mpr ⟨n1, k2 n2, fun a ha b hb z => dj a ha (by rw [z]; exact hb)⟩⟩
section
variable {Γ Γ' Γ'' Γd S ρ : Type} [EnvR Γ] [EnvR Γ'] [EnvR Γ''] [EnvR Γd] [Md S] {α β τ : Type} [Rep α] [Rep τ]
variable {X : Cx} {R : RR ρ} {e a b c : Expr} {pos : Pos} {st : Stmt} {sts : List Stmt} {i : Nat}
/-- one's own list, read -/
def fown (o : Own i Γ α Γd) : Γ → Option (List α) := fun γ => some (o.get γ)
theorem vl_own (o : Own i Γ α Γd) {x : Str} (hN : X.N[i]? = some x := by rfl) (hv : Vis X.env.scope x := by first | exact Or.inl rfl | exact Or.inr (Or.inl rfl) | exact Or.inr (Or.inr rfl)) (hd : (x == ("__debug__" : Str)) = false := by decide)
    (hcd : (x == ("__classdict__" : Str)) = false := by decide) : VL X (.Name x pos) (fown o) := PE.le (pe_var hN hv hd hcd) fun σ H Q ⟨F, G, L, γ, a, w, h, ea, q⟩ => by
  obtain ⟨p, vs, k1, k2, k3, k4, _⟩ := o.ok h
  cases ea
  exact ⟨.ref p, k1, q _ G H (Ex.refl G) w ⟨p, vs, rfl, .inr k3, k4⟩⟩
/-- x = a list just made, to be changed -/
def snew (p : PutO i Γ α Γ') (f : Γ → Option (List α)) : Γ → Option (Fl Γ' S ρ) := fun γ => (f γ).map fun xs => .nx (p.put γ xs)
theorem W.take {F G H : Hp} {p : Addr} {o : HO} (w : W F G H) (hF : F p = none) (hG : G p = none) (hH : H p = some o) : W (upd F p o) G H := ⟨w.g, fun a u q => by
  by_cases z : a = p
  · subst z
    rw [upd_same] at q
    rw [← q]
    exact hH
  · rw [upd_ne z] at q
    exact w.f a u q, fun a u q => by
  by_cases z : a = p
  · subst z
    exact hG
  · rw [upd_ne z] at q
    exact w.d a u q⟩
theorem off_new {L : List Addr} {F : Hp} {p : Addr} {o : HO} (h : F p = none) : Off L F (upd F p o) := fun b u _ e => by
  rw [upd_ne (ne_of_none e h)]
  exact e
theorem vs_new (pt : PutO i Γ α Γ') {x : Str} {pos' : Pos} {f : Γ → Option (List α)} (hN : X.N.Nodup) (h : VF X e f) (hi : X.N[i]? = some x := by rfl) (hx : Loc X.env.scope x := by first | exact Or.inl rfl | exact Or.inr rfl) (ho : Md.okI S i = true := by rfl) (hs : swapsWith e (some (.Name x pos')) pos.line X.env = pure false := by rfl)
    (hf : X.fn x = true ∨ X.env.scope.names.lookup x = some .local := by first | exact .inl rfl | exact .inr rfl) : VS X S R (.Assign [.Name x pos'] e pos) (snew (S := S) pt f) :=
  PS.le (ps_set hN hi hx h hs hf) fun D σ H ⟨F, G, L, γ, p, r, wd, nd, he, ha, ea, k⟩ => by
    unfold snew at ea
    cases e1 : f γ with
    | none => rw [e1] at ea; cases ea
    | some y =>
      rw [e1] at ea
      cases ea
      refine ⟨F, G, L, γ, y, wd, he, e1, fun v G2 H2 x2 w2 ⟨q, vs, ev, hF, hG, hH, r2⟩ => ?_⟩
      subst ev
      have hq : q ∉ L := fun z => EnvR.there he q z hF
      obtain ⟨L', l1, l2, l3⟩ := pt.ok (F := upd F q (.lst vs)) (EnvR.keep (fun b hb => upd_ne (fun z => hq (by rw [← z]; exact hb))) (EnvR.mono x2 he)) hq upd_same r2
      exact k _ L' (upd F q (.lst vs)) G2 H2 x2 (w2.take hF hG hH) (l2 nd) (off_new hF) (fun b hb => (l1 b hb).imp id fun z => by rw [z]; exact hF) l3 (Md.keep ho ha)
/-- found.append(e) -/
def sapp (o : Own i Γ α Γd) (f : Γ → Option (α × Γ)) : Γ → Option (Fl Γ S ρ) := fun γ => (f γ).bind fun (y, γ') => if (o.get γ').length < 100000 then some (.nx (o.set γ' (o.get γ' ++ [y]))) else none
theorem tyV_list {K : PySem.W.Frag} {H : Hp} {p : Addr} {vs : List V} (h : H p = some (.lst vs)) : tyV K "list" (.ref p) H := .inl ⟨rfl, _, SqL.of h⟩
theorem vs_app (o : Own i Γ α Γd) {f : Γ → Option (α × Γ)} {x : Str} {p1 p2 p3 : Pos} (h : ME X e f) (hN : X.N[i]? = some x := by rfl) (hv : Vis X.env.scope x := by first | exact Or.inl rfl | exact Or.inr (Or.inl rfl) | exact Or.inr (Or.inr rfl)) (hd : (x == ("__debug__" : Str)) = false := by decide)
    (hcd : (x == ("__classdict__" : Str)) = false := by decide) (hpe : ∀ t, PA X [e] t → PE X (.Call (.Attribute (.Name x p1) "append" p2) [e] [] p3) (tBM X.K "list" rAppend (tVar i) t)) (hs : swapsWith (.Call (.Attribute (.Name x p1) "append" p2) [e] [] p3) none pos.line X.env = pure false := by rfl)
    (he : starEach [e] X.env = (false, eval e X.env) :: starEach [] X.env := by rfl) : VS X S R (.Expr (.Call (.Attribute (.Name x p1) "append" p2) [e] [] p3) pos) (sapp (S := S) o f) :=
  PS.le (ps_expr (hpe _ (pa_cons h pa_nil he)) hs) fun D σ H ⟨F, G, L, γ, p, r, wd, nd, he, ha, ea, k⟩ => by
    unfold sapp at ea
    cases e1 : f γ with
    | none => rw [e1] at ea; cases ea
    | some y =>
      obtain ⟨y, γ'⟩ := y
      rw [e1] at ea
      simp only [Option.bind_some] at ea
      split at ea
      case isFalse => cases ea
      rename_i hlen
      cases ea
      obtain ⟨q, vs, k1, k2, k3, k4, k5, _⟩ := o.ok he
      refine ⟨.ref q, k1, tyV_list (wd.f _ _ k3), F, G, L, γ, y, γ', wd, he, e1, fun v F2 G2 H2 x2 w2 of er2 r2 => ?_⟩
      obtain ⟨q', vs', j1, j2, j3, j4, j5, _⟩ := o.ok er2
      rw [k1] at j1
      cases j1
      refine ⟨q, vs', v, rfl, rfl, w2.f _ _ j3, by rw [← paired_len j4]; exact Nat.lt_of_lt_of_le hlen line_ge, ?_⟩
      exact k σ L _ G2 _ x2 (w2.set j3) nd (fun b u hb e => by rw [upd_ne (fun z => hb (by rw [z]; exact k2))]; exact (of b hb).trans e) Sub.refl (j5 (Ex.refl _) (paired_app j4 (.cons r2 .nil))) ha
/-- return of a list of one's own -/
def sreto [Hd S Γd] {Γ2 : Type} (o : Own i Γ α Γd) : Γ → Option (Fl Γ2 S (List α)) := fun γ => some (.rt (o.get γ) (Hd.hd (o.drop γ)))
/-! ### for, while -/
theorem vs_forM {Γh Γe : Type} [EnvR Γh] [EnvR Γe] (w : Wk Γ Γh) {tg : TG} (T : Tg Γh τ Γe X.K S tg) {target iter : Expr} {body : List Stmt} {g : Γ → Option (List τ × Γ)} {f : Γe → Option (Fl Γh S ρ)} (hp : PassesOwn (model X.prog X.w) X.A X.env X.xe) (hc : X.calm = true) (hi : MI X target iter g) (hg : PG X target tg) (hb : VSs X S R body f)
    (hs : ∀ x, foldedSetIterable iter X.env x = pure x := by intro _; rfl) : VS X S R (.For target iter body [] pos) (sform (S := S) w T.put g f) := PS.le (ps_for hp hc hi hg hb hs) fun D σ H h => tfor T h
theorem vs_for {Γh Γe : Type} [EnvR Γh] [EnvR Γe] (w : Wk Γ Γh) {tg : TG} (T : Tg Γh τ Γe X.K S tg) {target iter : Expr} {body : List Stmt} {g : Γ → Option (List τ)} {f : Γe → Option (Fl Γh S ρ)} (hp : PassesOwn (model X.prog X.w) X.A X.env X.xe) (hc : X.calm = true) (hi : VI X target iter g) (hg : PG X target tg) (hb : VSs X S R body f)
    (hs : ∀ x, foldedSetIterable iter X.env x = pure x := by intro _; rfl) : VS X S R (.For target iter body [] pos) (sfor (S := S) w T.put g f) := PS.le (vs_forM w T hp hc (vi_up hi) hg hb hs) fun D σ H ⟨F, G, L, γ, p, r, wd, nd, he, ha, ea, k⟩ =>
    ⟨F, G, L, γ, p, r, wd, nd, he, ha, by
      rw [← ea]
      unfold sform sfor up
      cases g γ <;> rfl, k⟩
def whl (n : Nat) (c : Γ → Option Bool) (f : Γ → Option (Fl Γ S ρ)) : Γ → Option (Fl Γ S ρ) := match n with
  | 0 => fun _ => none
  | n + 1 => fun γ => (c γ).bind fun b => if b then (f γ).bind fun r => r.bnd (whl n c f) else some (.nx γ)
def swhl {Γh : Type} [EnvR Γh] (w : Wk Γ Γh) (n : Nat) (c : Γh → Option Bool) (f : Γh → Option (Fl Γh S ρ)) : Γ → Option (Fl Γh S ρ) := fun γ => whl n c f (w.wk γ)
theorem vs_while {Γh : Type} [EnvR Γh] (w : Wk Γ Γh) (n : Nat) {body : List Stmt} {cf : Γh → Option Bool} {f : Γh → Option (Fl Γh S ρ)} (hp : PassesOwn (model X.prog X.w) X.A X.env X.xe) (hc : VT X c cf) (hb : VSs X S R body f) : VS X S R (.While c body [] pos) (swhl (S := S) w n cf f) :=
  PS.le (ps_while hp hc hb) fun D σ H ⟨F, G, L, γ, p, r, wd, nd, he, ha, ea, k⟩ => by
    refine ⟨fun m σ' H' => ∃ F2 G2 L2 γ2, Ex G G2 ∧ W F2 G2 H' ∧ L2.Nodup ∧ Off L F F2 ∧ Sub L L2 F ∧ er X.K G2 F2 L2 σ' γ2 ∧ Md.atp S p σ' ∧ whl m cf f γ2 = some r, ?_, ?_⟩
    · obtain ⟨L', sl, er'⟩ := w.ok he
      exact ⟨n, F, G, L', w.wk γ, Ex.refl _, wd, nd.sublist sl, Off.refl, fun b hb => .inl (sl.subset hb), er', ha, ea⟩
    · rintro m σ' H' ⟨F2, G2, L2, γ2, x2, w2, n2, o2, s2, er2, at2, go⟩
      cases m with
      | zero => cases go
      | succ m =>
        unfold whl at go
        cases e1 : cf γ2 with
        | none => rw [e1] at go; cases go
        | some y =>
          rw [e1] at go
          simp only [Option.bind_some] at go
          refine ⟨F2, G2, L2, γ2, y, w2, er2, e1, fun G3 H3 x3 w3 => ?_⟩
          cases y with
          | false =>
            simp only [Bool.false_eq_true, if_false] at go ⊢
            cases go
            exact k σ' L2 F2 G3 H3 (x2.trans x3) w3 n2 o2 s2 (EnvR.mono x3 er2) at2
          | true =>
            simp only [if_true] at go ⊢
            cases e2 : f γ2 with
            | none => rw [e2] at go; cases go
            | some fr =>
              rw [e2] at go
              simp only [Option.bind_some] at go
              refine ⟨fun σ' H' => ∃ F2 G2 L2 γ2, Ex G G2 ∧ W F2 G2 H' ∧ L2.Nodup ∧ Off L F F2 ∧ Sub L L2 F ∧ er X.K G2 F2 L2 σ' γ2 ∧ Md.atp S p σ' ∧ whl m cf f γ2 = some r, fun σ' H' z => ⟨m, Nat.lt_succ_self _, z⟩, F2, G3, L2, γ2, p, fr, w3, n2, EnvR.mono x3 er2, at2, e2, ?_⟩
              cases fr with
              | nx γ5 => exact fun σ5 L5 F5 G5 H5 x5 w5 n5 o5 s5 er5 at5 => ⟨F5, G5, L5, γ5, (x2.trans x3).trans x5, w5, n5, o2.trans s2 o5, s2.trans s5 o2, er5, at5, go⟩
              | rt y s =>
                cases go
                exact fun v F5 G5 H5 x5 w5 o5 ow r5 => k v F5 G5 H5 ((x2.trans x3).trans x5) w5 (o2.trans s2 o5) ow r5
end
end Vx
namespace Vx
open Rep (rep)
open EnvR (er)
open PySem PySem.Spec PyProof.Rows L2
/-! ### defs that run where no repr is under way -/
structure GnOk (P : Program) (w : World) (K : PySem.W.Frag) (mg : Str → Option Value) (base : Heap) (k : Nat) (f : Addr) (fd : FuncData) (ps : List Str) (sp : Sp) : Prop where
  len : ∀ vs H Q E, sp vs H Q E → vs.length = ps.length
  run : ∀ (A : Around) (outer : List Env) (s : Shared) (H : Hp) (args : Args) (us : List Value) (vs : List V) (Q : VK), A.guards = some [] → Room k A → Env0 P w K mg base A outer s H →
    BindsTo s fd args (ps.zip us) → Vals vs us → sp vs H Q E0 → codeAny (model P w) A (.call (.ref f) args) (CR CX0 outer P w H s Q E0) s
theorem GnOk.mono {P : Program} {w : World} {K : PySem.W.Frag} {mg : Str → Option Value} {base : Heap} {j k : Nat} {f : Addr} {fd : FuncData} {ps : List Str} {sp : Sp} (F : GnOk P w K mg base j f fd ps sp) (h : j ≤ k) : GnOk P w K mg base k f fd ps sp :=
  ⟨F.len, fun A outer s H args us vs Q hg hr => F.run A outer s H args us vs Q hg (hr.mono h)⟩
/-- the context of a body -/
abbrev bodyX (P : Program) (w : World) (K : PySem.W.Frag) (mg : Str → Option Value) (base : Heap) (N : List Str) (qual : Str) (scope : Scope) (f : Addr) (cdv : Value) (A : Around) (outer : List Env) (s : Shared) (H : Hp) : Cx :=
  (cxOf CX0 P w K mg base N qual scope f cdv A outer s H E0).nox
theorem gn_of {P : Program} {w : World} {K : PySem.W.Frag} {mg : Str → Option Value} {base : Heap} {x qual : Str} {st : Stmt} {f : Addr} {fd : FuncData} {N ps : List Str} {k : Nat} {sp : Sp} (F : Fun K x qual st f fd) (S : FnScope N ps (defScope st))
    (len : ∀ vs H Q E, sp vs H Q E → vs.length = ps.length)
    (body : ∀ (cdv : Value) (A : Around) (outer : List Env) (s : Shared) (H : Hp) (vs : List V) (Q : VK), (A.deeper (envOfC qual (defScope st) s.heap.objs.size f cdv)).guards = some [] →
      Room k (A.deeper (envOfC qual (defScope st) s.heap.objs.size f cdv)) → sp vs H Q E0 →
      ∃ t, PSs (bodyX P w K mg base N qual (defScope st) f cdv A outer s H) (defBody st) t ∧ t { nx := fun _ H' => Q .non H', rt := Q } (start N vs) H) : GnOk P w K mg base (k + 1) f fd ps sp := by
  obtain ⟨oc, od, kV, doc, pm, an, cdv, ct, osl, rfl, lk, hcd⟩ := F.ex
  constructor
  · exact len
  intro A outer s H args us vs Q hgd hr e0 hb r hsp
  have hlv := len vs H Q E0 hsp
  have inK : K.In s.heap := e0.mod.kin.keeps (fun b o e => (e0.bs b o e).1)
  have nlim : s.heap.NoLimit := e0.mod.nolimit.keeps (fun b o e => (e0.bs b o e).1)
  have kinds : ∀ y ∈ ps.zip us, (defScope st).names.lookup y.1 = some .local ∨
      ((defScope st).names.lookup y.1 = some .cell ∧ ((cellsFrom (s.heap.objs.size + 1) (defScope st).names []).lookup y.1).isSome = true) := by
    intro y hy
    cases S.par y.1 (List.of_mem_zip hy).1 with
    | inl q => exact Or.inl q
    | inr q => exact Or.inr ⟨q, PySem.W.cellsFrom_some _ _ _ (Or.inl q)⟩
  apply codeAny_call_function hr.depth (inK _ _ lk) rfl S.co S.gen rfl (PySem.W.codeRec_of inK hcd)
  apply hb
  apply wpAny_newFunctionEnv_cells S.kind kinds
  intro env he s1 x1
  subst he
  constructor
  · exact nlim.keeps x1.toInCall.keep
  apply codeAny_func
  obtain ⟨t, ht, hq⟩ := body cdv A outer s H vs Q hgd (hr.deeper _) hsp
  have I := inv_start (CX := CX0) (E := E0) (w := w) (P := P) S hr.hd e0 hlv r x1
  apply wpAny_mono (ht.nox.run [] s1 (start N vs) H _ I hq)
  · intro fl s' hs
    cases fl with
    | brk => exact hs.elim fun _ z => z.elim fun _ z => z.2.elim
    | cont => exact hs.elim fun _ z => z.elim fun _ z => z.2.elim
    | next =>
      obtain ⟨σ', H', J, q⟩ := hs
      exact ⟨V.non, H', J.os, J.bare, J.base, J.hok, rfl, q⟩
    | ret u =>
      obtain ⟨v, σ', H', J, rv, q⟩ := hs
      exact ⟨v, H', J.os, J.bare, J.base, J.hok, rv, q⟩
  · intro e s' hs
    exact hs
section
variable {X : Cx} {k : Nat} {f : Addr} {fd : FuncData} {ps ks : List Str} {sp : Sp} {x : Str} {p pos : Pos} {e : Expr} {es : List Expr} {t tk : TA} {kws : List Keyword}
theorem g_run {pins : List (Addr × Obj)} {σ : L2.St} {H : Hp} {s : Shared} {Q : VK} {args : Args} {us : List Value} {vs : List V} (F : GnOk X.prog X.w X.K X.mg X.base k f fd ps sp) (hg : X.A.guards = some []) (hr : Room k X.A) (hb : BindsTo s fd args (ps.zip us))
    (I : Inv X pins σ H s) (r : Vals vs us) (h : sp vs H Q E0) : codeAny (model X.prog X.w) X.A (.call (.ref f) args) (fun r s' => match r with
      | .ok (.ret u) => EP X pins σ Q u s'
      | _ => False) s := by
  apply codeAny_mono (F.run X.A X.stack s H args us vs Q hg hr I.env0 hb r h)
  intro r s' hq
  cases r with
  | error e => exact hq
  | ok fl => cases fl with
    | ret u => exact I.after hq
    | next => exact hq
    | brk => exact hq
    | cont => exact hq
theorem ge_call (F : GnOk X.prog X.w X.K X.mg X.base k f fd ps sp) (hgd : X.A.guards = some []) (hr : Room k X.A) (hm : X.mg x = some (.ref f)) (hk : PySem.W.keepIn X.K (.ref f) = true) (hb : Binds X.K fd ps []) (ha : PA X (e :: es) t) (hg : Gl X x := by rfl)
    (hdb : (x == ("__debug__" : Str)) = false := by decide) (he : starEach (e :: es) X.env = (false, eval e X.env) :: starEach es X.env := by rfl) (hpl : (backTo pos (starEach es X.env)).any (·.1) = false := by rfl) :
    PE X (.Call (.Name x p) (e :: es) [] pos) (fun σ H Q => t σ H fun vs H1 => sp vs H1 Q E0) := by
  constructor
  intro pins s σ H Q I h
  apply wpAny_Call_Name_kw
  apply ld_glob I hg hm (hd := hdb)
  refine PySem.W.callWith_K (h₀ := X.base) I.ok.mod.kin hk (thn (ha.run pos pins s σ H _ I h) ?_) he hpl
  intro us s1 ⟨vs, H1, I1, r, q⟩
  constructor
  · exact I1.kIn
  have hl : us.length = ps.length := by
    rw [← r.length]
    exact F.len _ _ _ _ q
  have bt := hb s1 us I1.kIn (by rw [List.append_nil]; exact hl)
  rw [List.append_nil] at bt
  apply wpAny_call
  apply codeAny_mono (g_run F hgd hr bt I1 r q)
  intro r s' z
  cases r with
  | error _ => exact z.elim
  | ok fl => cases fl <;> first | exact z | exact z.elim
variable {n1 : Nat} {π : List Nat}
/-! ### defs and calls by their mirrors -/
structure Ini (A Γ : Type) [RepL A] [EnvR Γ] (n : Nat) where
  ini : A → Γ
  ok : ∀ {K : PySem.W.Frag} {G F : Hp} {a : A} {vs : List V}, RepL.rl K G a vs → er K G F [] (vs.map some ++ List.replicate n none) (ini a)
def i0 : Ini Unit Unit 0 := ⟨fun _ => (), fun {K G F a vs} h => by
  have e : vs = [] := h
  rw [e]
  exact ⟨rfl, rfl⟩⟩
def ia {Γ : Type} [EnvR Γ] {n : Nat} (w : Ini Unit Γ n) : Ini Unit (Any × Γ) (n + 1) := ⟨fun a => (⟨⟩, w.ini a), fun {K G F a vs} h => by
  have e : vs = [] := h
  have z := w.ok (F := F) h
  rw [e] at z ⊢
  exact ⟨[], [], none, _, rfl, rfl, rfl, z, fun _ h => by cases h⟩⟩
def ic {α A Γ : Type} [Rep α] [RepL A] [EnvR Γ] {n : Nat} (w : Ini A Γ n) : Ini (α × A) (α × Γ) n := ⟨fun a => (a.1, w.ini a.2), fun {K G F a vs} ⟨v, r, h1, h2, h3⟩ => by
  rw [h1]
  exact ⟨[], [], some v, _, rfl, rfl, ⟨rfl, v, rfl, h2⟩, w.ok h3, fun _ h => by cases h⟩⟩
def im {A Γ : Type} [RepL A] [EnvR Γ] {n : Nat} (w : Ini A Γ n) (s : List Int) (a : A) : OL Int × Γ := (⟨s⟩, w.ini a)
def runF {Γ Γ' ρ : Type} (f : Γ → Option (Fl Γ' Unit ρ)) (γ : Γ) : Option ρ := (f γ).bind fun r => match r with
  | .rt x _ => some x
  | .nx _ => none
def runU {Γ Γ' : Type} (f : Γ → Option (Fl Γ' Unit Unit)) (γ : Γ) : Option Unit := (f γ).bind fun _ => some ()
def runM {Γ Γ' ρ : Type} (f : Γ → Option (Fl Γ' (List Int) ρ)) (γ : Γ) : Option (ρ × List Int) := (f γ).bind fun r => match r with
  | .rt x s => some (x, s)
  | .nx _ => none
end
section
variable {P : Program} {w : World} {K : PySem.W.Frag} {mg : Str → Option Value} {base : Heap} {x qual : Str} {st : Stmt} {f : Addr} {fd : FuncData} {N ps : List Str} {k n : Nat} {A ρ α Γ Γ' : Type} [RepL A] [EnvR Γ] [EnvR Γ'] [Rep ρ] [Rep α]
theorem start_eq {vs : List V} (hn : N.length = RepL.n A + n) (hv : vs.length = RepL.n A) : L2.start N vs = vs.map some ++ List.replicate n none := by
  unfold L2.start
  rw [hn, hv, Nat.add_sub_cancel_left]
abbrev BodyOk (P : Program) (w : World) (K : PySem.W.Frag) (mg : Str → Option Value) (base : Heap) (N : List Str) (qual : Str) (st : Stmt) (k : Nat) (C : Cx → Prop) : Prop := ∀ (cdv : Value) (A : Around) (outer : List Env) (s : Shared) (H : Hp) (f : Addr), (A.deeper (envOfC qual (defScope st) s.heap.objs.size f cdv)).guards = some [] →
      Room k (A.deeper (envOfC qual (defScope st) s.heap.objs.size f cdv)) → C (bodyX P w K mg base N qual (defScope st) f cdv A outer s H)
theorem ok_F (F : Fun K x qual st f fd) (S : FnScope N ps (defScope st)) (I : Ini A Γ n) {b : Γ → Option (Fl Γ' Unit ρ)} (hn : N.length = RepL.n A + n) (hp : RepL.n A = ps.length)
    (body : BodyOk P w K mg base N qual st k fun X => VSs X Unit (RE K) (defBody st) b) : GnOk P w K mg base (k + 1) f fd ps (spF K fun a => runF b (I.ini a)) := by
  apply gn_of F S
  · intro vs H Q E ⟨F, G, a, r, h1, h2, h3, h4⟩
    rw [← hp]
    exact RepL.len h2
  · intro cdv A outer s H vs Q hg hr ⟨F, G, a, r, h1, h2, h3, h4⟩
    refine ⟨_, body cdv A outer s H f hg hr, ?_⟩
    rw [start_eq hn (RepL.len h2)]
    have h3 : runF b (I.ini a) = some r := h3
    unfold runF at h3
    cases e : b (I.ini a) with
    | none => rw [e] at h3; cases h3
    | some fr =>
      rw [e] at h3
      cases fr with
      | nx γ => cases h3
      | rt y u =>
        cases h3
        exact ⟨F, G, [], I.ini a, 0, .rt _ _, h1, List.nodup_nil, I.ok h2, trivial, e, fun v F2 G2 H2 x2 w2 o2 _ r2 => h4 v G2 H2 x2 (w2.less fun b o z => o2 b o (by simp) z) r2⟩
theorem ok_U (F : Fun K x qual st f fd) (S : FnScope N ps (defScope st)) (I : Ini A Γ n) {b : Γ → Option (Fl Γ' Unit Unit)} (hn : N.length = RepL.n A + n) (hp : RepL.n A = ps.length)
    (body : BodyOk P w K mg base N qual st k fun X => VSs X Unit (RE K) (defBody st) b) : GnOk P w K mg base (k + 1) f fd ps (spF K fun a => runU b (I.ini a)) := by
  apply gn_of F S
  · intro vs H Q E ⟨F, G, a, r, h1, h2, h3, h4⟩
    rw [← hp]
    exact RepL.len h2
  · intro cdv A outer s H vs Q hg hr ⟨F, G, a, r, h1, h2, h3, h4⟩
    refine ⟨_, body cdv A outer s H f hg hr, ?_⟩
    rw [start_eq hn (RepL.len h2)]
    have h3 : runU b (I.ini a) = some r := h3
    unfold runU at h3
    cases e : b (I.ini a) with
    | none => rw [e] at h3; cases h3
    | some fr =>
      rw [e] at h3
      cases h3
      refine ⟨F, G, [], I.ini a, 0, fr, h1, List.nodup_nil, I.ok h2, trivial, e, ?_⟩
      cases fr with
      | nx γ => exact fun σ' L2 F2 G2 H2 x2 w2 n2 o2 s2 e2 a2 => h4 .non G2 H2 x2 (w2.less fun b o z => o2 b o (by simp) z) rfl
      | rt y u => exact fun v F2 G2 H2 x2 w2 o2 _ r2 => h4 v G2 H2 x2 (w2.less fun b o z => o2 b o (by simp) z) r2
theorem back {F F2 : Hp} {q : Addr} (h : ∀ o, F q = some o → F2 q = some o) (k : F2 q = none) : F q = none := by
  cases z : F q with
  | none => rfl
  | some o =>
    rw [h o z] at k
    cases k
theorem ok_N (F : Fun K x qual st f fd) (S : FnScope N ps (defScope st)) (I : Ini A Γ n) {b : Γ → Option (Fl Γ' Unit (List α))} (hn : N.length = RepL.n A + n) (hp : RepL.n A = ps.length)
    (body : BodyOk P w K mg base N qual st k fun X => VSs X Unit (RF K) (defBody st) b) : GnOk P w K mg base (k + 1) f fd ps (spN K fun a => runF b (I.ini a)) := by
  apply gn_of F S
  · intro vs H Q E ⟨F, G, a, r, h1, h2, h3, h4⟩
    rw [← hp]
    exact RepL.len h2
  · intro cdv A outer s H vs Q hg hr ⟨F, G, a, r, h1, h2, h3, h4⟩
    refine ⟨_, body cdv A outer s H f hg hr, ?_⟩
    rw [start_eq hn (RepL.len h2)]
    have h3 : runF b (I.ini a) = some r := h3
    unfold runF at h3
    cases e : b (I.ini a) with
    | none => rw [e] at h3; cases h3
    | some fr =>
      rw [e] at h3
      cases fr with
      | nx γ => cases h3
      | rt y u =>
        cases h3
        exact ⟨F, G, [], I.ini a, 0, .rt _ _, h1, List.nodup_nil, I.ok h2, trivial, e, fun v F2 G2 H2 x2 w2 o2 _ ⟨q, vs', k1, k2, k3, k4, k5⟩ => h4 v G2 H2 x2 (w2.less fun b o z => o2 b o (by simp) z) ⟨q, vs', k1, back (fun o z => o2 q o (by simp) z) k2, k3, k4, k5⟩⟩
theorem ok_M (F : Fun K x qual st f fd) (S : FnScope N ps (defScope st)) (I : Ini A Γ n) {b : OL Int × Γ → Option (Fl Γ' (List Int) ρ)} (hn : N.length = RepL.n A + 1 + n) (hp : RepL.n A + 1 = ps.length)
    (body : BodyOk P w K mg base N qual st k fun X => VSs X (List Int) (RE K) (defBody st) b) : GnOk P w K mg base (k + 1) f fd ps (spM K fun s a => runM b (im I s a)) := by
  apply gn_of F S
  · intro vs H Q E ⟨F, G, p, vs', s, a, r, s', h0, h1, hF, h2, h3, h4⟩
    rw [← hp, h0, List.length_cons, RepL.len h2]
  · intro cdv A outer s H vs Q hg hr ⟨F, G, p, vs', ss, a, r, s', h0, h1, hF, h2, h3, h4⟩
    refine ⟨_, body cdv A outer s H f hg hr, ?_⟩
    have e0 : L2.start N vs = some (.ref p) :: (vs'.map some ++ List.replicate n none) := by
      unfold L2.start
      rw [h0, hn, List.length_cons, RepL.len h2, Nat.add_sub_cancel_left]
      rfl
    rw [e0]
    have h3 : runM b (im I ss a) = some (r, s') := h3
    unfold runM at h3
    cases e : b (im I ss a) with
    | none => rw [e] at h3; cases h3
    | some fr =>
      rw [e] at h3
      cases fr with
      | nx γ => cases h3
      | rt y u =>
        cases h3
        refine ⟨F, G, [p], im I ss a, p, .rt _ _, h1, (by simp), ⟨[p], [], _, _, rfl, rfl, ⟨p, _, rfl, rfl, hF, of_ints⟩, I.ok h2, fun _ _ h => by cases h⟩, rfl, e, fun v F2 G2 H2 x2 w2 o2 ow r2 => ?_⟩
        -- what the caller is told: outside of p all as it was
        have offp : ∀ b o, b ≠ p → F b = some o → F2 b = some o := fun b o hb z => o2 b o (fun y => hb (List.mem_singleton.mp y)) z
        have low : Ex (fun b => if b = p then F2 b else F b) F2 := fun b o z => by
          by_cases hb : b = p
          · have z' := (if_pos hb).symm.trans z
            exact z'
          · have z' := (if_neg hb).symm.trans z
            exact offp b o hb z'
        exact h4 v (fun b => if b = p then F2 b else F b) G2 H2 x2 (w2.less low) ((if_pos rfl).trans ow) (fun b hb => if_neg hb) r2
end
/-! ### calls by mirrors -/
section
variable {Γ : Type} [EnvR Γ] {X : Cx} {A A1 A2 ρ α : Type} [RepL A] [RepL A1] [RepL A2] [Rep ρ] [Rep α] {k : Nat} {fa : Addr} {fd : FuncData} {psn ks : List Str} {x : Str} {pp pos : Pos} {e : Expr} {es : List Expr} {kws : List Keyword} {n1 : Nat} {π : List Nat}
theorem vg_call {m : A → Option ρ} {g : Γ → Option A} (Fn : GnOk X.prog X.w X.K X.mg X.base k fa fd psn (spF X.K m)) (hgd : X.A.guards = some []) (hr : Room k X.A) (hm : X.mg x = some (.ref fa)) (hk : PySem.W.keepIn X.K (.ref fa) = true) (hb : Binds X.K fd psn []) (ha : VA X (e :: es) g) (hg : Gl X x := by rfl)
    (hdb : (x == ("__debug__" : Str)) = false := by decide) (he : starEach (e :: es) X.env = (false, eval e X.env) :: starEach es X.env := by rfl) (hpl : (backTo pos (starEach es X.env)).any (·.1) = false := by rfl) : VE X (.Call (.Name x pp) (e :: es) [] pos) (f1 m g) :=
  PE.le (ge_call Fn hgd hr hm hk hb ha hg hdb he hpl) fun σ H Q ⟨F, G, L, γ, r, w, he, ea, q⟩ => by
    unfold f1 at ea
    cases e1 : g γ with
    | none => rw [e1] at ea; cases ea
    | some y =>
      rw [e1] at ea
      exact ⟨F, G, L, γ, y, w, he, e1, fun vs G2 H2 e2 w2 r2 => ⟨F, G2, y, r, w2, r2, ea, fun v G3 H3 e3 w3 r3 => q v G3 H3 (e2.trans e3) w3 r3⟩⟩
theorem vf_gcall {m : A → Option (List α)} {g : Γ → Option A} (Fn : GnOk X.prog X.w X.K X.mg X.base k fa fd psn (spN X.K m)) (hgd : X.A.guards = some []) (hr : Room k X.A) (hm : X.mg x = some (.ref fa)) (hk : PySem.W.keepIn X.K (.ref fa) = true) (hb : Binds X.K fd psn []) (ha : VA X (e :: es) g) (hg : Gl X x := by rfl)
    (hdb : (x == ("__debug__" : Str)) = false := by decide) (he : starEach (e :: es) X.env = (false, eval e X.env) :: starEach es X.env := by rfl) (hpl : (backTo pos (starEach es X.env)).any (·.1) = false := by rfl) : VF X (.Call (.Name x pp) (e :: es) [] pos) (f1 m g) :=
  PE.le (ge_call Fn hgd hr hm hk hb ha hg hdb he hpl) fun σ H Q ⟨F, G, L, γ, r, w, he, ea, q⟩ => by
    unfold f1 at ea
    cases e1 : g γ with
    | none => rw [e1] at ea; cases ea
    | some y =>
      rw [e1] at ea
      exact ⟨F, G, L, γ, y, w, he, e1, fun vs G2 H2 e2 w2 r2 => ⟨F, G2, y, r, w2, r2, ea, fun v G3 H3 e3 w3 r3 => q v G3 H3 (e2.trans e3) w3 r3⟩⟩
/-- a def that draws: the list of ints in slot 0 goes first -/
def mdr (m : List Int → A → Option (ρ × List Int)) (g : OL Int × Γ → Option (A × (OL Int × Γ))) : OL Int × Γ → Option (ρ × (OL Int × Γ)) := fun γ => (g γ).bind fun (a, γ') => (m γ'.1.l a).map fun (r, s) => (r, (⟨s⟩, γ'.2))
theorem mg_draw {m : List Int → A → Option (ρ × List Int)} {g : OL Int × Γ → Option (A × (OL Int × Γ))} {y : Str} {py : Pos} (Fn : GnOk X.prog X.w X.K X.mg X.base k fa fd psn (spM X.K m)) (hgd : X.A.guards = some []) (hr : Room k X.A) (hm : X.mg x = some (.ref fa)) (hk : PySem.W.keepIn X.K (.ref fa) = true) (hb : Binds X.K fd psn []) (hy : PE X (.Name y py) (tVar 0)) (ha : MA X es g) (hg : Gl X x := by rfl)
    (hdb : (x == ("__debug__" : Str)) = false := by decide) (he : starEach ((.Name y py) :: es) X.env = (false, eval (.Name y py) X.env) :: starEach es X.env := by rfl) (hpl : (backTo pos (starEach es X.env)).any (·.1) = false := by rfl) : ME X (.Call (.Name x pp) (.Name y py :: es) [] pos) (mdr m g) :=
  PE.le (ge_call Fn hgd hr hm hk hb (pa_cons hy ha he) hg hdb he hpl) fun σ H Q ⟨F, G, L, γ, r, γ', w, he, ea, q⟩ => by
    unfold mdr at ea
    cases e1 : g γ with
    | none => rw [e1] at ea; cases ea
    | some z =>
      obtain ⟨a, γ1⟩ := z
      rw [e1] at ea
      simp only [Option.bind_some] at ea
      cases e2 : m γ1.1.l a with
      | none => rw [e2] at ea; cases ea
      | some u =>
        obtain ⟨rr, s'⟩ := u
        rw [e2] at ea
        cases ea
        obtain ⟨p, vs, k1, _⟩ := (oz (Γ := Γ) (α := Int)).ok he
        refine ⟨.ref p, k1, F, G, L, γ, a, γ1, w, he, e1, fun zs F2 G2 H2 x2 w2 of er2 ra => ?_⟩
        obtain ⟨p', vs', j1, j2, j3, j4, j5, _⟩ := (oz (Γ := Γ) (α := Int)).ok er2
        rw [k1] at j1
        cases j1
        refine ⟨F2, G2, p, zs, γ1.1.l, a, rr, s', rfl, w2, ?_, ra, e2, fun v F3 G3 H3 x3 w3 hp of3 r3 => ?_⟩
        · rw [j3, ints_of (K := X.K) (G := G2) j4]
          rfl
        · have z3 : upd F2 p (.lst (s'.map V.int)) = F3 := by
            funext b
            by_cases hb : b = p
            · rw [hb, upd_same, hp]
            · rw [upd_ne hb, of3 b hb]
          have er3 := j5 x3 (of_ints (K := X.K) (G := G3) (xs := s'))
          rw [z3] at er3
          exact q v F3 G3 H3 (x2.trans x3) w3 (fun b hb => (of3 b (fun z => hb (by rw [z]; exact j2))).trans (of b hb)) er3 r3
end
end Vx
/-! sets of texts, made of a list or of a text's signs, and sorted at once -/
namespace Vx
open Rep (rep)
open EnvR (er)
open PySem PySem.Spec PyProof.Rows L2
def keyS (e : Int × Value) : Str := match e.2 with
  | .str k _ => k
  | _ => Str.empty
def GoodS (w : World) (e : Int × Value) : Prop := ∃ k tk, e.2 = Value.str k tk ∧ e.1 = hashStr w k
/-- at a stands a set whose members are the texts l, each once, in some order -/
def SetS (w : World) (h : Heap) (a : Addr) (l : List Str) : Prop := ∃ o es ep t,
  h.get? a = some o ∧ o.ExactSet ∧ o.data = .set es ep t ∧ (∀ e ∈ es.toList, GoodS w e) ∧ l.Nodup ∧ (es.toList.map keyS).Perm l ∧
  es.size < scanBound ∧ t.fits es.size = true ∧ Ris t.place.toList ∧ (w.params.followText "set-order" = true ∨ t.led = true)
section
variable {P : Program} {w : World} {A : Around} {E : Value → Shared → Prop} {s : Shared} {h h' : Heap} {a : Addr} {l : List Str}
theorem SetS.at (R : SetS w h a l) (k : ∀ o, h.get? a = some o → h'.get? a = some o) : SetS w h' a l := by
  obtain ⟨o, es, ep, t, ho, rest⟩ := R
  exact ⟨o, es, ep, t, k o ho, rest⟩
theorem goodS_is {e : Int × Value} (g : GoodS w e) (k : Str) : (PySem.strKind P w).is k e.2 = true ↔ keyS e = k := by
  obtain ⟨k0, tk, h1, _⟩ := g
  unfold keyS
  rw [h1]
  show Value.isStrOf k (.str k0 tk) = true ↔ k0 = k
  simp [Value.isStrOf]
theorem goodS_elems {es : List (Int × Value)} (g : ∀ e ∈ es, GoodS w e) : ElemsOf (PySem.strKind P w) es := by
  intro e he
  obtain ⟨k, tk, h1, h2⟩ := g e he
  constructor
  · refine ⟨k, ?_, h2⟩
    rw [h1]
    exact strKind_is _ _ _ _
  · rw [h1]
    rfl
theorem goodS_mem {es : List (Int × Value)} (g : ∀ e ∈ es, GoodS w e) (k : Str) : k ∈ es.map keyS ↔ ∃ e ∈ es, (PySem.strKind P w).is k e.2 = true := by
  constructor
  · intro z
    obtain ⟨e, he, q⟩ := List.mem_map.mp z
    exact ⟨e, he, (goodS_is (g e he) k).mpr q⟩
  · intro z
    obtain ⟨e, he, q⟩ := z
    exact List.mem_map.mpr ⟨e, he, (goodS_is (g e he) k).mp q⟩
/-- what lies behind the table's growth -/
theorem setS_tail {gw : Bool → Sem Unit} (hg : ∀ (b : Bool) (s₁ : Shared) (Q' : Unit → Shared → Prop), Q' () s₁ → wpAny (model P w) A (gw b) Q' E s₁) {o : Obj} {es : Array (Int × Value)} {ep : Nat} {t : SetTable}
    (ho : s.heap.get? a = some o) (hex : o.ExactSet) (hd : o.data = .set es ep t) {es1 : Array (Int × Value)} {t2 : SetTable} {l' : List Str} (g1 : ∀ e ∈ es1.toList, GoodS w e) (nd1 : l'.Nodup) (p1 : (es1.toList.map keyS).Perm l')
    (hb1 : es1.size < scanBound) (hf2 : t2.fits es1.size = true) (hr : Ris t2.place.toList) (hl : w.params.followText "set-order" = true ∨ t2.led = true) {wasDummy : Bool} {R : Option Bool → Shared → Prop}
    (hR : ∀ h', Heap.SameBut a s.heap h' → SetS w h' a l' → R (some true) { s with heap := h' }) :
    wpAny (model P w) A (do
        storeSet a es1 t2
        if (!wasDummy && t2.tooFull) = true then do
            gw (relayAll t2 es1 (SetTable.grown es1.size)).2.2
            storeSet a (relayAll t2 es1 (SetTable.grown es1.size)).1 (relayAll t2 es1 (SetTable.grown es1.size)).2.1
            pure (some true)
          else pure (some true)) R E s := by
  have at1 := store_at (es' := es1) (t' := t2) ho hd
  have same1 := Heap.SameBut.update s.heap a (Obj.putSet es1 t2)
  apply wpAny_bind
  apply wpAny_storeSet_of ho hd (fits_of_scanBound hb1 |> fun z => ?_) (fits_of_scanBound hb1)
  split
  · have pm := relayAll_perm t2 es1 (SetTable.grown es1.size)
    have f3 := relayAll_fits t2 es1 (SetTable.grown es1.size)
    have r3 := relayAll_ris t2 es1 (SetTable.grown es1.size)
    have l3 := relayAll_led t2 es1 (SetTable.grown es1.size)
    generalize relayAll t2 es1 (SetTable.grown es1.size) = Z at pm f3 r3 l3 ⊢
    obtain ⟨es2, t3, gave⟩ := Z
    dsimp only at pm f3 r3 l3 ⊢
    have sz : es2.size = es1.size := by
      have := pm.length_eq
      simpa using this
    have b2 : es2.size < scanBound := by omega
    apply wpAny_bind
    apply hg
    apply wpAny_bind
    apply wpAny_storeSet_of at1 rfl ?_ (fits_of_scanBound b2)
    have at2 := store_at (es' := es2) (t' := t3) at1 rfl
    apply wpAny_pure
    apply hR _ (same1.trans (Heap.SameBut.update _ a _))
    refine ⟨_, es2, _, t3, at2, hex, rfl, fun e he => g1 e (pm.mem_iff.mp he), nd1, (pm.map keyS).trans p1, b2, f3, r3, ?_⟩
    cases hl with
    | inl z => exact Or.inl z
    | inr z => exact Or.inr (l3.trans z)
  · apply wpAny_pure
    apply hR _ same1
    exact ⟨_, es1, _, t2, at1, hex, rfl, g1, nd1, p1, hb1, hf2, hr, hl⟩
theorem setS_add {k : Str} {tk : Tok} {Q : Bool → Shared → Prop} (R : SetS w s.heap a l) (room : l.length + 1 < scanBound)
    (hQ : ∀ h' b, Heap.SameBut a s.heap h' → SetS w h' a (if k ∈ l then l else k :: l) → Q b { s with heap := h' }) :
    wpAny (model P w) A (setAddHashed a (.str k tk) (hashStr w k)) Q E s := by
  obtain ⟨o, es, ep, t, ho, hex, hd, g, nd, pm, hb, hf, hr, hl⟩ := R
  have isk : (PySem.strKind P w).is k (.str k tk) = true := strKind_is _ _ _ _
  have scn : (Value.str k tk).scannable = true := rfl
  have hel : ElemsOf (PySem.strKind P w) es.toList := goodS_elems g
  unfold setAddHashed setAddHashedIn
  apply wpAny_holding
  apply wpAny_bind
  apply wpAny_setState_of ho hd hf
  dsimp only
  rw [byScan_of scn hb hel]
  simp only [↓reduceIte]
  unfold setAddByScan
  apply wpAny_bind
  apply wpAny_bind
  apply wpAny_rule
  apply wpAny_bind
  apply wpAny_setScan_of (knd := PySem.strKind P w) (k := k) isk ho hd hf hel
  cases hfi : List.findIdx? (fun e => (PySem.strKind P w).is k e.2) es.toList with
  | some j =>
    dsimp only
    obtain ⟨hj, pj, _⟩ := List.findIdx?_eq_some_iff_getElem.mp hfi
    have kin : k ∈ l := pm.mem_iff.mp ((goodS_mem (P := P) g k).mpr ⟨es.toList[j], List.getElem_mem hj, pj⟩)
    apply wpAny_pure
    apply wpAny_pure
    apply hQ s.heap _ (Heap.SameBut.refl a s.heap)
    rw [if_pos kin]
    exact ⟨o, es, ep, t, ho, hex, hd, g, nd, pm, hb, hf, hr, hl⟩
  | none =>
    dsimp only
    have kout : k ∉ l := by
      intro z
      obtain ⟨e, he, q⟩ := (goodS_mem (P := P) g k).mp (pm.mem_iff.mpr z)
      have c := List.findIdx?_eq_none_iff.mp hfi e he
      rw [q] at c
      cases c
    have gw : ∀ (b : Bool) {s₁ : Shared} {Q' : Unit → Shared → Prop}, Q' () s₁ → wpAny (model P w) A (match b with | true => rule "set.scan.the-table-gave-way" | false => pure ()) Q' E s₁ := by
      intro b s₁ Q' q
      cases b
      · exact wpAny_pure q
      · exact wpAny_rule q
    have pn := layNew_perm t es (hashStr w k) (.str k tk)
    have f1 := layNew_fits t es (hashStr w k) (.str k tk)
    have r1 := layNew_ris t es (hashStr w k) (.str k tk) hr
    have l1 := layNew_led t es (hashStr w k) (.str k tk)
    generalize layNew t es (hashStr w k) (.str k tk) = Z at pn f1 r1 l1 ⊢
    obtain ⟨es1, t1, wasDummy, gave⟩ := Z
    dsimp only at pn f1 r1 l1 ⊢
    rw [Array.toList_push] at pn
    have pc : es1.toList.Perm ((hashStr w k, Value.str k tk) :: es.toList) := pn.trans (List.perm_append_singleton _ _)
    have pk : (es1.toList.map keyS).Perm (k :: l) := (pc.map keyS).trans (List.Perm.cons k pm)
    have g1 : ∀ e ∈ es1.toList, GoodS w e := by
      intro e he
      cases List.mem_cons.mp (pc.mem_iff.mp he) with
      | inl z =>
        rw [z]
        exact ⟨k, tk, rfl, rfl⟩
      | inr z => exact g e z
    have n1 : (k :: l).Nodup := List.nodup_cons.mpr ⟨kout, nd⟩
    have sz : es1.size = l.length + 1 := by
      have := pk.length_eq
      simpa using this
    have b1 : es1.size < scanBound := by omega
    have led : w.params.followText "set-order" = true ∨ t1.led = true := by
      cases hl with
      | inl z => exact Or.inl z
      | inr z => exact Or.inr (l1.trans z)
    have fin : ∀ h', Heap.SameBut a s.heap h' → SetS w h' a (k :: l) → Q true { s with heap := h' } := by
      intro h' sb r
      apply hQ h' true sb
      rw [if_neg kout]
      exact r
    apply wpAny_bind
    apply gw
    split
    · apply wpAny_bind
      rw [hashByValue_scannable 8 scn]
      apply wpAny_pure
      refine setS_tail ?_ ho hex hd g1 n1 pk b1 ?_ ?_ ?_ ?_
      · intro b s₁ Q' q
        exact gw b q
      · first | (split <;> first | exact f1 | exact SetTable.fits_plain_off f1) | exact f1
      · first | (split <;> exact r1) | exact r1
      · first | (split <;> exact led) | exact led
      · intro h' sb r
        dsimp only
        exact wpAny_pure (fin h' sb r)
    · apply wpAny_bind
      apply wpAny_pure
      simp only [↓reduceIte]
      refine setS_tail ?_ ho hex hd g1 n1 pk b1 f1 r1 led ?_
      · intro b s₁ Q' q
        exact gw b q
      · intro h' sb r
        dsimp only
        exact wpAny_pure (fin h' sb r)
/-- the members so far -/
def ded : List Str → List Str → List Str
  | acc, [] => acc
  | acc, x :: xs => ded (if x ∈ acc then acc else x :: acc) xs
theorem ded_len : ∀ (xs acc : List Str), (ded acc xs).length ≤ acc.length + xs.length
  | [], acc => Nat.le_refl _
  | x :: xs, acc => by
    have := ded_len xs (if x ∈ acc then acc else x :: acc)
    unfold ded
    by_cases hx : x ∈ acc
    · rw [if_pos hx] at this ⊢
      simp only [List.length_cons]
      omega
    · rw [if_neg hx] at this ⊢
      simp only [List.length_cons] at this ⊢
      omega
theorem set_update_strs {I : Addr} {fp wr : List Addr} {G : Array GenState → Array GenState → Prop} {n : Nat} {Pv : Nat → Value → Prop} {St : Nat → Shared → Prop} {R : Result → Shared → Prop} (W : WalksS P w A.in1 I fp wr G n Pv St)
    (D : Addr) (hD : D ∉ fp) (xs : List Str) (hn : n = xs.length) (hb : xs.length + 1 < scanBound) (hval : ∀ i v, Pv i v → ∃ k t, xs[i]? = some k ∧ v = .str k t) :
    ∀ (k i : Nat) (s : Shared), n - i = k → i ≤ n → St i s → (∃ acc, acc.length ≤ i ∧ SetS w s.heap D acc ∧ ded acc (xs.drop i) = ded [] xs) →
      (∀ s', Moved (D :: wr) G s s' → SetS w s'.heap D (ded [] xs) → R (.ok (.ret .none)) s') →
      codeAny (model P w) A (.builtin "set.update.loop" ⟨[.ref D, .ref I], []⟩) R s := by
  have hDw : D ∉ wr := fun z => hD (W.sub _ z)
  have sub : ∀ b ∈ wr, b ∈ D :: wr := fun b z => List.mem_cons_of_mem _ z
  intro k
  induction k with
  | zero =>
    rintro i s hk hi st ⟨acc, hc, hS, hded⟩ hR
    have hin : i = n := by omega
    subst hin
    apply codeAny_builtin F.entry_set_update_loop
    rw [Around.under_plainId F.plain_set_update_loop _]
    show wpAny _ A.in1 (pyNext (.ref I) >>= _) _ _ s
    apply wpAny_bind
    apply W.done s _ _ st
    intro s' hm
    show wpAny _ A.in1 (ret Value.none) _ _ s'
    apply wpAny_pure
    apply hR s' (hm.mono sub)
    have e : xs.drop i = [] := List.drop_eq_nil_of_le (by omega)
    rw [e] at hded
    have hded : acc = ded [] xs := hded
    rw [← hded]
    exact hS.at fun o e => hm.heap D o hDw e
  | succ k ih =>
    rintro i s hk hi st ⟨acc, hc, hS, hded⟩ hR
    have hlt : i < n := by omega
    apply codeAny_builtin F.entry_set_update_loop
    rw [Around.under_plainId F.plain_set_update_loop _]
    show wpAny _ A.in1 (pyNext (.ref I) >>= _) _ _ s
    apply wpAny_bind
    apply W.item i s _ _ hlt st
    intro v s' hP st' hm
    obtain ⟨z, t, hz, rfl⟩ := hval i v hP
    have hS' : SetS w s'.heap D acc := hS.at fun o e => hm.heap D o hDw e
    show wpAny _ A.in1 (holding [Value.str z t] (setAdd D (.str z t)) >>= _) _ _ s'
    apply wpAny_bind
    apply wpAny_holding
    unfold setAdd
    apply wpAny_holding
    apply wpAny_bind
    apply (PySem.strKind P w).pyHash (k := z) (strKind_is _ _ _ _)
    apply setS_add (s := { s' with toks := s'.toks + 1 }) hS' (by omega)
    intro h' b hsb hS2
    have hl2 : (if z ∈ acc then acc else z :: acc).length ≤ i + 1 := by
      split
      · omega
      · simp only [List.length_cons]
        omega
    have hd2 : xs.drop i = z :: xs.drop (i + 1) := by
      obtain ⟨hi2, e2⟩ := List.getElem?_eq_some_iff.mp hz
      rw [List.drop_eq_getElem_cons hi2, e2]
    rw [hd2] at hded
    have hded : ded (if z ∈ acc then acc else z :: acc) (xs.drop (i + 1)) = ded [] xs := hded
    apply wpAny_pure
    refine ⟨plainId_quiet F.plain_set_update_loop _, ih (i + 1) _ (by omega) hlt (W.frame _ s' _ _ st' (Nat.le_succ _) ?_) ⟨_, hl2, hS2, hded⟩ ?_⟩
    · intro b hb o e
      rw [hsb.2 b (fun q => hD (by rw [← q]; exact hb))]
      exact e
    · intro s'' hm'' hS''
      apply hR s'' (Moved.trans W.gtrans ((hm.mono sub).then_heap (Nat.le_succ _) ?_) hm'') hS''
      intro b o hb e
      rw [hsb.2 b (fun q => hb (by rw [q]; exact List.mem_cons_self))]
      exact e
end
end Vx
namespace Vx
open Rep (rep)
open EnvR (er)
open PySem PySem.Spec PyProof.Rows L2
section
variable {P : Program} {w : World} {A : Around} {E : Value → Shared → Prop} {s : Shared}
theorem setS_nil {h : Heap} {a : Addr} (ho : h.get? a = some { cls := .type "set", dict := none, data := .set #[] 0 (.fresh 0 0 (!w.params.followText "set-order")) }) : SetS w h a [] := by
  refine ⟨_, #[], 0, _, ho, ⟨rfl, rfl, rfl⟩, rfl, fun e he => by simp at he, List.nodup_nil, List.Perm.refl _, by decide, by rfl, List.Pairwise.nil, ?_⟩
  show _ ∨ (!w.params.followText "set-order") = true
  cases w.params.followText "set-order"
  · exact Or.inr rfl
  · exact Or.inl rfl
/-- a new set -/
abbrev newSet (w : World) : Obj := { cls := .type "set", dict := none, data := .set #[] 0 (.fresh 0 0 (!w.params.followText "set-order")) }
/-- what is wanted behind set(x), x of the texts xs -/
def SetEnd (w : World) (xs : List Str) (s : Shared) (r : Value) (s₂ : Shared) : Prop := r = .none ∧ ∃ h' tk, s₂ = { s with heap := h', toks := tk } ∧ SetS w h' s.heap.objs.size (ded [] xs) ∧ ∀ b o, s.heap.get? b = some o → h'.get? b = some o
/-- the loop over an iterator I, behind the set's making -/
theorem set_loop {xs : List Str} (hb : xs.length + 1 < scanBound) {I : Addr} {fp wr : List Addr} {Pv : Nat → Value → Prop} {St : Nat → Heap → Prop} {h1 : Heap} {tk : Nat} (W : PySem.Walks P w A.in1 I fp wr xs.length Pv St) (hD : s.heap.objs.size ∉ fp) (hw : ∀ b ∈ wr, s.heap.objs.size < b)
    (hval : ∀ i v, Pv i v → ∃ k t, xs[i]? = some k ∧ v = .str k t) (st : St 0 h1) (hS : h1.get? s.heap.objs.size = some (newSet w)) (keep : ∀ b o, s.heap.get? b = some o → h1.get? b = some o) :
    codeAny (model P w) A (.builtin "set.update.loop" ⟨[.ref s.heap.objs.size, .ref I], []⟩) (fun r s₂ => r = .ok (.ret .none) ∧ SetEnd w xs s .none s₂) { s with heap := h1, toks := tk } := by
  apply set_update_strs W.toS s.heap.objs.size hD xs rfl hb hval (xs.length - 0) 0 _ (by omega) (Nat.zero_le _) st ⟨[], Nat.le_refl _, setS_nil hS, rfl⟩
  intro s' hm hS'
  obtain ⟨h', g', d', tk', os'⟩ := s'
  have eg : g' = s.gens := hm.gens
  have ed : d' = s.drawn := hm.drawn
  have eo : os' = s.os := hm.os
  subst eg
  subst ed
  subst eo
  refine ⟨rfl, rfl, h', tk', rfl, hS', fun b o e => ?_⟩
  have hlt : b < s.heap.objs.size := Heap.lt_size e
  apply hm.heap b o ?_ (keep b o e)
  intro z
  cases List.mem_cons.mp z with
  | inl q => exact absurd hlt (by rw [q]; exact Nat.lt_irrefl _)
  | inr q => exact absurd (Nat.lt_trans hlt (hw b q)) (Nat.lt_irrefl _)
theorem set_call {x : Value} (xs : List Str) {Q : Value → Shared → Prop} (init : ∀ A' : Around, A'.handled = A.handled → codeAny (model P w) A' (.call (.builtin "set.__init__") ⟨[.ref s.heap.objs.size, x], []⟩) (wants (SetEnd w xs s) E) { s with heap := s.heap.push (newSet w) })
    (h : ∀ (h' : Heap) (tk : Nat), SetS w h' s.heap.objs.size (ded [] xs) → (∀ b o, s.heap.get? b = some o → h'.get? b = some o) → Q (.ref s.heap.objs.size) { s with heap := h', toks := tk }) :
    wpAny (model P w) A (call (.type "set") [x]) Q E s := by
  obtain ⟨c, tl, hmro⟩ := F.called_set.mro
  have k1 := F.called_set.made
  have k2 := F.called_set.sub
  have k3 := F.called_set.notType
  have k4 := F.called_set.canCreate
  have k5 := F.typeCall_set_1 x
  apply wpAny_call
  apply codeAny_of_tree
  show wpAny _ _ (callAny (.type "set") _) _ _ _
  apply wpAny_pure
  refine ⟨Code.quiet_builtin _ (by decide +kernel), codeAny_builtin F.entry_type_call ?_⟩
  rw [Around.under_plain (weight_type_call_type "set" [x] []) rfl]
  repeat (any_goals (first | assumption | wp_step))
  refine codeAny_mono (code_set_led1 x (E := E) (Q₁ := fun obj s₁ => obj = .ref s.heap.objs.size ∧ s₁ = { s with heap := s.heap.push (newSet w) }) ⟨rfl, rfl⟩) ?_
  intro r s₁ hr
  cases r with
  | error e => exact hr
  | ok fl =>
    cases fl with
    | next => exact hr.elim
    | brk => exact hr.elim
    | cont => exact hr.elim
    | ret obj =>
      obtain ⟨rfl, rfl⟩ := hr
      have hS : (s.heap.push (newSet w)).get? s.heap.objs.size = some (newSet w) := Heap.get?_push_size _ rfl
      have hT : Shared.TypeIs { s with heap := s.heap.push (newSet w) } (.ref s.heap.objs.size) "set" := ⟨_, hS, rfl⟩
      have k6 := F.called_set.init.lookup
      have k7 := F.called_set.init.bind (.ref s.heap.objs.size)
      repeat (any_goals (first | assumption | wp_step))
      refine codeAny_mono (init _ (by simp)) ?_
      intro r₂ s₂ hr₂
      cases r₂ with
      | error e => exact hr₂
      | ok fl₂ =>
        cases fl₂ with
        | next => exact hr₂.elim
        | brk => exact hr₂.elim
        | cont => exact hr₂.elim
        | ret r =>
          obtain ⟨rfl, h', tk, rfl, hS', hk'⟩ := hr₂
          repeat (any_goals (first | assumption | wp_step))
          exact h _ _ hS' hk'
theorem set_of_list {l : Addr} {items : Array Value} (xs : List Str) {Q : Value → Shared → Prop} (hh : A.handled = none) (hl : s.heap.IsList l items) (hit : StrsAre items.toList xs) (hb : xs.length + 1 < scanBound)
    (h : ∀ (h' : Heap) (tk : Nat), SetS w h' s.heap.objs.size (ded [] xs) → (∀ b o, s.heap.get? b = some o → h'.get? b = some o) → Q (.ref s.heap.objs.size) { s with heap := h', toks := tk }) :
    wpAny (model P w) A (call (.type "set") [.ref l]) Q E s := by
  have isz : items.size = xs.length := by
    rw [← StrsAre.len_eq hit, Array.length_toList]
  have vals : ∀ (i : Nat) (v : Value), items[i]? = some v → ∃ k t, xs[i]? = some k ∧ v = .str k t := by
    intro i v hv
    have hi : i < xs.length := by
      rw [← isz]
      exact (Array.getElem?_eq_some_iff.mp hv).1
    obtain ⟨t, e⟩ := SS.strs_at hit i v (by rw [Array.getElem?_toList]; exact hv)
    refine ⟨xs[i], t, List.getElem?_eq_getElem hi, ?_⟩
    rw [e, List.getD_eq_getElem?_getD, List.getElem?_eq_getElem hi]
    rfl
  refine set_call xs (fun A' hA' => ?_) h
  have hS : (s.heap.push (newSet w)).get? s.heap.objs.size = some (newSet w) := Heap.get?_push_size _ rfl
  have hT : Shared.TypeIs { s with heap := s.heap.push (newSet w) } (.ref s.heap.objs.size) "set" := ⟨_, hS, rfl⟩
  refine codeAny_call_builtin F.called_set.init.plain F.entry_set_init (check_set_init_1 hT ?_)
  obtain ⟨⟨ocls, odict, odata, oslots⟩, hol, hcl, nl, hdl⟩ := hl
  simp only at hcl hdl
  subst hcl
  subst hdl
  have hol' : (s.heap.push (newSet w)).get? l = some { cls := .type "list", dict := odict, data := .seq items nl, slots := oslots } := Heap.get?_push_of_some _ hol
  have hl1 : (s.heap.push (newSet w)).IsList l items := ⟨_, hol', rfl, nl, rfl⟩
  have k8 := PySem.F.sub_list_set
  have k9 := PySem.F.sub_list_frozenset
  have k10 : (Value.type "list" == Value.type "dict") = false := by decide
  have hlS : l < s.heap.objs.size := Heap.lt_size hol
  have sz1 : (s.heap.push (newSet w)).objs.size = s.heap.objs.size + 1 := Heap.size_push ..
  unfold Builtin.«set.__init__» noKeywords Builtin.Frozenset.updateFrom
  generalize hPI : pyIter = PI
  wp_walk
  subst hPI
  apply wpAny_pyIter_list hl1
  apply wpAny_bind
  apply wpAny_runValue
  have neI : l ≠ (s.heap.push (newSet w)).objs.size := by
    rw [sz1]
    exact Nat.ne_of_lt (Nat.lt_succ_of_lt hlS)
  have hh3 : A'.in1.in1.handled = none := by simp [hh, hA']
  have wl : PySem.Walks P w A'.in1.in1 (s.heap.objs.size + 1) [s.heap.objs.size + 1, l] [s.heap.objs.size + 1] xs.length (fun i v => items[i]? = some v) (fun i h => h.IsListIter (s.heap.objs.size + 1) l i ∧ h.IsList l items) := by
    rw [← isz]
    rw [sz1] at neI
    exact PySem.Walks.list hh3 _ l neI items
  have hD : s.heap.objs.size ∉ [s.heap.objs.size + 1, l] := by
    simp only [List.mem_cons, List.not_mem_nil, or_false, not_or]
    exact ⟨Nat.ne_of_lt (Nat.lt_succ_self _), Nat.ne_of_gt hlS⟩
  have hw : ∀ b ∈ [s.heap.objs.size + 1], s.heap.objs.size < b := by
    intro b hb
    rw [List.mem_singleton.mp hb]
    exact Nat.lt_succ_self _
  have st0 : ((s.heap.push (newSet w)).push { cls := .type "list_iterator", data := .fields #[.ref l, .int 0 0] }).IsListIter (s.heap.objs.size + 1) l 0 := by
    rw [← sz1]
    exact ⟨_, Heap.get?_push_size _ rfl, rfl, rfl⟩
  have lp := set_loop (A := A'.in1) (P := P) (w := w) (s := s) (tk := s.toks) hb wl hD hw vals (h1 := (s.heap.push (newSet w)).push { cls := .type "list_iterator", data := .fields #[.ref l, .int 0 0] }) ⟨st0, hl1.push _⟩ (Heap.get?_push_of_some _ hS) (fun b o e => Heap.get?_push_of_some _ (Heap.get?_push_of_some _ e))
  rw [← sz1] at lp
  apply codeAny_mono lp
  intro r₃ s₃ hr₃
  obtain ⟨rfl, hend⟩ := hr₃
  show wpAny _ _ _ _ _ _
  apply wpAny_pure
  show wpAny _ _ (ret Value.none) _ _ _
  exact wpAny_pure hend
end
end Vx
namespace Vx
open Rep (rep)
open EnvR (er)
open PySem PySem.Spec PyProof.Rows L2
section
variable {P : Program} {w : World} {A : Around} {E : Value → Shared → Prop} {s : Shared}
theorem set_of_str {x : Str} {t : Tok} {Q : Value → Shared → Prop} (hh : A.handled = none) (hb : x.cps.size + 1 < scanBound)
    (h : ∀ (h' : Heap) (tk : Nat), SetS w h' s.heap.objs.size (ded [] (signs x)) → (∀ b o, s.heap.get? b = some o → h'.get? b = some o) → Q (.ref s.heap.objs.size) { s with heap := h', toks := tk }) :
    wpAny (model P w) A (call (.type "set") [.str x t]) Q E s := by
  have len : (signs x).length = x.cps.size := by simp [signs]
  have vals : ∀ (i : Nat) (v : Value), SignAt x i v → ∃ k t, (signs x)[i]? = some k ∧ v = .str k t := by
    rintro i v ⟨c, u, hc, rfl⟩
    refine ⟨⟨#[c]⟩, u, ?_, rfl⟩
    unfold signs
    rw [List.getElem?_map, Array.getElem?_toList, hc]
    rfl
  refine set_call (signs x) (fun A' hA' => ?_) h
  have hS : (s.heap.push (newSet w)).get? s.heap.objs.size = some (newSet w) := Heap.get?_push_size _ rfl
  have hT : Shared.TypeIs { s with heap := s.heap.push (newSet w) } (.ref s.heap.objs.size) "set" := ⟨_, hS, rfl⟩
  refine codeAny_call_builtin F.called_set.init.plain F.entry_set_init (check_set_init_1 hT ?_)
  have k8 := PySem.F.sub_str_set
  have k9 := PySem.F.sub_str_frozenset
  have k10 : (Value.type "str" == Value.type "dict") = false := by decide
  have sz1 : (s.heap.push (newSet w)).objs.size = s.heap.objs.size + 1 := Heap.size_push ..
  have hh3 : A'.in1.in1.handled = none := by simp [hh, hA']
  have hb' : (signs x).length + 1 < scanBound := by rw [len]; exact hb
  have hD : s.heap.objs.size ∉ [s.heap.objs.size + 1] := by
    simp only [List.mem_cons, List.not_mem_nil, or_false, not_or]
    exact Nat.ne_of_lt (Nat.lt_succ_self _)
  have hw : ∀ b ∈ [s.heap.objs.size + 1], s.heap.objs.size < b := by
    intro b hb
    rw [List.mem_singleton.mp hb]
    exact Nat.lt_succ_self _
  unfold Builtin.«set.__init__» noKeywords Builtin.Frozenset.updateFrom
  generalize hPI : pyIter = PI
  wp_walk
  subst hPI
  have fin : ∀ {o : Obj} {ty : String}, (ty = "str_ascii_iterator" ∨ ty = "str_iterator") → ((s.heap.push (newSet w)).push o).IsStrIter (s.heap.objs.size + 1) ty x t 0 →
      codeAny (model P w) A'.in1 (.builtin "set.update.loop" ⟨[.ref s.heap.objs.size, .ref (s.heap.objs.size + 1)], []⟩) (fun r s₂ => r = .ok (.ret .none) ∧ SetEnd w (signs x) s .none s₂) { s with heap := (s.heap.push (newSet w)).push o } := by
    intro o ty hty st
    have W : PySem.Walks P w A'.in1.in1 (s.heap.objs.size + 1) [s.heap.objs.size + 1] [s.heap.objs.size + 1] (signs x).length (SignAt x) (fun i h => h.IsStrIter (s.heap.objs.size + 1) ty x t i) := by
      rw [len]
      cases hty with
      | inl e =>
        rw [e]
        exact PySem.Walks.strAscii hh3 _ x t
      | inr e =>
        rw [e]
        exact PySem.Walks.strWide hh3 _ x t
    exact set_loop (A := A'.in1) (P := P) (w := w) (s := s) (tk := s.toks) hb' W hD hw vals st (Heap.get?_push_of_some _ hS) (fun b o e => Heap.get?_push_of_some _ (Heap.get?_push_of_some _ e))
  cases ha : x.cps.all (· < 128) with
  | true =>
    apply wpAny_pyIter_ascii ha
    apply wpAny_bind
    apply wpAny_runValue
    have lp := fin (o := { cls := .type "str_ascii_iterator", data := .fields #[.str x t, .int 0 0] }) (.inl rfl) (by rw [← sz1]; exact ⟨_, Heap.get?_push_size _ rfl, rfl, rfl⟩)
    rw [← sz1] at lp
    apply codeAny_mono lp
    intro r₃ s₃ hr₃
    obtain ⟨rfl, hend⟩ := hr₃
    show wpAny _ _ _ _ _ _
    apply wpAny_pure
    show wpAny _ _ (ret Value.none) _ _ _
    exact wpAny_pure hend
  | false =>
    apply wpAny_pyIter_wide ha
    apply wpAny_bind
    apply wpAny_runValue
    have lp := fin (o := { cls := .type "str_iterator", data := .fields #[.str x t, .int 0 0] }) (.inr rfl) (by rw [← sz1]; exact ⟨_, Heap.get?_push_size _ rfl, rfl, rfl⟩)
    rw [← sz1] at lp
    apply codeAny_mono lp
    intro r₃ s₃ hr₃
    obtain ⟨rfl, hend⟩ := hr₃
    show wpAny _ _ _ _ _ _
    apply wpAny_pure
    show wpAny _ _ (ret Value.none) _ _ _
    exact wpAny_pure hend
theorem set_of_tup {l : Addr} {items : Array Value} (xs : List Str) {Q : Value → Shared → Prop} (hh : A.handled = none) (hl : s.heap.IsTuple l items) (hit : StrsAre items.toList xs) (hb : xs.length + 1 < scanBound)
    (h : ∀ (h' : Heap) (tk : Nat), SetS w h' s.heap.objs.size (ded [] xs) → (∀ b o, s.heap.get? b = some o → h'.get? b = some o) → Q (.ref s.heap.objs.size) { s with heap := h', toks := tk }) :
    wpAny (model P w) A (call (.type "set") [.ref l]) Q E s := by
  have isz : items.size = xs.length := by
    rw [← StrsAre.len_eq hit, Array.length_toList]
  have vals : ∀ (i : Nat) (v : Value), items[i]? = some v → ∃ k t, xs[i]? = some k ∧ v = .str k t := by
    intro i v hv
    have hi : i < xs.length := by
      rw [← isz]
      exact (Array.getElem?_eq_some_iff.mp hv).1
    obtain ⟨t, e⟩ := SS.strs_at hit i v (by rw [Array.getElem?_toList]; exact hv)
    refine ⟨xs[i], t, List.getElem?_eq_getElem hi, ?_⟩
    rw [e, List.getD_eq_getElem?_getD, List.getElem?_eq_getElem hi]
    rfl
  refine set_call xs (fun A' hA' => ?_) h
  have hS : (s.heap.push (newSet w)).get? s.heap.objs.size = some (newSet w) := Heap.get?_push_size _ rfl
  have hT : Shared.TypeIs { s with heap := s.heap.push (newSet w) } (.ref s.heap.objs.size) "set" := ⟨_, hS, rfl⟩
  refine codeAny_call_builtin F.called_set.init.plain F.entry_set_init (check_set_init_1 hT ?_)
  obtain ⟨⟨ocls, odict, odata, oslots⟩, hol, hcl, nl, hdl⟩ := hl
  simp only at hcl hdl
  subst hcl
  subst hdl
  have hol' : (s.heap.push (newSet w)).get? l = some { cls := .type "tuple", dict := odict, data := .seq items nl, slots := oslots } := Heap.get?_push_of_some _ hol
  have hl1 : (s.heap.push (newSet w)).IsTuple l items := ⟨_, hol', rfl, nl, rfl⟩
  have k8 := PySem.F.sub_tuple_set
  have k9 := PySem.F.sub_tuple_frozenset
  have k10 : (Value.type "tuple" == Value.type "dict") = false := by decide
  have hlS : l < s.heap.objs.size := Heap.lt_size hol
  have sz1 : (s.heap.push (newSet w)).objs.size = s.heap.objs.size + 1 := Heap.size_push ..
  unfold Builtin.«set.__init__» noKeywords Builtin.Frozenset.updateFrom
  generalize hPI : pyIter = PI
  wp_walk
  subst hPI
  apply wpAny_pyIter_tuple hl1
  apply wpAny_bind
  apply wpAny_runValue
  have neI : l ≠ (s.heap.push (newSet w)).objs.size := by
    rw [sz1]
    exact Nat.ne_of_lt (Nat.lt_succ_of_lt hlS)
  have hh3 : A'.in1.in1.handled = none := by simp [hh, hA']
  have wl : PySem.Walks P w A'.in1.in1 (s.heap.objs.size + 1) [s.heap.objs.size + 1, l] [s.heap.objs.size + 1] xs.length (fun i v => items[i]? = some v) (fun i h => h.IsTupleIter (s.heap.objs.size + 1) l i ∧ h.IsTuple l items) := by
    rw [← isz]
    rw [sz1] at neI
    exact PySem.Walks.tuple hh3 _ l neI items
  have hD : s.heap.objs.size ∉ [s.heap.objs.size + 1, l] := by
    simp only [List.mem_cons, List.not_mem_nil, or_false, not_or]
    exact ⟨Nat.ne_of_lt (Nat.lt_succ_self _), Nat.ne_of_gt hlS⟩
  have hw : ∀ b ∈ [s.heap.objs.size + 1], s.heap.objs.size < b := by
    intro b hb
    rw [List.mem_singleton.mp hb]
    exact Nat.lt_succ_self _
  have st0 : ((s.heap.push (newSet w)).push { cls := .type "tuple_iterator", data := .fields #[.ref l, .int 0 0] }).IsTupleIter (s.heap.objs.size + 1) l 0 := by
    rw [← sz1]
    exact ⟨_, Heap.get?_push_size _ rfl, rfl, rfl⟩
  have lp := set_loop (A := A'.in1) (P := P) (w := w) (s := s) (tk := s.toks) hb wl hD hw vals (h1 := (s.heap.push (newSet w)).push { cls := .type "tuple_iterator", data := .fields #[.ref l, .int 0 0] }) ⟨st0, hl1.push _⟩ (Heap.get?_push_of_some _ hS) (fun b o e => Heap.get?_push_of_some _ (Heap.get?_push_of_some _ e))
  rw [← sz1] at lp
  apply codeAny_mono lp
  intro r₃ s₃ hr₃
  obtain ⟨rfl, hend⟩ := hr₃
  show wpAny _ _ _ _ _ _
  apply wpAny_pure
  show wpAny _ _ (ret Value.none) _ _ _
  exact wpAny_pure hend
/-! ### the order of texts -/
def leS (a b : Str) : Bool := decide (a.cps.toList ≤ b.cps.toList)
/-- sorted(xs) -/
def srt (xs : List Str) : List Str := xs.mergeSort leS
theorem each_strs : ∀ {us : List Value} {xs : List Str}, StrsAre us xs → PySem.W.EachIs (fun v b => ∃ t, v = Value.str b t) us xs
  | _, _, .nil => .nil
  | _, _, .cons n t h => .cons ⟨t, rfl⟩ (each_strs h)
theorem strs_each : ∀ {us : List Value} {xs : List Str}, PySem.W.EachIs (fun v b => ∃ t, v = Value.str b t) us xs → StrsAre us xs
  | _, _, .nil => .nil
  | _, _, .cons ⟨t, e⟩ h => by
    subst e
    exact .cons _ t (strs_each h)
end
end Vx
namespace Vx
open Rep (rep)
open EnvR (er)
open PySem PySem.Spec PyProof.Rows L2
theorem leS_trans (a b c : Str) (h1 : leS a b = true) (h2 : leS b c = true) : leS a c = true := decide_eq_true (List.le_trans (of_decide_eq_true h1) (of_decide_eq_true h2))
theorem leS_total (a b : Str) : (leS a b || leS b a) = true := by
  unfold leS
  rw [Bool.or_eq_true, decide_eq_true_eq, decide_eq_true_eq]
  exact List.le_total _ _
theorem str_ext {a b : Str} (h : a.cps.toList = b.cps.toList) : a = b := by
  obtain ⟨⟨x⟩⟩ := a
  obtain ⟨⟨y⟩⟩ := b
  have h' : x = y := h
  rw [h']
theorem leS_anti (a b : Str) (h1 : leS a b = true) (h2 : leS b a = true) : a = b := str_ext (List.le_antisymm (of_decide_eq_true h1) (of_decide_eq_true h2))
theorem srt_pair (xs : List Str) : (srt xs).Pairwise (fun a b => leS a b = true) := List.pairwise_mergeSort leS_trans leS_total xs
theorem srt_perm (xs : List Str) : (srt xs).Perm xs := List.mergeSort_perm xs leS
theorem srt_eq {xs ys : List Str} (p : xs.Perm ys) : srt xs = srt ys := List.Perm.eq_of_pairwise (fun a b _ _ => leS_anti a b) (srt_pair xs) (srt_pair ys) ((srt_perm xs).trans (p.trans (srt_perm ys).symm))
section
variable {P : Program} {w : World} {A : Around} {E : Value → Shared → Prop} {s : Shared}
theorem strs_alike (bs : List Str) : PySem.W.AllAlike (bs.map PyData.str) := PySem.W.AllAlike.of fun b b' => rfl
theorem strs_sortable (bs : List Str) : PySem.W.Sortable (bs.map PyData.str) := PySem.W.Sortable.others fun b => ⟨fun z => PyData.noConfusion z, fun _ z => PyData.noConfusion z⟩
theorem strs_le : PySem.W.dataLe false PyData.str = leS := PySem.W.dataLe_str id
theorem each_reads {h : Heap} {us : List Value} {xs : List Str} (e : PySem.W.EachIs (fun v b => ∃ t, v = Value.str b t) us xs) : PySem.W.EachIs (fun v b => ∃ as, Reads h v (PyData.str b) as) us xs := by
  induction e with
  | nil => exact .nil
  | cons r _ ih =>
    obtain ⟨t, rfl⟩ := r
    exact .cons ⟨_, Reads.str _ t⟩ ih
theorem each_reads2 {h : Heap} {a : Addr} {us : List Value} {xs : List Str} (e : PySem.W.EachIs (fun v b => ∃ t, v = Value.str b t) us xs) : PySem.W.EachIs (fun v b => ∃ as, Reads h v (PyData.str b) as ∧ a ∉ as) us xs := by
  induction e with
  | nil => exact .nil
  | cons r _ ih =>
    obtain ⟨t, rfl⟩ := r
    exact .cons ⟨_, Reads.str _ t, by simp⟩ ih
/-- sorted(set(..)) behind the set -/
theorem sorted_setS {D : Addr} {l : List Str} {Q : Value → Shared → Prop} (R : SetS w s.heap D l) (hh : A.handled = none) (hu : A.units + 64 < cLine)
    (hQ : ∀ s' p (out : Array Value) (c : Nat), (∀ b o, s.heap.get? b = some o → s'.heap.get? b = some o) → s'.gens = s.gens → s'.os = s.os → s.heap.objs.size ≤ p → s'.heap.get? p = some (seqObj "list" out c) → StrsAre out.toList (srt l) → Q (.ref p) s') :
    wpAny (model P w) A (call (.builtin "sorted") [.ref D]) Q E s := by
  obtain ⟨o, es, ep, t, ho, hex, hd, g, nd, pm, hb, hf, hr, hl⟩ := R
  apply Calls.call_function_entry kind_sorted plain_sorted entry_sorted (args_sorted1 _)
  unfold Builtin.«sorted»
  refine wpAny_bind (m := checkCount "sorted" 1 1 _) (wpAny_pure ?_)
  apply wpAny_bind
  apply collect_set (A := A.in1) hh ⟨o, ho, hex.1, hd⟩ hf hb hr hl
  intro s1 vs k1 hz g1 o1 pv
  have txt : ∀ v ∈ vs, ∃ k tk, v = Value.str k tk := by
    intro v hv
    obtain ⟨e, he, q⟩ := List.mem_map.mp (pv.mem_iff.mp hv)
    obtain ⟨k, tk, e1, _⟩ := g e he
    exact ⟨k, tk, by rw [← q]; exact e1⟩
  have ev : PySem.W.EachIs (fun v b => ∃ t, v = Value.str b t) vs (vs.map fun v => keyS (0, v)) := by
    clear pv
    induction vs with
    | nil => exact .nil
    | cons v vs ih =>
      obtain ⟨k, tk, rfl⟩ := txt v List.mem_cons_self
      exact .cons ⟨tk, rfl⟩ (ih fun u hu => txt u (List.mem_cons_of_mem _ hu))
  have pk : (vs.map fun v => keyS (0, v)).Perm l := by
    have q := pv.map (fun v => keyS ((0 : Int), v))
    rw [List.map_map] at q
    exact q.trans pm
  have len : vs.length ≤ sizeLine := by
    have e1 := pv.length_eq
    have e2 : es.toList.length = es.size := Array.length_toList
    rw [List.length_map, e2] at e1
    rw [e1, sizeLine_eq]
    have : scanBound = 4096 := rfl
    omega
  apply wpAny_bind
  refine wpAny_newList ?_ len
  have hoL : (s1.heap.push (seqObj "list" vs.toArray 0)).get? s1.heap.objs.size = some (seqObj "list" vs.toArray 0) := Heap.get?_push_size _ rfl
  apply wpAny_bind
  apply wpAny_holding
  have er : PySem.W.EachIs (fun v b => ∃ as, Reads (s1.heap.push (seqObj "list" vs.toArray 0)) v (PyData.str b) as ∧ s1.heap.objs.size ∉ as) vs (vs.map fun v => keyS (0, v)) := each_reads2 ev
  apply PySem.W.list_sort_data (s := { s1 with heap := s1.heap.push (seqObj "list" vs.toArray 0) }) (enc := PyData.str) hoL ev er (strs_alike _) (strs_sortable _) (by rw [List.length_map]; exact len)
  · intro b _
    show A.units + 1 + 1 + 0 < cLine
    omega
  intro out hlen eo
  rw [strs_le] at eo
  obtain ⟨c, hc⟩ := sortedHeap_at (vs := vs) (out := out.toArray) hoL
  apply wpAny_pure
  refine ⟨_, rfl, hQ _ s1.heap.objs.size out.toArray c ?_ g1 o1 hz hc ?_⟩
  · intro b u e
    have q := k1 b u e
    have hlt := Heap.lt_size q
    show (sortedHeap (s1.heap.push (seqObj "list" vs.toArray 0)) s1.heap.objs.size vs out.toArray).get? b = some u
    rw [sortedHeap_old (Nat.ne_of_lt hlt) (by rw [size_push']; exact Nat.lt_succ_of_lt hlt)]
    exact Heap.get?_push_of_some _ q
  · have := strs_each eo
    show StrsAre out.toArray.toList (srt l)
    rw [← srt_eq pk]
    exact this
end
section
variable {X : Cx} {a : Expr} {ta : TE} {p p2 q pos : Pos}
/-- sorted(xs), texts -/
theorem cr_srt (hu : X.A.units + 64 < cLine) : CallR X (.builtin "sorted") (fun vs H Q => ∃ (b : Addr) (xs : List Str), vs = [.ref b] ∧ SqL X.K H b (xs.map V.str) ∧ xs.length ≤ 100000 ∧ ∀ p, H p = none → Q (.ref p) (upd H p (.lst ((srt xs).map V.str)))) := by
  intro pins s σ H vs us Q I r h
  obtain ⟨b, xs, rfl, hs, hz, k⟩ := h
  obtain ⟨its, rv, hl, _⟩ := I.list hs
  rw [Vals.ref1 r]
  have es := each_strs rv.strs
  have hL : xs.length ≤ sizeLine := Nat.le_trans hz (by decide)
  apply PySem.W.sorted_data (enc := PyData.str) hl.isList es (each_reads es) (strs_alike _) (strs_sortable _) hL
  · intro b _
    show X.A.units + 2 + 0 < cLine
    omega
  intro out hlen eo
  rw [strs_le] at eo
  have so := strs_each eo
  obtain ⟨ep, he'⟩ := PyProof.Rows.sortedAll_at s.heap its out.toArray
  have hn : H (s.heap.objs.size + 1) = none := I.hok.fresh (Nat.le_succ _)
  have lz : ((srt xs).map V.str).length ≤ sizeLine := by
    rw [List.length_map, (srt_perm xs).length_eq]
    exact hL
  exact ⟨.ref _, _, I.laid (t' := s.toks) (o := .lst ((srt xs).map V.str)) (fun _ _ => PyProof.Rows.sortedAll_old) (Nat.le_succ _) ⟨lz, out, ep, vals_of_strs so, he'⟩, rfl, k _ hn⟩
/-- a list of texts, or a text's signs -/
def Txts (K : PySem.W.Frag) (H : Hp) (x : V) (xs : List Str) : Prop := (∃ l, x = .ref l ∧ SqL K H l (xs.map V.str)) ∨ (∃ l, x = .ref l ∧ SqT K H l (xs.map V.str)) ∨ ∃ z : Str, x = .str z ∧ xs = signs z
def tSortSet (K : PySem.W.Frag) (te : TE) : TE := fun σ H Q => te σ H fun x H1 => ∃ xs : List Str, Txts K H1 x xs ∧ xs.length ≤ 4000 ∧ ∀ p, H1 p = none → Q (.ref p) (upd H1 p (.lst ((srt (ded [] xs)).map V.str)))
theorem pe_sortSet (hc : X.calm = true) (hu : X.A.units + 64 < cLine) (hm : X.mg "sorted" = none) (hm2 : X.mg "set" = none) (ha : PE X a ta) (hg : Gl X "sorted" := by rfl) (hg2 : Gl X "set" := by rfl)
    (na : starEach [a] X.env = (false, eval a X.env) :: starEach [] X.env := by rfl) : PE X (.Call (.Name "sorted" p) [.Call (.Name "set" p2) [a] [] q] [] pos) (tSortSet X.K ta) := by
  constructor
  intro pins s σ H Q I h
  refine Call_ (ld_blt I hg hm boot_sorted ?_)
  refine PyProof.Rows.callWith_builtin1 (PyProof.Rows.args_cons ?_ rfl) rfl rfl
  refine Call_ (ld_blt I hg2 hm2 boot_set ?_)
  refine PyProof.Rows.callWith_type1 (PyProof.Rows.args_cons (thn (ha.run pins s σ H _ I h) ?_) na) na rfl
  intro v s1 ⟨x, H1, I1, r1, xs, hx, hz, k⟩
  apply PyProof.Rows.args_nil
  have hz2 : xs.length + 1 < scanBound := by
    have : scanBound = 4096 := rfl
    omega
  have fin : ∀ (h' : Heap) (tk : Nat), SetS X.w h' s1.heap.objs.size (ded [] xs) → (∀ b o, s1.heap.get? b = some o → h'.get? b = some o) →
      wpAny (model X.prog X.w) X.A (spliced (backTo pos (starEach [] X.env))) (fun vs s₂ => wpAny (model X.prog X.w) X.A (call (.builtin "sorted") (Value.ref s1.heap.objs.size :: vs)) (EP X pins σ Q) X.xe s₂) X.xe { s1 with heap := h', toks := tk } := by
    intro h' tk hS hk
    apply PyProof.Rows.args_nil
    have I2 : L2.Inv X pins σ H1 { s1 with heap := h', toks := tk } := I1.kept hk
    apply sorted_setS (s := { s1 with heap := h', toks := tk }) hS (I1.ok.hd hc) hu
    intro s' p out c hk' hgn hos hp hget hst
    have hn : H1 p = none := I2.hok.fresh hp
    have lz : ((srt (ded [] xs)).map V.str).length ≤ sizeLine := by
      rw [List.length_map, (srt_perm _).length_eq]
      have := ded_len xs []
      refine Nat.le_trans this (Nat.le_trans ?_ (by decide : 4000 ≤ sizeLine))
      simpa using hz
    have J := I2.call (h' := s'.heap) (g' := s'.gens) (d' := s'.drawn) (t' := s'.toks) (ch := []) (Un.laid hk' hp hn) (I2.hok.laid hk' hp (o := .lst ((srt (ded [] xs)).map V.str)) ⟨lz, out.toList, c, vals_of_strs hst, hget⟩) (by rw [hgn]; exact I2.bare) (fun _ z => nomatch z)
    have e : s' = { s1 with heap := s'.heap, gens := s'.gens, drawn := s'.drawn, toks := s'.toks } := by
      cases s'
      cases hos
      rfl
    rw [e]
    exact ⟨.ref p, _, J, rfl, k p hn⟩
  rcases hx with ⟨l, rfl, hq⟩ | ⟨l, rfl, hq⟩ | ⟨z, rfl, rfl⟩
  · cases r1
    obtain ⟨its, rv, pl, _⟩ := I1.list hq
    exact set_of_list xs (I1.ok.hd hc) pl.isList (by simpa using rv.strs) hz2 fin
  · cases r1
    obtain ⟨its, rv, pl, _⟩ := I1.tuple hq
    exact set_of_tup xs (I1.ok.hd hc) pl (by simpa using rv.strs) hz2 fin
  · obtain ⟨t, rfl⟩ := r1
    exact set_of_str (I1.ok.hd hc) (by simpa [signs] using hz2) fin
end
end Vx
namespace Vx
open Rep (rep)
open EnvR (er)
open PySem PySem.Spec PyProof.Rows L2
/-! ### operators -/
section
variable {K : PySem.W.Frag}
theorem op2_I0 {g : Int → Int → V} {δ : Type} [Rep δ] {φ : Int → Int → Option δ} (h : ∀ G i j z, φ i j = some z → rep K G z (g i j)) : Op2 (rI0 g) (RE K) (RE K) (RE K) φ := fun F G H x y z vx vy Q w rx ry e k => by
  cases rx
  cases ry
  exact ⟨x, y, rfl, rfl, k _ G H (Ex.refl G) w (h G x y z e)⟩
theorem op2_I {C : Int → Int → Prop} {g : Int → Int → V} {δ : Type} [Rep δ] {φ : Int → Int → Option δ} (h : ∀ G i j z, φ i j = some z → C i j ∧ rep K G z (g i j)) : Op2 (rI C g) (RE K) (RE K) (RE K) φ := fun F G H x y z vx vy Q w rx ry e k => by
  cases rx
  cases ry
  exact ⟨x, y, rfl, rfl, (h G x y z e).1, k _ G H (Ex.refl G) w (h G x y z e).2⟩
def iAdd (i j : Int) : Option Int := some (i + j)
def iSub (i j : Int) : Option Int := some (i - j)
def iMul (i j : Int) : Option Int := if ((-(2 ^ 64) < i ∧ i < 2 ^ 64) ∨ (-(2 ^ 64) < j ∧ j < 2 ^ 64)) then some (i * j) else none
def iMod (i j : Int) : Option Int := if 0 < j then some (i % j) else none
def iDiv (i j : Int) : Option Int := if 0 < j ∧ j < 1073741824 then some (i / j) else none
def iPow (i j : Int) : Option Int := if 0 ≤ j ∧ j ≤ 1000 ∧ i.natAbs < 2 ^ 64 then some (i ^ j.toNat) else none
def iAnd (i j : Int) : Option Int := some (Builtin.bitAnd i j)
def iLt (i j : Int) : Option Bool := some (decide (i < j))
def iLe (i j : Int) : Option Bool := some (decide (i ≤ j))
def iGt (i j : Int) : Option Bool := some (decide (j < i))
def iGe (i j : Int) : Option Bool := some (decide (j ≤ i))
theorem o_iAdd : Op2 (rI0 fun i j => .int (i + j)) (RE K) (RE K) (RE K) iAdd := op2_I0 fun G i j z e => by cases e; rfl
theorem o_iSub : Op2 (rI0 fun i j => .int (i - j)) (RE K) (RE K) (RE K) iSub := op2_I0 fun G i j z e => by cases e; rfl
theorem o_iMul : Op2 (rI CMul fun i j => .int (i * j)) (RE K) (RE K) (RE K) iMul := op2_I fun G i j z e => by
  unfold iMul at e
  split at e
  · rename_i h
    cases e
    exact ⟨h, rfl⟩
  · cases e
theorem o_iMod : Op2 (rI (fun _ j => 0 < j) fun i j => .int (i % j)) (RE K) (RE K) (RE K) iMod := op2_I fun G i j z e => by
  unfold iMod at e
  split at e
  · rename_i h
    cases e
    exact ⟨h, rfl⟩
  · cases e
theorem o_iDiv : Op2 (rI CDiv fun i j => .int (i / j)) (RE K) (RE K) (RE K) iDiv := op2_I fun G i j z e => by
  unfold iDiv at e
  split at e
  · rename_i h
    cases e
    exact ⟨h, rfl⟩
  · cases e
theorem o_iPow : Op2 (rI CPow fun i j => .int (i ^ j.toNat)) (RE K) (RE K) (RE K) iPow := op2_I fun G i j z e => by
  unfold iPow at e
  split at e
  · rename_i h
    cases e
    exact ⟨⟨h.1, by omega, h.2.2⟩, rfl⟩
  · cases e
theorem o_iAnd : Op2 (rI0 fun i j => .int (Builtin.bitAnd i j)) (RE K) (RE K) (RE K) iAnd := op2_I0 fun G i j z e => by cases e; rfl
theorem o_iLt : Op2 (rI0 fun i j => .bl (decide (i < j))) (RE K) (RE K) (RE K) iLt := op2_I0 fun G i j z e => by cases e; rfl
theorem o_iLe : Op2 (rI0 fun i j => .bl (decide (i ≤ j))) (RE K) (RE K) (RE K) iLe := op2_I0 fun G i j z e => by cases e; rfl
theorem o_iGt : Op2 (rI0 fun i j => .bl (decide (j < i))) (RE K) (RE K) (RE K) iGt := op2_I0 fun G i j z e => by cases e; rfl
theorem o_iGe : Op2 (rI0 fun i j => .bl (decide (j ≤ i))) (RE K) (RE K) (RE K) iGe := op2_I0 fun G i j z e => by cases e; rfl
/-- == of numbers, texts, truths -/
class Scl (α : Type) [Rep α] [DecidableEq α] : Prop where
  v : ∀ {K : PySem.W.Frag} {G : Hp} {x y : α} {vx vy : V}, rep K G x vx → rep K G y vy → scal vx vy = true ∧ (vx = vy ↔ x = y)
instance : Scl Int := ⟨fun h k => by
  cases h
  cases k
  exact ⟨rfl, fun z => V.int.inj z, fun z => by rw [z]⟩⟩
instance : Scl Str := ⟨fun h k => by
  cases h
  cases k
  exact ⟨rfl, fun z => V.str.inj z, fun z => by rw [z]⟩⟩
instance : Scl Bool := ⟨fun h k => by
  cases h
  cases k
  exact ⟨rfl, fun z => V.bl.inj z, fun z => by rw [z]⟩⟩
def sEq {α : Type} [DecidableEq α] (x y : α) : Option Bool := some (decide (x = y))
def sNe {α : Type} [DecidableEq α] (x y : α) : Option Bool := some (!decide (x = y))
theorem o_sEq {α : Type} [Rep α] [DecidableEq α] [Scl α] : Op2 rEq (RE K (α := α)) (RE K) (RE K) sEq := fun F G H x y z vx vy Q w rx ry e k => by
  obtain ⟨h1, h2⟩ := Scl.v rx ry
  cases e
  refine ⟨h1, k _ G H (Ex.refl G) w ?_⟩
  show V.bl _ = V.bl _
  rw [decide_eq_decide.mpr h2]
theorem o_sNe {α : Type} [Rep α] [DecidableEq α] [Scl α] : Op2 rNe (RE K (α := α)) (RE K) (RE K) sNe := fun F G H x y z vx vy Q w rx ry e k => by
  obtain ⟨h1, h2⟩ := Scl.v rx ry
  cases e
  refine ⟨h1, k _ G H (Ex.refl G) w ?_⟩
  show V.bl _ = V.bl _
  rw [decide_eq_decide.mpr h2]
/-- texts -/
def sAdd (x y : Str) : Option Str := if x.length + y.length ≤ 100000 then some (x ++ y) else none
theorem o_sAdd : Op2 (fun x y H Q => ∃ i j, x = .str i ∧ y = .str j ∧ i.length + j.length ≤ sizeLine ∧ Q (.str (i ++ j)) H) (RE K) (RE K) (RE K) sAdd := fun F G H x y z vx vy Q w rx ry e k => by
  cases rx
  cases ry
  unfold sAdd at e
  split at e
  · rename_i h
    cases e
    exact ⟨x, y, rfl, rfl, Nat.le_trans h line_ge, k _ G H (Ex.refl G) w rfl⟩
  · cases e
/-- one sign -/
def sign1 (x : Str) : Option Nat := match x.cps.toList with
  | [c] => some c
  | _ => none
theorem sign1_eq {x : Str} {c : Nat} (h : sign1 x = some c) : x = ⟨#[c]⟩ := by
  obtain ⟨⟨l⟩⟩ := x
  unfold sign1 at h
  match l, h with
  | [d], h =>
    cases h
    rfl
def sIn (x y : Str) : Option Bool := (sign1 x).map fun c => decide (c ∈ y.cps.toList)
theorem o_sIn : Op2 (fun x y H Q => ∃ (c : Nat) (z : Str), x = .str ⟨#[c]⟩ ∧ y = .str z ∧ Q (.bl (decide (c ∈ z.cps.toList))) H) (RE K) (RE K) (RE K) sIn := fun F G H x y z vx vy Q w rx ry e k => by
  cases rx
  cases ry
  unfold sIn at e
  cases e1 : sign1 x with
  | none => rw [e1] at e; cases e
  | some c =>
    rw [e1] at e
    cases e
    have := sign1_eq e1
    subst this
    exact ⟨c, y, rfl, rfl, k _ G H (Ex.refl G) w rfl⟩
def sLe (x y : Str) : Option Bool := some (!decide (y.cps.toList < x.cps.toList))
theorem o_sLe : Op2 (fun x y H Q => ∃ i j, x = .str i ∧ y = .str j ∧ Q (.bl (!decide (j.cps.toList < i.cps.toList))) H) (RE K) (RE K) (RE K) sLe := fun F G H x y z vx vy Q w rx ry e k => by
  cases rx
  cases ry
  cases e
  exact ⟨x, y, rfl, rfl, k _ G H (Ex.refl G) w rfl⟩
/-- None -/
class NN (α : Type) [Rep α] : Prop where
  nn : ∀ {K : PySem.W.Frag} {G : Hp} {x : α} {v : V}, rep K G x v → v ≠ .non
instance : NN Int := ⟨fun h => by cases h; exact fun z => V.noConfusion z⟩
instance : NN Str := ⟨fun h => by cases h; exact fun z => V.noConfusion z⟩
instance : NN Bool := ⟨fun h => by cases h; exact fun z => V.noConfusion z⟩
def isN {α : Type} (x : Option α) (_ : Unit) : Option Bool := some x.isNone
def notN {α : Type} (x : Option α) (_ : Unit) : Option Bool := some x.isSome
theorem non_iff {α : Type} [Rep α] [NN α] {G : Hp} {x : Option α} {v : V} (h : rep K G x v) : v = .non ↔ x = none := by
  cases x with
  | none => exact ⟨fun _ => rfl, fun _ => h⟩
  | some y => exact ⟨fun z => absurd z (NN.nn (show rep K G y v from h)), fun z => by cases z⟩
theorem o_isN {α : Type} [Rep α] [NN α] : Op2 (fun x y H Q => y = .non ∧ Q (.bl (decide (x = .non))) H) (RE K (α := Option α)) (RE K) (RE K) isN := fun F G H x y z vx vy Q w rx ry e k => by
  cases e
  refine ⟨ry, k _ G H (Ex.refl G) w ?_⟩
  have := non_iff (K := K) (G := G) rx
  show V.bl _ = V.bl _
  cases x with
  | none => rw [decide_eq_true (this.mpr rfl)]; rfl
  | some y => rw [decide_eq_false (fun z => by cases this.mp z)]; rfl
theorem o_notN {α : Type} [Rep α] [NN α] : Op2 (fun x y H Q => y = .non ∧ Q (.bl (!decide (x = .non))) H) (RE K (α := Option α)) (RE K) (RE K) notN := fun F G H x y z vx vy Q w rx ry e k => by
  cases e
  refine ⟨ry, k _ G H (Ex.refl G) w ?_⟩
  have := non_iff (K := K) (G := G) rx
  show V.bl _ = V.bl _
  cases x with
  | none => rw [decide_eq_true (this.mpr rfl)]; rfl
  | some y => rw [decide_eq_false (fun z => by cases this.mp z)]; rfl
/-- lists put together; a new list -/
def lCat {α : Type} (x y : List α) : Option (List α) := if x.length + y.length ≤ 100000 then some (x ++ y) else none
theorem rl_at {α : Type} [Rep α] {F G H : Hp} {x : List α} {v : V} (w : W F G H) (h : RL K F G H x v) : ∃ p vs, v = .ref p ∧ H p = some (.lst vs) ∧ PySem.Paired (rep K G) x vs := by
  obtain ⟨p, vs, h1, h2, h3⟩ := h
  exact ⟨p, vs, h1, h2.elim (w.g _ _) (w.f _ _), h3⟩
theorem rf_new {α : Type} [Rep α] {F G H : Hp} {x : List α} {p : Addr} {vs : List V} (w : W F G H) (hp : H p = none) (r : PySem.Paired (rep K G) x vs) : W F G (upd H p (.lst vs)) ∧ RF K F G (upd H p (.lst vs)) x (.ref p) := by
  have fr := w.fresh hp
  exact ⟨⟨w.g.trans (Ex.upd hp), w.f.trans (Ex.upd hp), w.d⟩, p, vs, rfl, fr.2, fr.1, upd_same, r⟩
theorem o_lCat {α : Type} [Rep α] : Op2 rCat (RL K (α := α)) (RL K) (RF K) lCat := fun F G H x y z vx vy Q w rx ry e k => by
  obtain ⟨p, vs, h1, h2, h3⟩ := rl_at w rx
  obtain ⟨q, us, j1, j2, j3⟩ := rl_at w ry
  unfold lCat at e
  split at e
  · rename_i hl
    cases e
    refine ⟨p, q, vs, us, h1, j1, h2, j2, by rw [← paired_len h3, ← paired_len j3]; exact Nat.le_trans hl line_ge, fun d hd => ?_⟩
    obtain ⟨w2, r2⟩ := rf_new w hd (paired_app h3 j3)
    exact k _ G _ (Ex.refl G) w2 r2
  · cases e
/-- items -/
def lIx {α : Type} (x : List α) (i : Int) : Option α := atI x i
theorem paired_atI {α : Type} {R : α → V → Prop} {xs : List α} {vs : List V} {i : Int} {x : α} (h : PySem.Paired R xs vs) (e : atI xs i = some x) : ∃ v, atI vs i = some v ∧ R x v := by
  unfold atI at e ⊢
  rw [← paired_len h]
  cases q : ixN xs.length i with
  | none => rw [q] at e; cases e
  | some j =>
    rw [q] at e
    exact paired_get h e
theorem o_lIx {α : Type} [Rep α] : Op2 (rIxL K) (RL K (α := α)) (RE K) (RE K) lIx := fun F G H x y z vx vy Q w rx ry e k => by
  obtain ⟨p, vs, h1, h2, h3⟩ := rl_at w rx
  cases ry
  obtain ⟨v, hv, rv⟩ := paired_atI h3 e
  exact ⟨p, vs, y, v, h1, rfl, .inl (.inl h2), hv, k _ G H (Ex.refl G) w rv⟩
def tIx {α : Type} (x : Tup α) (i : Int) : Option α := atI x.l i
theorem o_tIx {α : Type} [Rep α] : Op2 (rIxT K) (RE K (α := Tup α)) (RE K) (RE K) tIx := fun F G H x y z vx vy Q w rx ry e k => by
  obtain ⟨p, vs, h1, h2, h3⟩ := rx
  cases ry
  obtain ⟨v, hv, rv⟩ := paired_atI h3 e
  exact ⟨p, vs, y, v, h1, rfl, .inl (.inl (w.g _ _ h2)), hv, k _ G H (Ex.refl G) w rv⟩
def sIx (x : Str) (i : Int) : Option Str := if x.length ≤ 100000 then (atI x.cps.toList i).map fun c => ⟨#[c]⟩ else none
/-- the script's items -/
def cIx (x : Scr) (i : Int) : Option Int := atI x.l i
theorem atI_map {α β : Type} (f : α → β) (xs : List α) (i : Int) : atI (xs.map f) i = (atI xs i).map f := by
  unfold atI
  rw [List.length_map]
  cases ixN xs.length i with
  | none => rfl
  | some j => simp [List.getElem?_map]
theorem scr_at {F G H : Hp} {x : Scr} {v : V} (w : W F G H) (h : rep K G x v) : ∃ p, v = .ref p ∧ SqL K H p (x.l.map V.int) := Rep.mono (Ex.trans w.g (Ex.refl H)) h
theorem o_cIx : Op2 (rIxL K) (RE K (α := Scr)) (RE K) (RE K) cIx := fun F G H x y z vx vy Q w rx ry e k => by
  obtain ⟨p, h1, h2⟩ := scr_at w rx
  cases ry
  have e' : atI x.l y = some z := e
  exact ⟨p, _, y, .int z, h1, rfl, h2, by rw [atI_map, e']; rfl, k _ G H (Ex.refl G) w rfl⟩
theorem strs_of {G : Hp} : ∀ {xs : List Str} {vs : List V}, PySem.Paired (rep K G) xs vs → vs = xs.map V.str
  | _, _, .nil => rfl
  | x :: xs, v :: vs, .cons r t => by
    have e : v = .str x := r
    rw [e, strs_of t]
    rfl
theorem of_strs {G : Hp} : ∀ {xs : List Str}, PySem.Paired (rep K G) xs (xs.map V.str)
  | [] => .nil
  | _ :: _ => .cons rfl of_strs
theorem inV_strs (x : Str) : ∀ ys : List Str, inV (.str x) (ys.map V.str) = decide (x ∈ ys)
  | [] => by simp [inV]
  | y :: ys => by
    have ih := inV_strs x ys
    unfold inV at ih ⊢
    rw [List.map_cons, List.any_cons, ih]
    show ((y == x) || decide (x ∈ ys)) = decide (x ∈ y :: ys)
    by_cases h : y = x
    · subst h
      simp
    · have h' : x ≠ y := fun z => h z.symm
      have : (y == x) = false := by simpa using h
      rw [this]
      simp [h']
theorem flat_map (ys : List Str) : (ys.map V.str).all flatV = true := by
  induction ys with
  | nil => rfl
  | cons y ys ih => simp [flatV, ih]
def tIn (x : Str) (ys : Tup Str) : Option Bool := some (decide (x ∈ ys.l))
def tNotIn (x : Str) (ys : Tup Str) : Option Bool := some (!decide (x ∈ ys.l))
theorem o_tIn : Op2 (rIn K false) (RE K) (RE K) (RE K) tIn := fun F G H x y z vx vy Q w rx ry e k => by
  obtain ⟨p, vs, h1, h2, h3⟩ := ry
  cases rx
  cases e
  have := strs_of h3
  subst this
  refine ⟨p, _, h1, .inr (.inl (.inl (w.g _ _ h2))), rfl, flat_map y.l, k _ G H (Ex.refl G) w ?_⟩
  show V.bl _ = V.bl _
  rw [inV_strs]
  rfl
theorem o_tNotIn : Op2 (rIn K true) (RE K) (RE K) (RE K) tNotIn := fun F G H x y z vx vy Q w rx ry e k => by
  obtain ⟨p, vs, h1, h2, h3⟩ := ry
  cases rx
  cases e
  have := strs_of h3
  subst this
  refine ⟨p, _, h1, .inr (.inl (.inl (w.g _ _ h2))), rfl, flat_map y.l, k _ G H (Ex.refl G) w ?_⟩
  show V.bl _ = V.bl _
  rw [inV_strs]
  rfl
end
end Vx
namespace Vx
open Rep (rep)
open EnvR (er)
open PySem PySem.Spec PyProof.Rows L2
/-! ### plain data -/
class Dat (α : Type) [Rep α] where
  d : α → PyData
  ok : ∀ {K : PySem.W.Frag} {G H : Hp} {a : α} {v : V}, rep K G a v → Ex G H → Dp K H v (d a)
  plain : ∀ a : α, (d a).plain = true
  dep : Nat
  depth : ∀ a : α, (d a).depth ≤ dep
class DatE (α : Type) [Rep α] [Dat α] [DecidableEq α] : Prop where
  eqv : ∀ x y : α, PyData.eqv (Dat.d x) (Dat.d y) = decide (x = y)
instance : Dat Int := ⟨PyData.int, fun h _ => by cases h; exact .int _, fun _ => rfl, 0, fun _ => Nat.le_refl _⟩
instance : DatE Int := ⟨fun x y => rfl⟩
instance : Dat Bool := ⟨PyData.bool, fun h _ => by cases h; exact .bl _, fun _ => rfl, 0, fun _ => Nat.le_refl _⟩
instance : DatE Bool := ⟨fun x y => by cases x <;> cases y <;> rfl⟩
instance : Dat Str := ⟨PyData.str, fun h _ => by cases h; exact .str _, fun _ => rfl, 0, fun _ => Nat.le_refl _⟩
instance : DatE Str := ⟨fun x y => rfl⟩
instance : Dat Unit := ⟨fun _ => PyData.none, fun h _ => by cases h; exact .non, fun _ => rfl, 0, fun _ => Nat.le_refl _⟩
instance : DatE Unit := ⟨fun x y => rfl⟩
instance {α : Type} [Rep α] [Dat α] : Dat (Option α) := ⟨fun x => match x with | none => PyData.none | some y => Dat.d y, fun {K G H a v} h e => by
  cases a with
  | none => cases (show v = .non from h); exact .non
  | some y => exact Dat.ok h e, fun x => by
  cases x with
  | none => rfl
  | some y => exact Dat.plain y, Dat.dep α, fun x => by
  cases x with
  | none => exact Nat.zero_le _
  | some y => exact Dat.depth y⟩
theorem dp_all {α : Type} [Rep α] [Dat α] {K : PySem.W.Frag} {G H : Hp} (e : Ex G H) : ∀ {xs : List α} {vs : List V}, PySem.Paired (rep K G) xs vs → DpAll K H vs (xs.map Dat.d)
  | _, _, .nil => .nil
  | _, _, .cons r t => .cons (Dat.ok r e) (dp_all e t)
theorem plain_all {α : Type} [Rep α] [Dat α] : ∀ xs : List α, PyData.plainAll (xs.map Dat.d) = true
  | [] => rfl
  | x :: xs => by
    rw [List.map_cons]
    show (PyData.plain (Dat.d x) && PyData.plainAll (xs.map Dat.d)) = true
    rw [Dat.plain x, plain_all xs]
    rfl
theorem depth_all {α : Type} [Rep α] [Dat α] : ∀ xs : List α, PyData.depthAll (xs.map Dat.d) ≤ Dat.dep α
  | [] => Nat.zero_le _
  | x :: xs => by
    rw [List.map_cons]
    have h1 := Dat.depth x
    have h2 := depth_all xs
    simp only [PyData.depthAll]
    omega
theorem eqv_all {α : Type} [Rep α] [Dat α] [DecidableEq α] [DatE α] (xs ys : List α) : PyData.eqvAll (xs.map Dat.d) (ys.map Dat.d) = decide (xs = ys) := by
  induction xs generalizing ys with
  | nil => cases ys <;> rfl
  | cons x xs ih =>
    cases ys with
    | nil => rfl
    | cons y ys =>
      have z : PyData.eqvAll ((x :: xs).map Dat.d) ((y :: ys).map Dat.d) = (decide (x = y) && decide (xs = ys)) := by
        rw [← DatE.eqv x y, ← ih ys]; rfl
      rw [z, ← Bool.decide_and]
      exact decide_eq_decide.mpr (by simp)
instance {α : Type} [Rep α] [Dat α] : Dat (List α) := ⟨fun xs => PyData.list (xs.map Dat.d), fun ⟨p, vs, h1, h2, h3⟩ e => by
  subst h1
  exact .lst (.inl (.inl (e _ _ h2))) (dp_all e h3), fun xs => plain_all xs, Dat.dep α + 1, fun xs => by
  have := depth_all xs
  simp only [PyData.depth]
  omega⟩
instance {α : Type} [Rep α] [Dat α] [DecidableEq α] [DatE α] : DatE (List α) := ⟨fun xs ys => by
  show PyData.eqv (.list _) (.list _) = _
  rw [PyData.eqv]
  exact eqv_all xs ys⟩
instance {α : Type} [Rep α] [Dat α] : Dat (Tup α) := ⟨fun xs => PyData.tuple (xs.l.map Dat.d), fun ⟨p, vs, h1, h2, h3⟩ e => by
  subst h1
  exact .tup (.inl (.inl (e _ _ h2))) (dp_all e h3), fun xs => plain_all xs.l, Dat.dep α + 1, fun xs => by
  have := depth_all xs.l
  simp only [PyData.depth]
  omega⟩
instance {α : Type} [Rep α] [Dat α] [DecidableEq α] [DatE α] : DatE (Tup α) := ⟨fun xs ys => by
  show PyData.eqv (.tuple _) (.tuple _) = _
  rw [PyData.eqv, eqv_all]
  obtain ⟨xs⟩ := xs
  obtain ⟨ys⟩ := ys
  simp⟩
instance {α β : Type} [Rep α] [Rep β] [Dat α] [Dat β] : Dat (T2 α β) := ⟨fun x => PyData.tuple [Dat.d x.a, Dat.d x.b], fun ⟨p, va, vb, h1, h2, h3, h4⟩ e => by
  subst h1
  exact .tup (.inl (.inl (e _ _ h2))) (.cons (Dat.ok h3 e) (.cons (Dat.ok h4 e) .nil)), fun x => by
  show (PyData.plain (Dat.d x.a) && (PyData.plain (Dat.d x.b) && true)) = true
  rw [Dat.plain, Dat.plain]
  rfl, Dat.dep α + Dat.dep β + 1, fun x => by
  have h1 := Dat.depth x.a
  have h2 := Dat.depth x.b
  simp only [PyData.depth, PyData.depthAll]
  omega⟩
instance {α β : Type} [Rep α] [Rep β] [Dat α] [Dat β] [DecidableEq α] [DecidableEq β] [DatE α] [DatE β] : DatE (T2 α β) := ⟨fun x y => by
  show PyData.eqv (.tuple [_, _]) (.tuple [_, _]) = _
  obtain ⟨a, b⟩ := x
  obtain ⟨c, e⟩ := y
  simp only [PyData.eqv, PyData.eqvAll, DatE.eqv]
  by_cases h1 : a = c <;> by_cases h2 : b = e <;> simp [h1, h2]⟩
/-! ### == and != of plain data -/
def rEqP (K : PySem.W.Frag) : L2.R2 := fun x y H Q => ∃ d e, Dp K H x d ∧ Dp K H y e ∧ d.plain = true ∧ e.plain = true ∧ d.depth ≤ 60 ∧ Q (.bl (PyData.eqv d e)) H
def rNeP (K : PySem.W.Frag) : L2.R2 := fun x y H Q => ∃ d e, Dp K H x d ∧ Dp K H y e ∧ d.plain = true ∧ e.plain = true ∧ d.depth ≤ 60 ∧ Q (.bl (!PyData.eqv d e)) H
theorem op_eqP {X : Cx} (hu : X.A.units + 60 < cLine) : OpR X (compareOp .Eq) (rEqP X.K) := by
  intro pins s σ H x y v u Q I rx ry h
  obtain ⟨d, e, hd, he, sd, se, hl, q⟩ := h
  obtain ⟨as, r1⟩ := Dp.reads I d x v hd rx
  obtain ⟨bs, r2⟩ := Dp.reads I e y u he ry
  exact PySem.SeqAt.eq_plain r1 r2 sd se (by omega) ⟨.bl _, H, I, rfl, q⟩
theorem op_neP {X : Cx} (hu : X.A.units + 60 < cLine) : OpR X (compareOp .NotEq) (rNeP X.K) := by
  intro pins s σ H x y v u Q I rx ry h
  obtain ⟨d, e, hd, he, sd, se, hl, q⟩ := h
  obtain ⟨as, r1⟩ := Dp.reads I d x v hd rx
  obtain ⟨bs, r2⟩ := Dp.reads I e y u he ry
  exact PySem.SeqAt.ne_plain r1 r2 sd se (by omega) ⟨.bl _, H, I, rfl, q⟩
section
variable {K : PySem.W.Frag}
/-- == of what stands for one kind -/
def dEq {α : Type} [DecidableEq α] (x y : α) : Option Bool := some (decide (x = y))
def dNe {α : Type} [DecidableEq α] (x y : α) : Option Bool := some (!decide (x = y))
theorem o_dEq {α : Type} [Rep α] [Dat α] [DecidableEq α] [DatE α] (hd : Dat.dep α ≤ 60 := by decide) : Op2 (rEqP K) (RE K (α := α)) (RE K) (RE K) dEq := fun F G H x y z vx vy Q w rx ry e k => by
  cases e
  refine ⟨_, _, Dat.ok rx w.g, Dat.ok ry w.g, Dat.plain _, Dat.plain _, Nat.le_trans (Dat.depth _) hd, ?_⟩
  rw [DatE.eqv]
  exact k _ G H (Ex.refl G) w rfl
theorem o_dNe {α : Type} [Rep α] [Dat α] [DecidableEq α] [DatE α] (hd : Dat.dep α ≤ 60 := by decide) : Op2 (rNeP K) (RE K (α := α)) (RE K) (RE K) dNe := fun F G H x y z vx vy Q w rx ry e k => by
  cases e
  refine ⟨_, _, Dat.ok rx w.g, Dat.ok ry w.g, Dat.plain _, Dat.plain _, Nat.le_trans (Dat.depth _) hd, ?_⟩
  rw [DatE.eqv]
  exact k _ G H (Ex.refl G) w rfl
end
/-! ### built-in functions of values -/
section
variable {Γ : Type} [EnvR Γ] {β : Type} {A : Type} [RepL A] {X : Cx} {e : Expr} {es : List Expr} {x : Str} {p pos : Pos} {r : List V → Hp → VK → Prop} {R : RR β} {φ : A → Option β} {f : Γ → Option A} {fm : Γ → Option (A × Γ)}
def OpA (r : List V → Hp → VK → Prop) (K : PySem.W.Frag) (R : RR β) (φ : A → Option β) : Prop := ∀ F G H a y vs (Q : VK), W F G H → RepL.rl K G a vs → φ a = some y → (∀ v G2 H2, Ex G G2 → W F G2 H2 → R F G2 H2 y v → Q v H2) → r vs H Q
theorem tea1 {K : PySem.W.Frag} (o : OpA r K R φ) {σ : L2.St} {H : Hp} {Q : VK} (h : tev K R (f1 φ f) σ H Q) : tea K f σ H fun vs H1 => r vs H1 Q := by
  obtain ⟨F, G, L, γ, y, w, he, ea, q⟩ := h
  unfold f1 at ea
  cases e1 : f γ with
  | none => rw [e1] at ea; cases ea
  | some a =>
    rw [e1] at ea
    exact ⟨F, G, L, γ, a, w, he, e1, fun vs G2 H2 e2 w2 r2 => o F G2 H2 a y vs Q w2 r2 ea fun v G3 H3 e3 w3 r3 => q v G3 H3 (e2.trans e3) w3 r3⟩
theorem tma1 {K : PySem.W.Frag} (o : OpA r K R φ) {σ : L2.St} {H : Hp} {Q : VK} (h : tem K R (m1 φ fm) σ H Q) : tma K fm σ H fun vs H1 => r vs H1 Q := by
  obtain ⟨F, G, L, γ, y, γ', w, he, ea, q⟩ := h
  obtain ⟨a, e1, e2⟩ := m1_some ea
  exact ⟨F, G, L, γ, a, γ', w, he, e1, fun vs F2 G2 H2 x2 w2 o2 h2 r2 => o F2 G2 H2 a y vs Q w2 r2 e2 fun v G3 H3 x3 w3 r3 => q v F2 G3 H3 (x2.trans x3) w3 o2 (EnvR.mono x3 h2) r3⟩
theorem vo_blt {id : String} (hc : CallR X (.builtin id) r) (o : OpA r X.K R φ) (ha : VA X (e :: es) f) (hm : X.mg x = none) (hv : bootBuiltins x = some (.builtin id) := by decide +kernel) (hg : Gl X x := by rfl) (hn : x ≠ "__name__" := by decide) (hdb : (x == ("__debug__" : Str)) = false := by decide)
    (he : starEach (e :: es) X.env = (false, eval e X.env) :: starEach es X.env := by rfl) (hpl : (backTo pos (starEach es X.env)).any (·.1) = false := by rfl) : VO X (.Call (.Name x p) (e :: es) [] pos) R (f1 φ f) :=
  PE.le (pe_callB hc hg hm hv ha hn hdb he hpl) fun σ H Q h => tea1 o h
theorem vo_bty {T : String} (hc : CallR X (.type T) r) (o : OpA r X.K R φ) (ha : VA X (e :: es) f) (hm : X.mg x = none) (hv : bootBuiltins x = some (.type T) := by decide +kernel) (hg : Gl X x := by rfl) (hn : x ≠ "__name__" := by decide) (hdb : (x == ("__debug__" : Str)) = false := by decide)
    (he : starEach (e :: es) X.env = (false, eval e X.env) :: starEach es X.env := by rfl) (hpl : (backTo pos (starEach es X.env)).any (·.1) = false := by rfl) : VO X (.Call (.Name x p) (e :: es) [] pos) R (f1 φ f) :=
  PE.le (pe_callTy hc hg hm hv ha hn hdb he hpl) fun σ H Q h => tea1 o h
theorem mo_bty {T : String} (hc : CallR X (.type T) r) (o : OpA r X.K R φ) (ha : MA X (e :: es) fm) (hm : X.mg x = none) (hv : bootBuiltins x = some (.type T) := by decide +kernel) (hg : Gl X x := by rfl) (hn : x ≠ "__name__" := by decide) (hdb : (x == ("__debug__" : Str)) = false := by decide)
    (he : starEach (e :: es) X.env = (false, eval e X.env) :: starEach es X.env := by rfl) (hpl : (backTo pos (starEach es X.env)).any (·.1) = false := by rfl) : MO X (.Call (.Name x p) (e :: es) [] pos) R (m1 φ fm) :=
  PE.le (pe_callTy hc hg hm hv ha hn hdb he hpl) fun σ H Q h => tma1 o h
end
section
variable {K : PySem.W.Frag}
theorem rl1 {α : Type} [Rep α] {G : Hp} {a : α × Unit} {vs : List V} (h : RepL.rl K G a vs) : ∃ v, vs = [v] ∧ rep K G a.1 v := by
  obtain ⟨v, r, h1, h2, h3⟩ := h
  cases (show r = [] from h3)
  exact ⟨v, h1, h2⟩
theorem rl2 {α β : Type} [Rep α] [Rep β] {G : Hp} {a : α × β × Unit} {vs : List V} (h : RepL.rl K G a vs) : ∃ v u, vs = [v, u] ∧ rep K G a.1 v ∧ rep K G a.2.1 u := by
  obtain ⟨v, r, h1, h2, h3⟩ := h
  obtain ⟨u, e, h4⟩ := rl1 h3
  exact ⟨v, u, by rw [h1, e], h2, h4⟩
def lenS (a : Str × Unit) : Option Int := if a.1.length ≤ 100000 then some (a.1.length : Int) else none
def lenL {α : Type} (a : List α × Unit) : Option Int := some (a.1.length : Int)
def lenT {α : Type} (a : Tup α × Unit) : Option Int := some (a.1.l.length : Int)
def lenC (a : Scr × Unit) : Option Int := some (a.1.l.length : Int)
abbrev rLen (K : PySem.W.Frag) : List V → Hp → VK → Prop := fun xs H Q => ∃ x n, xs = [x] ∧ LenV K x H n ∧ Q (.int n) H
theorem o_lenS : OpA (rLen K) K (RE K) lenS := fun F G H a y vs Q w r e k => by
  obtain ⟨v, h1, h2⟩ := rl1 r
  cases h2
  unfold lenS at e
  split at e
  · rename_i hl
    cases e
    exact ⟨_, _, h1, ⟨Nat.le_trans hl line_ge, rfl⟩, k _ G H (Ex.refl G) w rfl⟩
  · cases e
theorem o_lenL {α : Type} [Rep α] : OpA (rLen K) K (RE K) (lenL (α := α)) := fun F G H a y vs Q w r e k => by
  obtain ⟨v, h1, p, us, h2, h3, h4⟩ := rl1 r
  cases e
  subst h2
  exact ⟨_, us.length, h1, .inl ⟨us, .inl (.inl (w.g _ _ h3)), rfl⟩, k _ G H (Ex.refl G) w (by rw [paired_len h4]; rfl)⟩
theorem o_lenT {α : Type} [Rep α] : OpA (rLen K) K (RE K) (lenT (α := α)) := fun F G H a y vs Q w r e k => by
  obtain ⟨v, h1, p, us, h2, h3, h4⟩ := rl1 r
  cases e
  subst h2
  exact ⟨_, us.length, h1, .inr ⟨us, .inl (.inl (w.g _ _ h3)), rfl⟩, k _ G H (Ex.refl G) w (by rw [paired_len h4]; rfl)⟩
theorem o_lenC : OpA (rLen K) K (RE K) lenC := fun F G H a y vs Q w r e k => by
  obtain ⟨v, h1, h2⟩ := rl1 r
  obtain ⟨p, h3, h4⟩ := scr_at w h2
  cases e
  subst h3
  exact ⟨_, _, h1, .inl ⟨_, h4, rfl⟩, k _ G H (Ex.refl G) w (by rw [List.length_map]; rfl)⟩
def absI (a : Int × Unit) : Option Int := some (if a.1 < 0 then -a.1 else a.1)
theorem o_abs : OpA (fun xs H Q => ∃ i, xs = [.int i] ∧ Q (.int (if i < 0 then -i else i)) H) K (RE K) absI := fun F G H a y vs Q w r e k => by
  obtain ⟨v, h1, h2⟩ := rl1 r
  cases h2
  cases e
  exact ⟨_, h1, k _ G H (Ex.refl G) w rfl⟩
def intI (a : Int × Unit) : Option Int := some a.1
theorem o_int : OpA (fun xs H Q => (∃ i, xs = [.int i] ∧ Q (.int i) H) ∨ ∃ k, xs = [.bl k] ∧ Q (.int (if k then 1 else 0)) H) K (RE K) intI := fun F G H a y vs Q w r e k => by
  obtain ⟨v, h1, h2⟩ := rl1 r
  cases h2
  cases e
  exact .inl ⟨_, h1, k _ G H (Ex.refl G) w rfl⟩
def max2 (a : Int × Int × Unit) : Option Int := some (if a.2.1 > a.1 then a.2.1 else a.1)
def min2 (a : Int × Int × Unit) : Option Int := some (if a.2.1 < a.1 then a.2.1 else a.1)
theorem o_max2 : OpA (fun xs H Q => ∃ i j, xs = [.int i, .int j] ∧ Q (.int (if j > i then j else i)) H) K (RE K) max2 := fun F G H a y vs Q w r e k => by
  obtain ⟨v, u, h1, h2, h3⟩ := rl2 r
  cases h2
  cases h3
  cases e
  exact ⟨_, _, h1, k _ G H (Ex.refl G) w rfl⟩
theorem o_min2 : OpA (fun xs H Q => ∃ i j, xs = [.int i, .int j] ∧ Q (.int (if j < i then j else i)) H) K (RE K) min2 := fun F G H a y vs Q w r e k => by
  obtain ⟨v, u, h1, h2, h3⟩ := rl2 r
  cases h2
  cases h3
  cases e
  exact ⟨_, _, h1, k _ G H (Ex.refl G) w rfl⟩
/-- tuple(a list), tuple(a tuple) -/
def tupL {α : Type} (a : List α × Unit) : Option (Tup α) := some ⟨a.1⟩
abbrev rTupOf (K : PySem.W.Frag) : List V → Hp → VK → Prop := fun xs H Q => ∃ p ys, xs = [.ref p] ∧ ((SqL K H p ys ∧ ∀ l, H l = none → Q (.ref l) (upd H l (.tup ys))) ∨ (SqT K H p ys ∧ Q (.ref p) H))
theorem o_tupL {α : Type} [Rep α] : OpA (rTupOf K) K (RE K) (tupL (α := α)) := fun F G H a y vs Q w r e k => by
  obtain ⟨v, h1, p, us, h2, h3, h4⟩ := rl1 r
  cases e
  subst h2
  exact ⟨p, us, h1, .inl ⟨.inl (.inl (w.g _ _ h3)), fun l hl => k _ _ _ (Ex.upd (w.fresh hl).1) (w.new hl) ⟨l, us, rfl, upd_same, Paired.mono (fun _ _ r => Rep.mono (Ex.upd (w.fresh hl).1) r) h4⟩⟩⟩
/-- list(a tuple), list(a list) -/
def lstT {α : Type} (a : Tup α × Unit) : Option (List α) := some a.1.l
abbrev rLstOf (K : PySem.W.Frag) : List V → Hp → VK → Prop := fun xs H Q => ∃ p ys, xs = [.ref p] ∧ (SqL K H p ys ∨ SqT K H p ys) ∧ ∀ l, H l = none → Q (.ref l) (upd H l (.lst ys))
theorem o_lstT {α : Type} [Rep α] : OpA (rLstOf K) K (RF K) (lstT (α := α)) := fun F G H a y vs Q w r e k => by
  obtain ⟨v, h1, p, us, h2, h3, h4⟩ := rl1 r
  cases e
  subst h2
  exact ⟨p, us, h1, .inr (.inl (.inl (w.g _ _ h3))), fun l hl => let ⟨w2, r2⟩ := rf_new w hl h4; k _ _ _ (Ex.refl G) w2 r2⟩
/-- all, any of truths -/
theorem bls_of {G : Hp} : ∀ {xs : List Bool} {vs : List V}, PySem.Paired (rep K G) xs vs → vs = xs.map V.bl
  | _, _, .nil => rfl
  | x :: xs, v :: vs, .cons r t => by
    have e : v = .bl x := r
    rw [e, bls_of t]
    rfl
def allB (a : List Bool × Unit) : Option Bool := some (a.1.all id)
theorem o_allB : OpA (rAll K) K (RE K) allB := fun F G H a y vs Q w r e k => by
  obtain ⟨v, h1, p, us, h2, h3, h4⟩ := rl1 r
  cases e
  subst h2
  rw [bls_of h4] at h3
  exact ⟨p, a.1, h1, .inl (.inl (w.g _ _ h3)), k _ G H (Ex.refl G) w rfl⟩
/-- all, any of whole numbers -/
theorem paired_getR {α β : Type} {R : α → β → Prop} : ∀ {xs : List α} {ys : List β} {i : Nat} {y : β}, PySem.Paired R xs ys → ys[i]? = some y → ∃ x, xs[i]? = some x ∧ R x y
  | _, _, 0, _, .cons r _, h => by
    cases h
    exact ⟨_, rfl, r⟩
  | _, _, i + 1, _, .cons _ t, h => paired_getR (i := i) t (by simpa using h)
/-! repr of plain data -/
def fits (d : PyData) : Bool := d.showable && decide (d.depth ≤ 50) && decide (d.shown.length ≤ sizeLine)
class Ref (α : Type) [Rep α] : Prop where
  ref : ∀ {K : PySem.W.Frag} {G : Hp} {a : α} {v : V}, rep K G a v → ∃ p, v = .ref p
instance {α : Type} [Rep α] : Ref (List α) := ⟨fun ⟨p, _, h, _⟩ => ⟨p, h⟩⟩
instance {α : Type} [Rep α] : Ref (Tup α) := ⟨fun ⟨p, _, h, _⟩ => ⟨p, h⟩⟩
instance {α β : Type} [Rep α] [Rep β] : Ref (T2 α β) := ⟨fun ⟨p, _, _, h, _⟩ => ⟨p, h⟩⟩
end
end Vx
namespace Vx
open Rep (rep)
open EnvR (er)
open PySem PySem.Spec PyProof.Rows L2
/-! ### rows of things of one kind: [e, ..], (e, ..) -/
section
variable {Γ : Type} [EnvR Γ] {α : Type} [Rep α] {X : Cx} {e : Expr} {es : List Expr} {pos : Pos}
def tel (K : PySem.W.Frag) (f : Γ → Option (List α)) : TA := fun σ H Q => ∃ F G L γ a, W F G H ∧ er K G F L σ γ ∧ f γ = some a ∧ ∀ vs G2 H2, Ex G G2 → W F G2 H2 → PySem.Paired (rep K G2) a vs → Q vs H2
abbrev VLs (X : Cx) (es : List Expr) (f : Γ → Option (List α)) : Prop := PA X es (tel X.K f)
def lnil : Γ → Option (List α) := fun _ => some []
def lcons (f : Γ → Option α) (g : Γ → Option (List α)) : Γ → Option (List α) := f2 (fun x y => some (x :: y)) f g
def mlcons (f : Γ → Option (α × Γ)) (g : Γ → Option (List α × Γ)) : Γ → Option (List α × Γ) := m2 (fun x y => some (x :: y)) f g
theorem f2_some {β δ : Type} {φ : α → β → Option δ} {f : Γ → Option α} {g : Γ → Option β} {γ : Γ} {z : δ} (h : f2 φ f g γ = some z) : ∃ x y, f γ = some x ∧ g γ = some y ∧ φ x y = some z := by
  unfold f2 at h
  cases e1 : f γ with
  | none => rw [e1] at h; cases h
  | some x =>
    rw [e1] at h
    cases e2 : g γ with
    | none => simp only [Option.bind_some] at h; rw [e2] at h; cases h
    | some y =>
      simp only [Option.bind_some] at h
      rw [e2] at h
      exact ⟨x, y, rfl, rfl, h⟩
theorem vls_nil : VLs X [] (lnil (Γ := Γ) (α := α)) := PA.le pa_nil fun σ H Q ⟨F, G, L, γ, a, w, he, ea, q⟩ => by
  cases ea
  exact q [] G H (Ex.refl G) w .nil
theorem vls_cons {f : Γ → Option α} {g : Γ → Option (List α)} (h : VE X e f) (k : VLs X es g) (hs : starEach (e :: es) X.env = (false, eval e X.env) :: starEach es X.env := by rfl) : VLs X (e :: es) (lcons f g) :=
  PA.le (pa_cons h k hs) fun σ H Q ⟨F, G, L, γ, a, w, he, ea, q⟩ => by
    obtain ⟨x, y, e1, e2, e3⟩ := f2_some ea
    cases e3
    exact ⟨F, G, L, γ, x, w, he, e1, fun v G2 H2 x2 w2 r2 => ⟨F, G2, L, γ, y, w2, EnvR.mono x2 he, e2, fun vs G3 H3 x3 w3 r3 => q (v :: vs) G3 H3 (x2.trans x3) w3 (.cons (Rep.mono x3 r2) r3)⟩⟩
def short (xs : List α) : Option (List α) := if xs.length ≤ 100000 then some xs else none
def shortT (xs : List α) : Option (Tup α) := if xs.length ≤ 100000 then some ⟨xs⟩ else none
theorem vf_lst {f : Γ → Option (List α)} (h : VLs X es f) : VF X (.List es pos) (f1 short f) := PE.le (pe_lst h) fun σ H Q ⟨F, G, L, γ, a, w, he, ea, q⟩ => by
  unfold f1 at ea
  cases e1 : f γ with
  | none => rw [e1] at ea; cases ea
  | some x =>
    rw [e1] at ea
    simp only [Option.bind_some, short] at ea
    split at ea
    · rename_i hl
      cases ea
      exact ⟨F, G, L, γ, _, w, he, e1, fun vs G2 H2 x2 w2 r2 => ⟨by rw [← paired_len r2]; exact Nat.le_trans hl line_ge, fun p hp => let ⟨w3, r3⟩ := rf_new w2 hp r2; q _ _ _ x2 w3 r3⟩⟩
    · cases ea
/-- a pair -/
def pairT {β : Type} (x : α × β × Unit) : Option (T2 α β) := some ⟨x.1, x.2.1⟩
theorem ve_pair {β : Type} [Rep β] {a b : Expr} {k} {f : Γ → Option (α × β × Unit)} (h : VA X [a, b] f) : VE X (.Tuple [a, b] k pos) (f1 pairT f) := PE.le (pe_tup h) fun σ H Q ⟨F, G, L, γ, z, w, he, ea, q⟩ => by
  unfold f1 at ea
  cases e1 : f γ with
  | none => rw [e1] at ea; cases ea
  | some x =>
    rw [e1] at ea
    cases ea
    exact ⟨F, G, L, γ, _, w, he, e1, fun vs G2 H2 x2 w2 r2 => by
      obtain ⟨v, u, h1, h2, h3⟩ := rl2 r2
      subst h1
      refine ⟨show 2 ≤ sizeLine by decide, fun p hp => ?_⟩
      have ex := Ex.upd (o := HO.tup [v, u]) (w2.fresh hp).1
      exact q _ _ _ (x2.trans ex) (w2.new hp) ⟨p, v, u, rfl, upd_same, Rep.mono ex h2, Rep.mono ex h3⟩⟩
/-! ### a <= b <= c -/
def fch {β δ : Type} (φ : α → β → Option Bool) (ψ : β → δ → Option Bool) (f : Γ → Option α) (g : Γ → Option β) (h : Γ → Option δ) : Γ → Option Bool := fun γ => (f γ).bind fun x => (g γ).bind fun y => (φ x y).bind fun b => if b then (h γ).bind fun z => ψ y z else some false
theorem ve_chain {β δ : Type} [Rep β] [Rep δ] {a b c : Expr} {op op' : CmpOp} {r r' : L2.R2} {φ : α → β → Option Bool} {ψ : β → δ → Option Bool} {f : Γ → Option α} {g : Γ → Option β} {h : Γ → Option δ} (ho : OpR X (compareOp op) r) (ho' : OpR X (compareOp op') r') (o : Op2 r (RE X.K) (RE X.K) (RE X.K) φ) (o' : Op2 r' (RE X.K) (RE X.K) (RE X.K) ψ)
    (ha : VE X a f) (hb : VE X b g) (hc : VE X c h) (hm : lastMarks [op, op'] [b, c] = false := by with_unfolding_all rfl) : VE X (.Compare a [op, op'] [b, c] pos) (fch φ ψ f g h) :=
  PE.le (pe_chain ho ho' ha hb hc hm) fun σ H Q ⟨F, G, L, γ, z, w, he, ea, q⟩ => by
    unfold fch at ea
    cases e1 : f γ with
    | none => rw [e1] at ea; cases ea
    | some x =>
      rw [e1] at ea
      cases e2 : g γ with
      | none => simp only [Option.bind_some] at ea; rw [e2] at ea; cases ea
      | some y =>
        simp only [Option.bind_some] at ea
        rw [e2] at ea
        simp only [Option.bind_some] at ea
        cases e3 : φ x y with
        | none => rw [e3] at ea; cases ea
        | some k =>
          rw [e3] at ea
          simp only [Option.bind_some] at ea
          refine ⟨F, G, L, γ, x, w, he, e1, fun vx G2 H2 x2 w2 r2 => ⟨F, G2, L, γ, y, w2, EnvR.mono x2 he, e2, fun vy G3 H3 x3 w3 r3 => o F G3 H3 x y k vx vy _ w3 (Rep.mono x3 r2) r3 e3 fun v G4 H4 x4 w4 r4 => ⟨k, r4, ?_⟩⟩⟩
          cases k with
          | true =>
            simp only [if_true] at ea ⊢
            cases e5 : h γ with
            | none => rw [e5] at ea; cases ea
            | some u =>
              rw [e5] at ea
              exact ⟨F, G4, L, γ, u, w4, EnvR.mono (x2.trans (x3.trans x4)) he, e5, fun vu G5 H5 x5 w5 r5 => o' F G5 H5 y u z vy vu _ w5 (Rep.mono (x4.trans x5) r3) r5 ea fun v6 G6 H6 x6 w6 r6 => q _ _ _ (x2.trans (x3.trans (x4.trans (x5.trans x6)))) w6 r6⟩
          | false =>
            simp only [Bool.false_eq_true, if_false] at ea ⊢
            cases ea
            exact q _ _ _ (x2.trans (x3.trans x4)) w4 rfl
/-! ### ''.join(..) -/
def jn (a : Str) (ys : List Str) : Option Str := if (ys.map (·.length)).sum + ys.length * a.length ≤ 100000 then some (Txt.join a ys) else none
theorem ve_join {o e : Expr} {apos : Pos} {f : Γ → Option Str} {g : Γ → Option (List Str)} (ho : VE X o f) (he : VE X e g) (hs : starEach [e] X.env = [(false, eval e X.env)] := by rfl) (hbase : attributeBase o "join" X.env (eval o X.env) = eval o X.env := by rfl) (hline : (apos.endLine == pos.line) = true := by rfl) :
    VE X (.Call (.Attribute o "join" apos) [e] [] pos) (f2 jn f g) := PE.le (pe_join ho he hs hbase hline) fun σ H Q ⟨F, G, L, γ, z, w, hh, ea, q⟩ => by
  obtain ⟨x, y, e1, e2, e3⟩ := f2_some ea
  unfold jn at e3
  split at e3
  · rename_i hl
    cases e3
    refine ⟨F, G, L, γ, x, w, hh, e1, fun v G2 H2 x2 w2 r2 => ⟨⟨x, r2⟩, F, G2, L, γ, y, w2, EnvR.mono x2 hh, e2, fun u G3 H3 x3 w3 r3 => ?_⟩⟩
    obtain ⟨p, vs, h1, h2, h3⟩ := r3
    rw [strs_of h3] at h2
    exact ⟨x, p, y, r2, by rw [h1], .inl (.inl (.inl (w3.g _ _ h2))), by omega, q _ _ _ (x2.trans x3) w3 rfl⟩
  · cases e3
/-! ### slices -/
def cutSt (lo hi : Option Int) (z : Str) : Option Str := if z.length ≤ 100000 then some (cutS z lo hi) else none
def cutA {α : Type} (lo hi : Option Int) (xs : List α) : List α := (xs.drop (HT.sIx xs.length 0 lo)).take (HT.sIx xs.length xs.length hi - HT.sIx xs.length 0 lo)
/-- t[:e] with a draw -/
theorem me_sliceTo {a b : Expr} {p2 : Pos} {f : Γ → Option (Str × Γ)} {g : Γ → Option (Int × Γ)} (ha : ME X a f) (hb : ME X b g) : ME X (.Subscript a (.Slice none (some b) none p2) pos) (m2 (fun z i => cutSt none (some i) z) f g) :=
  PE.le (pe_slice sl_str ha po_none (po_some hb)) fun σ H Q ⟨F, G, L, γ, z, γ', w, he, ea, q⟩ => by
    obtain ⟨x, γ1, y, e1, e2, e3⟩ := m2_some ea
    unfold cutSt at e3
    split at e3
    · rename_i hl
      cases e3
      exact ⟨F, G, L, γ, x, γ1, w, he, e1, fun v F2 G2 H2 x2 w2 o2 h2 r2 => ⟨F2, G2, L, γ1, y, γ', w2, h2, e2, fun u F3 G3 H3 x3 w3 o3 h3 r3 => ⟨y, r3, x, r2, Nat.le_trans hl line_ge, q _ _ _ _ (x2.trans x3) w3 (off_trans o2 o3) h3 rfl⟩⟩⟩
    · cases e3
/-- the script's front -/
def cutC (lo hi : Option Int) (x : Scr) : Option (List Int) := some (cutA lo hi x.l)
theorem vf_scrTo {a b : Expr} {p2 : Pos} {f : Γ → Option Scr} {g : Γ → Option Int} (ha : VE X a f) (hb : VE X b g) : VF X (.Subscript a (.Slice none (some b) none p2) pos) (f2 (fun z i => cutC none (some i) z) f g) :=
  PE.le (pe_slice sl_list ha po_none (po_some hb)) fun σ H Q ⟨F, G, L, γ, z, w, he, ea, q⟩ => by
    obtain ⟨x, y, e1, e2, e3⟩ := f2_some ea
    cases e3
    refine ⟨F, G, L, γ, x, w, he, e1, fun v G2 H2 x2 w2 r2 => ⟨F, G2, L, γ, y, w2, EnvR.mono x2 he, e2, fun u G3 H3 x3 w3 r3 => ?_⟩⟩
    obtain ⟨p, h1, h2⟩ := scr_at w3 (Rep.mono x3 r2)
    refine ⟨y, r3, p, _, h1, h2, fun l hl => ?_⟩
    have rr : PySem.Paired (rep X.K G3) (cutA none (some y) x.l) (cutV (x.l.map V.int) none (some y)) := by
      have e : cutV (x.l.map V.int) none (some y) = (cutA none (some y) x.l).map V.int := by
        unfold cutV cutA
        rw [List.length_map, ← List.map_drop, ← List.map_take]
      rw [e]
      exact of_ints
    obtain ⟨w4, r4⟩ := rf_new w3 hl rr
    exact q _ _ _ (x2.trans x3) w4 r4
end
end Vx
namespace Vx
open Rep (rep)
open EnvR (er)
open PySem PySem.Spec PyProof.Rows L2
/-! ### walks that the library tells as GoesN, as walks of the hand layer -/
/-- cells `cs`, the iterator's state `tn`: what an iterator of pairs owes in a context -/
structure PairsGo (X : Cx) (tg : Expr) (J : It) (I0 : Addr) (cs : List Addr) (tn : Nat → Heap → Prop) (i n : Nat) (s : Shared) (H : Hp) : Prop where
  go : ∃ fp wr Y St, GoesN X.prog X.w X.A tg I0 fp wr n Y St ∧ (∀ b ∈ wr, b ∈ cs) ∧ (∀ j h, tn j h → j = i → s.heap = h → St j h) ∧ (∀ h, i < n → St (i + 1) h → tn (i + 1) h) ∧
    ∀ v h', i < n → Y i s.heap v h' → ∃ T a b x y, v = Value.ref T ∧ s.heap.objs.size ≤ T ∧ h'.IsTuple T #[a, b] ∧ RelV x a ∧ RelV y b ∧ J.yld i H (.ref T) (L2.upd H T (.tup [x, y]))
theorem turn_of_pairs {P : Program} {w : World} {K : PySem.W.Frag} {tg : Expr} {J : It} {I0 : Addr} {cs : List Addr} {tn : Nat → Heap → Prop} (mem : I0 ∈ cs) (live : ∀ i h, tn i h → ∀ b ∈ cs, ∃ o, h.get? b = some o ∧ ∀ v, o.data ≠ .cell v)
    (keep : ∀ i h h', tn i h → (∀ b ∈ cs, ∀ o, h.get? b = some o → h'.get? b = some o) → tn i h')
    (goes : ∀ (X : Cx) (i : Nat) (pins : List (Addr × Obj)) (s : Shared) (σ : L2.St) (H : Hp), X.prog = P → X.w = w → X.K = K → X.calm = true → Inv X pins σ H s → tn i s.heap → J.go i H → ∃ n, i < n ∧ PairsGo X tg J I0 cs tn i n s H)
    (stops : ∀ (X : Cx) (i : Nat) (pins : List (Addr × Obj)) (s : Shared) (σ : L2.St) (H : Hp) (Q : Shared → Prop) (E : Value → Shared → Prop), X.prog = P → X.w = w → X.K = K → X.calm = true → Inv X pins σ H s → tn i s.heap → J.stop i H →
      (∀ h' tk, (∀ b o, b ∉ cs → s.heap.get? b = some o → h'.get? b = some o) → Q { s with heap := h', toks := tk }) → wpAny (model P w) X.A (pyNext (.ref I0)) (fun r s1 => r = none ∧ Q s1) E s)
    (self : ∀ (A : Around) (i : Nat) (s : Shared) (Q E : Value → Shared → Prop), tn i s.heap → Q (.ref I0) s → wpAny (model P w) A (pyIter (.ref I0)) Q E s) : Turn P w K tg J cs I0 tn := by
  refine ⟨mem, live, keep, ?_, ?_, self⟩
  · intro X e1 e2 e3 calm i pins s σ H E I free st more
    obtain ⟨n, hin, ⟨fp, wr, Y, St, W, sub, into, out, pair⟩⟩ := goes X i pins s σ H e1 e2 e3 calm I st more
    subst e1 e2
    refine W.goes i s _ E hin (into i s.heap st rfl rfl) fun v h' tk found st' old _ => ?_
    obtain ⟨T, a, b, x, y, ev, new, tup, ra, rb, yields⟩ := pair v h' hin found
    obtain ⟨o, ho, cls, k, dat⟩ := tup
    have two : ObjOk X.prog X.w (L2.upd H T (.tup [x, y])) h' T (.tup [x, y]) := ⟨(by decide : 2 ≤ sizeLine), [a, b], .cons ra (.cons rb .nil), o, ho, cls, k, dat⟩
    have J1 := I.turnedNew (t' := tk) (ch := cs) (fun c u hc => old c u fun z => hc (sub c z)) free new two
    refine ⟨.ref T, _, J1, ev, yields, out h' hin st', fun c hc => ?_⟩
    have lt : c < s.heap.objs.size := by
      obtain ⟨u, hu, _⟩ := live i s.heap st c hc
      exact Heap.lt_size hu
    rw [upd_ne (Nat.ne_of_lt (Nat.lt_of_lt_of_le lt new))]
    exact (free c hc).1
  · intro X e1 e2 e3 calm i pins s σ H E I free st no
    exact stops X i pins s σ H _ E e1 e2 e3 calm I st no fun h' tk old => I.turnedL (t' := tk) (ch := cs) old free
/-! ### enumerate(a tuple) -/
theorem enum_new1 {v : Value} {o : Obj} {H : Heap → Prop} (B : Begins v o H) :
    Meets (Builtin.«enumerate.__new__» ⟨[.type "enumerate", v], []⟩) (fun _ R s => H s.heap ∧
      R (.ok (.ret (.ref (s.heap.push o).objs.size))) { s with heap := (s.heap.push o).push { cls := .type "enumerate", data := .fields #[.none, .bool false, .ref s.heap.objs.size, rawInt 0, .none, .none] } }) := by
  refine .of_wp fun prog w A R s ⟨here, ends⟩ => ?_
  have sub := sub_enumerate
  cases s with
  | mk hp gs dr tk os =>
    have begins : ∀ {A' : Around} {E Q : Value → Shared → Prop}, Q (.ref hp.objs.size) ⟨hp.push o, gs, dr, tk, os⟩ → wpAny (model prog w) A' (pyIter v) Q E ⟨hp, gs, dr, tk, os⟩ := fun q => B.iter prog w _ _ _ _ here q
    wp_walk using begins
    refine wpAny_stack_any fun stk => wpAny_pure ?_
    have both : ∀ b : Bool, b = true ∨ b = false := fun b => by cases b <;> simp
    split
    · rename_i cl _ _ _ _ _
      rcases both (cl == Value.type "enumerate") with z | z <;> rw [z] <;> wp_walk using begins <;> exact ⟨_, rfl, ends⟩
    · wp_walk using begins
      exact ⟨_, rfl, ends⟩
theorem enum_call1 {prog : Program} {w : World} {A : Around} {E : Value → Shared → Prop} {s : Shared} {v : Value} {o : Obj} {H : Heap → Prop} {Q : Value → Shared → Prop} (B : Begins v o H) (h1 : H s.heap)
    (h : ∀ h', IsEnum h' (s.heap.objs.size + 1) s.heap.objs.size 0 .none → h'.get? s.heap.objs.size = some o → (∀ b o, s.heap.get? b = some o → h'.get? b = some o) → Q (.ref (s.heap.objs.size + 1)) { s with heap := h' }) :
    wpAny (model prog w) A (call (.type "enumerate") [v]) Q E s := by
  have step : (s.heap.push o).objs.size = s.heap.objs.size + 1 := by simp [Heap.size_push]
  have made := Heap.get?_push_size (s.heap.push o) (o := { cls := .type "enumerate", data := .fields #[.none, .bool false, .ref s.heap.objs.size, rawInt 0, .none, .none] }) rfl
  rw [step] at made
  refine callType_new F.called_enumerate (by decide) (F.typeCall_enumerate_1 _) (F.newCall_enumerate_1 _) (fun obj => F.args_object_init_2 obj _) F.entry_enumerate_new (enum_new1 B) ⟨h1, ?_⟩
  rw [step]
  refine ⟨⟨_, made, rfl⟩, h _ made ?_ ?_⟩
  · exact Heap.get?_push_of_some _ (Heap.get?_push_size _ B.free)
  · intro b u e
    exact Heap.get?_push_of_some _ (Heap.get?_push_of_some _ e)
/-- the tuple at a, each item in a new pair -/
def Itu (K : PySem.W.Frag) (a : Addr) : It where
  go i H := ∃ (xs : List V) (x : V), SqT K H a xs ∧ xs[i]? = some x
  yld i H v H' := ∃ T x, v = .ref T ∧ H T = none ∧ H' = L2.upd H T (.tup [.int (i : Nat), x]) ∧ ∀ xs, SqT K H a xs → xs[i]? = some x
  stop i H := ∃ xs : List V, SqT K H a xs ∧ xs.length ≤ i
/-- enumerate's own state over the tuple at a -/
def EnT (a e it : Addr) (i : Nat) (h : Heap) : Prop := (∃ old, IsEnum h e it ((i : Nat) : Int) old) ∧ h.IsTupleIter it a i ∧ e ≠ it ∧ a ≠ it ∧ e ≠ a
theorem enT_pairs {X : Cx} {elts : List Expr} {kk : Nat} {tpos : Pos} {a e it : Addr} {i : Nat} {pins : List (Addr × Obj)} {s : Shared} {σ : L2.St} {H : Hp} {xs : List V} (calm : X.calm = true) (I : Inv X pins σ H s) (st : EnT a e it i s.heap) (hq : SqT X.K H a xs) :
    PairsGo X (.Tuple elts kk tpos) (Itu X.K a) e [e, it] (EnT a e it) i xs.length s H := by
  obtain ⟨_, _, d1, d2, d3⟩ := st
  obtain ⟨its, rv, tup, _⟩ := I.tuple hq
  have len : xs.length = its.toArray.size := by simpa using rv.length
  rw [len]
  refine ⟨_, _, _, _, GoesN.enumFrom 0 (Draws.tuple (A := X.A.in1) (I.ok.hd calm) it a d2 its.toArray) e d1 (by simp [d1, d3]) (by simp), by simp, ?_, ?_, ?_⟩
  · rintro j h ⟨⟨old, he⟩, hi, _⟩ rfl rfl
    exact ⟨⟨old, by simpa using he⟩, hi, tup⟩
  · rintro h _ ⟨⟨old, he⟩, hi, _⟩
    exact ⟨⟨old, by simpa using he⟩, hi, d1, d2, d3⟩
  · rintro v h' hin ⟨T, t, u, rfl, new, hu, two⟩
    obtain ⟨x, hx, ru⟩ := paired_getR rv (show its[i]? = some u by simpa using hu)
    refine ⟨T, .int (0 + (i : Int)) t, u, .int (i : Nat), x, rfl, new, two, ⟨t, by simp⟩, ru, T, x, rfl, I.hok.fresh new, rfl, fun ys hy => ?_⟩
    rw [I.tuple_inj hy hq]
    exact hx
theorem turn_enumT {P : Program} {w : World} {K : PySem.W.Frag} {elts : List Expr} {kk : Nat} {tpos : Pos} (a e it : Addr) : Turn P w K (.Tuple elts kk tpos) (Itu K a) [e, it] e (EnT a e it) := by
  refine turn_of_pairs List.mem_cons_self ?_ ?_ ?_ ?_ fun A i s Q E st q => wpAny_pyIter_enum st.1.choose_spec q
  · rintro i h ⟨⟨old, he⟩, ⟨o, ho, _, dat⟩, _⟩ b hb
    simp only [List.mem_cons, List.not_mem_nil, or_false] at hb
    cases hb with
    | inl z => subst z; exact ⟨_, he, nofun⟩
    | inr z => subst z; exact ⟨o, ho, fun v q => by simp [dat] at q⟩
  · rintro i h h' ⟨⟨old, he⟩, hi, ds⟩ k
    exact ⟨⟨old, k e (by simp) _ he⟩, hi.at fun o q => k it (by simp) o q, ds⟩
  · rintro X i pins s σ H rfl rfl rfl calm I st ⟨xs, x, hq, hx⟩
    exact ⟨xs.length, (List.getElem?_eq_some_iff.mp hx).1, enT_pairs calm I st hq⟩
  · rintro X i pins s σ H Q E rfl rfl rfl calm I st ⟨xs, hq, hx⟩ q
    obtain ⟨⟨old, he⟩, hi, d1, d2, d3⟩ := st
    obtain ⟨its, rv, tup, _⟩ := I.tuple hq
    have over : its.toArray[i]? = none := by
      have := rv.length
      simp
      omega
    -- from here on it draws nothing
    have D : Draws X.prog X.w X.A.in1 it [it, a] 0 (fun _ _ => True) (fun _ h => h.IsTupleIter it a i ∧ h.IsTuple a its.toArray) :=
      { live := fun _ _ z => z.1.imp fun _ y => y.1
        frame := fun _ _ _ z k => ⟨z.1.at fun o y => k it (by simp) o y, z.2.at fun o y => k a (by simp) o y⟩
        item := fun _ _ _ _ no => absurd no (Nat.not_lt_zero _)
        done := fun _ _ _ z => wpAny_nextOf_tuple_end (I.ok.hd calm) z.1 z.2 over }
    exact wpAny_pyNext_enum_endD D he (by exact ⟨hi, tup⟩) fun h' kept => ⟨rfl, q h' s.toks fun b o hb e => kept b o (fun z => hb (by simp [z])) e⟩
def iEnT (K : PySem.W.Frag) (ta : TA) : TI := fun σ H R => ta σ H fun vs H1 => ∃ a xs, vs = [.ref a] ∧ SqT K H1 a xs ∧ R (Itu K a) H1
theorem pi_enumT {X : Cx} {e : Expr} {ta : TA} {p pos tpos : Pos} {elts : List Expr} {kk : Nat} (hg : Gl X "enumerate") (hm : X.mg "enumerate" = none) (ha : PA X [e] ta) (hs : starEach [e] X.env = [(false, eval e X.env)] := by rfl) :
    PI X (.Tuple elts kk tpos) (.Call (.Name "enumerate" p) [e] [] pos) (iEnT X.K ta) := by
  constructor
  intro pins s σ H R I h
  refine Call_ (ld_blt I hg hm boot_enumerate (PyProof.Rows.callWith_type1 (thn (ha.run pos pins s σ H _ I h) ?_) hs rfl))
  rintro us s1 ⟨vs, H1, I1, r1, a, xs, rfl, hq, q⟩
  rw [Vals.ref1 r1]
  obtain ⟨its, _, tup, _⟩ := I1.tuple hq
  have low : a < s1.heap.objs.size := by
    obtain ⟨o, ho, _⟩ := id tup
    exact Heap.lt_size ho
  refine enum_call1 (begins_tuple a its.toArray) tup fun h' he hi old => wpAny_pyIter_enum he ?_
  refine ⟨_, [s1.heap.objs.size + 1, s1.heap.objs.size], _, _, H1, rfl, I1.kept (t' := s1.toks) old, turn_enumT a _ s1.heap.objs.size, ⟨⟨.none, he⟩, ⟨_, hi, rfl, rfl⟩, Nat.succ_ne_self _, Nat.ne_of_lt low, Nat.ne_of_gt (Nat.lt_succ_of_lt low)⟩, ?_, q⟩
  intro b hb
  have up : s1.heap.objs.size ≤ b := by
    simp only [List.mem_cons, List.not_mem_nil, or_false] at hb
    cases hb with
    | inl z => exact z ▸ Nat.le_succ _
    | inr z => exact z ▸ Nat.le_refl _
  exact I1.fpOk up (I1.hok.fresh up)
end Vx
namespace Vx
open Rep (rep)
open EnvR (er)
open PySem PySem.Spec PyProof.Rows L2 RZ
/-! ### enumerate -/
def enumF {τ : Type} : Nat → List τ → List (T2 Int τ)
  | _, [] => []
  | i, x :: xs => ⟨(i : Int), x⟩ :: enumF (i + 1) xs
theorem enumF_get {τ : Type} : ∀ (xs : List τ) (k i : Nat), (enumF k xs)[i]? = xs[i]?.map fun x => ⟨((k + i : Nat) : Int), x⟩
  | [], _, _ => rfl
  | x :: xs, k, 0 => rfl
  | x :: xs, k, i + 1 => by
    show (enumF (k + 1) xs)[i]? = (xs[i]?).map _
    rw [enumF_get xs (k + 1) i]
    have e : k + 1 + i = k + (i + 1) := by omega
    rw [e]
theorem enumF_len {τ : Type} : ∀ (xs : List τ) (k : Nat), (enumF k xs).length = xs.length
  | [], _ => rfl
  | x :: xs, k => by
    show (enumF (k + 1) xs).length + 1 = xs.length + 1
    rw [enumF_len xs (k + 1)]
section
variable {τ : Type} [Rep τ]
theorem walks_enumL {K : PySem.W.Frag} {G : Hp} {p : Addr} {vs : List V} {xs : List τ} (h : G p = some (.lst vs)) (r : PySem.Paired (rep K G) xs vs) : Walks K G (Ite K p) (enumF 0 xs) := fun F' G' H' e w i => by
  have hH : SqL K H' p vs := .inl (.inl (w.g _ _ (e _ _ h)))
  refine ⟨fun t ht => ?_, fun hl => ⟨vs, hH, by rw [← paired_len r]; rw [enumF_len] at hl; exact hl⟩⟩
  rw [enumF_get] at ht
  cases ex : xs[i]? with
  | none => rw [ex] at ht; cases ht
  | some x =>
    rw [ex] at ht
    cases ht
    obtain ⟨v, hv, rv⟩ := paired_get r ex
    refine ⟨⟨vs, v, hH, hv⟩, fun y H'' ⟨T, u, e1, e2, e3, e4⟩ => ?_⟩
    have eu : u = v := Option.some.inj ((e4 vs hH).symm.trans hv)
    subst eu
    subst e1
    subst e3
    have ex2 := Ex.upd (o := HO.tup [V.int (i : Nat), u]) (w.fresh e2).1
    exact ⟨_, ex2, w.new e2, T, _, _, rfl, upd_same, by rw [Nat.zero_add]; rfl, Rep.mono (e.trans ex2) rv⟩
theorem walks_enumT {K : PySem.W.Frag} {G : Hp} {p : Addr} {vs : List V} {xs : List τ} (h : G p = some (.tup vs)) (r : PySem.Paired (rep K G) xs vs) : Walks K G (Itu K p) (enumF 0 xs) := fun F' G' H' e w i => by
  have hH : SqT K H' p vs := .inl (.inl (w.g _ _ (e _ _ h)))
  refine ⟨fun t ht => ?_, fun hl => ⟨vs, hH, by rw [← paired_len r]; rw [enumF_len] at hl; exact hl⟩⟩
  rw [enumF_get] at ht
  cases ex : xs[i]? with
  | none => rw [ex] at ht; cases ht
  | some x =>
    rw [ex] at ht
    cases ht
    obtain ⟨v, hv, rv⟩ := paired_get r ex
    refine ⟨⟨vs, v, hH, hv⟩, fun y H'' ⟨T, u, e1, e2, e3, e4⟩ => ?_⟩
    have eu : u = v := Option.some.inj ((e4 vs hH).symm.trans hv)
    subst eu
    subst e1
    subst e3
    have ex2 := Ex.upd (o := HO.tup [V.int (i : Nat), u]) (w.fresh e2).1
    exact ⟨_, ex2, w.new e2, T, _, _, rfl, upd_same, by rw [Nat.zero_add]; rfl, Rep.mono (e.trans ex2) rv⟩
variable {Γ : Type} [EnvR Γ] {X : Cx} {a : Expr} {p pos tpos : Pos} {elts : List Expr} {kk : Nat}
theorem vi_enumL {f : Γ → Option (List τ)} (h : VE X a f) (hm : X.mg "enumerate" = none) (hg : Gl X "enumerate" := by rfl) (hs : starEach [a] X.env = [(false, eval a X.env)] := by rfl) (he : starEach [a] X.env = (false, eval a X.env) :: starEach [] X.env := by rfl) :
    VI X (.Tuple elts kk tpos) (.Call (.Name "enumerate" p) [a] [] pos) (f1 (fun xs => some (enumF 0 xs)) f) := PI.le (pi_enum hg hm (pa_cons h pa_nil he) hs) fun σ H R ⟨F, G, L, γ, xs, w, hh, ea, q⟩ => by
  unfold f1 at ea
  cases e1 : f γ with
  | none => rw [e1] at ea; cases ea
  | some ys =>
    rw [e1] at ea
    cases ea
    exact ⟨F, G, L, γ, ys, w, hh, e1, fun v G2 H2 x2 w2 ⟨p, vs, h1, h2, h3⟩ => ⟨p, vs, by rw [h1], .inl (.inl (w2.g _ _ h2)), q _ G2 H2 x2 w2 (walks_enumL h2 h3)⟩⟩
theorem vi_enumT {f : Γ → Option (Tup τ)} (h : VE X a f) (hm : X.mg "enumerate" = none) (hg : Gl X "enumerate" := by rfl) (hs : starEach [a] X.env = [(false, eval a X.env)] := by rfl) (he : starEach [a] X.env = (false, eval a X.env) :: starEach [] X.env := by rfl) :
    VI X (.Tuple elts kk tpos) (.Call (.Name "enumerate" p) [a] [] pos) (f1 (fun xs => some (enumF 0 xs.l)) f) := PI.le (pi_enumT hg hm (pa_cons h pa_nil he) hs) fun σ H R ⟨F, G, L, γ, xs, w, hh, ea, q⟩ => by
  unfold f1 at ea
  cases e1 : f γ with
  | none => rw [e1] at ea; cases ea
  | some ys =>
    rw [e1] at ea
    cases ea
    exact ⟨F, G, L, γ, ys, w, hh, e1, fun v G2 H2 x2 w2 ⟨p, vs, h1, h2, h3⟩ => ⟨p, vs, by rw [h1], .inl (.inl (w2.g _ _ h2)), q _ G2 H2 x2 w2 (walks_enumT h2 h3)⟩⟩
end
/-- a pair comes to two names -/
abbrev gPair (K : PySem.W.Frag) (i j : Nat) : TG := gTup K 2 (gCons (gName i) (gCons (gName j) gNil))
def tgPair {Γ Γ1 Γ2 α β S : Type} [EnvR Γ] [EnvR Γ1] [EnvR Γ2] [Rep α] [Rep β] [Md S] {i j : Nat} {K : PySem.W.Frag} (p1 : Put i Γ α Γ1) (p2 : Put j Γ1 β Γ2) (ho : Md.okI S i = true := by rfl) (ho' : Md.okI S j = true := by rfl) : Tg Γ (T2 α β) Γ2 K S (gPair K i j) :=
  ⟨fun γ t => p2.put (p1.put γ t.a) t.b, fun w he ha ⟨p, va, vb, h1, h2, h3, h4⟩ k => ⟨p, [va, vb], h1, .inl (.inl (w.g _ _ h2)), rfl, va, [vb], rfl, vb, [], rfl, rfl, k _ (p2.ok (p1.ok he h3) h4) (Md.keep ho' (Md.keep ho ha))⟩⟩
/-! ### isinstance(e, T), e of the type T itself -/
section
variable {Γ : Type} [EnvR Γ] {X : Cx} {a : Expr} {p p2 pos : Pos}
theorem ve_isT {α : Type} [Rep α] {T : Str} {Tn : String} {f : Γ → Option α} (ty : ∀ {G : Hp} {x : α} {v : V}, rep X.K G x v → Ty4 G v Tn) (h : VE X a f) (hm : X.mg "isinstance" = none) (hm2 : X.mg T = none) (hv : bootBuiltins T = some (.type Tn)) (hg2 : Gl X T) (hn2 : T ≠ "__name__") (hd2 : (T == ("__debug__" : Str)) = false)
    (hg : Gl X "isinstance" := by rfl) (hb : bootBuiltins "isinstance" = some (.builtin "isinstance") := by decide +kernel)
    (he : starEach [a, .Name T p2] X.env = (false, eval a X.env) :: starEach [.Name T p2] X.env := by rfl) (he2 : starEach [.Name T p2] X.env = (false, eval (.Name T p2) X.env) :: starEach [] X.env := by rfl) (hpl : (backTo pos (starEach [.Name T p2] X.env)).any (·.1) = false := by rfl) :
    VE X (.Call (.Name "isinstance" p) [a, .Name T p2] [] pos) (f1 (fun _ => some true) f) :=
  PE.le (pe_callB call_isTy hg hm hb (pa_cons h (pa_cons (pe_bltn hg2 hm2 hv (v := .ty Tn) rfl hn2 hd2) pa_nil he2) he) (he := he) (hpl := hpl)) fun σ H Q ⟨F, G, L, γ, z, w, hh, ea, q⟩ => by
    unfold f1 at ea
    cases e1 : f γ with
    | none => rw [e1] at ea; cases ea
    | some x =>
      rw [e1] at ea
      cases ea
      refine ⟨F, G, L, γ, x, w, hh, e1, fun v G2 H2 x2 w2 r2 => ⟨v, Tn, rfl, ?_, q _ G2 H2 x2 w2 rfl⟩⟩
      have t := ty r2
      cases t with
      | int i => exact .int i
      | str x => exact .str x
      | lst e => exact .lst (w2.g _ _ e)
      | tup e => exact .tup (w2.g _ _ e)
theorem ve_isStr {f : Γ → Option Str} (h : VE X a f) (hm : X.mg "isinstance" = none) (hm2 : X.mg "str" = none) (hg : Gl X "isinstance" := by rfl) (hg2 : Gl X "str" := by rfl)
    (he : starEach [a, .Name "str" p2] X.env = (false, eval a X.env) :: starEach [.Name "str" p2] X.env := by rfl) (he2 : starEach [.Name "str" p2] X.env = (false, eval (.Name "str" p2) X.env) :: starEach [] X.env := by rfl) (hpl : (backTo pos (starEach [.Name "str" p2] X.env)).any (·.1) = false := by rfl) :
    VE X (.Call (.Name "isinstance" p) [a, .Name "str" p2] [] pos) (f1 (fun _ => some true) f) :=
  ve_isT (T := "str") (Tn := "str") (fun r => by cases r; exact .str _) h hm hm2 (by decide +kernel) hg2 (by decide) (by decide) hg (by decide +kernel) he he2 hpl
theorem ve_isTup {α : Type} [Rep α] {f : Γ → Option (Tup α)} (h : VE X a f) (hm : X.mg "isinstance" = none) (hm2 : X.mg "tuple" = none) (hg : Gl X "isinstance" := by rfl) (hg2 : Gl X "tuple" := by rfl)
    (he : starEach [a, .Name "tuple" p2] X.env = (false, eval a X.env) :: starEach [.Name "tuple" p2] X.env := by rfl) (he2 : starEach [.Name "tuple" p2] X.env = (false, eval (.Name "tuple" p2) X.env) :: starEach [] X.env := by rfl) (hpl : (backTo pos (starEach [.Name "tuple" p2] X.env)).any (·.1) = false := by rfl) :
    VE X (.Call (.Name "isinstance" p) [a, .Name "tuple" p2] [] pos) (f1 (fun _ => some true) f) :=
  ve_isT (α := Tup α) (T := "tuple") (Tn := "tuple") (fun ⟨q, vs, h1, h2, h3⟩ => by rw [h1]; exact .tup h2) h hm hm2 (by decide +kernel) hg2 (by decide) (by decide) hg (by decide +kernel) he he2 hpl
end
/-! ### more statements -/
section
variable {Γ Γ1 Γ2 Γd S ρ : Type} [EnvR Γ] [EnvR Γ1] [EnvR Γ2] [EnvR Γd] [Md S] {α β τ : Type} [Rep α] [Rep β]
variable {X : Cx} {R : RR ρ} {e a b c : Expr} {pos : Pos} {i j : Nat}
/-- a, b = (x, y) -/
def spar (p1 : Put i Γ α Γ1) (p2 : Put j Γ1 β Γ2) (f : Γ → Option ((α × β × Unit) × Γ)) : Γ → Option (Fl Γ2 S ρ) := fun γ => (f γ).map fun (x, γ) => .nx (p2.put (p1.put γ x.1) x.2.1)
/-- xs[i] = e, xs of one's own -/
def sset1 (o : Own i Γ α Γd) (g : Γ → Option Int) (f : Γ → Option α) : Γ → Option (Fl Γ S ρ) := fun γ => (f γ).bind fun v => (g γ).bind fun k => (ixN (o.get γ).length k).map fun j => .nx (o.set γ ((o.get γ).set j v))
theorem paired_set {α β : Type} {R : α → β → Prop} : ∀ {xs : List α} {ys : List β} {x : α} {y : β} (j : Nat), PySem.Paired R xs ys → R x y → PySem.Paired R (xs.set j x) (ys.set j y)
  | _, _, _, _, _, .nil, _ => .nil
  | _, _, _, _, 0, .cons _ t, r => .cons r t
  | _, _, _, _, j + 1, .cons h t, r => .cons h (paired_set j t r)
theorem vs_set1 (o : Own i Γ α Γd) {f : Γ → Option α} {g : Γ → Option Int} {x : Str} {p1 p2 : Pos} (hv : VE X e f) (hg : VE X a g) (hN : X.N[i]? = some x := by rfl) (hvs : Vis X.env.scope x := by first | exact Or.inl rfl | exact Or.inr (Or.inl rfl) | exact Or.inr (Or.inr rfl)) (hd : (x == ("__debug__" : Str)) = false := by decide)
    (hcd : (x == ("__classdict__" : Str)) = false := by decide) (hs : swapsWithSole [.Subscript (.Name x p1) a p2] e pos.line X.env = pure false := by rfl) (hw : swappedStores [.Subscript (.Name x p1) a p2] e X.env = pure none := by rfl)
    (h1 : (assignEach [.Subscript (.Name x p1) a p2] X.env).map (·.2) = [assign (.Subscript (.Name x p1) a p2) X.env] := by rfl)
    (hasg : ∀ v, assign (.Subscript (.Name x p1) a p2) X.env v = (do
      let ov ← holding [v] (eval (.Name x p1) X.env)
      let iv ← holding [v, ov] (eval a X.env)
      standAt p2
      holding [v, ov, iv] (setItem ov iv v)
      release [v, ov, iv] []) := by intro _; rfl) : VS X S R (.Assign [.Subscript (.Name x p1) a p2] e pos) (sset1 (S := S) o g f) :=
  PS.le (ps_asg hv (pg_sub (pe_var hN hvs hd hcd) hg set_list hasg) hs hw h1) fun D σ H ⟨F, G, L, γ, p, r, wd, nd, he, ha, ea, k⟩ => by
    unfold sset1 at ea
    cases e1 : f γ with
    | none => rw [e1] at ea; cases ea
    | some v =>
      rw [e1] at ea
      simp only [Option.bind_some] at ea
      cases e2 : g γ with
      | none => rw [e2] at ea; cases ea
      | some n =>
        rw [e2] at ea
        simp only [Option.bind_some] at ea
        cases e3 : ixN (o.get γ).length n with
        | none => rw [e3] at ea; cases ea
        | some m =>
          rw [e3] at ea
          cases ea
          refine ⟨F, G, L, γ, v, wd, he, e1, fun vv G2 H2 x2 w2 r2 => ?_⟩
          obtain ⟨q, vs, k1, k2, k3, k4, k5, _⟩ := o.ok (EnvR.mono x2 he)
          refine ⟨.ref q, k1, F, G2, L, γ, n, w2, EnvR.mono x2 he, e2, fun vi G3 H3 x3 w3 r3 => ?_⟩
          cases r3
          refine ⟨q, vs, n, m, rfl, rfl, w3.f _ _ k3, by rw [← paired_len k4]; exact e3, ?_⟩
          exact k σ L _ G3 _ (x2.trans x3) (w3.set k3) nd (fun b u hb e => by rw [upd_ne (fun z => hb (by rw [z]; exact k2))]; exact e) Sub.refl (k5 x3 (paired_set m (Paired.mono (fun _ _ z => Rep.mono x3 z) k4) (Rep.mono x3 r2))) ha
/-- xs[i], y = divmod(a, b), xs of one's own -/
def sdm (o : Own i Γ Int Γd) (pt : Put j Γ Int Γ1) (n : Int) (f : Γ → Option (Int × Int × Unit)) : Γ → Option (Fl Γ1 S ρ) := fun γ => (f γ).bind fun x => if 0 < x.2.1 ∧ x.2.1 < 1073741824 then
  (ixN (o.get γ).length n).map fun j => .nx (pt.put (o.set γ ((o.get γ).set j (x.1 / x.2.1))) (x.1 % x.2.1)) else none
theorem vs_dm (o : Own i Γ Int Γd) (pt : Put j Γ Int Γ1) {n : Int} {f : Γ → Option (Int × Int × Unit)} {x y : Str} {p1 p2 p3 p4 p5 p6 p7 : Pos} {kt jc} (hc : X.calm = true) (hNd : X.N.Nodup) (ha : VA X [a, b] f) (hm : X.mg "divmod" = none)
    (hg : Gl X "divmod" := by rfl) (hb : bootBuiltins "divmod" = some (.builtin "divmod") := by decide +kernel) (hN : X.N[i]? = some x := by rfl) (hvs : Vis X.env.scope x := by first | exact Or.inl rfl | exact Or.inr (Or.inl rfl) | exact Or.inr (Or.inr rfl)) (hd : (x == ("__debug__" : Str)) = false := by decide)
    (hcd : (x == ("__classdict__" : Str)) = false := by decide) (hj : X.N[j]? = some y := by rfl) (hy : Loc X.env.scope y := by first | exact Or.inl rfl | exact Or.inr rfl) (hf : X.fn y = true ∨ X.env.scope.names.lookup y = some .local := by first | exact .inl rfl | exact .inr rfl) (ho : Md.okI S j = true := by rfl)
    (he : starEach [a, b] X.env = (false, eval a X.env) :: starEach [b] X.env := by rfl) (hpl : (backTo p7 (starEach [b] X.env)).any (·.1) = false := by rfl)
    (hasg : ∀ v, assign (.Subscript (.Name x p1) (.Constant (.int n) jc p2) p3) X.env v = (do
      let ov ← holding [v] (eval (.Name x p1) X.env)
      let iv ← holding [v, ov] (eval (.Constant (.int n) jc p2) X.env)
      standAt p3
      holding [v, ov, iv] (setItem ov iv v)
      release [v, ov, iv] []) := by intro _; rfl)
    (hs1 : (assignEach [.Subscript (.Name x p1) (.Constant (.int n) jc p2) p3, .Name y p4] X.env).map (·.2) = assign (.Subscript (.Name x p1) (.Constant (.int n) jc p2) p3) X.env :: (assignEach [.Name y p4] X.env).map (·.2) := by rfl)
    (hs2 : (assignEach [.Name y p4] X.env).map (·.2) = assign (.Name y p4) X.env :: (assignEach [] X.env).map (·.2) := by rfl)
    (hln : (assignEach [.Subscript (.Name x p1) (.Constant (.int n) jc p2) p3, .Name y p4] X.env).length = 2 := by rfl) (hst : (assignEach [.Subscript (.Name x p1) (.Constant (.int n) jc p2) p3, .Name y p4] X.env).findIdx? (·.1) = none := by rfl)
    (hs : swapsWithSole [.Tuple [.Subscript (.Name x p1) (.Constant (.int n) jc p2) p3, .Name y p4] kt p5] (.Call (.Name "divmod" p6) [a, b] [] p7) pos.line X.env = pure false := by rfl)
    (hw : swappedStores [.Tuple [.Subscript (.Name x p1) (.Constant (.int n) jc p2) p3, .Name y p4] kt p5] (.Call (.Name "divmod" p6) [a, b] [] p7) X.env = pure none := by rfl)
    (h1 : (assignEach [.Tuple [.Subscript (.Name x p1) (.Constant (.int n) jc p2) p3, .Name y p4] kt p5] X.env).map (·.2) = [assign (.Tuple [.Subscript (.Name x p1) (.Constant (.int n) jc p2) p3, .Name y p4] kt p5) X.env] := by rfl) :
    VS X S R (.Assign [.Tuple [.Subscript (.Name x p1) (.Constant (.int n) jc p2) p3, .Name y p4] kt p5] (.Call (.Name "divmod" p6) [a, b] [] p7) pos) (sdm (S := S) o pt n f) :=
  PS.le (ps_asg (pe_callB call_divmod hg hm hb ha (he := he) (hpl := hpl)) (pg_tup (n := 2) hc (pgs_cons (pg_sub (pe_var hN hvs hd hcd) pe_int set_list hasg) (pgs_cons (pg_name hNd hj hy hf) pgs_nil hs2) hs1) hln hst) hs hw h1) fun D σ H ⟨F, G, L, γ, p, r, wd, nd, he, ha, ea, k⟩ => by
    unfold sdm at ea
    cases e1 : f γ with
    | none => rw [e1] at ea; cases ea
    | some z =>
      rw [e1] at ea
      simp only [Option.bind_some] at ea
      split at ea
      case isFalse => cases ea
      rename_i hz
      cases e3 : ixN (o.get γ).length n with
      | none => rw [e3] at ea; cases ea
      | some m =>
        rw [e3] at ea
        cases ea
        refine ⟨F, G, L, γ, z, wd, he, e1, fun vs G2 H2 x2 w2 r2 => ?_⟩
        obtain ⟨v, u, g1, g2, g3⟩ := rl2 r2
        cases g2
        cases g3
        refine ⟨_, _, g1, ⟨hz.1, hz.2⟩, fun T hT => ?_⟩
        have ex := Ex.upd (o := HO.tup [V.int (z.1 / z.2.1), V.int (z.1 % z.2.1)]) (w2.fresh hT).1
        have w3 := w2.new (o := HO.tup [V.int (z.1 / z.2.1), V.int (z.1 % z.2.1)]) hT
        obtain ⟨q, us, k1, k2, k3, k4, k5, _⟩ := o.ok (EnvR.mono (x2.trans ex) he)
        refine ⟨T, _, rfl, .inl (.inl upd_same), rfl, _, _, rfl, ?_⟩
        refine ⟨.ref q, k1, q, us, n, m, rfl, rfl, w3.f _ _ k3, by rw [← paired_len k4]; exact e3, _, _, rfl, rfl, ?_⟩
        exact k _ L _ _ _ (x2.trans ex) (w3.set k3) nd (fun b u hb e => by rw [upd_ne (fun z => hb (by rw [z]; exact k2))]; exact e) Sub.refl (pt.ok (k5 (Ex.refl _) (paired_set m k4 rfl)) rfl) (Md.keep ho ha)
end
end Vx
namespace Vx
open Rep (rep)
open EnvR (er)
open PySem PySem.Spec PyProof.Rows L2
/-! ### dicts -/
/-- what may be a key -/
class KeyOf (κ : Type) [Rep κ] where
  key : κ → Key
  ofK : Key → Option κ
  of : ∀ {K : PySem.W.Frag} {G : Hp} {k : κ} {v : V}, rep K G k v → v = kV (key k)
  back : ∀ {K : PySem.W.Frag} {G : Hp} {k : Key} {x : κ}, ofK k = some x → rep K G x (kV k)
instance : KeyOf Int := ⟨Sum.inl, fun k => match k with | .inl i => some i | .inr _ => none, fun h => by cases h; rfl, fun {K G k x} h => by
  cases k with
  | inl i => cases h; rfl
  | inr s => cases h⟩
instance : KeyOf Str := ⟨Sum.inr, fun k => match k with | .inl _ => none | .inr s => some s, fun h => by cases h; rfl, fun {K G k x} h => by
  cases k with
  | inl i => cases h
  | inr s => cases h; rfl⟩
def putB {β : Type} (d : List (Key × β)) (k : Key) (v : β) : List (Key × β) := if (d.any fun kv => decide (kv.1 = k)) = true then d.map (fun kv => if kv.1 = k then (kv.1, v) else kv) else d ++ [(k, v)]
def valB {β : Type} (d : List (Key × β)) (k : Key) : Option β := (d.find? fun kv => decide (kv.1 = k)).map (·.2)
abbrev RK {β : Type} [Rep β] (K : PySem.W.Frag) (G : Hp) : Key × β → Key × V → Prop := fun q r => q.1 = r.1 ∧ rep K G q.2 r.2
section
variable {β : Type} [Rep β] {K : PySem.W.Frag} {G : Hp}
theorem rk_any {k : Key} : ∀ {d : List (Key × β)} {kvs : List (Key × V)}, PySem.Paired (RK K G) d kvs → (d.any fun kv => decide (kv.1 = k)) = (kvs.any fun kv => decide (kv.1 = k))
  | _, _, .nil => rfl
  | x :: d, y :: kvs, .cons r t => by rw [List.any_cons, List.any_cons, rk_any t, r.1]
theorem rk_map {k : Key} {v : β} {u : V} (hv : rep K G v u) : ∀ {d : List (Key × β)} {kvs : List (Key × V)}, PySem.Paired (RK K G) d kvs → PySem.Paired (RK K G) (d.map fun kv => if kv.1 = k then (kv.1, v) else kv) (kvs.map fun kv => if kv.1 = k then (kv.1, u) else kv)
  | _, _, .nil => .nil
  | x :: d, y :: kvs, .cons r t => by
    rw [List.map_cons, List.map_cons]
    refine .cons ?_ (rk_map hv t)
    rw [r.1]
    by_cases e : y.1 = k
    · rw [if_pos e, if_pos e]
      exact ⟨rfl, hv⟩
    · rw [if_neg e, if_neg e]
      exact r
theorem rk_put {k : Key} {v : β} {u : V} (hv : rep K G v u) {d : List (Key × β)} {kvs : List (Key × V)} (h : PySem.Paired (RK K G) d kvs) : PySem.Paired (RK K G) (putB d k v) (putK kvs k u) := by
  unfold putB putK
  rw [rk_any h]
  by_cases e : (kvs.any fun kv => decide (kv.1 = k)) = true
  · rw [if_pos e, if_pos e]
    exact rk_map hv h
  · rw [if_neg e, if_neg e]
    exact paired_app h (.cons ⟨rfl, hv⟩ .nil)
theorem rk_val {k : Key} {b : β} : ∀ {d : List (Key × β)} {kvs : List (Key × V)}, PySem.Paired (RK K G) d kvs → valB d k = some b → ∃ u, valV kvs k = some u ∧ rep K G b u
  | _, _, .nil, h => by cases h
  | x :: d, y :: kvs, .cons r t, h => by
    unfold valB at h
    rw [List.find?_cons] at h
    by_cases e : x.1 = k
    · rw [decide_eq_true e] at h
      cases h
      exact ⟨y.2, valV_pos (r.1 ▸ e), r.2⟩
    · rw [decide_eq_false e] at h
      obtain ⟨u, h1, h2⟩ := rk_val t h
      exact ⟨u, by rw [valV_neg (fun z => e (r.1.trans z))]; exact h1, h2⟩
theorem putB_len (d : List (Key × β)) (k : Key) (v : β) : (putB d k v).length ≤ d.length + 1 := by
  unfold putB
  split
  · rw [List.length_map]
    omega
  · rw [List.length_append]
    exact Nat.le_refl _
theorem rk_mono {G' : Hp} (e : Ex G G') {d : List (Key × β)} {kvs : List (Key × V)} (h : PySem.Paired (RK K G) d kvs) : PySem.Paired (RK K G') d kvs := Paired.mono (fun _ _ ⟨a, b⟩ => ⟨a, Rep.mono e b⟩) h
end
section
variable {Γ : Type} [EnvR Γ] {β κ τ : Type} [Rep β] [Rep κ] [KeyOf κ] [Rep τ] {X : Cx} {a b : Expr} {pos : Pos} {i j : Nat}
/-- d[k], d never changed -/
def dget (d : Dct β) (k : κ) : Option β := valB d.l (KeyOf.key k)
theorem ve_dget {f : Γ → Option (Dct β)} {g : Γ → Option κ} (hu : X.A.units + 1 < cLine) (ha : VE X a f) (hb : VE X b g) (hs : NoSl b) : VE X (.Subscript a b pos) (f2 dget f g) :=
  PE.le (pe_dget hu ha hb hs) fun σ H Q ⟨F, G, L, γ, z, w, he, ea, q⟩ => by
    obtain ⟨x, y, e1, e2, e3⟩ := f2_some ea
    refine ⟨F, G, L, γ, x, w, he, e1, fun v G2 H2 x2 w2 r2 => ⟨F, G2, L, γ, y, w2, EnvR.mono x2 he, e2, fun u G3 H3 x3 w3 r3 => ?_⟩⟩
    obtain ⟨p, kvs, h1, h2, h3⟩ := (Rep.mono x3 r2 : rep X.K G3 x v)
    obtain ⟨o, h4, h5⟩ := rk_val h3 e3
    refine ⟨p, o, h1, .inl ⟨kvs, KeyOf.key y, .inl (w3.g _ _ h2), KeyOf.of r3, h4.symm⟩, q _ _ _ (x2.trans x3) w3 h5⟩
/-- {k: v for .. in ..} -/
def dcGo (kf : τ → Option κ) (vf : τ → Option β) : List τ → List (Key × β) → Option (List (Key × β))
  | [], d => some d
  | x :: xs, d => (kf x).bind fun k => (vf x).bind fun v => dcGo kf vf xs (putB d (KeyOf.key k) v)
variable {Γ1 Γ2 : Type} [EnvR Γ1] [EnvR Γ2] {α1 α2 : Type} [Rep α1] [Rep α2]
def fdc (p1 : Put i Γ α1 Γ1) (p2 : Put j Γ1 α2 Γ2) (g : Γ → Option (List (T2 α1 α2))) (kf : Γ2 → Option κ) (vf : Γ2 → Option β) : Γ → Option (Dct β) := fun γ => (g γ).bind fun xs => if xs.length ≤ 100000 then
  (dcGo (fun x => kf (p2.put (p1.put γ x.a) x.b)) (fun x => vf (p2.put (p1.put γ x.a) x.b)) xs []).map fun d => ⟨d⟩ else none
theorem wipe2 {σ : L2.St} {x y : Option V} (hij : i ≠ j) : ((wipe σ [i, j]).set i x).set j y = (σ.set i x).set j y := by
  show ((((σ.set j none).set i none).set i x).set j y) = _
  rw [List.set_set, List.set_comm (i := j) (j := i) _ _ (Ne.symm hij), List.set_set]
theorem wipe2' {σ : L2.St} {x y : Option V} (hij : i ≠ j) : wipe (((wipe σ [i, j]).set i x).set j y) [i, j] = wipe σ [i, j] := by
  rw [wipe2 hij]
  show ((((σ.set i x).set j y).set j none).set i none) = ((σ.set j none).set i none)
  rw [List.set_set, List.set_comm (i := i) (j := j) _ _ hij, List.set_set]
theorem tdc (hij : i ≠ j) {K : PySem.W.Frag} {p1 : Put i Γ α1 Γ1} {p2 : Put j Γ1 α2 Γ2} {g : Γ → Option (List (T2 α1 α2))} {t : Γ2 → Option Bool} {kf : Γ2 → Option κ} {vf : Γ2 → Option β} {σ : L2.St} {H : Hp} {Q : VK} (h : tev K (RE K) (fdc p1 p2 g kf vf) σ H Q) :
    tDc (tiv K g) (gPair K i j) (tet K (fyes (Γ := Γ2))) (tev K (RE K) kf) (tev K (RE K) vf) [i, j] σ H Q := by
  obtain ⟨F, G, L, γ, zs, w, he, ea, q⟩ := h
  unfold fdc at ea
  cases e0 : g γ with
  | none => rw [e0] at ea; cases ea
  | some xs =>
  rw [e0] at ea
  simp only [Option.bind_some] at ea
  split at ea
  case isFalse => cases ea
  rename_i hlen
  cases e9 : dcGo (fun x => kf (p2.put (p1.put γ x.a) x.b)) (fun x => vf (p2.put (p1.put γ x.a) x.b)) xs [] with
  | none => rw [e9] at ea; cases ea
  | some dz =>
  rw [e9] at ea
  cases ea
  refine ⟨F, G, L, γ, xs, w, he, e0, fun J G1 H1 x1 w1 wl D hD => ?_⟩
  have fd := w1.fresh hD
  have nD : ∀ q ∈ L, q ≠ D := fun q hq z => EnvR.there he q hq (by rw [z]; exact fd.2)
  refine ⟨fun n m H' => m = xs.length - n ∧ n ≤ xs.length ∧ ∃ G2 acc d, Ex G1 G2 ∧ W (upd F D (.dK acc)) G2 H' ∧ PySem.Paired (RK K G2) d acc ∧ d.length ≤ n ∧
      dcGo (fun x => kf (p2.put (p1.put γ x.a) x.b)) (fun x => vf (p2.put (p1.put γ x.a) x.b)) (xs.drop n) d = some dz, ⟨xs.length, by simp, Nat.zero_le _, G1, [], [], Ex.refl _, w1.own hD, .nil, Nat.zero_le _, e9⟩, ?_⟩
  rintro n m H' ⟨rfl, hj, G2, acc, d, x2, w2, r2, hacc, go⟩
  by_cases hlt : n < xs.length
  · obtain ⟨x, hx⟩ : ∃ x, xs[n]? = some x := ⟨xs[n], List.getElem?_eq_getElem hlt⟩
    obtain ⟨hgo, hyl⟩ := (wl (upd F D (.dK acc)) G2 H' x2 w2 n).1 x hx
    have hdrop : xs.drop n = x :: xs.drop (n + 1) := by
      rw [List.drop_eq_getElem_cons hlt]
      have : xs[n] = x := Option.some.inj ((List.getElem?_eq_getElem hlt).symm.trans hx)
      rw [this]
    rw [hdrop] at go
    unfold dcGo at go
    refine .inr ⟨hgo, fun H3 => ∃ G2 acc d, Ex G1 G2 ∧ W (upd F D (.dK acc)) G2 H3 ∧ PySem.Paired (RK K G2) d acc ∧ d.length ≤ n + 1 ∧
      dcGo (fun x => kf (p2.put (p1.put γ x.a) x.b)) (fun x => vf (p2.put (p1.put γ x.a) x.b)) (xs.drop (n + 1)) d = some dz, fun H3 z => ⟨xs.length - (n + 1), by omega, rfl, hlt, z⟩, fun xv H3 hy => ?_⟩
    obtain ⟨G3, x3, w3, p, va, vb, h1, h2, h3, h4⟩ := hyl xv H3 hy
    refine ⟨p, [va, vb], h1, .inl (.inl (w3.g _ _ h2)), rfl, va, [vb], rfl, vb, [], rfl, rfl, wipe2' hij, ?_⟩
    rw [wipe2 hij]
    have er3 : er K G3 (upd F D (.dK acc)) L ((σ.set i (some va)).set j (some vb)) (p2.put (p1.put γ x.a) x.b) := p2.ok (p1.ok (EnvR.keep (fun q hq => upd_ne (nD q hq)) (EnvR.mono ((x1.trans x2).trans x3) he)) h3) h4
    refine ⟨_, G3, L, _, true, w3, er3, rfl, fun G4 H4 x4 w4 => ?_⟩
    show (if true = true then _ else _)
    rw [if_pos rfl]
    cases e5 : kf (p2.put (p1.put γ x.a) x.b) with
    | none =>
      rw [e5] at go
      cases go
    | some kk =>
      rw [e5] at go
      simp only [Option.bind_some] at go
      cases e6 : vf (p2.put (p1.put γ x.a) x.b) with
      | none =>
        rw [e6] at go
        cases go
      | some vv =>
        rw [e6] at go
        simp only [Option.bind_some] at go
        refine ⟨_, G4, L, _, kk, w4, EnvR.mono x4 er3, e5, fun yk G5 H5 x5 w5 rk => ⟨_, G5, L, _, vv, w5, EnvR.mono (x4.trans x5) er3, e6, fun yv G6 H6 x6 w6 rv => ?_⟩⟩
        have r6 := rk_mono (((x3.trans x4).trans x5).trans x6) r2
        refine ⟨acc, KeyOf.key kk, KeyOf.of rk, w6.f _ _ upd_same, ?_, G6, putK acc (KeyOf.key kk) yv, putB d (KeyOf.key kk) vv, (((x2.trans x3).trans x4).trans x5).trans x6, ?_, rk_put rv r6, Nat.le_trans (putB_len (β := β) d _ _) (Nat.succ_le_succ hacc), go⟩
        · rw [← paired_len r6]
          exact Nat.lt_of_lt_of_le (Nat.lt_of_le_of_lt hacc (Nat.lt_of_lt_of_le hlt hlen)) line_ge
        · have := w6.set (u := .dK (putK acc (KeyOf.key kk) yv)) upd_same
          rw [upd_upd] at this
          exact this
  · have hj' : n = xs.length := by omega
    subst hj'
    rw [List.drop_length] at go
    unfold dcGo at go
    cases go
    refine .inl ⟨(wl (upd F D (.dK acc)) G2 H' x2 w2 xs.length).2 (Nat.le_refl _), ?_⟩
    have gD : G2 D = none := w2.d D _ upd_same
    have ex := Ex.upd (o := HO.dK acc) gD
    have w5 : W F (upd G2 D (.dK acc)) H' := by
      have := w2.free (p := D) upd_same
      refine this.less fun a o z => ?_
      have ha : a ≠ D := fun y => by
        rw [y, fd.2] at z
        cases z
      rw [del_ne ha, upd_ne ha]
      exact z
    exact q _ _ H' ((x1.trans x2).trans ex) w5 ⟨D, acc, rfl, upd_same, rk_mono ex r2⟩
variable {kx vx iter : Expr} {scope : Scope} {tpos px py : Pos} {x y : Str} {k0 : Nat}
/-- {k: v for x, y in iter} -/
theorem ve_dc (p1 : Put i Γ α1 Γ1) (p2 : Put j Γ1 α2 Γ2) {g : Γ → Option (List (T2 α1 α2))} {kf : Γ2 → Option κ} {vf : Γ2 → Option β} (hc : X.calm = true) (hN : X.N.Nodup) (hi : VI X (.Tuple [.Name x px, .Name y py] k0 tpos) iter g) (ok : blkC X.N X.env.scope scope [(x, i), (y, j)] = true)
    (hg : ∀ (s : Shared) (H : Hp) (C : Addr) (cl : List (Str × Addr)) (fp : List Addr), PG (X.blk s H scope (compEnvC scope cl C X.env) fp) (.Tuple [.Name x px, .Name y py] k0 tpos) (gPair X.K i j))
    (hk : ∀ (s : Shared) (H : Hp) (C : Addr) (cl : List (Str × Addr)) (fp : List Addr), VE (X.blk s H scope (compEnvC scope cl C X.env) fp) kx kf)
    (hv : ∀ (s : Shared) (H : Hp) (C : Addr) (cl : List (Str × Addr)) (fp : List Addr), VE (X.blk s H scope (compEnvC scope cl C X.env) fp) vx vf) (hij : i ≠ j := by decide) (hs : ∀ x, foldedSetIterable iter X.env x = pure x := by intro _; rfl) :
    VE X (.DictComp kx vx [⟨.Tuple [.Name x px, .Name y py] k0 tpos, iter, [], 0⟩] scope pos) (fdc p1 p2 g kf vf) :=
  PE.le (pe_dc (own := [(x, i), (y, j)]) (g := gPair X.K i j) (tt := tet X.K (fyes (Γ := Γ2))) hc hN hi (blkOk_by ok) hg (fun _ _ _ _ _ => vts_nil) hk hv hs) fun σ H Q h => tdc hij (t := fyes) h
end
end Vx
namespace Vx
open Rep (rep)
open EnvR (er)
open PySem PySem.Spec PyProof.Rows L2
/-! ### dicts of one's own -/
structure OwnD (i : Nat) (Γ β : Type) [EnvR Γ] [Rep β] where
  get : Γ → List (Key × β)
  set : Γ → List (Key × β) → Γ
  ok : ∀ {K : PySem.W.Frag} {G F : Hp} {L : List Addr} {σ : L2.St} {γ : Γ}, er K G F L σ γ → ∃ q vs, σ[i]? = some (some (.ref q)) ∧ q ∈ L ∧ F q = some (.dK vs) ∧ PySem.Paired (RK K G) (get γ) vs ∧
    (∀ {G' : Hp} {ys : List (Key × β)} {vs' : List (Key × V)}, Ex G G' → PySem.Paired (RK K G') ys vs' → er K G' (upd F q (.dK vs')) L σ (set γ ys))
def dz {Γ β : Type} [EnvR Γ] [Rep β] : OwnD 0 (OD β × Γ) β := ⟨fun γ => γ.1.l, fun γ ys => (⟨ys⟩, γ.2), fun {K G F L σ γ} ⟨L1, L2, o, σ', h1, h2, ⟨q, vs, h3, h4, h5, h6⟩, h7, h8⟩ => by
  subst h2
  have hq : q ∉ L2 := h8 q (by rw [h3]; exact List.mem_singleton.mpr rfl)
  refine ⟨q, vs, by rw [h4]; rfl, by rw [h1, h3]; exact List.mem_append_left _ (List.mem_singleton.mpr rfl), h5, h6, fun {G' ys vs'} e r => ?_⟩
  exact ⟨L1, L2, o, σ', h1, rfl, ⟨q, vs', h3, h4, upd_same, r⟩, EnvR.keep (fun b hb => upd_ne (fun z => hq (by rw [← z]; exact hb))) (EnvR.mono e h7), h8⟩⟩
def ds {i : Nat} {τ Γ β : Type} [Slot τ] [EnvR Γ] [Rep β] (w : OwnD i Γ β) : OwnD (i + 1) (τ × Γ) β := ⟨fun γ => w.get γ.2, fun γ ys => (γ.1, w.set γ.2 ys), fun {K G F L σ γ} ⟨L1, L2, o, σ', h1, h2, h3, h4, h5⟩ => by
  obtain ⟨q, vs, k1, k2, k3, k4, k5⟩ := w.ok h4
  subst h2
  have hq : q ∉ L1 := fun z => h5 q z k2
  refine ⟨q, vs, k1, by rw [h1]; exact List.mem_append_right _ k2, k3, k4, fun {G' ys vs'} e r => ?_⟩
  exact ⟨L1, L2, o, σ', h1, rfl, Slot.keep (fun b hb => upd_ne (fun z => hq (by rw [← z]; exact hb))) (Slot.mono e h3), k5 e r, h5⟩⟩
structure PutD (i : Nat) (Γ β Γ' : Type) [EnvR Γ] [Rep β] [EnvR Γ'] where
  put : Γ → List (Key × β) → Γ'
  ok : ∀ {K : PySem.W.Frag} {G F : Hp} {L : List Addr} {σ : L2.St} {γ : Γ} {q : Addr} {xs : List (Key × β)} {vs : List (Key × V)}, er K G F L σ γ → q ∉ L → F q = some (.dK vs) → PySem.Paired (RK K G) xs vs →
    ∃ L', (∀ b ∈ L', b ∈ L ∨ b = q) ∧ (L.Nodup → L'.Nodup) ∧ er K G F L' (σ.set i (some (.ref q))) (put γ xs)
def pdz {τ₀ Γ β : Type} [Slot τ₀] [EnvR Γ] [Rep β] : PutD 0 (τ₀ × Γ) β (OD β × Γ) := ⟨fun γ xs => (⟨xs⟩, γ.2), fun {K G F L σ γ q xs vs} ⟨L1, L2, o, σ', h1, h2, h3, h4, h5⟩ hq hF r => by
  subst h2
  have hq2 : q ∉ L2 := fun z => hq (by rw [h1]; exact List.mem_append_right _ z)
  exact ⟨q :: L2, fun b hb => by
    rcases List.mem_cons.mp hb with h | h
    · exact .inr h
    · exact .inl (by rw [h1]; exact List.mem_append_right _ h), fun nd => List.nodup_cons.mpr ⟨hq2, by rw [h1] at nd; exact (List.nodup_append.mp nd).2.1⟩, [q], L2, _, σ', rfl, rfl, ⟨q, vs, rfl, rfl, hF, r⟩, h4, fun b hb => by
      rw [List.mem_singleton.mp hb]
      exact hq2⟩⟩
def pds {i : Nat} {τ Γ β Γ' : Type} [Slot τ] [EnvR Γ] [Rep β] [EnvR Γ'] (p : PutD i Γ β Γ') : PutD (i + 1) (τ × Γ) β (τ × Γ') := ⟨fun γ xs => (γ.1, p.put γ.2 xs), fun {K G F L σ γ q xs vs} ⟨L1, L2, o, σ', h1, h2, h3, h4, h5⟩ hq hF r => by
  subst h2
  have hq2 : q ∉ L2 := fun z => hq (by rw [h1]; exact List.mem_append_right _ z)
  have hq1 : q ∉ L1 := fun z => hq (by rw [h1]; exact List.mem_append_left _ z)
  obtain ⟨L', k1, k2, k3⟩ := p.ok h4 hq2 hF r
  have dj : ∀ b ∈ L1, b ∉ L' := fun b hb hb' => by
    rcases k1 b hb' with h | h
    · exact h5 b hb h
    · exact hq1 (by rw [← h]; exact hb)
  refine ⟨L1 ++ L', fun b hb => ?_, fun nd => ?_, L1, L', o, _, rfl, rfl, h3, k3, dj⟩
  · rcases List.mem_append.mp hb with h | h
    · exact .inl (by rw [h1]; exact List.mem_append_left _ h)
    · rcases k1 b h with h | h
      · exact .inl (by rw [h1]; exact List.mem_append_right _ h)
      · exact .inr h
  · rw [h1] at nd
    obtain ⟨n1, n2, n3⟩ := List.nodup_append.mp nd
    exact List.nodup_append.mpr ⟨n1, k2 n2, fun a ha b hb z => dj a ha (by rw [z]; exact hb)⟩⟩
section
variable {Γ Γ' S ρ : Type} [EnvR Γ] [EnvR Γ'] [Md S] {β κ : Type} [Rep β] [Rep κ] [KeyOf κ]
variable {X : Cx} {R : RR ρ} {e a b c : Expr} {pos : Pos} {i : Nat}
/-- x = {k: v} -/
def snewD (p : PutD i Γ β Γ') (g : Γ → Option κ) (f : Γ → Option β) : Γ → Option (Fl Γ' S ρ) := fun γ => (g γ).bind fun k => (f γ).map fun v => .nx (p.put γ [(KeyOf.key k, v)])
theorem vs_newD (pt : PutD i Γ β Γ') {x : Str} {pos' dpos : Pos} {g : Γ → Option κ} {f : Γ → Option β} (hN : X.N.Nodup) (h1 : VE X a g) (h2 : VE X b f) (hi : X.N[i]? = some x := by rfl) (hx : Loc X.env.scope x := by first | exact Or.inl rfl | exact Or.inr rfl) (ho : Md.okI S i = true := by rfl)
    (hs : swapsWith (.Dict [some a] [b] dpos) (some (.Name x pos')) pos.line X.env = pure false := by rfl) (hf : X.fn x = true ∨ X.env.scope.names.lookup x = some .local := by first | exact .inl rfl | exact .inr rfl) : VS X S R (.Assign [.Name x pos'] (.Dict [some a] [b] dpos) pos) (snewD (S := S) pt g f) :=
  PS.le (ps_set hN hi hx (pe_disp (pps_cons h1 h2 pps_nil) rfl rfl (by simp) (show 1 ≤ 15 by decide)) hs hf) fun D σ H ⟨F, G, L, γ, p, r, wd, nd, he, ha, ea, k⟩ => by
    unfold snewD at ea
    cases e1 : g γ with
    | none => rw [e1] at ea; cases ea
    | some kk =>
      rw [e1] at ea
      cases e2 : f γ with
      | none => simp only [Option.bind_some] at ea; rw [e2] at ea; cases ea
      | some y =>
        simp only [Option.bind_some] at ea
        rw [e2] at ea
        cases ea
        intro q hq
        have fr := wd.fresh hq
        have nq : q ∉ L := fun z => EnvR.there he q z fr.2
        have w0 := wd.own (o := HO.dK []) hq
        have he0 : er X.K G (upd F q (.dK [])) L σ γ := EnvR.keep (fun b hb => upd_ne (fun z => nq (by rw [← z]; exact hb))) he
        refine ⟨_, G, L, γ, kk, w0, he0, e1, fun v G2 H2 x2 w2 r2 => ⟨_, G2, L, γ, y, w2, EnvR.mono x2 he0, e2, fun u G3 H3 x3 w3 r3 => ?_⟩⟩
        refine ⟨w3.f _ _ upd_same, [(KeyOf.key kk, u)], by rw [KeyOf.of r2]; rfl, show 1 ≤ 15 by decide, ?_⟩
        have w4 := w3.set (p := q) (u := .dK (mergeK [] [(KeyOf.key kk, u)])) upd_same
        rw [upd_upd] at w4
        obtain ⟨L', l1, l2, l3⟩ := pt.ok (F := upd F q (.dK (mergeK [] [(KeyOf.key kk, u)]))) (xs := [(KeyOf.key kk, y)]) (EnvR.keep (fun b hb => upd_ne (fun z => nq (by rw [← z]; exact hb))) (EnvR.mono (x2.trans x3) he)) nq upd_same (.cons ⟨rfl, r3⟩ .nil)
        exact k _ L' _ G3 _ (x2.trans x3) w4 (l2 nd) (off_new fr.2) (fun b hb => (l1 b hb).imp id fun z => by rw [z]; exact fr.2) l3 (Md.keep ho ha)
/-- d[k] = v, d of one's own -/
def sdput (o : OwnD i Γ β) (g : Γ → Option κ) (f : Γ → Option β) : Γ → Option (Fl Γ S ρ) := fun γ => (f γ).bind fun v => (g γ).bind fun k => if (o.get γ).length < 100000 then some (.nx (o.set γ (putB (o.get γ) (KeyOf.key k) v))) else none
theorem vs_dput (o : OwnD i Γ β) {x : Str} {p1 p2 : Pos} {g : Γ → Option κ} {f : Γ → Option β} (hu : X.A.units + 1 < cLine) (hk : VE X a g) (hv : VE X e f) (hN : X.N[i]? = some x := by rfl) (hvs : Vis X.env.scope x := by first | exact Or.inl rfl | exact Or.inr (Or.inl rfl) | exact Or.inr (Or.inr rfl)) (hd : (x == ("__debug__" : Str)) = false := by decide)
    (hcd : (x == ("__classdict__" : Str)) = false := by decide) (hs : swapsWith e (some (.Subscript (.Name x p1) a p2)) pos.line X.env = pure false := by rfl) : VS X S R (.Assign [.Subscript (.Name x p1) a p2] e pos) (sdput (S := S) o g f) :=
  PS.le (ps_dput hu (pe_var hN hvs hd hcd) hk hv hs) fun D σ H ⟨F, G, L, γ, p, r, wd, nd, he, ha, ea, k⟩ => by
    unfold sdput at ea
    cases e1 : f γ with
    | none => rw [e1] at ea; cases ea
    | some v =>
      rw [e1] at ea
      simp only [Option.bind_some] at ea
      cases e2 : g γ with
      | none => rw [e2] at ea; cases ea
      | some n =>
        rw [e2] at ea
        simp only [Option.bind_some] at ea
        split at ea
        case isFalse => cases ea
        rename_i hlen
        cases ea
        refine ⟨F, G, L, γ, v, wd, he, e1, fun vv G2 H2 x2 w2 r2 => ?_⟩
        obtain ⟨q, vs, k1, k2, k3, k4, k5⟩ := o.ok (EnvR.mono x2 he)
        refine ⟨.ref q, k1, F, G2, L, γ, n, w2, EnvR.mono x2 he, e2, fun vi G3 H3 x3 w3 r3 => ?_⟩
        refine ⟨q, _, rfl, .inl ⟨vs, KeyOf.key n, w3.f _ _ k3, KeyOf.of r3, by rw [← paired_len k4]; exact Nat.lt_of_lt_of_le hlen line_ge, rfl⟩, ?_⟩
        exact k σ L _ G3 _ (x2.trans x3) (w3.set k3) nd (fun b u hb e => by rw [upd_ne (fun z => hb (by rw [z]; exact k2))]; exact e) Sub.refl (k5 x3 (rk_put (Rep.mono x3 r2) (rk_mono x3 k4))) ha
/-- list(d), d of one's own -/
def keysOf {β κ : Type} [Rep κ] [KeyOf κ] : List (Key × β) → Option (List κ)
  | [] => some []
  | x :: d => (KeyOf.ofK x.1).bind fun k => (keysOf d).map (k :: ·)
theorem keys_rep {K : PySem.W.Frag} {G : Hp} : ∀ {d : List (Key × β)} {kvs : List (Key × V)} {ks : List κ}, PySem.Paired (RK K G) d kvs → keysOf d = some ks → PySem.Paired (rep K G) ks (kvs.map fun kv => kV kv.1)
  | _, _, _, .nil, h => by
    cases h
    exact .nil
  | x :: d, y :: kvs, ks, .cons r t, h => by
    unfold keysOf at h
    cases e1 : (KeyOf.ofK x.1 : Option κ) with
    | none => rw [e1] at h; cases h
    | some k =>
      rw [e1] at h
      simp only [Option.bind_some] at h
      cases e2 : (keysOf d : Option (List κ)) with
      | none => rw [e2] at h; cases h
      | some ks' =>
        rw [e2] at h
        cases h
        rw [List.map_cons]
        refine .cons ?_ (keys_rep t e2)
        have := KeyOf.back (K := K) (G := G) e1
        rw [r.1] at this
        exact this
def fkeys (κ : Type) [Rep κ] [KeyOf κ] (o : OwnD i Γ β) : Γ → Option (List κ) := fun γ => keysOf (o.get γ)
theorem vf_keys (κ : Type) [Rep κ] [KeyOf κ] (o : OwnD i Γ β) {x : Str} {p1 p2 : Pos} (hc : X.calm = true) (hm : X.mg "list" = none) (hN : X.N[i]? = some x := by rfl) (hvs : Vis X.env.scope x := by first | exact Or.inl rfl | exact Or.inr (Or.inl rfl) | exact Or.inr (Or.inr rfl)) (hd : (x == ("__debug__" : Str)) = false := by decide)
    (hcd : (x == ("__classdict__" : Str)) = false := by decide) (hg : Gl X "list" := by rfl) (hb : bootBuiltins "list" = some (.type "list") := by decide +kernel) (he : starEach [.Name x p1] X.env = (false, eval (.Name x p1) X.env) :: starEach [] X.env := by rfl) (hpl : (backTo pos (starEach [] X.env)).any (·.1) = false := by rfl) :
    VF X (.Call (.Name "list" p2) [.Name x p1] [] pos) (fkeys κ o) := PE.le (pe_callTy (call_listD hc) hg hm hb (pa_cons (pe_var hN hvs hd hcd) pa_nil he) (he := he) (hpl := hpl)) fun σ H Q ⟨F, G, L, γ, z, w, hh, ea, q⟩ => by
  obtain ⟨p, vs, k1, k2, k3, k4, k5⟩ := o.ok hh
  refine ⟨.ref p, k1, p, vs, rfl, .inl (w.f _ _ k3), fun l hl => ?_⟩
  obtain ⟨w2, r2⟩ := rf_new w hl (keys_rep k4 ea)
  exact q _ _ _ (Ex.refl G) w2 r2
end
end Vx
namespace Vx
open Rep (rep)
open EnvR (er)
open PySem PySem.Spec PyProof.Rows L2
section
variable {Γ : Type} [EnvR Γ] {α β δ : Type} {X : Cx} {a b e : Expr} {p p2 q pos : Pos}
/-- a[i] -/
theorem vo_ix {r : L2.R2} {R1 : RR α} {R2 : RR β} {R3 : RR δ} {φ : α → β → Option δ} {f : Γ → Option α} {g : Γ → Option β} (hi : IxR X r) (o : Op2 r R1 R2 R3 φ) (mo : RMono R1) (ha : VO X a R1 f) (hb : VO X b R2 g) (hs : NoSl b := by intro _ _; rfl) : VO X (.Subscript a b pos) R3 (f2 φ f g) :=
  PE.le (pe_ix hi ha hb hs) fun σ H Q h => tev2 o mo h
theorem mo_ix {r : L2.R2} {R1 : RR α} {R2 : RR β} {R3 : RR δ} {φ : α → β → Option δ} {f : Γ → Option (α × Γ)} {g : Γ → Option (β × Γ)} (hi : IxR X r) (o : Op2 r R1 R2 R3 φ) (mo : MMono R1) (ha : MO X a R1 f) (hb : MO X b R2 g) (hs : NoSl b := by intro _ _; rfl) : MO X (.Subscript a b pos) R3 (m2 φ f g) :=
  PE.le (pe_ix hi ha hb hs) fun σ H Q h => tem2 o mo h
/-- sorted(set(..)) -/
def ss (xs : List Str) : Option (List Str) := if xs.length ≤ 4000 then some (srt (ded [] xs)) else none
theorem vf_ssL {f : Γ → Option (List Str)} (hc : X.calm = true) (hu : X.A.units + 64 < cLine) (hm : X.mg "sorted" = none) (hm2 : X.mg "set" = none) (ha : VL X a f) (hg : Gl X "sorted" := by rfl) (hg2 : Gl X "set" := by rfl) (na : starEach [a] X.env = (false, eval a X.env) :: starEach [] X.env := by rfl) :
    VF X (.Call (.Name "sorted" p) [.Call (.Name "set" p2) [a] [] q] [] pos) (f1 ss f) := PE.le (pe_sortSet hc hu hm hm2 ha hg hg2 na) fun σ H Q ⟨F, G, L, γ, z, w, he, ea, k⟩ => by
  unfold f1 at ea
  cases e1 : f γ with
  | none => rw [e1] at ea; cases ea
  | some xs =>
    rw [e1] at ea
    simp only [Option.bind_some, ss] at ea
    split at ea
    · rename_i hl
      cases ea
      refine ⟨F, G, L, γ, xs, w, he, e1, fun v G2 H2 x2 w2 r2 => ?_⟩
      obtain ⟨l, vs, h1, h2, h3⟩ := rl_at w2 r2
      rw [strs_of h3] at h2
      exact ⟨xs, .inl ⟨l, h1, .inl (.inl h2)⟩, hl, fun n hn => let ⟨w3, r3⟩ := rf_new w2 hn (of_strs (K := X.K) (G := G2)); k _ _ _ x2 w3 r3⟩
    · cases ea
/-- a fresh list, drawn, kept as it is -/
theorem mo_keep [Rep α] {f : Γ → Option (List α × Γ)} (h : MO X e (RF X.K) f) : ME X e f := PE.le h fun σ H Q ⟨F, G, L, γ, a, γ', w, he, ea, q⟩ =>
  ⟨F, G, L, γ, a, γ', w, he, ea, fun v F2 G2 H2 e2 w2 o2 h2 ⟨p, vs, h1, hf, hg, hh, hr⟩ => by
    have ex : Ex G2 (upd G2 p (.lst vs)) := Ex.upd hg
    refine q v F2 (upd G2 p (.lst vs)) H2 (e2.trans ex) ⟨fun a o z => ?_, w2.f, fun a o z => ?_⟩ o2 (EnvR.mono ex h2) ⟨p, vs, h1, upd_same, Paired.mono (fun _ _ r => Rep.mono ex r) hr⟩
    · by_cases hap : a = p
      · subst hap
        rw [upd_same] at z
        rw [← z]
        exact hh
      · rw [upd_ne hap] at z
        exact w2.g a o z
    · have hap : a ≠ p := fun y => by
        rw [y, hf] at z
        cases z
      rw [upd_ne hap]
      exact w2.d a o z⟩
def srtL (a : List Str × Unit) : Option (List Str) := if a.1.length ≤ 100000 then some (srt a.1) else none
abbrev rSrt (K : PySem.W.Frag) : List V → Hp → VK → Prop := fun vs H Q => ∃ (b : Addr) (xs : List Str), vs = [.ref b] ∧ SqL K H b (xs.map V.str) ∧ xs.length ≤ 100000 ∧ ∀ p, H p = none → Q (.ref p) (upd H p (.lst ((srt xs).map V.str)))
theorem o_srtL {K : PySem.W.Frag} : OpA (rSrt K) K (RF K) srtL := fun F G H a y vs Q w r e k => by
  obtain ⟨v, h1, p, us, h2, h3, h4⟩ := rl1 r
  unfold srtL at e
  split at e
  · rename_i hl
    cases e
    subst h2
    rw [strs_of h4] at h3
    exact ⟨p, a.1, h1, .inl (.inl (w.g _ _ h3)), hl, fun l hl => let ⟨w2, r2⟩ := rf_new w hl (of_strs (K := K) (G := G)); k _ _ _ (Ex.refl G) w2 r2⟩
  · cases e
end
section
variable {Γ Γ' S ρ : Type} [EnvR Γ] [EnvR Γ'] [Md S] {X : Cx} {R : RR ρ} {sts : List Stmt}
theorem vss_never : VSs X S R sts (snever (Γ := Γ) (Γ' := Γ') (S := S)) := PSs.le (pss_never (X := X)) fun D σ H ⟨F, G, L, γ, p, r, wd, nd, he, ha, ea, k⟩ => by cases ea
end
end Vx
namespace Vx
open Rep (rep)
open EnvR (er)
open PySem PySem.Spec PyProof.Rows L2
/-- a def that stands at the top under its name -/
def Tf (K : PySem.W.Frag) (mg : Str → Option Value) (x : Str) (st : Stmt) (ps : List Str) : Prop := ∃ f fd, Fun K x x st f fd ∧ mg x = some (.ref f) ∧ Binds K fd ps []
/-- .. and keeps its promise -/
def Df (P : Program) (w : World) (K : PySem.W.Frag) (mg : Str → Option Value) (base : Heap) (x : Str) (st : Stmt) (k : Nat) (ps : List Str) (sp : Sp) : Prop :=
  ∃ f fd, Fun K x x st f fd ∧ mg x = some (.ref f) ∧ Binds K fd ps [] ∧ GnOk P w K mg base k f fd ps sp
section
variable {P : Program} {w : World} {K : PySem.W.Frag} {mg : Str → Option Value} {base : Heap} {x : Str} {st : Stmt} {N ps : List Str} {k n : Nat} {A ρ α Γ Γ' : Type} [RepL A] [EnvR Γ] [EnvR Γ'] [Rep ρ] [Rep α]
abbrev BodyD (P : Program) (w : World) (K : PySem.W.Frag) (mg : Str → Option Value) (base : Heap) (N : List Str) (x : Str) (st : Stmt) (k : Nat) (C : Cx → Prop) : Prop := BodyOk P w K mg base N x st k C
theorem df_F (T : Tf K mg x st ps) (S : FnScope N ps (defScope st)) (I : Ini A Γ n) {b : Γ → Option (Fl Γ' Unit ρ)} (body : BodyD P w K mg base N x st k fun X => VSs X Unit (RE K) (defBody st) b) (hn : N.length = RepL.n A + n := by rfl) (hp : RepL.n A = ps.length := by rfl) :
    Df P w K mg base x st (k + 1) ps (spF K fun a => runF b (I.ini a)) := by
  obtain ⟨f, fd, F, hm, hb⟩ := T
  exact ⟨f, fd, F, hm, hb, ok_F F S I hn hp body⟩
theorem df_U (T : Tf K mg x st ps) (S : FnScope N ps (defScope st)) (I : Ini A Γ n) {b : Γ → Option (Fl Γ' Unit Unit)} (body : BodyD P w K mg base N x st k fun X => VSs X Unit (RE K) (defBody st) b) (hn : N.length = RepL.n A + n := by rfl) (hp : RepL.n A = ps.length := by rfl) :
    Df P w K mg base x st (k + 1) ps (spF K fun a => runU b (I.ini a)) := by
  obtain ⟨f, fd, F, hm, hb⟩ := T
  exact ⟨f, fd, F, hm, hb, ok_U F S I hn hp body⟩
theorem df_N (T : Tf K mg x st ps) (S : FnScope N ps (defScope st)) (I : Ini A Γ n) {b : Γ → Option (Fl Γ' Unit (List α))} (body : BodyD P w K mg base N x st k fun X => VSs X Unit (RF K) (defBody st) b) (hn : N.length = RepL.n A + n := by rfl) (hp : RepL.n A = ps.length := by rfl) :
    Df P w K mg base x st (k + 1) ps (spN K fun a => runF b (I.ini a)) := by
  obtain ⟨f, fd, F, hm, hb⟩ := T
  exact ⟨f, fd, F, hm, hb, ok_N F S I hn hp body⟩
theorem df_M (T : Tf K mg x st ps) (S : FnScope N ps (defScope st)) (I : Ini A Γ n) {b : OL Int × Γ → Option (Fl Γ' (List Int) ρ)} (body : BodyD P w K mg base N x st k fun X => VSs X (List Int) (RE K) (defBody st) b) (hn : N.length = RepL.n A + 1 + n := by rfl) (hp : RepL.n A + 1 = ps.length := by rfl) :
    Df P w K mg base x st (k + 1) ps (spM K fun s a => runM b (im I s a)) := by
  obtain ⟨f, fd, F, hm, hb⟩ := T
  exact ⟨f, fd, F, hm, hb, ok_M F S I hn hp body⟩
end
theorem rm {k j : Nat} {A : Around} (r : Room k A) (h : j ≤ k := by decide) : Room j A := r.mono h
theorem un60 {k : Nat} {A : Around} (r : Room k A) : A.units + 60 < cLine := by
  have := r.un
  omega
theorem un64 {k : Nat} {A : Around} (r : Room k A) : A.units + 64 < cLine := by
  have := r.un
  omega
theorem un1 {k : Nat} {A : Around} (r : Room k A) : A.units + 1 < cLine := by
  have := r.un
  omega
section
variable {Γ : Type} [EnvR Γ] {X : Cx} {A A1 A2 ρ α : Type} [RepL A] [RepL A1] [RepL A2] [Rep ρ] [Rep α] {k : Nat} {st : Stmt} {psn ks : List Str} {x : Str} {pp pos : Pos} {e : Expr} {es : List Expr} {kws : List Keyword} {n1 : Nat} {π : List Nat}
theorem vd_call {m : A → Option ρ} {g : Γ → Option A} (D : Df X.prog X.w X.K X.mg X.base x st k psn (spF X.K m)) (hgd : X.A.guards = some []) (hr : Room k X.A) (ha : VA X (e :: es) g) (hg : Gl X x := by rfl)
    (hdb : (x == ("__debug__" : Str)) = false := by decide) (he : starEach (e :: es) X.env = (false, eval e X.env) :: starEach es X.env := by rfl) (hpl : (backTo pos (starEach es X.env)).any (·.1) = false := by rfl) : VE X (.Call (.Name x pp) (e :: es) [] pos) (f1 m g) := by
  obtain ⟨f, fd, F, hm, hb, G⟩ := D
  exact vg_call G hgd hr hm F.kp hb ha hg hdb he hpl
theorem vd_callN {m : A → Option (List α)} {g : Γ → Option A} (D : Df X.prog X.w X.K X.mg X.base x st k psn (spN X.K m)) (hgd : X.A.guards = some []) (hr : Room k X.A) (ha : VA X (e :: es) g) (hg : Gl X x := by rfl)
    (hdb : (x == ("__debug__" : Str)) = false := by decide) (he : starEach (e :: es) X.env = (false, eval e X.env) :: starEach es X.env := by rfl) (hpl : (backTo pos (starEach es X.env)).any (·.1) = false := by rfl) : VF X (.Call (.Name x pp) (e :: es) [] pos) (f1 m g) := by
  obtain ⟨f, fd, F, hm, hb, G⟩ := D
  exact vf_gcall G hgd hr hm F.kp hb ha hg hdb he hpl
theorem md_draw {m : List Int → A → Option (ρ × List Int)} {g : OL Int × Γ → Option (A × (OL Int × Γ))} {y : Str} {py : Pos} (D : Df X.prog X.w X.K X.mg X.base x st k psn (spM X.K m)) (hgd : X.A.guards = some []) (hr : Room k X.A) (hy : PE X (.Name y py) (tVar 0)) (ha : MA X es g) (hg : Gl X x := by rfl)
    (hdb : (x == ("__debug__" : Str)) = false := by decide) (he : starEach ((.Name y py) :: es) X.env = (false, eval (.Name y py) X.env) :: starEach es X.env := by rfl) (hpl : (backTo pos (starEach es X.env)).any (·.1) = false := by rfl) : ME X (.Call (.Name x pp) (.Name y py :: es) [] pos) (mdr m g) := by
  obtain ⟨f, fd, F, hm, hb, G⟩ := D
  exact mg_draw G hgd hr hm F.kp hb hy ha hg hdb he hpl
theorem ve_gint {n : Int} (h : ∃ t, X.mg x = some (.int n t)) (hg : Gl X x := by rfl) (hd : (x == ("__debug__" : Str)) = false := by decide) : VE X (.Name x pos) (fc (Γ := Γ) n) := by
  obtain ⟨t, h⟩ := h
  exact ve_glob hg h (v := .int n) ⟨t, rfl⟩ (fun _ => rfl) hd
/-- a def that changes nothing is handed a list just made, to be changed: the draw -/
theorem vd_fresh {m : List Int → Unit → Option (ρ × List Int)} {a : Expr} {g : Γ → Option (List Int)} (D : Df X.prog X.w X.K X.mg X.base x st k psn (spM X.K m)) (hgd : X.A.guards = some []) (hr : Room k X.A) (ha : VF X a g) (hg : Gl X x := by rfl)
    (hdb : (x == ("__debug__" : Str)) = false := by decide) (he : starEach [a] X.env = (false, eval a X.env) :: starEach [] X.env := by rfl) (hpl : (backTo pos (starEach [] X.env)).any (·.1) = false := by rfl) : VE X (.Call (.Name x pp) [a] [] pos) (f1 (fun s => (m s ()).map (·.1)) g) := by
  obtain ⟨f, fd, F, hm, hb, Gn⟩ := D
  exact PE.le (ge_call Gn hgd hr hm F.kp hb (pa_cons ha pa_nil he) hg hdb he hpl) fun σ H Q ⟨F, G, L, γ, r, w, hh, ea, q⟩ => by
    unfold f1 at ea
    cases e1 : g γ with
    | none => rw [e1] at ea; cases ea
    | some s =>
      rw [e1] at ea
      simp only [Option.bind_some] at ea
      cases e2 : m s () with
      | none => rw [e2] at ea; cases ea
      | some z =>
        obtain ⟨r', s'⟩ := z
        rw [e2] at ea
        cases ea
        refine ⟨F, G, L, γ, s, w, hh, e1, fun v G2 H2 x2 w2 ⟨p, vs, h1, hF, hG, hH, hr⟩ => ?_⟩
        rw [ints_of hr] at hH
        refine ⟨upd F p (.lst (s.map V.int)), G2, p, [], s, (), r', s', by rw [h1], w2.take hF hG hH, upd_same, rfl, e2, fun v2 F3 G3 H3 x3 w3 hp hoff r3 => ?_⟩
        refine q v2 G3 H3 (x2.trans x3) (w3.less fun a o z => ?_) r3
        have ha : a ≠ p := fun y => by
          rw [y, hF] at z
          cases z
        rw [hoff a ha, upd_ne ha]
        exact z
end
end Vx
/-! the rules that choose slots, said so that what they speak of is known before the slots are read -/
namespace Vx
open Rep (rep)
open EnvR (er)
open PySem PySem.Spec PyProof.Rows L2
section
variable {Γ : Type} [EnvR Γ] {α β τ : Type} [Rep τ] [Rep α] {i : Nat} {Γe : Type} [EnvR Γe]
variable {X : Cx} {elt iter : Expr} {ifs : List Expr} {scope : Scope} {pos tpos : Pos} {x : Str}
theorem mf_lc_ (c : PB i Γ τ Γe) {g : Γ → Option (List τ × Γ)} {t : Γe → Option (Bool × Γe)} {e : Γe → Option (α × Γe)} {fr : Γ → Option (List α × Γ)} (efr : mlc c.p c.b g t e = fr) (hc : X.calm = true) (hN : X.N.Nodup) (hi : MI X (.Name x tpos) iter g) (ok : blkC X.N X.env.scope scope [(x, i)] = true) (hg : ∀ (s : Shared) (H : Hp) (C : Addr) (cl : List (Str × Addr)) (fp : List Addr), PG (X.blk s H scope (compEnvC scope cl C X.env) fp) (.Name x tpos) (gName i)) (ht : ∀ (s : Shared) (H : Hp) (C : Addr) (cl : List (Str × Addr)) (fp : List Addr), MTs (X.blk s H scope (compEnvC scope cl C X.env) fp) ifs t) (he : ∀ (s : Shared) (H : Hp) (C : Addr) (cl : List (Str × Addr)) (fp : List Addr), ME (X.blk s H scope (compEnvC scope cl C X.env) fp) elt e) (hs : ∀ x, foldedSetIterable iter X.env x = pure x := by intro _; rfl) : MO X (.ListComp elt [⟨.Name x tpos, iter, ifs, 0⟩] scope pos) (RF X.K) fr := by
  subst efr
  exact mf_lc c hc hN hi ok hg ht he hs
end
section
variable {Γ : Type} [EnvR Γ] {α β τ : Type} [Rep τ] [Rep α] {i : Nat} {Γe : Type} [EnvR Γe]
variable {X : Cx} {elt iter : Expr} {ifs : List Expr} {scope : Scope} {pos tpos : Pos} {x : Str}
theorem vf_lc_ (p : Put i Γ τ Γe) {g : Γ → Option (List τ)} {t : Γe → Option Bool} {e : Γe → Option α} {fr : Γ → Option (List α)} (efr : flc p g t e = fr) (hc : X.calm = true) (hN : X.N.Nodup) (hi : VI X (.Name x tpos) iter g) (ok : blkC X.N X.env.scope scope [(x, i)] = true) (hg : ∀ (s : Shared) (H : Hp) (C : Addr) (cl : List (Str × Addr)) (fp : List Addr), PG (X.blk s H scope (compEnvC scope cl C X.env) fp) (.Name x tpos) (gName i)) (ht : ∀ (s : Shared) (H : Hp) (C : Addr) (cl : List (Str × Addr)) (fp : List Addr), VTs (X.blk s H scope (compEnvC scope cl C X.env) fp) ifs t) (he : ∀ (s : Shared) (H : Hp) (C : Addr) (cl : List (Str × Addr)) (fp : List Addr), VE (X.blk s H scope (compEnvC scope cl C X.env) fp) elt e) (hs : ∀ x, foldedSetIterable iter X.env x = pure x := by intro _; rfl) : VF X (.ListComp elt [⟨.Name x tpos, iter, ifs, 0⟩] scope pos) fr := by
  subst efr
  exact vf_lc p hc hN hi ok hg ht he hs
end
section
variable {Γ Γ' Γ'' S ρ : Type} [EnvR Γ] [EnvR Γ'] [EnvR Γ''] [Md S] {α β τ : Type}
variable {X : Cx} {R : RR ρ} {e a b c : Expr} {pos : Pos} {st : Stmt} {sts : List Stmt}
theorem vs_set_ {i : Nat} [Rep α] (pt : Put i Γ α Γ') {x : Str} {pos' : Pos} {f : Γ → Option α} {fr : Γ → Option (Fl Γ' S ρ)} (efr : sset (S := S) pt f = fr) (hN : X.N.Nodup) (h : VE X e f) (hi : X.N[i]? = some x := by rfl) (hx : Loc X.env.scope x := by first | exact Or.inl rfl | exact Or.inr rfl) (ho : Md.okI S i = true := by rfl) (hs : swapsWith e (some (.Name x pos')) pos.line X.env = pure false := by rfl) (hf : X.fn x = true ∨ X.env.scope.names.lookup x = some .local := by first | exact .inl rfl | exact .inr rfl) : VS X S R (.Assign [.Name x pos'] e pos) fr := by
  subst efr
  exact vs_set pt hN h hi hx ho hs hf
end
section
variable {Γ Γ' Γ'' S ρ : Type} [EnvR Γ] [EnvR Γ'] [EnvR Γ''] [Md S] {α β τ : Type}
variable {X : Cx} {R : RR ρ} {e a b c : Expr} {pos : Pos} {st : Stmt} {sts : List Stmt}
theorem vs_setM_ {i : Nat} [Rep α] (pt : Put i Γ α Γ') {x : Str} {pos' : Pos} {f : Γ → Option (α × Γ)} {fr : Γ → Option (Fl Γ' S ρ)} (efr : ssetm (S := S) pt f = fr) (hN : X.N.Nodup) (h : ME X e f) (hi : X.N[i]? = some x := by rfl) (hx : Loc X.env.scope x := by first | exact Or.inl rfl | exact Or.inr rfl) (ho : Md.okI S i = true := by rfl) (hs : swapsWith e (some (.Name x pos')) pos.line X.env = pure false := by rfl) (hf : X.fn x = true ∨ X.env.scope.names.lookup x = some .local := by first | exact .inl rfl | exact .inr rfl) : VS X S R (.Assign [.Name x pos'] e pos) fr := by
  subst efr
  exact vs_setM pt hN h hi hx ho hs hf
end
section
variable {Γ Γ' Γ'' Γd S ρ : Type} [EnvR Γ] [EnvR Γ'] [EnvR Γ''] [EnvR Γd] [Md S] {α β τ : Type} [Rep α] [Rep τ]
variable {X : Cx} {R : RR ρ} {e a b c : Expr} {pos : Pos} {st : Stmt} {sts : List Stmt} {i : Nat}
theorem vs_new_ (pt : PutO i Γ α Γ') {x : Str} {pos' : Pos} {f : Γ → Option (List α)} {fr : Γ → Option (Fl Γ' S ρ)} (efr : snew (S := S) pt f = fr) (hN : X.N.Nodup) (h : VF X e f) (hi : X.N[i]? = some x := by rfl) (hx : Loc X.env.scope x := by first | exact Or.inl rfl | exact Or.inr rfl) (ho : Md.okI S i = true := by rfl) (hs : swapsWith e (some (.Name x pos')) pos.line X.env = pure false := by rfl) (hf : X.fn x = true ∨ X.env.scope.names.lookup x = some .local := by first | exact .inl rfl | exact .inr rfl) : VS X S R (.Assign [.Name x pos'] e pos) fr := by
  subst efr
  exact vs_new pt hN h hi hx ho hs hf
end
section
variable {Γ Γ' Γ'' Γd S ρ : Type} [EnvR Γ] [EnvR Γ'] [EnvR Γ''] [EnvR Γd] [Md S] {α β τ : Type} [Rep α] [Rep τ]
variable {X : Cx} {R : RR ρ} {e a b c : Expr} {pos : Pos} {st : Stmt} {sts : List Stmt} {i : Nat}
theorem vs_app_ (o : Own i Γ α Γd) {f : Γ → Option (α × Γ)} {x : Str} {p1 p2 p3 : Pos} {fr : Γ → Option (Fl Γ S ρ)} (efr : sapp (S := S) o f = fr) (h : ME X e f) (hN : X.N[i]? = some x := by rfl) (hv : Vis X.env.scope x := by first | exact Or.inl rfl | exact Or.inr (Or.inl rfl) | exact Or.inr (Or.inr rfl)) (hd : (x == ("__debug__" : Str)) = false := by decide) (hcd : (x == ("__classdict__" : Str)) = false := by decide) (hpe : ∀ t, PA X [e] t → PE X (.Call (.Attribute (.Name x p1) "append" p2) [e] [] p3) (tBM X.K "list" rAppend (tVar i) t)) (hs : swapsWith (.Call (.Attribute (.Name x p1) "append" p2) [e] [] p3) none pos.line X.env = pure false := by rfl) (he : starEach [e] X.env = (false, eval e X.env) :: starEach [] X.env := by rfl) : VS X S R (.Expr (.Call (.Attribute (.Name x p1) "append" p2) [e] [] p3) pos) fr := by
  subst efr
  exact vs_app o h hN hv hd hcd hpe hs he
end
section
variable {Γ Γ1 Γ2 Γd S ρ : Type} [EnvR Γ] [EnvR Γ1] [EnvR Γ2] [EnvR Γd] [Md S] {α β τ : Type} [Rep α] [Rep β]
variable {X : Cx} {R : RR ρ} {e a b c : Expr} {pos : Pos} {i j : Nat}
theorem vs_set1_ (o : Own i Γ α Γd) {f : Γ → Option α} {g : Γ → Option Int} {x : Str} {p1 p2 : Pos} {fr : Γ → Option (Fl Γ S ρ)} (efr : sset1 (S := S) o g f = fr) (hv : VE X e f) (hg : VE X a g) (hN : X.N[i]? = some x := by rfl) (hvs : Vis X.env.scope x := by first | exact Or.inl rfl | exact Or.inr (Or.inl rfl) | exact Or.inr (Or.inr rfl)) (hd : (x == ("__debug__" : Str)) = false := by decide) (hcd : (x == ("__classdict__" : Str)) = false := by decide) (hs : swapsWithSole [.Subscript (.Name x p1) a p2] e pos.line X.env = pure false := by rfl) (hw : swappedStores [.Subscript (.Name x p1) a p2] e X.env = pure none := by rfl) (h1 : (assignEach [.Subscript (.Name x p1) a p2] X.env).map (·.2) = [assign (.Subscript (.Name x p1) a p2) X.env] := by rfl) (hasg : ∀ v, assign (.Subscript (.Name x p1) a p2) X.env v = (do
      let ov ← holding [v] (eval (.Name x p1) X.env)
      let iv ← holding [v, ov] (eval a X.env)
      standAt p2
      holding [v, ov, iv] (setItem ov iv v)
      release [v, ov, iv] []) := by intro _; rfl) : VS X S R (.Assign [.Subscript (.Name x p1) a p2] e pos) fr := by
  subst efr
  exact vs_set1 o hv hg hN hvs hd hcd hs hw h1 hasg
end
section
variable {Γ Γ1 Γ2 Γd S ρ : Type} [EnvR Γ] [EnvR Γ1] [EnvR Γ2] [EnvR Γd] [Md S] {α β τ : Type} [Rep α] [Rep β]
variable {X : Cx} {R : RR ρ} {e a b c : Expr} {pos : Pos} {i j : Nat}
theorem vs_dm_ (o : Own i Γ Int Γd) (pt : Put j Γ Int Γ1) {n : Int} {f : Γ → Option (Int × Int × Unit)} {x y : Str} {p1 p2 p3 p4 p5 p6 p7 : Pos} {kt jc} {fr : Γ → Option (Fl Γ1 S ρ)} (efr : sdm (S := S) o pt n f = fr) (hc : X.calm = true) (hNd : X.N.Nodup) (ha : VA X [a, b] f) (hm : X.mg "divmod" = none) (hg : Gl X "divmod" := by rfl) (hb : bootBuiltins "divmod" = some (.builtin "divmod") := by decide +kernel) (hN : X.N[i]? = some x := by rfl) (hvs : Vis X.env.scope x := by first | exact Or.inl rfl | exact Or.inr (Or.inl rfl) | exact Or.inr (Or.inr rfl)) (hd : (x == ("__debug__" : Str)) = false := by decide) (hcd : (x == ("__classdict__" : Str)) = false := by decide) (hj : X.N[j]? = some y := by rfl) (hy : Loc X.env.scope y := by first | exact Or.inl rfl | exact Or.inr rfl) (hf : X.fn y = true ∨ X.env.scope.names.lookup y = some .local := by first | exact .inl rfl | exact .inr rfl) (ho : Md.okI S j = true := by rfl) (he : starEach [a, b] X.env = (false, eval a X.env) :: starEach [b] X.env := by rfl) (hpl : (backTo p7 (starEach [b] X.env)).any (·.1) = false := by rfl) (hasg : ∀ v, assign (.Subscript (.Name x p1) (.Constant (.int n) jc p2) p3) X.env v = (do
      let ov ← holding [v] (eval (.Name x p1) X.env)
      let iv ← holding [v, ov] (eval (.Constant (.int n) jc p2) X.env)
      standAt p3
      holding [v, ov, iv] (setItem ov iv v)
      release [v, ov, iv] []) := by intro _; rfl) (hs1 : (assignEach [.Subscript (.Name x p1) (.Constant (.int n) jc p2) p3, .Name y p4] X.env).map (·.2) = assign (.Subscript (.Name x p1) (.Constant (.int n) jc p2) p3) X.env :: (assignEach [.Name y p4] X.env).map (·.2) := by rfl) (hs2 : (assignEach [.Name y p4] X.env).map (·.2) = assign (.Name y p4) X.env :: (assignEach [] X.env).map (·.2) := by rfl) (hln : (assignEach [.Subscript (.Name x p1) (.Constant (.int n) jc p2) p3, .Name y p4] X.env).length = 2 := by rfl) (hst : (assignEach [.Subscript (.Name x p1) (.Constant (.int n) jc p2) p3, .Name y p4] X.env).findIdx? (·.1) = none := by rfl) (hs : swapsWithSole [.Tuple [.Subscript (.Name x p1) (.Constant (.int n) jc p2) p3, .Name y p4] kt p5] (.Call (.Name "divmod" p6) [a, b] [] p7) pos.line X.env = pure false := by rfl) (hw : swappedStores [.Tuple [.Subscript (.Name x p1) (.Constant (.int n) jc p2) p3, .Name y p4] kt p5] (.Call (.Name "divmod" p6) [a, b] [] p7) X.env = pure none := by rfl) (h1 : (assignEach [.Tuple [.Subscript (.Name x p1) (.Constant (.int n) jc p2) p3, .Name y p4] kt p5] X.env).map (·.2) = [assign (.Tuple [.Subscript (.Name x p1) (.Constant (.int n) jc p2) p3, .Name y p4] kt p5) X.env] := by rfl) : VS X S R (.Assign [.Tuple [.Subscript (.Name x p1) (.Constant (.int n) jc p2) p3, .Name y p4] kt p5] (.Call (.Name "divmod" p6) [a, b] [] p7) pos) fr := by
  subst efr
  exact vs_dm o pt hc hNd ha hm hg hb hN hvs hd hcd hj hy hf ho he hpl hasg hs1 hs2 hln hst hs hw h1
end
section
variable {Γ : Type} [EnvR Γ] {β κ τ : Type} [Rep β] [Rep κ] [KeyOf κ] [Rep τ] {X : Cx} {a b : Expr} {pos : Pos} {i j : Nat}
variable {Γ1 Γ2 : Type} [EnvR Γ1] [EnvR Γ2] {α1 α2 : Type} [Rep α1] [Rep α2]
variable {kx vx iter : Expr} {scope : Scope} {tpos px py : Pos} {x y : Str} {k0 : Nat}
theorem ve_dc_ (p1 : Put i Γ α1 Γ1) (p2 : Put j Γ1 α2 Γ2) {g : Γ → Option (List (T2 α1 α2))} {kf : Γ2 → Option κ} {vf : Γ2 → Option β} {fr : Γ → Option (Dct β)} (efr : fdc p1 p2 g kf vf = fr) (hc : X.calm = true) (hN : X.N.Nodup) (hi : VI X (.Tuple [.Name x px, .Name y py] k0 tpos) iter g) (ok : blkC X.N X.env.scope scope [(x, i), (y, j)] = true) (hg : ∀ (s : Shared) (H : Hp) (C : Addr) (cl : List (Str × Addr)) (fp : List Addr), PG (X.blk s H scope (compEnvC scope cl C X.env) fp) (.Tuple [.Name x px, .Name y py] k0 tpos) (gPair X.K i j)) (hk : ∀ (s : Shared) (H : Hp) (C : Addr) (cl : List (Str × Addr)) (fp : List Addr), VE (X.blk s H scope (compEnvC scope cl C X.env) fp) kx kf) (hv : ∀ (s : Shared) (H : Hp) (C : Addr) (cl : List (Str × Addr)) (fp : List Addr), VE (X.blk s H scope (compEnvC scope cl C X.env) fp) vx vf) (hij : i ≠ j := by decide) (hs : ∀ x, foldedSetIterable iter X.env x = pure x := by intro _; rfl) : VE X (.DictComp kx vx [⟨.Tuple [.Name x px, .Name y py] k0 tpos, iter, [], 0⟩] scope pos) fr := by
  subst efr
  exact ve_dc p1 p2 hc hN hi ok hg hk hv hij hs
end
section
variable {Γ Γ' S ρ : Type} [EnvR Γ] [EnvR Γ'] [Md S] {β κ : Type} [Rep β] [Rep κ] [KeyOf κ]
variable {X : Cx} {R : RR ρ} {e a b c : Expr} {pos : Pos} {i : Nat}
theorem vs_newD_ (pt : PutD i Γ β Γ') {x : Str} {pos' dpos : Pos} {g : Γ → Option κ} {f : Γ → Option β} {fr : Γ → Option (Fl Γ' S ρ)} (efr : snewD (S := S) pt g f = fr) (hN : X.N.Nodup) (h1 : VE X a g) (h2 : VE X b f) (hi : X.N[i]? = some x := by rfl) (hx : Loc X.env.scope x := by first | exact Or.inl rfl | exact Or.inr rfl) (ho : Md.okI S i = true := by rfl) (hs : swapsWith (.Dict [some a] [b] dpos) (some (.Name x pos')) pos.line X.env = pure false := by rfl) (hf : X.fn x = true ∨ X.env.scope.names.lookup x = some .local := by first | exact .inl rfl | exact .inr rfl) : VS X S R (.Assign [.Name x pos'] (.Dict [some a] [b] dpos) pos) fr := by
  subst efr
  exact vs_newD pt hN h1 h2 hi hx ho hs hf
end
section
variable {Γ Γ' S ρ : Type} [EnvR Γ] [EnvR Γ'] [Md S] {β κ : Type} [Rep β] [Rep κ] [KeyOf κ]
variable {X : Cx} {R : RR ρ} {e a b c : Expr} {pos : Pos} {i : Nat}
theorem vs_dput_ (o : OwnD i Γ β) {x : Str} {p1 p2 : Pos} {g : Γ → Option κ} {f : Γ → Option β} {fr : Γ → Option (Fl Γ S ρ)} (efr : sdput (S := S) o g f = fr) (hu : X.A.units + 1 < cLine) (hk : VE X a g) (hv : VE X e f) (hN : X.N[i]? = some x := by rfl) (hvs : Vis X.env.scope x := by first | exact Or.inl rfl | exact Or.inr (Or.inl rfl) | exact Or.inr (Or.inr rfl)) (hd : (x == ("__debug__" : Str)) = false := by decide) (hcd : (x == ("__classdict__" : Str)) = false := by decide) (hs : swapsWith e (some (.Subscript (.Name x p1) a p2)) pos.line X.env = pure false := by rfl) : VS X S R (.Assign [.Subscript (.Name x p1) a p2] e pos) fr := by
  subst efr
  exact vs_dput o hu hk hv hN hvs hd hcd hs
end
section
variable {Γ Γ' S ρ : Type} [EnvR Γ] [EnvR Γ'] [Md S] {β κ : Type} [Rep β] [Rep κ] [KeyOf κ]
variable {X : Cx} {R : RR ρ} {e a b c : Expr} {pos : Pos} {i : Nat}
theorem vf_keys_ (κ : Type) [Rep κ] [KeyOf κ] (o : OwnD i Γ β) {x : Str} {p1 p2 : Pos} {fr : Γ → Option (List κ)} (efr : fkeys κ o = fr) (hc : X.calm = true) (hm : X.mg "list" = none) (hN : X.N[i]? = some x := by rfl) (hvs : Vis X.env.scope x := by first | exact Or.inl rfl | exact Or.inr (Or.inl rfl) | exact Or.inr (Or.inr rfl)) (hd : (x == ("__debug__" : Str)) = false := by decide) (hcd : (x == ("__classdict__" : Str)) = false := by decide) (hg : Gl X "list" := by rfl) (hb : bootBuiltins "list" = some (.type "list") := by decide +kernel) (he : starEach [.Name x p1] X.env = (false, eval (.Name x p1) X.env) :: starEach [] X.env := by rfl) (hpl : (backTo pos (starEach [] X.env)).any (·.1) = false := by rfl) : VF X (.Call (.Name "list" p2) [.Name x p1] [] pos) fr := by
  subst efr
  exact vf_keys κ o hc hm hN hvs hd hcd hg hb he hpl
end
section
variable {Γ Γh Γe S ρ τ : Type} [EnvR Γ] [EnvR Γh] [EnvR Γe] [Md S] [Rep τ] {X : Cx} {R : RR ρ} {target iter : Expr} {body : List Stmt} {pos : Pos} {i : Nat}
theorem vs_forn (w : Wk Γ Γh) (p : Put i Γh τ Γe) {g : Γ → Option (List τ)} {f : Γe → Option (Fl Γh S ρ)} {fr : Γ → Option (Fl Γh S ρ)} (efr : sfor (S := S) w p.put g f = fr) (hp : PassesOwn (model X.prog X.w) X.A X.env X.xe) (hc : X.calm = true) (hi : VI X target iter g) (hg : PG X target (gName i)) (hb : VSs X S R body f)
    (ho : Md.okI S i = true := by rfl) (hs : ∀ x, foldedSetIterable iter X.env x = pure x := by intro _; rfl) : VS X S R (.For target iter body [] pos) fr := by
  subst efr
  exact vs_for w (tgName p ho) hp hc hi hg hb hs
end
section
variable {Γ Γh Γ1 Γe S ρ α β : Type} [EnvR Γ] [EnvR Γh] [EnvR Γ1] [EnvR Γe] [Md S] [Rep α] [Rep β] {X : Cx} {R : RR ρ} {target iter : Expr} {body : List Stmt} {pos : Pos} {i j : Nat}
theorem vs_forp (w : Wk Γ Γh) (p1 : Put i Γh α Γ1) (p2 : Put j Γ1 β Γe) {g : Γ → Option (List (T2 α β))} {f : Γe → Option (Fl Γh S ρ)} {fr : Γ → Option (Fl Γh S ρ)} (efr : sfor (S := S) w (fun γ t => p2.put (p1.put γ t.a) t.b) g f = fr) (hp : PassesOwn (model X.prog X.w) X.A X.env X.xe) (hc : X.calm = true) (hi : VI X target iter g) (hg : PG X target (gPair X.K i j)) (hb : VSs X S R body f)
    (ho : Md.okI S i = true := by rfl) (ho' : Md.okI S j = true := by rfl) (hs : ∀ x, foldedSetIterable iter X.env x = pure x := by intro _; rfl) : VS X S R (.For target iter body [] pos) fr := by
  subst efr
  exact vs_for w (tgPair p1 p2 ho ho') hp hc hi hg hb hs
end
end Vx
namespace Vx
open Rep (rep)
open EnvR (er)
open PySem PySem.Spec PyProof.Rows L2
section
variable {Γ Γ' Γe S ρ α τ : Type} [EnvR Γ] [EnvR Γ'] [EnvR Γe] [Md S] [Rep α] [Rep τ] {X : Cx} {R : RR ρ} {elt iter : Expr} {ifs : List Expr} {scope : Scope} {pos tpos spos py : Pos} {x y : Str} {i j : Nat}
/-- name = [..], the name a plain local: the machine stores from within -/
theorem vs_setLc (pt : Put i Γ (List α) Γ') (p : Put j Γ τ Γe) {g : Γ → Option (List τ)} {t : Γe → Option Bool} {e : Γe → Option α} {fr : Γ → Option (Fl Γ' S ρ)} (efr : sset (S := S) pt (flc p g t e) = fr) (hc : X.calm = true) (hN : X.N.Nodup) (hi : VI X (.Name x tpos) iter g) (ok : blkC X.N X.env.scope scope [(x, j)] = true)
    (hg : ∀ (s : Shared) (H : Hp) (C : Addr) (cl : List (Str × Addr)) (fp : List Addr), PG (X.blk s H scope (compEnvC scope cl C X.env) fp) (.Name x tpos) (gName j))
    (ht : ∀ (s : Shared) (H : Hp) (C : Addr) (cl : List (Str × Addr)) (fp : List Addr), VTs (X.blk s H scope (compEnvC scope cl C X.env) fp) ifs t)
    (he : ∀ (s : Shared) (H : Hp) (C : Addr) (cl : List (Str × Addr)) (fp : List Addr), VE (X.blk s H scope (compEnvC scope cl C X.env) fp) elt e)
    (hsw : swapsWith (.ListComp elt [⟨.Name x tpos, iter, ifs, 0⟩] scope pos) (some (.Name y py)) spos.line X.env = pure true := by rfl) (hn : X.N[i]? = some y := by rfl) (hyl : X.env.scope.names.lookup y = some .local := by rfl) (ho : Md.okI S i = true := by rfl) (hs : ∀ x, foldedSetIterable iter X.env x = pure x := by intro _; rfl) :
    VS X S R (.Assign [.Name y py] (.ListComp elt [⟨.Name x tpos, iter, ifs, 0⟩] scope pos) spos) fr := by
  subst efr
  exact PS.le (ps_setLc (own := [(x, j)]) (g := gName j) hc hN hn hyl hsw hi (blkOk_by ok) hg ht he hs) fun D σ H ⟨F, G, L, γ, q, r, wd, nd, hh, ha, ea, k⟩ => by
    unfold sset at ea
    cases e1 : flc p g t e γ with
    | none => rw [e1] at ea; cases ea
    | some z =>
      rw [e1] at ea
      cases ea
      refine tlcp (σ := σ) (Q := fun v H1 => D.nx (σ.set i (some v)) H1) ⟨F, G, L, γ, z, wd, hh, e1, fun v G2 H2 x2 w2 ⟨c, vs, h1, hF, hG, hH, hr⟩ => ?_⟩
      have ex : Ex G2 (upd G2 c (.lst vs)) := Ex.upd hG
      have w3 : W F (upd G2 c (.lst vs)) H2 := ⟨fun a o u => by
        by_cases hap : a = c
        · subst hap
          rw [upd_same] at u
          rw [← u]
          exact hH
        · rw [upd_ne hap] at u
          exact w2.g a o u, w2.f, fun a o u => by
        have hap : a ≠ c := fun b => by
          rw [b, hF] at u
          cases u
        rw [upd_ne hap]
        exact w2.d a o u⟩
      exact k _ L F _ H2 (x2.trans ex) w3 nd Off.refl Sub.refl (pt.ok (EnvR.mono (x2.trans ex) hh) ⟨c, vs, h1, upd_same, Paired.mono (fun _ _ u => Rep.mono ex u) hr⟩) (Md.keep ho ha)
end
end Vx
namespace Vx
open Rep (rep)
open EnvR (er)
open PySem PySem.Spec PyProof.Rows L2
section
variable {P : Program} {w : World} {K : PySem.W.Frag} {mg mB : Str → Option Value} {k : Nat} {fl pa : Addr} {fd : FuncData} {x : Str} {s0 : Shared} {us : List Value} {zs : List Int} {m : Scr × Unit → Option Bool}
/-- the script's cell is all that is followed -/
theorem end_core (kin : K.In s0.heap) (n1 : s0.heap.Ns mainGlobals mg) (n2 : s0.heap.Ns builtinsNs mB) (n3 : ∀ y : Str, y ≠ "__name__" → mB y = bootBuiltins y) (n4 : s0.heap.NoLimit) (n5 : s0.gens = #[])
    (cell : s0.heap.get? pa = some { cls := .type "list", data := .seq us.toArray }) (room : Room k callerA) (Fn : ∀ b : Heap, K.In b → b.Ns mainGlobals mg → GnOk P w K mg b k fl fd [x] (spF K m))
    (bnd : ∀ (s : Shared) (u : Value), BindsTo s fd ⟨[u], []⟩ [(x, u)]) (ans : m (⟨zs⟩, ()) = some true) {T : Hp} (t1 : Only T) (t2 : SqL K T pa (zs.map V.int)) (t3 : HOk P w T s0.heap) (t4 : ∀ b, T b ≠ none → b = pa) (t5 : T pa ≠ none → K.lookup pa = none) :
    codeAny (model P w) callerA (.call (.ref fl) ⟨[.ref pa], []⟩) (fun r s' => r = .ok (.ret (.bool true)) ∧ OldK s0.heap s'.heap ∧ s'.os = s0.os ∧ AllBare s'.gens) s0 := by
  have only : ∀ {b : Addr}, T b ≠ none → b = pa := fun {b} => t4 b
  have free : ∀ {b : Addr} {o : Obj} {es : Array DictEntry} {ep : Nat}, s0.heap.get? b = some o → o.data = .dict es ep → T b = none := by
    intro b o es ep e d
    by_cases q : T b = none
    · exact q
    · have z := only q
      subst z
      rw [cell] at e
      cases e
      have d' : Data.seq us.toArray _ = Data.dict es ep := d
      cases d'
  have names : ∀ {b : Addr} {g : Str → Option Value}, s0.heap.Ns b g → (hidT s0.heap T).Ns b g := by
    intro b g ⟨o, es, ep, e, d, r⟩
    exact ⟨o, es, ep, hidT_get e (free e d), d, r⟩
  have kinT : K.In (hidT s0.heap T) := by
    intro b o e
    refine hidT_get (kin b o e) ?_
    by_cases q : T b = none
    · exact q
    · have z := only q
      subst z
      rw [t5 q] at e
      cases e
  have lim : (hidT s0.heap T).NoLimit := by
    obtain ⟨c, h1, h2⟩ := n4
    exact ⟨c, names h1, h2⟩
  have md : Mod K mg (hidT s0.heap T) := ⟨kinT, names n1, ⟨mB, names n2, n3⟩, lim⟩
  have ev : Env0 P w K mg (hidT s0.heap T) callerA [] s0 T := by
    refine ⟨rfl, md, fun b o e => of_hidT e, Nat.le_of_eq (hidT_size _ _), trivial, fun b hb => ?_, t3, .of_eq n5⟩
    exact absurd (show b ∈ ([] : List Addr) from hb) (by simp)
  have ask : spF K m [.ref pa] T (fun v _ => v = .bl true) E0 := by
    refine ⟨fun _ => none, T, (⟨zs⟩, ()), true, ⟨Ex.refl T, (fun a o h => by cases (show (none : Option HO) = some o from h)), (fun a o h => by cases (show (none : Option HO) = some o from h))⟩, ⟨.ref pa, [], rfl, ⟨pa, rfl, t2⟩, rfl⟩, ans, ?_⟩
    intro v G2 H2 _ _ r
    exact r
  have go := (Fn _ kinT (names n1)).run callerA [] s0 T ⟨[.ref pa], []⟩ [.ref pa] [.ref pa] _ rfl room ev (bnd s0 (.ref pa)) (.cons rfl .nil) ask
  refine codeAny_mono go ?_
  intro r s' h
  cases r with
  | error e => exact (show False from h).elim
  | ok f =>
    cases f with
    | next => exact (show False from h).elim
    | brk => exact (show False from h).elim
    | cont => exact (show False from h).elim
    | ret u =>
      obtain ⟨v, T', h1, h2, un, hok', h3, h4⟩ := h
      have e4 : v = .bl true := h4
      subst e4
      have e5 : u = Value.bool true := h3
      subst e5
      refine ⟨rfl, OldK.of_keep ?_, h1, h2⟩
      intro b o e
      by_cases q : T b = none
      · exact un.keep b o e q (by intro z; exact absurd (show b ∈ ([] : List Addr) from z) (by simp)) (by simp)
      · rcases t1 b with z | ⟨ob, xs, z⟩
        · exact absurd z q
        · have e1 := (t3 b _ z).1
          have e2 := (hok' b _ (un.frzs b ob _ z)).1
          rw [e] at e1
          cases e1
          exact e2
theorem end_call (kin : K.In s0.heap) (n1 : s0.heap.Ns mainGlobals mg) (n2 : s0.heap.Ns builtinsNs mB) (n3 : ∀ y : Str, y ≠ "__name__" → mB y = bootBuiltins y) (n4 : s0.heap.NoLimit) (n5 : s0.gens = #[])
    (cell : s0.heap.get? pa = some { cls := .type "list", data := .seq us.toArray }) (hints : IntsAre us zs) (few : zs.length ≤ sizeLine) (room : Room k callerA) (Fn : ∀ b : Heap, K.In b → b.Ns mainGlobals mg → GnOk P w K mg b k fl fd [x] (spF K m))
    (bnd : ∀ (s : Shared) (u : Value), BindsTo s fd ⟨[u], []⟩ [(x, u)]) (ans : m (⟨zs⟩, ()) = some true) :
    codeAny (model P w) callerA (.call (.ref fl) ⟨[.ref pa], []⟩) (fun r s' => r = .ok (.ret (.bool true)) ∧ OldK s0.heap s'.heap ∧ s'.os = s0.os ∧ AllBare s'.gens) s0 := by
  have rel := vals_ints hints
  have len := hints.length
  cases at_ : K.lookup pa with
  | some o =>
    have e := kin pa o at_
    rw [cell] at e
    cases e
    refine end_core (T := fun _ => none) kin n1 n2 n3 n4 n5 cell room Fn bnd ans (fun _ => .inl rfl) (.inr ⟨_, us.toArray, _, at_, rfl, rfl, rfl, ?_, by simpa using rel⟩) (fun b u z => by cases (show (none : Option HO) = some u from z)) (fun b z => absurd rfl z) (fun z => absurd rfl z)
    rw [List.size_toArray, len]
    exact few
  | none =>
    let T : Hp := fun b => if b = pa then some (.frz { cls := .type "list", data := .seq us.toArray } (.lst (zs.map V.int))) else none
    have Ty : T pa = some (.frz { cls := .type "list", data := .seq us.toArray } (.lst (zs.map V.int))) := if_pos rfl
    have Tn : ∀ b, b ≠ pa → T b = none := fun b hb => if_neg hb
    refine end_core (T := T) kin n1 n2 n3 n4 n5 cell room Fn bnd ans (fun b => ?_) (.inl (.inr ⟨_, Ty⟩)) (fun b u z => ?_) (fun b z => ?_) (fun _ => at_)
    · by_cases hb : b = pa
      · subst hb
        exact .inr ⟨_, _, Ty⟩
      · exact .inl (Tn b hb)
    · by_cases hb : b = pa
      · subst hb
        rw [Ty] at z
        cases z
        exact ⟨cell, by rw [List.length_map]; exact few, us, _, rel, cell⟩
      · rw [Tn b hb] at z
        cases z
    · by_cases hb : b = pa
      · exact hb
      · exact absurd (Tn b hb) z
end
/-- the law by its mirror -/
theorem vwalk {l : PySem.W.OpenLaw} {n k : Nat} {q : Program} {loose : List Str} {XP : (Str → Option Value) → Heap → Prop} {YP : World → Heap → Prop} {d : DefRec} {K : Params → PySem.W.Frag} {x : Str} {m : Scr × Unit → Option Bool}
    (h1 : l.most = some n) (h2 : n ≤ sizeLine) (h3 : d.params.defaults = []) (room : Room k callerA) (hY : ∀ (w : World) (h : Heap), YP w h → (K w.params).In h)
    (F : ∀ (w : World) (mg : Str → Option Value) (fa : Addr) (h : Heap), (K w.params).In h → h.Ns mainGlobals mg → mg d.name = some (.ref fa) → ∃ fd : FuncData, (∀ (s : Shared) (u : Value), BindsTo s fd ⟨[u], []⟩ [(x, u)]) ∧
      ∀ b : Heap, (K w.params).In b → b.Ns mainGlobals mg → GnOk l.prog w (K w.params) mg b k fa fd [x] (spF (K w.params) m))
    (ans : ∀ zs : List Int, zs.length ≤ n → m (⟨zs⟩, ()) = some true) : PySem.W.WalkO q loose XP YP l.row.toRowW d [] (fun f vs => PySem.call f vs) := by
  refine Att.attach_call h1 h3 ?_
  intro w s₀ s₁ mg mb fa o pm cd doc a vs ns G Y ho hd hcd hmg hobj hints hlen hg
  have kin := hY w _ Y
  obtain ⟨fd, hb, hF⟩ := F w mg fa _ kin G.T.g hmg
  exact end_call kin G.T.g G.T.b G.T.builtins G.T.nolimit hg hobj hints (Nat.le_trans hlen h2) room hF hb (ans ns hlen)
end Vx
/-! objects: made, asked by a property, by a method; the defs beneath keep their promise where no repr is under way -/
namespace Vx
open Rep (rep)
open EnvR (er)
open PySem PySem.Spec PyProof.Rows L2
section
variable {X : Cx} {k : Nat} {f g C q : Addr} {fd : FuncData} {ps : List Str} {sp : Sp} {x m : Str} {p pos apos : Pos} {e o : Expr} {es : List Expr} {t : TA} {ta : TE}
theorem ge_make (M : Mk X.K C f) (F : GnOk X.prog X.w X.K X.mg X.base k f fd ps sp) (hgd : X.A.guards = some []) (hr : Room (k + 1) X.A) (hm : X.mg x = some (.ref C)) (hb : Binds X.K fd ps []) (ha : PA X (e :: es) t) (hg : Gl X x := by rfl)
    (hdb : (x == ("__debug__" : Str)) = false := by decide) (he : starEach (e :: es) X.env = (false, eval e X.env) :: starEach es X.env := by rfl) (hpl : (backTo pos (starEach es X.env)).any (·.1) = false := by rfl) :
    PE X (.Call (.Name x p) (e :: es) [] pos) (fun σ H Q => t σ H fun vs H1 => ∀ y dx, H1 y = none → H1 dx = none → dx ≠ y → sp (.ref y :: vs) (upd (upd H1 dx (.own y)) y (.ins C dx [])) (fun v H2 => v = .non ∧ Q (.ref y) H2) E0) := by
  constructor
  intro pins s σ H Q I h
  apply wpAny_Call_Name_kw
  apply ld_glob I hg hm (hd := hdb)
  refine PySem.W.callWith_K (h₀ := X.base) I.ok.mod.kin M.kp (thn (ha.run pos pins s σ H _ I h) ?_) he hpl
  intro us s1 ⟨vs, H1, I1, r, h1⟩
  constructor
  · exact I1.kIn
  have want := h1 (s1.heap.objs.size + 1) s1.heap.objs.size (I1.hok.fresh (Nat.le_succ _)) (I1.hok.fresh (Nat.le_refl _)) (Nat.ne_of_lt (Nat.lt_succ_self _))
  have I2 := Inv.made (C := C) I1
  have r2 : Vals (V.ref (s1.heap.objs.size + 1) :: vs) (Value.ref (s1.heap.objs.size + 1) :: us) := .cons rfl r
  have hl : (Value.ref (s1.heap.objs.size + 1) :: us).length = ps.length := by
    rw [← r2.length]
    exact F.len _ _ _ _ want
  have bt := hb _ (Value.ref (s1.heap.objs.size + 1) :: us) I2.kIn (by rw [List.append_nil]; exact hl)
  rw [List.append_nil] at bt
  apply wpAny_call
  refine make_map (f := f) I1.kIn M.makes M.init (beq_iff_eq.mp M.fn) (codeAny_mono (F.run _ X.stack _ _ ⟨Value.ref (s1.heap.objs.size + 1) :: us, []⟩ _ _ _ hgd (hr.make C us []) (I2.env0.make C us []) bt r2 want) ?_)
  intro r s' z
  cases r with
  | error _ => exact (show False from z).elim
  | ok fl =>
    cases fl with
    | ret u =>
      obtain ⟨v, H', I3, rv, ev, q3⟩ := I2.after z
      subst ev
      exact ⟨rv, V.ref (s1.heap.objs.size + 1), H', I3, rfl, q3⟩
    | next => exact (show False from z).elim
    | brk => exact (show False from z).elim
    | cont => exact (show False from z).elim
theorem ge_prop (he : PE X e ta) (c : Cls X.K C) (hp : PropOf X.K C m q g) (F : GnOk X.prog X.w X.K X.mg X.base k g fd ps sp) (hgd : X.A.guards = some []) (hr : Room (k + 1) X.A) (hb : Binds X.K fd ps []) (hab : attributeBase e m X.env (eval e X.env) = eval e X.env := by rfl) :
    PE X (.Attribute e m pos) (fun σ H Q => ta σ H fun v H1 => ∃ a dx fs, v = .ref a ∧ H1 a = some (.ins C dx fs) ∧ sp [.ref a] H1 Q E0) := by
  constructor
  intro pins s σ H Q I h
  refine attr_of hab (thn (he.run pins s σ H _ I h) ?_)
  intro u s1 ⟨v, H1, I0, rx, a, dx, fs, ex, ea, want⟩
  subst ex
  have eu : u = Value.ref a := rx
  subst eu
  obtain ⟨mA, O, _⟩ := ins_get I0.hok ea
  obtain ⟨od, J, _⟩ := O.look
  obtain ⟨rest, hrec⟩ := hp.rec_
  have I1 := I0.tok (s1.toks + 1)
  have hl : [Value.ref a].length = ps.length := by
    have := F.len _ _ _ _ want
    exact this
  have hc : (PySem.W.clsIn X.K C).isSome = true := by
    obtain ⟨cd, hc, _⟩ := PySem.W.any_some c.hd
    rw [hc]
    rfl
  have bt := hb { s1 with toks := s1.toks + 1 } [.ref a] I1.kIn (by rw [List.append_nil]; exact hl)
  rw [List.append_nil] at bt
  refine PySem.W.get_bind I0.kIn J (PySem.W.plainGet_of (c.get m)).1 (PySem.W.findObj_data hc hp.at_ hp.get hp.tak) (PySem.W.plainGet_of (c.get m)).2 (wpAny_call (PySem.W.prop_get (s := { s1 with toks := s1.toks + 1 }) I0.kIn hrec ?_))
  refine codeAny_mono (F.run X.A.in1 X.stack { s1 with toks := s1.toks + 1 } H1 ⟨[.ref a], []⟩ [.ref a] [.ref a] _ hgd hr.in1 I1.env0.in1 bt (.cons rfl .nil) want) ?_
  intro r s' z
  cases r with
  | error _ => exact (show False from z).elim
  | ok fl =>
    cases fl with
    | ret u =>
      obtain ⟨w', H', I3, rv, q3⟩ := I1.after z
      show wpAny _ _ (handedOut u) _ _ _
      rw [PySem.W.handedOut_of (handed_of rv)]
      exact wpAny_pure ⟨w', H', I3, rv, q3⟩
    | next => exact (show False from z).elim
    | brk => exact (show False from z).elim
    | cont => exact (show False from z).elim
theorem ge_meth {pl : Sem Bool} (he : PE X o ta) (c : Cls X.K C) (hm : Meth X.K C m f) (F : GnOk X.prog X.w X.K X.mg X.base k f fd ps sp) (hgd : X.A.guards = some []) (hr : Room k X.A) (hb : Binds X.K fd ps []) (ha : PA X (e :: es) t)
    (hst : starEach (e :: es) X.env = (false, eval e X.env) :: starEach es X.env := by rfl) (hpl : (backTo pos (starEach es X.env)).any (·.1) = false := by rfl)
    (ht : eval (.Call (.Attribute o m apos) (e :: es) [] pos) X.env = (do
      let ov ← eval o X.env
      standAt apos.atName
      let (fn, first) ← holding [ov] (getMethod ov m pl)
      callWith pos fn first (backTo pos (starEach (e :: es) X.env)) (backToKw pos (keywordEach [] X.env))) := by rfl) :
    PE X (.Call (.Attribute o m apos) (e :: es) [] pos) (fun σ H Q => ta σ H fun v H1 => ∃ a dx fs, v = .ref a ∧ H1 a = some (.ins C dx fs) ∧ fs.lookup m = none ∧ t σ H1 fun vs H2 => sp (.ref a :: vs) H2 Q E0) := by
  constructor
  intro pins s σ H Q I h
  refine PySem.W.methodCall_KW (pl := pl) (thn (he.run pins s σ H _ I h) ?_) ht
  intro u s1 ⟨v, H1, I1, rx, a, dx, fs, ex, ea, l, h1⟩
  subst ex
  have eu : u = Value.ref a := rx
  subst eu
  refine getmeth_ok I1 ea c hm l ?_
  refine PySem.W.callWith_K (first := [.ref a]) (h₀ := X.base) I.ok.mod.kin hm.kp (thn (ha.run pos pins s1 σ H1 _ I1 h1) ?_) hst hpl
  intro us s2 ⟨vs, H2, I2, r, want⟩
  constructor
  · exact I2.kIn
  have r2 : Vals (V.ref a :: vs) (Value.ref a :: us) := .cons rfl r
  have hl : (Value.ref a :: us).length = ps.length := by
    rw [← r2.length]
    exact F.len _ _ _ _ want
  have bt := hb s2 (Value.ref a :: us) I2.kIn (by rw [List.append_nil]; exact hl)
  rw [List.append_nil] at bt
  apply wpAny_call
  apply codeAny_mono (g_run F hgd hr bt I2 r2 want)
  intro r s' z
  cases r with
  | error _ => exact z.elim
  | ok fl => cases fl <;> first | exact z | exact z.elim
end
end Vx
/-! closers, as they stand in the heap -/
namespace Vx
open Rep (rep)
open EnvR (er)
open PySem PySem.Spec PyProof.Rows L2
structure Clo where
  things : Str
  closed : Tup Str
  around : List (Key × Str)
def ClsAt (K : PySem.W.Frag) (C : Addr) : Prop := PySem.W.nsIn K mainGlobals "Closer" = some (some (.ref C))
theorem ClsAt.one {K : PySem.W.Frag} {C C' : Addr} (h : ClsAt K C) (k : ClsAt K C') : C = C' := by
  unfold ClsAt at h k
  rw [h] at k
  cases k
  rfl
/-- the fields, as __init__ lays them -/
def cfl (a b c : V) : List (Str × V) := putF "_around" c (putF "_closed" b (putF "_things" a []))
theorem cf_ne1 : ¬ (("_things" : Str) = "_closed") := by decide +kernel
theorem cf_ne2 : ¬ (("_things" : Str) = "_around") := by decide +kernel
theorem cf_ne3 : ¬ (("_closed" : Str) = "_around") := by decide +kernel
theorem cfl_t (a b c : V) : (cfl a b c).lookup ("_things" : Str) = some a := by
  unfold cfl
  rw [lookup_putF, if_neg cf_ne2, lookup_putF, if_neg cf_ne1, lookup_putF, if_pos rfl]
theorem cfl_c (a b c : V) : (cfl a b c).lookup ("_closed" : Str) = some b := by
  unfold cfl
  rw [lookup_putF, if_neg cf_ne3, lookup_putF, if_pos rfl]
theorem cfl_a (a b c : V) : (cfl a b c).lookup ("_around" : Str) = some c := by
  unfold cfl
  rw [lookup_putF, if_pos rfl]
theorem cfl_no (a b c : V) {m : Str} (h1 : ¬ m = "_things") (h2 : ¬ m = "_closed") (h3 : ¬ m = "_around") : (cfl a b c).lookup m = none := by
  unfold cfl
  rw [lookup_putF, if_neg h3, lookup_putF, if_neg h2, lookup_putF, if_neg h1]
  rfl
instance : Rep Clo := ⟨fun K G c v => ∃ p C dx vc va, v = .ref p ∧ ClsAt K C ∧ G p = some (.ins C dx (cfl (.str c.things) vc va)) ∧ Rep.rep K G c.closed vc ∧ Rep.rep K G (⟨c.around⟩ : Dct Str) va,
  fun e ⟨p, C, dx, vc, va, h1, h2, h3, h4, h5⟩ => ⟨p, C, dx, vc, va, h1, h2, e _ _ h3, Rep.mono e h4, Rep.mono e h5⟩⟩
section
variable {Γ : Type} [EnvR Γ] {X : Cx} {e : Expr} {pos : Pos} {C : Addr}
theorem ve_fT {f : Γ → Option Clo} (h : VE X e f) (at_ : ClsAt X.K C) (c : Cls X.K C) (n : NoAttr X.K C "_things") (hb : attributeBase e "_things" X.env (eval e X.env) = eval e X.env := by rfl) : VE X (.Attribute e "_things" pos) (f1 (fun c => some c.things) f) :=
  PE.le (pe_fld h hb) fun σ H Q ⟨F, G, L, γ, z, w, he, ea, q⟩ => by
    unfold f1 at ea
    cases e1 : f γ with
    | none => rw [e1] at ea; cases ea
    | some y =>
      rw [e1] at ea
      cases ea
      refine ⟨F, G, L, γ, y, w, he, e1, fun v G2 H2 x2 w2 ⟨p, C', dx, vc, va, h1, h2, h3, h4, h5⟩ => ?_⟩
      have := at_.one h2
      subst this
      exact ⟨p, C, dx, _, _, h1, w2.g _ _ h3, c, n, cfl_t _ _ _, q _ G2 H2 x2 w2 rfl⟩
theorem ve_fC {f : Γ → Option Clo} (h : VE X e f) (at_ : ClsAt X.K C) (c : Cls X.K C) (n : NoAttr X.K C "_closed") (hb : attributeBase e "_closed" X.env (eval e X.env) = eval e X.env := by rfl) : VE X (.Attribute e "_closed" pos) (f1 (fun c => some c.closed) f) :=
  PE.le (pe_fld h hb) fun σ H Q ⟨F, G, L, γ, z, w, he, ea, q⟩ => by
    unfold f1 at ea
    cases e1 : f γ with
    | none => rw [e1] at ea; cases ea
    | some y =>
      rw [e1] at ea
      cases ea
      refine ⟨F, G, L, γ, y, w, he, e1, fun v G2 H2 x2 w2 ⟨p, C', dx, vc, va, h1, h2, h3, h4, h5⟩ => ?_⟩
      have := at_.one h2
      subst this
      exact ⟨p, C, dx, _, _, h1, w2.g _ _ h3, c, n, cfl_c _ _ _, q _ G2 H2 x2 w2 h4⟩
theorem ve_fA {f : Γ → Option Clo} (h : VE X e f) (at_ : ClsAt X.K C) (c : Cls X.K C) (n : NoAttr X.K C "_around") (hb : attributeBase e "_around" X.env (eval e X.env) = eval e X.env := by rfl) : VE X (.Attribute e "_around" pos) (f1 (fun c => some (⟨c.around⟩ : Dct Str)) f) :=
  PE.le (pe_fld h hb) fun σ H Q ⟨F, G, L, γ, z, w, he, ea, q⟩ => by
    unfold f1 at ea
    cases e1 : f γ with
    | none => rw [e1] at ea; cases ea
    | some y =>
      rw [e1] at ea
      cases ea
      refine ⟨F, G, L, γ, y, w, he, e1, fun v G2 H2 x2 w2 ⟨p, C', dx, vc, va, h1, h2, h3, h4, h5⟩ => ?_⟩
      have := at_.one h2
      subst this
      exact ⟨p, C, dx, _, _, h1, w2.g _ _ h3, c, n, cfl_a _ _ _, q _ G2 H2 x2 w2 h5⟩
variable {ρ A : Type} [Rep ρ] [RepL A] {k : Nat} {g pq fm : Addr} {fd : FuncData} {ps : List Str} {m : Str}
/-- a property, by its mirror -/
theorem ve_prop {f : Γ → Option Clo} {mi : Clo × Unit → Option ρ} (h : VE X e f) (at_ : ClsAt X.K C) (c : Cls X.K C) (hp : PropOf X.K C m pq g) (F : GnOk X.prog X.w X.K X.mg X.base k g fd ps (spF X.K mi)) (hgd : X.A.guards = some []) (hr : Room (k + 1) X.A) (hb : Binds X.K fd ps [])
    (hab : attributeBase e m X.env (eval e X.env) = eval e X.env := by rfl) : VE X (.Attribute e m pos) (f1 (fun c => mi (c, ())) f) :=
  PE.le (ge_prop h c hp F hgd hr hb hab) fun σ H Q ⟨F, G, L, γ, z, w, he, ea, q⟩ => by
    unfold f1 at ea
    cases e1 : f γ with
    | none => rw [e1] at ea; cases ea
    | some y =>
      rw [e1] at ea
      refine ⟨F, G, L, γ, y, w, he, e1, fun v G2 H2 x2 w2 r2 => ?_⟩
      obtain ⟨p, C', dx, vc, va, h1, h2, h3, h4, h5⟩ := id r2
      have := at_.one h2
      subst this
      subst h1
      exact ⟨p, dx, _, rfl, w2.g _ _ h3, F, G2, (y, ()), z, w2, ⟨_, [], rfl, r2, rfl⟩, ea, fun v G3 H3 x3 w3 r3 => q v G3 H3 (x2.trans x3) w3 r3⟩
/-- a method, by its mirror -/
theorem ve_meth {o e : Expr} {es : List Expr} {apos : Pos} {pl : Sem Bool} {f : Γ → Option Clo} {ga : Γ → Option A} {mi : Clo × A → Option ρ} (h : VE X o f) (at_ : ClsAt X.K C) (c : Cls X.K C) (hm : Meth X.K C m fm) (F : GnOk X.prog X.w X.K X.mg X.base k fm fd ps (spF X.K mi)) (hgd : X.A.guards = some []) (hr : Room k X.A) (hb : Binds X.K fd ps []) (ha : VA X (e :: es) ga)
    (n1 : ¬ m = "_things") (n2 : ¬ m = "_closed") (n3 : ¬ m = "_around")
    (hst : starEach (e :: es) X.env = (false, eval e X.env) :: starEach es X.env := by rfl) (hpl : (backTo pos (starEach es X.env)).any (·.1) = false := by rfl)
    (ht : eval (.Call (.Attribute o m apos) (e :: es) [] pos) X.env = (do
      let ov ← eval o X.env
      standAt apos.atName
      let (fn, first) ← holding [ov] (getMethod ov m pl)
      callWith pos fn first (backTo pos (starEach (e :: es) X.env)) (backToKw pos (keywordEach [] X.env))) := by rfl) : VE X (.Call (.Attribute o m apos) (e :: es) [] pos) (f1 mi (fcons f ga)) :=
  PE.le (ge_meth h c hm F hgd hr hb ha hst hpl ht) fun σ H Q ⟨F, G, L, γ, z, w, he, ea, q⟩ => by
    unfold f1 fcons at ea
    cases e1 : f γ with
    | none => rw [e1] at ea; cases ea
    | some y =>
      rw [e1] at ea
      simp only [Option.bind_some] at ea
      cases e2 : ga γ with
      | none => rw [e2] at ea; cases ea
      | some a =>
        rw [e2] at ea
        simp only [Option.bind_some] at ea
        refine ⟨F, G, L, γ, y, w, he, e1, fun v G2 H2 x2 w2 r2 => ?_⟩
        obtain ⟨p, C', dx, vc, va, h1, h2, h3, h4, h5⟩ := id r2
        have := at_.one h2
        subst this
        subst h1
        refine ⟨p, dx, _, rfl, w2.g _ _ h3, cfl_no _ _ _ n1 n2 n3, F, G2, L, γ, a, w2, EnvR.mono x2 he, e2, fun vs G3 H3 x3 w3 r3 => ?_⟩
        exact ⟨F, G3, (y, a), z, w3, ⟨_, vs, rfl, Rep.mono x3 r2, r3⟩, ea, fun v G4 H4 x4 w4 r4 => q v G4 H4 ((x2.trans x3).trans x4) w4 r4⟩
end
end Vx
/-! closers in the making -/
namespace Vx
open Rep (rep)
open EnvR (er)
open PySem PySem.Spec PyProof.Rows L2
/-- the object that __init__ is handed, its fields as far as they are set -/
structure OI0 where
  p : Addr
structure OI1 where
  p : Addr
  things : Str
structure OI2 where
  p : Addr
  things : Str
  closed : Tup Str
structure OI3 where
  p : Addr
  c : Clo
theorem in_one {L : List Addr} {p q : Addr} (h : L = [p]) (hq : q ∈ L) : q = p := by
  rw [h] at hq
  exact List.mem_singleton.mp hq
instance : Slot OI0 := ⟨fun K G F L o t => ∃ C dx, L = [t.p] ∧ o = some (.ref t.p) ∧ ClsAt K C ∧ F t.p = some (.ins C dx []), fun _ h => h, fun {K G F F' L o t} k ⟨C, dx, h1, h2, h3, h4⟩ => ⟨C, dx, h1, h2, h3, by rw [k t.p (by rw [h1]; exact List.mem_singleton.mpr rfl)]; exact h4⟩, fun ⟨C, dx, h1, h2, h3, h4⟩ q hq => by
  rw [in_one h1 hq, h4]
  exact fun z => by cases z⟩
instance : Slot OI1 := ⟨fun K G F L o t => ∃ C dx, L = [t.p] ∧ o = some (.ref t.p) ∧ ClsAt K C ∧ F t.p = some (.ins C dx (putF "_things" (.str t.things) [])), fun _ h => h, fun {K G F F' L o t} k ⟨C, dx, h1, h2, h3, h4⟩ => ⟨C, dx, h1, h2, h3, by rw [k t.p (by rw [h1]; exact List.mem_singleton.mpr rfl)]; exact h4⟩, fun ⟨C, dx, h1, h2, h3, h4⟩ q hq => by
  rw [in_one h1 hq, h4]
  exact fun z => by cases z⟩
instance : Slot OI2 := ⟨fun K G F L o t => ∃ C dx vc, L = [t.p] ∧ o = some (.ref t.p) ∧ ClsAt K C ∧ F t.p = some (.ins C dx (putF "_closed" vc (putF "_things" (.str t.things) []))) ∧ Rep.rep K G t.closed vc, fun e ⟨C, dx, vc, h1, h2, h3, h4, h5⟩ => ⟨C, dx, vc, h1, h2, h3, h4, Rep.mono e h5⟩,
  fun {K G F F' L o t} k ⟨C, dx, vc, h1, h2, h3, h4, h5⟩ => ⟨C, dx, vc, h1, h2, h3, by rw [k t.p (by rw [h1]; exact List.mem_singleton.mpr rfl)]; exact h4, h5⟩, fun ⟨C, dx, vc, h1, h2, h3, h4, h5⟩ q hq => by
  rw [in_one h1 hq, h4]
  exact fun z => by cases z⟩
instance : Slot OI3 := ⟨fun K G F L o t => ∃ C dx vc va, L = [t.p] ∧ o = some (.ref t.p) ∧ ClsAt K C ∧ F t.p = some (.ins C dx (cfl (.str t.c.things) vc va)) ∧ Rep.rep K G t.c.closed vc ∧ Rep.rep K G (⟨t.c.around⟩ : Dct Str) va, fun e ⟨C, dx, vc, va, h1, h2, h3, h4, h5, h6⟩ => ⟨C, dx, vc, va, h1, h2, h3, h4, Rep.mono e h5, Rep.mono e h6⟩,
  fun {K G F F' L o t} k ⟨C, dx, vc, va, h1, h2, h3, h4, h5, h6⟩ => ⟨C, dx, vc, va, h1, h2, h3, by rw [k t.p (by rw [h1]; exact List.mem_singleton.mpr rfl)]; exact h4, h5, h6⟩, fun ⟨C, dx, vc, va, h1, h2, h3, h4, h5, h6⟩ q hq => by
  rw [in_one h1 hq, h4]
  exact fun z => by cases z⟩
/-- what __init__ promises -/
def spI {A : Type} [RepL A] (K : PySem.W.Frag) (m : A → Option Clo) : Sp := fun vs H Q _ => ∃ F G y vs' C dx a r, vs = .ref y :: vs' ∧ W F G H ∧ ClsAt K C ∧ F y = some (.ins C dx []) ∧ RepL.rl K G a vs' ∧ m a = some r ∧
  ∀ dx2 vc va F2 G2 H2, Ex G G2 → W F2 G2 H2 → F2 y = some (.ins C dx2 (cfl (.str r.things) vc va)) → Rep.rep K G2 r.closed vc → Rep.rep K G2 (⟨r.around⟩ : Dct Str) va → (∀ b o, b ≠ y → F b = some o → F2 b = some o) → Q .non H2
section
variable {X : Cx} {A Γ : Type} [RepL A] [EnvR Γ] {k : Nat} {f C : Addr} {fd : FuncData} {ps : List Str} {x : Str} {p pos : Pos} {e : Expr} {es : List Expr}
/-- Closer(..), by the mirror of __init__ -/
theorem ve_make {m : A → Option Clo} {g : Γ → Option A} (M : Mk X.K C f) (at_ : ClsAt X.K C) (F : GnOk X.prog X.w X.K X.mg X.base k f fd ps (spI X.K m)) (hgd : X.A.guards = some []) (hr : Room (k + 1) X.A) (hm : X.mg x = some (.ref C)) (hb : Binds X.K fd ps []) (ha : VA X (e :: es) g) (hg : Gl X x := by rfl)
    (hdb : (x == ("__debug__" : Str)) = false := by decide) (he : starEach (e :: es) X.env = (false, eval e X.env) :: starEach es X.env := by rfl) (hpl : (backTo pos (starEach es X.env)).any (·.1) = false := by rfl) : VE X (.Call (.Name x p) (e :: es) [] pos) (f1 m g) :=
  PE.le (ge_make M F hgd hr hm hb ha hg hdb he hpl) fun σ H Q ⟨F, G, L, γ, z, w, hh, ea, q⟩ => by
    unfold f1 at ea
    cases e1 : g γ with
    | none => rw [e1] at ea; cases ea
    | some a =>
      rw [e1] at ea
      refine ⟨F, G, L, γ, a, w, hh, e1, fun vs G2 H2 x2 w2 r2 y dx hy hd hne => ?_⟩
      have fy := w2.fresh hy
      have fdx := w2.fresh hd
      have w3 : W F G2 (upd H2 dx (.own y)) := ⟨w2.g.trans (Ex.upd hd), w2.f.trans (Ex.upd hd), w2.d⟩
      have hy3 : (upd H2 dx (.own y)) y = none := by rw [upd_ne (Ne.symm hne)]; exact hy
      have w4 := w3.own (o := HO.ins C dx []) hy3
      refine ⟨upd F y (.ins C dx []), G2, y, vs, C, dx, a, z, rfl, w4, at_, upd_same, r2, ea, fun dx2 vc va F5 G5 H5 x5 w5 h5 hc hv off => ⟨rfl, ?_⟩⟩
      have gy : G5 y = none := w5.d y _ h5
      have ex := Ex.upd (o := HO.ins C dx2 (cfl (.str z.things) vc va)) gy
      have w6 : W F (upd G5 y (.ins C dx2 (cfl (.str z.things) vc va))) H5 := (w5.free h5).less fun b o u => by
        have hby : b ≠ y := fun q => by
          rw [q, fy.2] at u
          cases u
        rw [del_ne hby]
        exact off b o hby (by rw [upd_ne hby]; exact u)
      exact q _ _ _ ((x2.trans x5).trans ex) w6 ⟨y, C, dx2, vc, va, rfl, at_, upd_same, Rep.mono ex hc, Rep.mono ex hv⟩
end
end Vx
/-! __init__ of closers: its three stores, its promise -/
namespace Vx
open Rep (rep)
open EnvR (er)
open PySem PySem.Spec PyProof.Rows L2
theorem putF_len (f : Str) (v : V) : ∀ fs : List (Str × V), (putF f v fs).length ≤ fs.length + 1
  | [] => Nat.le_refl _
  | (g, x) :: r => by
    unfold putF
    split
    · exact Nat.le_succ _
    · exact Nat.succ_le_succ (putF_len f v r)
section
variable {Γ Γ' ρ : Type} [EnvR Γ] [EnvR Γ'] {X : Cx} {R : RR ρ} {value : Expr} {pos p1 p2 : Pos} {C : Addr} {x : Str}
/-- self._things = e -/
def sf1 (f : OI0 × Γ → Option Str) : OI0 × Γ → Option (Fl (OI1 × Γ) Unit ρ) := fun γ => (f γ).map fun v => .nx ((⟨γ.1.p, v⟩ : OI1), γ.2)
theorem vs_f1 {f : OI0 × Γ → Option Str} {fr : OI0 × Γ → Option (Fl (OI1 × Γ) Unit ρ)} (efr : sf1 f = fr) (at_ : ClsAt X.K C) (c : Cls X.K C) (n : NoAttr X.K C "_things") (hv : VE X value f) (hN : X.N[0]? = some x := by rfl) (hvs : Vis X.env.scope x := by first | exact Or.inl rfl | exact Or.inr (Or.inl rfl) | exact Or.inr (Or.inr rfl)) (hd : (x == ("__debug__" : Str)) = false := by decide)
    (hcd : (x == ("__classdict__" : Str)) = false := by decide) (hs : swapsWith value (some (.Attribute (.Name x p1) "_things" p2)) pos.line X.env = pure false := by rfl) : VS X Unit R (.Assign [.Attribute (.Name x p1) "_things" p2] value pos) fr := by
  subst efr
  exact PS.le (ps_fld (pe_var hN hvs hd hcd) hv hs) fun D σ H ⟨F, G, L, γ, p, r, wd, nd, he, ha, ea, k⟩ => by
    unfold sf1 at ea
    cases e1 : f γ with
    | none => rw [e1] at ea; cases ea
    | some y =>
      rw [e1] at ea
      cases ea
      refine ⟨F, G, L, γ, y, wd, he, e1, fun v G2 H2 x2 w2 r2 => ?_⟩
      obtain ⟨L1, L2, o, σ', hL, hσ, ⟨C', dx, h1, h2, h3, h4⟩, h5, h6⟩ := EnvR.mono x2 he
      have := at_.one h3
      subst this
      have hp : γ.1.p ∉ L2 := h6 _ (by rw [h1]; exact List.mem_singleton.mpr rfl)
      refine ⟨.ref γ.1.p, by rw [hσ, h2]; rfl, γ.1.p, C, dx, _, rfl, w2.f _ _ h4, c, n, show 0 < 1000 by decide, ?_⟩
      refine k σ L _ G2 _ x2 (w2.set h4) nd (fun b u hb e => by rw [upd_ne (fun z => hb (by rw [z, hL, h1]; exact List.mem_append_left _ (List.mem_singleton.mpr rfl)))]; exact e) Sub.refl ?_ ha
      exact ⟨L1, L2, o, σ', hL, hσ, ⟨C, dx, h1, h2, h3, by cases r2; exact upd_same⟩, EnvR.keep (fun b hb => upd_ne (fun z => hp (by rw [← z]; exact hb))) h5, h6⟩
/-- self._closed = e -/
def sf2 (f : OI1 × Γ → Option (Tup Str)) : OI1 × Γ → Option (Fl (OI2 × Γ) Unit ρ) := fun γ => (f γ).map fun v => .nx ((⟨γ.1.p, γ.1.things, v⟩ : OI2), γ.2)
theorem vs_f2 {f : OI1 × Γ → Option (Tup Str)} {fr : OI1 × Γ → Option (Fl (OI2 × Γ) Unit ρ)} (efr : sf2 f = fr) (at_ : ClsAt X.K C) (c : Cls X.K C) (n : NoAttr X.K C "_closed") (hv : VE X value f) (hN : X.N[0]? = some x := by rfl) (hvs : Vis X.env.scope x := by first | exact Or.inl rfl | exact Or.inr (Or.inl rfl) | exact Or.inr (Or.inr rfl)) (hd : (x == ("__debug__" : Str)) = false := by decide)
    (hcd : (x == ("__classdict__" : Str)) = false := by decide) (hs : swapsWith value (some (.Attribute (.Name x p1) "_closed" p2)) pos.line X.env = pure false := by rfl) : VS X Unit R (.Assign [.Attribute (.Name x p1) "_closed" p2] value pos) fr := by
  subst efr
  exact PS.le (ps_fld (pe_var hN hvs hd hcd) hv hs) fun D σ H ⟨F, G, L, γ, p, r, wd, nd, he, ha, ea, k⟩ => by
    unfold sf2 at ea
    cases e1 : f γ with
    | none => rw [e1] at ea; cases ea
    | some y =>
      rw [e1] at ea
      cases ea
      refine ⟨F, G, L, γ, y, wd, he, e1, fun v G2 H2 x2 w2 r2 => ?_⟩
      obtain ⟨L1, L2, o, σ', hL, hσ, ⟨C', dx, h1, h2, h3, h4⟩, h5, h6⟩ := EnvR.mono x2 he
      have := at_.one h3
      subst this
      have hp : γ.1.p ∉ L2 := h6 _ (by rw [h1]; exact List.mem_singleton.mpr rfl)
      refine ⟨.ref γ.1.p, by rw [hσ, h2]; rfl, γ.1.p, C, dx, _, rfl, w2.f _ _ h4, c, n, show 1 < 1000 by decide, ?_⟩
      refine k σ L _ G2 _ x2 (w2.set h4) nd (fun b u hb e => by rw [upd_ne (fun z => hb (by rw [z, hL, h1]; exact List.mem_append_left _ (List.mem_singleton.mpr rfl)))]; exact e) Sub.refl ?_ ha
      exact ⟨L1, L2, o, σ', hL, hσ, ⟨C, dx, v, h1, h2, h3, upd_same, r2⟩, EnvR.keep (fun b hb => upd_ne (fun z => hp (by rw [← z]; exact hb))) h5, h6⟩
/-- self._around = e -/
def sf3 (f : OI2 × Γ → Option (Dct Str)) : OI2 × Γ → Option (Fl (OI3 × Γ) Unit ρ) := fun γ => (f γ).map fun v => .nx ((⟨γ.1.p, ⟨γ.1.things, γ.1.closed, v.l⟩⟩ : OI3), γ.2)
theorem vs_f3 {f : OI2 × Γ → Option (Dct Str)} {fr : OI2 × Γ → Option (Fl (OI3 × Γ) Unit ρ)} (efr : sf3 f = fr) (at_ : ClsAt X.K C) (c : Cls X.K C) (n : NoAttr X.K C "_around") (hv : VE X value f) (hN : X.N[0]? = some x := by rfl) (hvs : Vis X.env.scope x := by first | exact Or.inl rfl | exact Or.inr (Or.inl rfl) | exact Or.inr (Or.inr rfl)) (hd : (x == ("__debug__" : Str)) = false := by decide)
    (hcd : (x == ("__classdict__" : Str)) = false := by decide) (hs : swapsWith value (some (.Attribute (.Name x p1) "_around" p2)) pos.line X.env = pure false := by rfl) : VS X Unit R (.Assign [.Attribute (.Name x p1) "_around" p2] value pos) fr := by
  subst efr
  exact PS.le (ps_fld (pe_var hN hvs hd hcd) hv hs) fun D σ H ⟨F, G, L, γ, p, r, wd, nd, he, ha, ea, k⟩ => by
    unfold sf3 at ea
    cases e1 : f γ with
    | none => rw [e1] at ea; cases ea
    | some y =>
      rw [e1] at ea
      cases ea
      refine ⟨F, G, L, γ, y, wd, he, e1, fun v G2 H2 x2 w2 r2 => ?_⟩
      obtain ⟨L1, L2, o, σ', hL, hσ, ⟨C', dx, vc, h1, h2, h3, h4, hc⟩, h5, h6⟩ := EnvR.mono x2 he
      have := at_.one h3
      subst this
      have hp : γ.1.p ∉ L2 := h6 _ (by rw [h1]; exact List.mem_singleton.mpr rfl)
      refine ⟨.ref γ.1.p, by rw [hσ, h2]; rfl, γ.1.p, C, dx, _, rfl, w2.f _ _ h4, c, n, Nat.lt_of_le_of_lt (putF_len _ _ _) (Nat.lt_of_le_of_lt (Nat.succ_le_succ (putF_len _ _ _)) (show 2 < 1000 by decide)), ?_⟩
      refine k σ L _ G2 _ x2 (w2.set h4) nd (fun b u hb e => by rw [upd_ne (fun z => hb (by rw [z, hL, h1]; exact List.mem_append_left _ (List.mem_singleton.mpr rfl)))]; exact e) Sub.refl ?_ ha
      exact ⟨L1, L2, o, σ', hL, hσ, ⟨C, dx, vc, v, h1, h2, h3, upd_same, hc, r2⟩, EnvR.keep (fun b hb => upd_ne (fun z => hp (by rw [← z]; exact hb))) h5, h6⟩
end
section
variable {P : Program} {w : World} {K : PySem.W.Frag} {mg : Str → Option Value} {base : Heap} {x qual : Str} {st : Stmt} {f : Addr} {fd : FuncData} {N ps : List Str} {k n : Nat} {A Γ Γ' : Type} [RepL A] [EnvR Γ] [EnvR Γ']
def runI (b : OI0 × Γ → Option (Fl (OI3 × Γ') Unit Unit)) (γ : Γ) : Option Clo := (b (⟨(0 : Nat)⟩, γ)).bind fun r => match r with
  | .nx γ' => some γ'.1.c
  | .rt _ _ => none
/-- the address is of no matter -/
def Blind (b : OI0 × Γ → Option (Fl (OI3 × Γ') Unit Unit)) : Prop := ∀ (γ : Γ) (c : Clo) (q : Addr) (γ' : Γ'), b (⟨(0 : Nat)⟩, γ) = some (.nx (⟨q, c⟩, γ')) → ∀ p : Addr, ∃ δ, b (⟨p⟩, γ) = some (.nx (⟨p, c⟩, δ))
theorem ok_I (F : Fun K x qual st f fd) (S : FnScope N ps (defScope st)) (I : Ini A Γ n) {b : OI0 × Γ → Option (Fl (OI3 × Γ') Unit Unit)} (hb : Blind b) (hn : N.length = RepL.n A + 1 + n) (hp : RepL.n A + 1 = ps.length)
    (body : BodyOk P w K mg base N qual st k fun X => VSs X Unit (RE K) (defBody st) b) : GnOk P w K mg base (k + 1) f fd ps (spI K fun a => runI b (I.ini a)) := by
  apply gn_of F S
  · intro vs H Q E ⟨F, G, y, vs', C, dx, a, r, h0, h1, h2, h3, h4, h5⟩
    rw [← hp, h0, List.length_cons, RepL.len h4]
  · intro cdv A' outer s H vs Q hg hr ⟨F, G, y, vs', C, dx, a, r, h0, h1, h2, h3, h4, h5, h6⟩
    refine ⟨_, body cdv A' outer s H f hg hr, ?_⟩
    have e0 : L2.start N vs = some (.ref y) :: (vs'.map some ++ List.replicate n none) := by
      unfold L2.start
      rw [h0, hn, List.length_cons, RepL.len h4, Nat.add_sub_cancel_left]
      rfl
    rw [e0]
    have h5 : runI b (I.ini a) = some r := h5
    unfold runI at h5
    cases e : b (⟨(0 : Nat)⟩, I.ini a) with
    | none => rw [e] at h5; cases h5
    | some fr =>
      rw [e] at h5
      cases fr with
      | rt z u => cases h5
      | nx γ' =>
        cases h5
        obtain ⟨⟨q, c⟩, γ2⟩ := γ'
        obtain ⟨δ, e2⟩ := hb _ c q γ2 e y
        refine ⟨F, G, [y], (⟨y⟩, I.ini a), 0, .nx (⟨y, c⟩, δ), h1, (by simp), ⟨[y], [], _, _, rfl, rfl, ⟨C, dx, rfl, rfl, h2, h3⟩, I.ok h4, fun _ _ h => by cases h⟩, trivial, e2, ?_⟩
        intro σ' L2 F2 G2 H2 x2 w2 n2 o2 s2 er2 at2
        obtain ⟨M1, M2, o, σ2, hL, hσ, ⟨C', dx', vc, va, g1, g2, g3, g4, g5, g6⟩, g7, g8⟩ := er2
        have := h2.one g3
        subst this
        exact h6 dx' vc va F2 G2 H2 x2 w2 g4 g5 g6 fun b u hby e => o2 b u (fun z => hby (List.mem_singleton.mp z)) e
end
end Vx
namespace Vx
open Rep (rep)
open EnvR (er)
open PySem PySem.Spec PyProof.Rows L2
section
variable {Γ Γ1 Γ2 S ρ : Type} [EnvR Γ] [EnvR Γ1] [EnvR Γ2] [Md S] {α β : Type} [Rep α] [Rep β] {X : Cx} {R : RR ρ} {e : Expr} {pos : Pos} {i j : Nat}
/-- x, y = a pair -/
def sunp (p1 : Put i Γ α Γ1) (p2 : Put j Γ1 β Γ2) (f : Γ → Option (T2 α β)) : Γ → Option (Fl Γ2 S ρ) := fun γ => (f γ).map fun t => .nx (p2.put (p1.put γ t.a) t.b)
theorem vs_unp (p1 : Put i Γ α Γ1) (p2 : Put j Γ1 β Γ2) {x y : Str} {px py pt : Pos} {kt : Nat} {f : Γ → Option (T2 α β)} {fr : Γ → Option (Fl Γ2 S ρ)} (efr : sunp (S := S) p1 p2 f = fr) (hc : X.calm = true) (hN : X.N.Nodup) (h : VE X e f) (hi : X.N[i]? = some x := by rfl) (hj : X.N[j]? = some y := by rfl)
    (hx : Loc X.env.scope x := by first | exact Or.inl rfl | exact Or.inr rfl) (hy : Loc X.env.scope y := by first | exact Or.inl rfl | exact Or.inr rfl) (hfx : X.fn x = true ∨ X.env.scope.names.lookup x = some .local := by first | exact .inl rfl | exact .inr rfl) (hfy : X.fn y = true ∨ X.env.scope.names.lookup y = some .local := by first | exact .inl rfl | exact .inr rfl)
    (h2 : (assignEach [.Name x px, .Name y py] X.env).map (·.2) = assign (.Name x px) X.env :: (assignEach [.Name y py] X.env).map (·.2) := by rfl) (h3 : (assignEach [.Name y py] X.env).map (·.2) = assign (.Name y py) X.env :: (assignEach [] X.env).map (·.2) := by rfl)
    (hln : (assignEach [.Name x px, .Name y py] X.env).length = 2 := by rfl) (hst : (assignEach [.Name x px, .Name y py] X.env).findIdx? (·.1) = none := by rfl)
    (hs : swapsWithSole [.Tuple [.Name x px, .Name y py] kt pt] e pos.line X.env = pure false := by rfl) (hw : swappedStores [.Tuple [.Name x px, .Name y py] kt pt] e X.env = pure none := by rfl)
    (h1 : (assignEach [.Tuple [.Name x px, .Name y py] kt pt] X.env).map (·.2) = [assign (.Tuple [.Name x px, .Name y py] kt pt) X.env] := by rfl) (ho : Md.okI S i = true := by rfl) (ho' : Md.okI S j = true := by rfl) : VS X S R (.Assign [.Tuple [.Name x px, .Name y py] kt pt] e pos) fr := by
  subst efr
  exact PS.le (ps_asg h (pg_tup (n := 2) hc (pgs_cons (pg_name hN hi hx hfx) (pgs_cons (pg_name hN hj hy hfy) pgs_nil h3) h2) hln hst) hs hw h1) fun D σ H ⟨F, G, L, γ, p, r, wd, nd, he, ha, ea, k⟩ => by
    unfold sunp at ea
    cases e1 : f γ with
    | none => rw [e1] at ea; cases ea
    | some t =>
      rw [e1] at ea
      cases ea
      refine ⟨F, G, L, γ, t, wd, he, e1, fun v G2 H2 x2 w2 ⟨q, va, vb, g1, g2, g3, g4⟩ => ?_⟩
      refine ⟨q, _, g1, .inl (.inl (w2.g _ _ g2)), rfl, va, [vb], rfl, vb, [], rfl, rfl, ?_⟩
      exact k _ L F G2 H2 x2 w2 nd Off.refl Sub.refl (p2.ok (p1.ok (EnvR.mono x2 he) g3) g4) (Md.keep ho' (Md.keep ho ha))
/-- x += e, whole numbers -/
def saug (g : Get i Γ Int) (pt : Put i Γ Int Γ1) (f : Γ → Option Int) : Γ → Option (Fl Γ1 S ρ) := fun γ => (f γ).map fun n => .nx (pt.put γ (g.get γ + n))
theorem vs_aug (g : Get i Γ Int) (pt : Put i Γ Int Γ1) {x : Str} {p1 : Pos} {f : Γ → Option Int} {fr : Γ → Option (Fl Γ1 S ρ)} (efr : saug (S := S) g pt f = fr) (hN : X.N.Nodup) (h : VE X e f) (hi : X.N[i]? = some x := by rfl) (hx : Loc X.env.scope x := by first | exact Or.inl rfl | exact Or.inr rfl)
    (hf : X.fn x = true ∨ X.env.scope.names.lookup x = some .local := by first | exact .inl rfl | exact .inr rfl) (ho : Md.okI S i = true := by rfl) : VS X S R (.AugAssign (.Name x p1) .Add e pos) fr := by
  subst efr
  exact PS.le (ps_aug hN hi hx h ip_add hf) fun D σ H ⟨F, G, L, γ, p, r, wd, nd, he, ha, ea, k⟩ => by
    unfold saug at ea
    cases e1 : f γ with
    | none => rw [e1] at ea; cases ea
    | some n =>
      rw [e1] at ea
      cases ea
      obtain ⟨v, hv, rv⟩ := g.ok he
      cases rv
      refine ⟨_, hv, F, G, L, γ, n, wd, he, e1, fun u G2 H2 x2 w2 r2 => ?_⟩
      cases r2
      exact ⟨_, _, rfl, rfl, k _ L F G2 H2 x2 w2 nd Off.refl Sub.refl (pt.ok (EnvR.mono x2 he) rfl) (Md.keep ho ha)⟩
end
end Vx
/-! sorted(a tuple of texts, key=len) -/
namespace Vx
open Rep (rep)
open EnvR (er)
open PySem PySem.Spec PyProof.Rows L2
section
variable {prog : Program} {w : World} {A : Around} {E : Value → Shared → Prop} {s : Shared}
/-- sorted(a tuple, key=f): its items collected, a new list of them sorted -/
theorem sorted_tupK {β : Type} {vs : List Value} {bs : List β} {R : Value → β → Prop} {l : Addr} {f : Value} {kw : List (Str × Value)} {b : Bool} {Q : Value → Shared → Prop} (k : β → PyData) (tup : s.heap.IsTuple l vs.toArray) (e : PySem.W.EachIs R vs bs) (alike : PySem.W.AllAlike (bs.map k)) (can : PySem.W.Sortable (bs.map k)) (few : bs.length ≤ sizeLine)
    (deep : ∀ x, x ∈ bs → A.units + 2 + (k x).depth < cLine) (ok1 : argsOk "sorted" ⟨[.ref l], kw⟩) (ok2 : ∀ x, argsOk "list.sort" ⟨[.ref x], kw⟩) (tree : ∀ x, Builtin.«list.sort» ⟨[.ref x], kw⟩ = ksk_tree x f b)
    (key : ∀ (v : Value) (x : β), R v x → x ∈ bs → ∀ (h : Heap) (tk : Nat), wpAny (model prog w) A.in1.in1 (call f [v]) (PySem.W.KeyPure (k x) { s with heap := h, toks := tk }) (fun _ _ => False) { s with heap := h, toks := tk })
    (done : ∀ p out c h' tk, s.heap.get? p = none → (∀ b o, s.heap.get? b = some o → h'.get? b = some o) → h'.get? p = some (seqObj "list" (List.toArray out) c) → PySem.W.EachIs R out (bs.mergeSort (PySem.W.dataLe b k)) → Q (.ref p) { s with heap := h', toks := tk }) :
    wpAny (model prog w) A (call (.builtin "sorted") [.ref l] kw) Q E s := by
  have many : vs.length ≤ sizeLine := e.length ▸ few
  obtain ⟨o, ho, cls, n, dat⟩ := tup
  apply PyProof.Rows.call_function_entry_kw kind_sorted plain_sorted entry_sorted ok1
  unfold Builtin.«sorted»
  apply wpAny_bind (m := checkCount "sorted" 1 1 _)
  apply wpAny_pure
  apply wpAny_bind
  refine PySem.wpAny_collect_seq l (Or.inr rfl) ho cls dat (fun h1 old1 => ?_) (by simpa using many)
  apply wpAny_bind
  refine wpAny_newList ?_ (by simpa using many)
  apply wpAny_bind
  apply wpAny_holding
  have here : (h1.push (seqObj "list" vs.toArray 0)).get? h1.objs.size = some (seqObj "list" vs.toArray 0) := Heap.get?_push_size _ rfl
  have low : s.heap.get? h1.objs.size = none := by
    cases z : s.heap.get? h1.objs.size with
    | none => rfl
    | some u => exact absurd (Heap.lt_size (old1 _ u z)) (Nat.lt_irrefl _)
  refine PySem.W.list_sort_key_data (s := { s with heap := h1.push (seqObj "list" vs.toArray 0) }) k (by simpa using here) e alike can few (fun x hx => by have := deep x hx; show A.units + 1 + 1 + _ < cLine; omega) (ok2 _) (tree _) (fun v x r hx h tk _ => key v x r hx h tk) fun out c h' tk kept at' _ each => ?_
  apply wpAny_pure
  refine ⟨_, rfl, done h1.objs.size out c h' tk low (fun a u e2 => ?_) at' each⟩
  have e3 := old1 a u e2
  exact kept a u (Nat.ne_of_lt (Heap.lt_size e3)) (Heap.get?_push_of_some _ e3)
end
/-- by length -/
def leL (a b : Str) : Bool := decide ((a.length : Int) ≤ (b.length : Int))
def srtK (xs : List Str) : List Str := xs.mergeSort leL
section
variable {X : Cx} {e : Expr} {ta : TE} {p p2 kp pos : Pos}
def tSortK (K : PySem.W.Frag) (te : TE) : TE := fun σ H Q => te σ H fun x H1 => ∃ (l : Addr) (xs : List Str), x = .ref l ∧ SqT K H1 l (xs.map V.str) ∧ xs.length ≤ 100000 ∧ (∀ s ∈ xs, s.length ≤ 100000) ∧ ∀ p, H1 p = none → Q (.ref p) (upd H1 p (.lst ((srtK xs).map V.str)))
theorem pe_sortK (hu : X.A.units + 64 < cLine) (hm : X.mg "sorted" = none) (hm2 : X.mg "len" = none) (ha : PE X e ta) (hg : Gl X "sorted" := by rfl) (hg2 : Gl X "len" := by rfl)
    (he : backTo pos (starEach [e] X.env) = (false, eval e X.env) :: backTo pos (starEach [] X.env) := by rfl) (na : starEach [e] X.env = (false, eval e X.env) :: starEach [] X.env := by rfl) (hpl : (backTo pos (starEach [e] X.env)).any (·.1) = false := by rfl) :
    PE X (.Call (.Name "sorted" p) [e] [⟨some "key", .Name "len" p2, kp⟩] pos) (tSortK X.K ta) := by
  constructor
  intro pins s σ H Q I h
  refine wpAny_Call_Name_kw (ld_blt I hg hm boot_sorted ?_)
  refine PyProof.Rows.callWith_kw ?_ he hpl rfl rfl
  refine PyProof.Rows.args_cons (thn (ha.run pins s σ H _ I h) ?_) na
  intro v s1 ⟨x, H1, I1, r1, l, xs, hx, hq, hz, hzz, k⟩
  subst hx
  cases r1
  apply PyProof.Rows.args_nil
  show wpAny _ _ (evalAll [do let v ← eval (.Name "len" p2) X.env; standAt pos; pure v]) _ _ s1
  refine wpAny_evalAll_cons (wpAny_bind (ld_blt I1 hg2 hm2 boot_len (wpAny_bind (wpAny_standAt (wpAny_pure ?_)))))
  refine wpAny_evalAll_nil ?_
  show wpAny (model X.prog X.w) X.A (call (.builtin "sorted") [.ref l] [(Str.ofString "key", .builtin "len")]) _ _ s1
  obtain ⟨its, rv, pl, hz2⟩ := I1.tuple hq
  have es := each_strs rv.strs
  have hL : xs.length ≤ sizeLine := Nat.le_trans hz (by decide)
  refine sorted_tupK (b := false) (fun s : Str => PyData.int s.length) pl es (PySem.W.AllAlike.of fun _ _ => rfl) (PySem.W.Sortable.others fun b => ⟨nofun, nofun⟩) hL (fun _ _ => (by show X.A.units + 2 + 0 < cLine; omega)) (ksk_s1 _ _) (fun _ => ksk_l1 _ _) (fun _ => ksk_t4 _ _) ?_ ?_
  · rintro v x ⟨t, rfl⟩ hx h tk
    have := hzz x hx
    have l63 := line63
    exact PySem.P.len_str (by omega) ⟨h, _, rfl, fun _ _ e => e, Reads.int ..⟩
  · intro p out c h' tk low old at' each
    rw [PySem.W.dataLe_int] at each
    have texts := strs_each each
    have free : H1 p = none := I1.hok.gone low
    have fits : ((srtK xs).map V.str).length ≤ sizeLine := by simpa [srtK] using hL
    exact ⟨.ref p, _, I1.laidN (t' := tk) (o := .lst ((srtK xs).map V.str)) old low free ⟨fits, out, c, vals_of_strs texts, at'⟩, rfl, k p free⟩
end
section
variable {Γ : Type} [EnvR Γ] {X : Cx} {e : Expr} {p p2 kp pos : Pos}
def sortK (t : Tup Str) : Option (List Str) := if t.l.length ≤ 100000 ∧ (∀ s ∈ t.l, s.length ≤ 100000) then some (srtK t.l) else none
theorem strs_rep {K : PySem.W.Frag} {G : Hp} : ∀ {xs : List Str} {vs : List V}, PySem.Paired (rep K G) xs vs → vs = xs.map V.str
  | _, _, .nil => rfl
  | _, _, .cons r t => by
    rw [strs_rep t]
    cases r
    rfl
theorem rep_strs {K : PySem.W.Frag} {G : Hp} : ∀ {xs : List Str}, PySem.Paired (rep K G) xs (xs.map V.str)
  | [] => .nil
  | _ :: _ => .cons rfl rep_strs
theorem vf_sortK {f : Γ → Option (Tup Str)} (hu : X.A.units + 64 < cLine) (hm : X.mg "sorted" = none) (hm2 : X.mg "len" = none) (ha : VE X e f) (hg : Gl X "sorted" := by rfl) (hg2 : Gl X "len" := by rfl)
    (he : backTo pos (starEach [e] X.env) = (false, eval e X.env) :: backTo pos (starEach [] X.env) := by rfl) (na : starEach [e] X.env = (false, eval e X.env) :: starEach [] X.env := by rfl) (hpl : (backTo pos (starEach [e] X.env)).any (·.1) = false := by rfl) :
    VF X (.Call (.Name "sorted" p) [e] [⟨some "key", .Name "len" p2, kp⟩] pos) (f1 sortK f) := PE.le (pe_sortK hu hm hm2 ha hg hg2 he na hpl) fun σ H Q ⟨F, G, L, γ, a, w, hE, ea, q⟩ => by
  unfold f1 at ea
  cases e1 : f γ with
  | none => rw [e1] at ea; cases ea
  | some t =>
    rw [e1] at ea
    replace ea : sortK t = some a := ea
    unfold sortK at ea
    split at ea
    case isFalse => cases ea
    rename_i hz
    cases ea
    refine ⟨F, G, L, γ, t, w, hE, e1, fun v G2 H2 x2 w2 ⟨p, vs, h1, h2, h3⟩ => ?_⟩
    have ev := strs_rep h3
    subst ev
    refine ⟨p, t.l, h1, .inl (.inl (w2.g _ _ h2)), hz.1, hz.2, fun p' hp' => ?_⟩
    obtain ⟨w3, r3⟩ := rf_new w2 hp' (rep_strs (K := X.K) (G := G2) (xs := srtK t.l))
    exact q _ G2 _ x2 w3 r3
end
end Vx
/-! the class Closer: its facts, its defs by their mirrors -/
namespace Vx
open Rep (rep)
open EnvR (er)
open PySem PySem.Spec PyProof.Rows L2
def TmF (K : PySem.W.Frag) : Prop := ∃ C, ClsAt K C ∧ Cls K C ∧ NoAttr K C "_things" ∧ NoAttr K C "_closed" ∧ NoAttr K C "_around"
def TmM (K : PySem.W.Frag) (m qual : Str) (st : Stmt) (ps : List Str) : Prop := ∃ C f fd, ClsAt K C ∧ Cls K C ∧ Meth K C m f ∧ Fun K m qual st f fd ∧ Binds K fd ps []
def TmP (K : PySem.W.Frag) (m qual : Str) (st : Stmt) (ps : List Str) : Prop := ∃ C p g fd, ClsAt K C ∧ Cls K C ∧ PropOf K C m p g ∧ Fun K m qual st g fd ∧ Binds K fd ps []
def TmI (K : PySem.W.Frag) (mg : Str → Option Value) (qual : Str) (st : Stmt) (ps : List Str) : Prop := ∃ C f fd, ClsAt K C ∧ Mk K C f ∧ mg "Closer" = some (.ref C) ∧ Fun K "__init__" qual st f fd ∧ Binds K fd ps []
def TmIs (K : PySem.W.Frag) (mg : Str → Option Value) : Prop := ∃ C, ClsAt K C ∧ C8.InsC K C ∧ mg "Closer" = some (.ref C)
def DfMt (P : Program) (w : World) (K : PySem.W.Frag) (mg : Str → Option Value) (base : Heap) (m : Str) (k : Nat) (ps : List Str) (sp : Sp) : Prop := ∃ C f fd, ClsAt K C ∧ Cls K C ∧ Meth K C m f ∧ Binds K fd ps [] ∧ GnOk P w K mg base k f fd ps sp
def DfP (P : Program) (w : World) (K : PySem.W.Frag) (mg : Str → Option Value) (base : Heap) (m : Str) (k : Nat) (ps : List Str) (sp : Sp) : Prop := ∃ C p g fd, ClsAt K C ∧ Cls K C ∧ PropOf K C m p g ∧ Binds K fd ps [] ∧ GnOk P w K mg base k g fd ps sp
def DfI (P : Program) (w : World) (K : PySem.W.Frag) (mg : Str → Option Value) (base : Heap) (k : Nat) (ps : List Str) (sp : Sp) : Prop := ∃ C f fd, ClsAt K C ∧ Mk K C f ∧ mg "Closer" = some (.ref C) ∧ Binds K fd ps [] ∧ GnOk P w K mg base k f fd ps sp
section
variable {P : Program} {w : World} {K : PySem.W.Frag} {mg : Str → Option Value} {base : Heap} {m qual : Str} {st : Stmt} {N ps : List Str} {k n : Nat} {A ρ Γ Γ' : Type} [RepL A] [EnvR Γ] [EnvR Γ'] [Rep ρ]
theorem df_Mt (T : TmM K m qual st ps) (S : FnScope N ps (defScope st)) (I : Ini A Γ n) {b : Γ → Option (Fl Γ' Unit ρ)} (body : BodyOk P w K mg base N qual st k fun X => VSs X Unit (RE K) (defBody st) b) (hn : N.length = RepL.n A + n := by rfl) (hp : RepL.n A = ps.length := by rfl) :
    DfMt P w K mg base m (k + 1) ps (spF K fun a => runF b (I.ini a)) := by
  obtain ⟨C, f, fd, h1, h2, h3, F, hb⟩ := T
  exact ⟨C, f, fd, h1, h2, h3, hb, ok_F F S I hn hp body⟩
theorem df_P (T : TmP K m qual st ps) (S : FnScope N ps (defScope st)) (I : Ini A Γ n) {b : Γ → Option (Fl Γ' Unit ρ)} (body : BodyOk P w K mg base N qual st k fun X => VSs X Unit (RE K) (defBody st) b) (hn : N.length = RepL.n A + n := by rfl) (hp : RepL.n A = ps.length := by rfl) :
    DfP P w K mg base m (k + 1) ps (spF K fun a => runF b (I.ini a)) := by
  obtain ⟨C, p, g, fd, h1, h2, h3, F, hb⟩ := T
  exact ⟨C, p, g, fd, h1, h2, h3, hb, ok_F F S I hn hp body⟩
theorem df_I (T : TmI K mg qual st ps) (S : FnScope N ps (defScope st)) (I : Ini A Γ n) {b : OI0 × Γ → Option (Fl (OI3 × Γ') Unit Unit)} (hb : Blind b) (body : BodyOk P w K mg base N qual st k fun X => VSs X Unit (RE K) (defBody st) b) (hn : N.length = RepL.n A + 1 + n := by rfl) (hp : RepL.n A + 1 = ps.length := by rfl) :
    DfI P w K mg base (k + 1) ps (spI K fun a => runI b (I.ini a)) := by
  obtain ⟨C, f, fd, h1, h2, h3, F, hbi⟩ := T
  exact ⟨C, f, fd, h1, h2, h3, hbi, ok_I F S I hb hn hp body⟩
end
section
variable {Γ : Type} [EnvR Γ] {X : Cx} {A ρ : Type} [RepL A] [Rep ρ] {k : Nat} {psn : List Str} {m : Str} {p pp pos apos : Pos} {e o : Expr} {es : List Expr}
theorem vd_prop {mi : Clo × Unit → Option ρ} {f : Γ → Option Clo} (D : DfP X.prog X.w X.K X.mg X.base m k psn (spF X.K mi)) (hgd : X.A.guards = some []) (hr : Room (k + 1) X.A) (h : VE X e f) (hab : attributeBase e m X.env (eval e X.env) = eval e X.env := by rfl) : VE X (.Attribute e m pos) (f1 (fun c => mi (c, ())) f) := by
  obtain ⟨C, q, g, fd, h1, h2, h3, hb, G⟩ := D
  exact ve_prop h h1 h2 h3 G hgd hr hb hab
theorem vd_meth {pl : Sem Bool} {mi : Clo × A → Option ρ} {f : Γ → Option Clo} {ga : Γ → Option A} (D : DfMt X.prog X.w X.K X.mg X.base m k psn (spF X.K mi)) (hgd : X.A.guards = some []) (hr : Room k X.A) (h : VE X o f) (ha : VA X (e :: es) ga) (n1 : ¬ m = "_things" := by decide +kernel) (n2 : ¬ m = "_closed" := by decide +kernel) (n3 : ¬ m = "_around" := by decide +kernel)
    (hst : starEach (e :: es) X.env = (false, eval e X.env) :: starEach es X.env := by rfl) (hpl : (backTo pos (starEach es X.env)).any (·.1) = false := by rfl)
    (ht : eval (.Call (.Attribute o m apos) (e :: es) [] pos) X.env = (do
      let ov ← eval o X.env
      standAt apos.atName
      let (fn, first) ← holding [ov] (getMethod ov m pl)
      callWith pos fn first (backTo pos (starEach (e :: es) X.env)) (backToKw pos (keywordEach [] X.env))) := by rfl) : VE X (.Call (.Attribute o m apos) (e :: es) [] pos) (f1 mi (fcons f ga)) := by
  obtain ⟨C, g, fd, h1, h2, h3, hb, G⟩ := D
  exact ve_meth h h1 h2 h3 G hgd hr hb ha n1 n2 n3 hst hpl ht
theorem vd_make {mi : A → Option Clo} {g : Γ → Option A} (D : DfI X.prog X.w X.K X.mg X.base k psn (spI X.K mi)) (hgd : X.A.guards = some []) (hr : Room (k + 1) X.A) (ha : VA X (e :: es) g) (hg : Gl X "Closer" := by rfl)
    (he : starEach (e :: es) X.env = (false, eval e X.env) :: starEach es X.env := by rfl) (hpl : (backTo pos (starEach es X.env)).any (·.1) = false := by rfl) : VE X (.Call (.Name "Closer" p) (e :: es) [] pos) (f1 mi g) := by
  obtain ⟨C, f, fd, h1, h2, h3, hb, G⟩ := D
  exact ve_make h2 h1 G hgd hr h3 hb ha hg (by decide) he hpl
theorem vd_fT {f : Γ → Option Clo} (T : TmF X.K) (h : VE X e f) (hb : attributeBase e "_things" X.env (eval e X.env) = eval e X.env := by rfl) : VE X (.Attribute e "_things" pos) (f1 (fun c => some c.things) f) := by
  obtain ⟨C, h1, h2, n1, n2, n3⟩ := T
  exact ve_fT h h1 h2 n1 hb
theorem vd_fC {f : Γ → Option Clo} (T : TmF X.K) (h : VE X e f) (hb : attributeBase e "_closed" X.env (eval e X.env) = eval e X.env := by rfl) : VE X (.Attribute e "_closed" pos) (f1 (fun c => some c.closed) f) := by
  obtain ⟨C, h1, h2, n1, n2, n3⟩ := T
  exact ve_fC h h1 h2 n2 hb
theorem vd_fA {f : Γ → Option Clo} (T : TmF X.K) (h : VE X e f) (hb : attributeBase e "_around" X.env (eval e X.env) = eval e X.env := by rfl) : VE X (.Attribute e "_around" pos) (f1 (fun c => some (⟨c.around⟩ : Dct Str)) f) := by
  obtain ⟨C, h1, h2, n1, n2, n3⟩ := T
  exact ve_fA h h1 h2 n3 hb
/-- isinstance(c, Closer) -/
theorem ve_isClo {f : Γ → Option Clo} (T : TmIs X.K X.mg) (h : VE X e f) (hm : X.mg "isinstance" = none) (hg : Gl X "isinstance" := by rfl) (hg2 : Gl X "Closer" := by rfl) (he : starEach [e, .Name "Closer" pp] X.env = (false, eval e X.env) :: starEach [.Name "Closer" pp] X.env := by rfl) (he2 : starEach [.Name "Closer" pp] X.env = (false, eval (.Name "Closer" pp) X.env) :: starEach [] X.env := by rfl)
    (hpl : (backTo pos (starEach [.Name "Closer" pp] X.env)).any (·.1) = false := by rfl) : VE X (.Call (.Name "isinstance" p) [e, .Name "Closer" pp] [] pos) (f1 (fun _ => some true) f) := by
  obtain ⟨C, h1, h2, h3⟩ := T
  exact PE.le (pe_callB (C8.call_isC h2) hg hm (by decide +kernel) (pa_cons h (pa_cons (pe_glob hg2 h3 (v := .ref C) rfl) pa_nil he2) he) (he := he) (hpl := hpl)) fun σ H Q ⟨F, G, L, γ, z, w, hh, ea, q⟩ => by
    unfold f1 at ea
    cases e1 : f γ with
    | none => rw [e1] at ea; cases ea
    | some x =>
      rw [e1] at ea
      cases ea
      refine ⟨F, G, L, γ, x, w, hh, e1, fun v G2 H2 x2 w2 ⟨p, C', dx, vc, va, g1, g2, g3, g4, g5⟩ => ?_⟩
      have := h1.one g2
      subst this
      subst g1
      exact ⟨p, dx, _, rfl, w2.g _ _ g3, q _ G2 H2 x2 w2 rfl⟩
end
end Vx
/-! more rules: what stands for something or None, pairs, lists made of texts, of dicts, pop, tuples put together, while, dicts by one name -/
namespace Vx
open Rep (rep)
open EnvR (er)
open PySem PySem.Spec PyProof.Rows L2
section
variable {Γ Γ' Γd Γe S ρ : Type} [EnvR Γ] [EnvR Γ'] [EnvR Γd] [EnvR Γe] [Md S] {α β τ δ : Type} [Rep α] [Rep β] [Rep τ] [Rep δ] {X : Cx} {K : PySem.W.Frag} {R : RR ρ} {a b e o : Expr} {p p2 pos apos : Pos} {i j : Nat}
/-- what is not None -/
theorem VE.unw {f : Γ → Option (Option α)} (h : VE X e f) : VE X e (f1 (fun x => x) f) := PE.le h fun σ H Q ⟨F, G, L, γ, a, w, he, ea, q⟩ => by
  unfold f1 at ea
  cases e1 : f γ with
  | none => rw [e1] at ea; cases ea
  | some x =>
    rw [e1] at ea
    exact ⟨F, G, L, γ, x, w, he, e1, fun v G2 H2 e2 w2 r => q v G2 H2 e2 w2 (by cases ea; exact r)⟩
/-! pairs -/
def ix0 (t : T2 α β) (i : Int) : Option α := if i = 0 then some t.a else none
def ix1 (t : T2 α β) (i : Int) : Option β := if i = 1 then some t.b else none
theorem o_ix0 : Op2 (rIxT K) (RE K (α := T2 α β)) (RE K) (RE K) ix0 := fun F G H x y z vx vy Q w rx ry e k => by
  obtain ⟨p, va, vb, h1, h2, h3, h4⟩ := rx
  cases ry
  unfold ix0 at e
  split at e
  case isFalse => cases e
  rename_i h0
  subst h0
  cases e
  exact ⟨p, [va, vb], 0, va, h1, rfl, .inl (.inl (w.g _ _ h2)), rfl, k _ G H (Ex.refl G) w h3⟩
theorem o_ix1 : Op2 (rIxT K) (RE K (α := T2 α β)) (RE K) (RE K) ix1 := fun F G H x y z vx vy Q w rx ry e k => by
  obtain ⟨p, va, vb, h1, h2, h3, h4⟩ := rx
  cases ry
  unfold ix1 at e
  split at e
  case isFalse => cases e
  rename_i h0
  subst h0
  cases e
  exact ⟨p, [va, vb], 1, vb, h1, rfl, .inl (.inl (w.g _ _ h2)), rfl, k _ G H (Ex.refl G) w h4⟩
def len2 (a : T2 α β × Unit) : Option Int := some 2
theorem o_len2 : OpA (rLen K) K (RE K) (len2 (α := α) (β := β)) := fun F G H a y vs Q w r e k => by
  obtain ⟨v, h1, p, va, vb, h2, h3, h4, h5⟩ := rl1 r
  cases e
  subst h2
  exact ⟨_, 2, h1, .inr ⟨[va, vb], .inl (.inl (w.g _ _ h3)), rfl⟩, k _ G H (Ex.refl G) w rfl⟩
theorem ve_isT2 {f : Γ → Option (T2 α β)} (h : VE X a f) (hm : X.mg "isinstance" = none) (hm2 : X.mg "tuple" = none) (hg : Gl X "isinstance" := by rfl) (hg2 : Gl X "tuple" := by rfl)
    (he : starEach [a, .Name "tuple" p2] X.env = (false, eval a X.env) :: starEach [.Name "tuple" p2] X.env := by rfl) (he2 : starEach [.Name "tuple" p2] X.env = (false, eval (.Name "tuple" p2) X.env) :: starEach [] X.env := by rfl) (hpl : (backTo pos (starEach [.Name "tuple" p2] X.env)).any (·.1) = false := by rfl) :
    VE X (.Call (.Name "isinstance" p) [a, .Name "tuple" p2] [] pos) (f1 (fun _ => some true) f) :=
  ve_isT (α := T2 α β) (T := "tuple") (Tn := "tuple") (fun ⟨q, va, vb, h1, h2, h3, h4⟩ => by rw [h1]; exact .tup h2) h hm hm2 (by decide +kernel) hg2 (by decide) (by decide) hg (by decide +kernel) he he2 hpl
/-! list(a text) -/
/-! sorted(a dict of texts) -/
/-! xs.pop(i) of one's own -/
/-! tuples put together, cut -/
/-! while -/
theorem vs_while_ {Γh : Type} [EnvR Γh] (w : Wk Γ Γh) (n : Nat) {body : List Stmt} {cf : Γh → Option Bool} {f : Γh → Option (Fl Γh S ρ)} {fr : Γ → Option (Fl Γh S ρ)} (efr : swhl (S := S) w n cf f = fr) (hp : PassesOwn (model X.prog X.w) X.A X.env X.xe) {c : Expr} (hc : VT X c cf) (hb : VSs X S R body f) : VS X S R (.While c body [] pos) fr := by
  subst efr
  exact vs_while w n hp hc hb
end
section
variable {Γ Γ1 : Type} [EnvR Γ] [EnvR Γ1] {α1 β κ : Type} [Rep α1] [Rep β] [Rep κ] [KeyOf κ] {X : Cx} {i : Nat} {pos : Pos}
def fdc1 (p1 : Put i Γ α1 Γ1) (g : Γ → Option (List α1)) (kf : Γ1 → Option κ) (vf : Γ1 → Option β) : Γ → Option (Dct β) := fun γ => (g γ).bind fun xs => if xs.length ≤ 100000 then
  (dcGo (fun x => kf (p1.put γ x)) (fun x => vf (p1.put γ x)) xs []).map fun d => ⟨d⟩ else none
theorem tdc1 {K : PySem.W.Frag} {p1 : Put i Γ α1 Γ1} {g : Γ → Option (List α1)} {t : Γ1 → Option Bool} {kf : Γ1 → Option κ} {vf : Γ1 → Option β} {σ : L2.St} {H : Hp} {Q : VK} (h : tev K (RE K) (fdc1 p1 g kf vf) σ H Q) :
    tDc (tiv K g) (gName i) (tet K (fyes (Γ := Γ1))) (tev K (RE K) kf) (tev K (RE K) vf) [i] σ H Q := by
  obtain ⟨F, G, L, γ, zs, w, he, ea, q⟩ := h
  unfold fdc1 at ea
  cases e0 : g γ with
  | none => rw [e0] at ea; cases ea
  | some xs =>
  rw [e0] at ea
  simp only [Option.bind_some] at ea
  split at ea
  case isFalse => cases ea
  rename_i hlen
  cases e9 : dcGo (fun x => kf (p1.put γ x)) (fun x => vf (p1.put γ x)) xs [] with
  | none => rw [e9] at ea; cases ea
  | some dz =>
  rw [e9] at ea
  cases ea
  refine ⟨F, G, L, γ, xs, w, he, e0, fun J G1 H1 x1 w1 wl D hD => ?_⟩
  have fd := w1.fresh hD
  have nD : ∀ q ∈ L, q ≠ D := fun q hq z => EnvR.there he q hq (by rw [z]; exact fd.2)
  refine ⟨fun n m H' => m = xs.length - n ∧ n ≤ xs.length ∧ ∃ G2 acc d, Ex G1 G2 ∧ W (upd F D (.dK acc)) G2 H' ∧ PySem.Paired (RK K G2) d acc ∧ d.length ≤ n ∧
      dcGo (fun x => kf (p1.put γ x)) (fun x => vf (p1.put γ x)) (xs.drop n) d = some dz, ⟨xs.length, by simp, Nat.zero_le _, G1, [], [], Ex.refl _, w1.own hD, .nil, Nat.zero_le _, e9⟩, ?_⟩
  rintro n m H' ⟨rfl, hj, G2, acc, d, x2, w2, r2, hacc, go⟩
  by_cases hlt : n < xs.length
  · obtain ⟨x, hx⟩ : ∃ x, xs[n]? = some x := ⟨xs[n], List.getElem?_eq_getElem hlt⟩
    obtain ⟨hgo, hyl⟩ := (wl (upd F D (.dK acc)) G2 H' x2 w2 n).1 x hx
    have hdrop : xs.drop n = x :: xs.drop (n + 1) := by
      rw [List.drop_eq_getElem_cons hlt]
      have : xs[n] = x := Option.some.inj ((List.getElem?_eq_getElem hlt).symm.trans hx)
      rw [this]
    rw [hdrop] at go
    unfold dcGo at go
    refine .inr ⟨hgo, fun H3 => ∃ G2 acc d, Ex G1 G2 ∧ W (upd F D (.dK acc)) G2 H3 ∧ PySem.Paired (RK K G2) d acc ∧ d.length ≤ n + 1 ∧
      dcGo (fun x => kf (p1.put γ x)) (fun x => vf (p1.put γ x)) (xs.drop (n + 1)) d = some dz, fun H3 z => ⟨xs.length - (n + 1), by omega, rfl, hlt, z⟩, fun xv H3 hy => ?_⟩
    obtain ⟨G3, x3, w3, h3⟩ := hyl xv H3 hy
    refine ⟨show ((σ.set i none).set i (some xv)).set i none = σ.set i none by rw [List.set_set, List.set_set], ?_⟩
    have ew : (wipe σ [i]).set i (some xv) = σ.set i (some xv) := show (σ.set i none).set i (some xv) = _ from by rw [List.set_set]
    rw [ew]
    have er3 : er K G3 (upd F D (.dK acc)) L (σ.set i (some xv)) (p1.put γ x) := p1.ok (EnvR.keep (fun q hq => upd_ne (nD q hq)) (EnvR.mono ((x1.trans x2).trans x3) he)) h3
    refine ⟨_, G3, L, _, true, w3, er3, rfl, fun G4 H4 x4 w4 => ?_⟩
    show (if true = true then _ else _)
    rw [if_pos rfl]
    cases e5 : kf (p1.put γ x) with
    | none =>
      rw [e5] at go
      cases go
    | some kk =>
      rw [e5] at go
      simp only [Option.bind_some] at go
      cases e6 : vf (p1.put γ x) with
      | none =>
        rw [e6] at go
        cases go
      | some vv =>
        rw [e6] at go
        simp only [Option.bind_some] at go
        refine ⟨_, G4, L, _, kk, w4, EnvR.mono x4 er3, e5, fun yk G5 H5 x5 w5 rk => ⟨_, G5, L, _, vv, w5, EnvR.mono (x4.trans x5) er3, e6, fun yv G6 H6 x6 w6 rv => ?_⟩⟩
        have r6 := rk_mono (((x3.trans x4).trans x5).trans x6) r2
        refine ⟨acc, KeyOf.key kk, KeyOf.of rk, w6.f _ _ upd_same, ?_, G6, putK acc (KeyOf.key kk) yv, putB d (KeyOf.key kk) vv, (((x2.trans x3).trans x4).trans x5).trans x6, ?_, rk_put rv r6, Nat.le_trans (putB_len (β := β) d _ _) (Nat.succ_le_succ hacc), go⟩
        · rw [← paired_len r6]
          exact Nat.lt_of_lt_of_le (Nat.lt_of_le_of_lt hacc (Nat.lt_of_lt_of_le hlt hlen)) line_ge
        · have := w6.set (u := .dK (putK acc (KeyOf.key kk) yv)) upd_same
          rw [upd_upd] at this
          exact this
  · have hj' : n = xs.length := by omega
    subst hj'
    rw [List.drop_length] at go
    unfold dcGo at go
    cases go
    refine .inl ⟨(wl (upd F D (.dK acc)) G2 H' x2 w2 xs.length).2 (Nat.le_refl _), ?_⟩
    have gD : G2 D = none := w2.d D _ upd_same
    have ex := Ex.upd (o := HO.dK acc) gD
    have w5 : W F (upd G2 D (.dK acc)) H' := by
      have := w2.free (p := D) upd_same
      refine this.less fun a o z => ?_
      have ha : a ≠ D := fun y => by
        rw [y, fd.2] at z
        cases z
      rw [del_ne ha, upd_ne ha]
      exact z
    exact q _ _ H' ((x1.trans x2).trans ex) w5 ⟨D, acc, rfl, upd_same, rk_mono ex r2⟩
variable {kx vx iter : Expr} {scope : Scope} {tpos : Pos} {x : Str}
/-- {k: v for x in iter} -/
theorem ve_dc1 (p1 : Put i Γ α1 Γ1) {g : Γ → Option (List α1)} {kf : Γ1 → Option κ} {vf : Γ1 → Option β} {fr : Γ → Option (Dct β)} (efr : fdc1 p1 g kf vf = fr) (hc : X.calm = true) (hN : X.N.Nodup) (hi : VI X (.Name x tpos) iter g) (ok : blkC X.N X.env.scope scope [(x, i)] = true)
    (hg : ∀ (s : Shared) (H : Hp) (C : Addr) (cl : List (Str × Addr)) (fp : List Addr), PG (X.blk s H scope (compEnvC scope cl C X.env) fp) (.Name x tpos) (gName i))
    (hk : ∀ (s : Shared) (H : Hp) (C : Addr) (cl : List (Str × Addr)) (fp : List Addr), VE (X.blk s H scope (compEnvC scope cl C X.env) fp) kx kf)
    (hv : ∀ (s : Shared) (H : Hp) (C : Addr) (cl : List (Str × Addr)) (fp : List Addr), VE (X.blk s H scope (compEnvC scope cl C X.env) fp) vx vf) (hs : ∀ x, foldedSetIterable iter X.env x = pure x := by intro _; rfl) :
    VE X (.DictComp kx vx [⟨.Name x tpos, iter, [], 0⟩] scope pos) fr := by
  subst efr
  exact PE.le (pe_dc (own := [(x, i)]) (g := gName i) (tt := tet X.K (fyes (Γ := Γ1))) hc hN hi (blkOk_by ok) hg (fun _ _ _ _ _ => vts_nil) hk hv hs) fun σ H Q h => tdc1 (t := fyes) h
end
end Vx
/-! lists of one's own as arguments; two lists at once; joins with a draw -/
namespace Vx
open Rep (rep)
open EnvR (er)
open PySem PySem.Spec PyProof.Rows L2
section
variable {Γ Γ1 Γ2 Γd S ρ : Type} [EnvR Γ] [EnvR Γ1] [EnvR Γ2] [EnvR Γd] [Md S] {α β : Type} [Rep α] [Rep β] {X : Cx} {K : PySem.W.Frag} {R : RR ρ} {a b e o : Expr} {p1 p2 pos apos : Pos} {i j : Nat} {x : Str}
/-- ''.join(..) with a draw -/
theorem me_join {f : Γ → Option (Str × Γ)} {g : Γ → Option (List Str × Γ)} (ho : ME X o f) (he : ME X e g) (hs : starEach [e] X.env = [(false, eval e X.env)] := by rfl) (hbase : attributeBase o "join" X.env (eval o X.env) = eval o X.env := by rfl) (hline : (apos.endLine == pos.line) = true := by rfl) :
    ME X (.Call (.Attribute o "join" apos) [e] [] pos) (m2 jn f g) := PE.le (pe_join ho he hs hbase hline) fun σ H Q ⟨F, G, L, γ, z, γ', w, hh, ea, q⟩ => by
  obtain ⟨x, γ1, y, e1, e2, e3⟩ := m2_some ea
  unfold jn at e3
  split at e3
  · rename_i hl
    cases e3
    refine ⟨F, G, L, γ, x, γ1, w, hh, e1, fun v F2 G2 H2 x2 w2 o2 h2 r2 => ⟨⟨x, r2⟩, F2, G2, L, γ1, y, γ', w2, h2, e2, fun u F3 G3 H3 x3 w3 o3 h3 r3 => ?_⟩⟩
    obtain ⟨p, vs, g1, g2, g3⟩ := r3
    rw [strs_of g3] at g2
    exact ⟨x, p, y, r2, by rw [g1], .inl (.inl (.inl (w3.g _ _ g2))), by omega, q _ F3 _ _ (x2.trans x3) w3 (off_trans o2 o3) h3 rfl⟩
  · cases e3
/-- list(range(n)) -/
def lrng (n : Int) : Option (List Int) := if 0 ≤ n ∧ n ≤ 100000 then some (rng 0 n) else none
theorem vf_lrng {f : Γ → Option Int} (hc : X.calm = true) (hm : X.mg "list" = none) (hm2 : X.mg "range" = none) (h : VE X a f) (hg : Gl X "list" := by rfl) (hg2 : Gl X "range" := by rfl) (na2 : starEach [a] X.env = (false, eval a X.env) :: starEach [] X.env := by rfl)
    (na : starEach [.Call (.Name "range" p1) [a] [] apos] X.env = (false, eval (.Call (.Name "range" p1) [a] [] apos) X.env) :: starEach [] X.env := by rfl) : VF X (.Call (.Name "list" p2) [.Call (.Name "range" p1) [a] [] apos] [] pos) (f1 lrng f) :=
  PE.le (pe_listRg hc hg hm (prg_1 hg2 hm2 h na2) na) fun σ H Q ⟨F, G, L, γ, z, w, hh, ea, q⟩ => by
    unfold f1 at ea
    cases e1 : f γ with
    | none => rw [e1] at ea; cases ea
    | some n =>
      rw [e1] at ea
      replace ea : lrng n = some z := ea
      unfold lrng at ea
      split at ea
      case isFalse => cases ea
      rename_i hn
      cases ea
      refine ⟨F, G, L, γ, n, w, hh, e1, fun v G2 H2 x2 w2 r2 => ?_⟩
      cases r2
      refine ⟨n, rfl, RgOk.of_le (by omega) (by omega) (by omega) (by omega), fun qa hqa => ?_⟩
      have e : rgV 0 n = (rng 0 n).map V.int := by
        unfold rgV rng
        rw [List.map_map]
        rfl
      rw [e]
      obtain ⟨w3, r3⟩ := rf_new w2 hqa (of_ints (K := X.K) (G := G2) (xs := rng 0 n))
      exact q _ G2 _ x2 w3 r3
/-- a pair, with a draw -/
theorem me_pair {f : Γ → Option ((α × β × Unit) × Γ)} {kt : Nat} (h : MA X [a, b] f) : ME X (.Tuple [a, b] kt pos) (m1 pairT f) := PE.le (pe_tup h) fun σ H Q ⟨F, G, L, γ, z, γ', w, he, ea, q⟩ => by
  obtain ⟨x, e1, e2⟩ := m1_some ea
  cases e2
  refine ⟨F, G, L, γ, x, γ', w, he, e1, fun vs F2 G2 H2 x2 w2 o2 h2 r2 => ?_⟩
  obtain ⟨v, u, e, h3, h4⟩ := rl2 r2
  subst e
  refine ⟨(by decide : 2 ≤ sizeLine), fun p hp => ?_⟩
  have ex := Ex.upd (o := HO.tup [v, u]) (w2.fresh hp).1
  exact q _ F2 _ _ (x2.trans ex) (w2.new hp) o2 (EnvR.mono ex h2) ⟨p, v, u, rfl, upd_same, Rep.mono ex h3, Rep.mono ex h4⟩
end
section
variable {Γ : Type} [EnvR Γ] {X : Cx} {A : Type} [RepL A] {k : Nat} {psn : List Str} {p pos : Pos} {e : Expr} {es : List Expr}
variable {Γ' ρ : Type} [EnvR Γ'] {R : RR ρ} {value : Expr} {p1 p2 : Pos} {x : Str}
theorem vd_s1 {f : OI0 × Γ → Option Str} {fr : OI0 × Γ → Option (Fl (OI1 × Γ) Unit ρ)} (T : TmF X.K) (efr : sf1 f = fr) (hv : VE X value f) (hN : X.N[0]? = some x := by rfl) (hvs : Vis X.env.scope x := by first | exact Or.inl rfl | exact Or.inr (Or.inl rfl) | exact Or.inr (Or.inr rfl)) (hd : (x == ("__debug__" : Str)) = false := by decide)
    (hcd : (x == ("__classdict__" : Str)) = false := by decide) (hs : swapsWith value (some (.Attribute (.Name x p1) "_things" p2)) pos.line X.env = pure false := by rfl) : VS X Unit R (.Assign [.Attribute (.Name x p1) "_things" p2] value pos) fr := by
  obtain ⟨C, h1, h2, n1, n2, n3⟩ := T
  exact vs_f1 efr h1 h2 n1 hv hN hvs hd hcd hs
theorem vd_s2 {f : OI1 × Γ → Option (Tup Str)} {fr : OI1 × Γ → Option (Fl (OI2 × Γ) Unit ρ)} (T : TmF X.K) (efr : sf2 f = fr) (hv : VE X value f) (hN : X.N[0]? = some x := by rfl) (hvs : Vis X.env.scope x := by first | exact Or.inl rfl | exact Or.inr (Or.inl rfl) | exact Or.inr (Or.inr rfl)) (hd : (x == ("__debug__" : Str)) = false := by decide)
    (hcd : (x == ("__classdict__" : Str)) = false := by decide) (hs : swapsWith value (some (.Attribute (.Name x p1) "_closed" p2)) pos.line X.env = pure false := by rfl) : VS X Unit R (.Assign [.Attribute (.Name x p1) "_closed" p2] value pos) fr := by
  obtain ⟨C, h1, h2, n1, n2, n3⟩ := T
  exact vs_f2 efr h1 h2 n2 hv hN hvs hd hcd hs
theorem vd_s3 {f : OI2 × Γ → Option (Dct Str)} {fr : OI2 × Γ → Option (Fl (OI3 × Γ) Unit ρ)} (T : TmF X.K) (efr : sf3 f = fr) (hv : VE X value f) (hN : X.N[0]? = some x := by rfl) (hvs : Vis X.env.scope x := by first | exact Or.inl rfl | exact Or.inr (Or.inl rfl) | exact Or.inr (Or.inr rfl)) (hd : (x == ("__debug__" : Str)) = false := by decide)
    (hcd : (x == ("__classdict__" : Str)) = false := by decide) (hs : swapsWith value (some (.Attribute (.Name x p1) "_around" p2)) pos.line X.env = pure false := by rfl) : VS X Unit R (.Assign [.Attribute (.Name x p1) "_around" p2] value pos) fr := by
  obtain ⟨C, h1, h2, n1, n2, n3⟩ := T
  exact vs_f3 efr h1 h2 n3 hv hN hvs hd hcd hs
end
end Vx
/-! a local that a loop has set, perhaps -/
namespace Vx
open Rep (rep)
open EnvR (er)
open PySem PySem.Spec PyProof.Rows L2
structure Mb (α : Type) where
  v : Option α
instance {α : Type} [Rep α] : Slot (Mb α) := ⟨fun K G _ L o t => L = [] ∧ ∀ a, t.v = some a → ∃ v, o = some v ∧ rep K G a v, fun e ⟨h1, h2⟩ => ⟨h1, fun a ha => let ⟨v, h3, h4⟩ := h2 a ha; ⟨v, h3, Rep.mono e h4⟩⟩, fun _ h => h, fun h q hq => by
  rw [h.1] at hq
  cases hq⟩
instance {α : Type} [Rep α] : VSlot (Mb α) := ⟨fun h => h.1⟩
end Vx
/-! x, y, z = a list, with draws -/
namespace Vx
open Rep (rep)
open EnvR (er)
open PySem PySem.Spec PyProof.Rows L2
instance : DatE (Option Str) := ⟨fun x y => by
  cases x with
  | none =>
    cases y with
    | none => rfl
    | some b => rfl
  | some a =>
    cases y with
    | none => rfl
    | some b =>
      show PyData.eqv (PyData.str a) (PyData.str b) = _
      have := DatE.eqv a b
      have e : decide (some a = some b) = decide (a = b) := decide_eq_decide.mpr (by simp)
      rw [e]
      exact this⟩
end Vx
namespace Vx
open Rep (rep)
open EnvR (er)
open PySem PySem.Spec PyProof.Rows L2
/-! a tuple from behind -/
end Vx
/-! x == y of two objects of one class that has its own word for it -/
namespace Vx
open Rep (rep)
open EnvR (er)
open PySem PySem.Spec PyProof.Rows L2
end Vx
/-! a drawn list is walked -/
namespace Vx
open Rep (rep)
open EnvR (er)
open PySem PySem.Spec PyProof.Rows L2
section
variable {Γ : Type} [EnvR Γ] {τ : Type} [Rep τ] {X : Cx} {tg e : Expr}
theorem mi_list {f : Γ → Option (List τ × Γ)} (h : ME X e f) : MI X tg e f := PI.le (pi_list h) fun σ H R ⟨F, G, L, γ, xs, γ', w, he, ea, q⟩ =>
  ⟨F, G, L, γ, xs, γ', w, he, ea, fun v F2 G2 H2 e2 w2 of er2 ⟨p, vs, h1, h2, h3⟩ => ⟨p, h1, ⟨vs, .inl (.inl (w2.g _ _ h2))⟩, q _ F2 G2 H2 e2 w2 of er2 (walks_list h2 h3)⟩⟩
end
end Vx
/-! sorted of a list of plain data, so of pairs of texts -/
namespace Vx
open Rep (rep)
open EnvR (er)
open PySem PySem.Spec PyProof.Rows L2
/-- data that can be sorted -/
class DatS (α : Type) [Rep α] [Dat α] : Prop where
  ali : ∀ x y : α, PySem.W.alike (Dat.d x) (Dat.d y) = true
  srt : ∀ xs : List α, PySem.W.Sortable (xs.map Dat.d)
instance : DatS (T2 Str Str) := ⟨fun x y => by
    show PySem.W.alike (.tuple [.str x.a, .str x.b]) (.tuple [.str y.a, .str y.b]) = true
    simp [PySem.W.alike, PySem.W.alikeAll], fun xs => PySem.W.Sortable.tuples fun b => ⟨_, _, rfl⟩⟩
/-- the order in which plain data come -/
def srtP {α : Type} [Rep α] [Dat α] (xs : List α) : List α := xs.mergeSort (PySem.W.dataLe false Dat.d)
theorem srtP_perm {α : Type} [Rep α] [Dat α] (xs : List α) : (srtP xs).Perm xs := List.mergeSort_perm _ _
section
variable {X : Cx} {α : Type} [Rep α] [Dat α] [DatS α]
def rSrtP (α : Type) [Rep α] [Dat α] (K : PySem.W.Frag) : List V → Hp → VK → Prop := fun vs H Q => ∃ (b : Addr) (ws : List V) (xs : List α) (P : α → V → Prop), vs = [.ref b] ∧ SqL K H b ws ∧ PySem.Paired P xs ws ∧ (∀ x w, P x w → Dp K H w (Dat.d x)) ∧ xs.length ≤ 100000 ∧ ∀ p us, H p = none → PySem.Paired P (srtP xs) us → Q (.ref p) (upd H p (.lst us))
theorem each_of {P : α → V → Prop} : ∀ {xs : List α} {ws : List V} {us : List Value}, PySem.Paired P xs ws → Vals ws us → PySem.W.EachIs (fun v b => ∃ z, RelV z v ∧ P b z) us xs
  | _, _, _, .nil, .nil => .nil
  | _, _, _, .cons r t, .cons r2 t2 => .cons ⟨_, r2, r⟩ (each_of t t2)
theorem of_each {P : α → V → Prop} : ∀ {us : List Value} {xs : List α}, PySem.W.EachIs (fun v b => ∃ z, RelV z v ∧ P b z) us xs → ∃ ws, PySem.Paired P xs ws ∧ Vals ws us
  | _, _, .nil => ⟨[], .nil, .nil⟩
  | _, _, .cons ⟨z, r, p⟩ t => by
    obtain ⟨ws, h1, h2⟩ := of_each t
    exact ⟨z :: ws, .cons p h1, .cons r h2⟩
theorem cr_srtP (hu : X.A.units + 64 < cLine) (hd : Dat.dep α ≤ 60 := by decide) : CallR X (.builtin "sorted") (rSrtP α X.K) := by
  intro pins s σ H vs us Q I r h
  obtain ⟨b, ws, xs, P, rfl, hs, hp, hg, hz, k⟩ := h
  obtain ⟨its, rv, hl, _⟩ := I.list hs
  rw [Vals.ref1 r]
  have es := each_of hp rv
  have hL : xs.length ≤ sizeLine := Nat.le_trans hz (by decide)
  have er : PySem.W.EachIs (fun v b => ∃ as, Reads s.heap v (Dat.d b) as) its xs := es.mono fun v x ⟨z, rz, pz⟩ => Dp.reads I (Dat.d x) z v (hg x z pz) rz
  apply PySem.W.sorted_data (enc := Dat.d) hl.isList es er (PySem.W.AllAlike.of DatS.ali) (DatS.srt xs) hL
  · intro x _
    have := Dat.depth x
    omega
  intro out hlen eo
  obtain ⟨ws2, so, sv⟩ := of_each eo
  obtain ⟨ep, he'⟩ := PyProof.Rows.sortedAll_at s.heap its out.toArray
  have hn : H (s.heap.objs.size + 1) = none := I.hok.fresh (Nat.le_succ _)
  have lz : ws2.length ≤ sizeLine := by
    rw [← paired_len so, (List.mergeSort_perm _ _).length_eq]
    exact hL
  exact ⟨.ref _, _, I.laid (t' := s.toks) (o := .lst ws2) (fun _ _ => PyProof.Rows.sortedAll_old) (Nat.le_succ _) ⟨lz, out, ep, sv, he'⟩, rfl, k _ _ hn so⟩
def srtLP (a : List α × Unit) : Option (List α) := if a.1.length ≤ 100000 then some (srtP a.1) else none
theorem o_srtLP {K : PySem.W.Frag} : OpA (rSrtP α K) K (RF K) (srtLP (α := α)) := fun F G H a y vs Q w r e k => by
  obtain ⟨v, h1, p, us, h2, h3, h4⟩ := rl1 r
  unfold srtLP at e
  split at e
  · rename_i hl
    cases e
    subst h2
    exact ⟨p, us, a.1, rep K G, h1, .inl (.inl (w.g _ _ h3)), h4, fun x z hx => Dat.ok hx w.g, hl, fun l us2 hl so => let ⟨w2, r2⟩ := rf_new w hl so; k _ _ _ (Ex.refl G) w2 r2⟩
  · cases e
end
end Vx
/-! [e for x in xs for y in ys] -/
namespace Vx
open Rep (rep)
open EnvR (er)
open PySem PySem.Spec PyProof.Rows L2
/-- a slot of which nothing is known may be empty -/
structure Nn (i : Nat) (Γ : Type) [EnvR Γ] : Prop where
  ok : ∀ {K : PySem.W.Frag} {G F : Hp} {L : List Addr} {σ : L2.St} {γ : Γ}, EnvR.er K G F L σ γ → EnvR.er K G F L (σ.set i none) γ
theorem ns {i : Nat} {τ₀ Γ : Type} [Slot τ₀] [EnvR Γ] (n : Nn i Γ) : Nn (i + 1) (τ₀ × Γ) := ⟨fun ⟨L1, L2, o, σ', h1, h2, h3, h4, h5⟩ => ⟨L1, L2, o, σ'.set i none, h1, by subst h2; rfl, h3, n.ok h4, h5⟩⟩
end Vx
/-! an own list that never changes again; an own list made with draws -/
namespace Vx
open Rep (rep)
open EnvR (er)
open PySem PySem.Spec PyProof.Rows L2
instance : DatS Int := ⟨fun x y => rfl, fun xs => PySem.W.Sortable.others fun b => ⟨(fun h => by cases h), (fun _ h => by cases h)⟩⟩
instance : DatS Str := ⟨fun x y => rfl, fun xs => PySem.W.Sortable.others fun b => ⟨(fun h => by cases h), (fun _ h => by cases h)⟩⟩
structure Frz (i : Nat) (Γ α Γ' : Type) [EnvR Γ] [Rep α] [EnvR Γ'] where
  fr : Γ → Γ'
  ok : ∀ {K : PySem.W.Frag} {G F : Hp} {L : List Addr} {σ : L2.St} {γ : Γ}, er K G F L σ γ → ∃ q vs L', q ∈ L ∧ F q = some (.lst vs) ∧ L'.Sublist L ∧ (G q = none → er K (upd G q (.lst vs)) (del F q) L' σ (fr γ))
def fz {Γ α : Type} [EnvR Γ] [Rep α] : Frz 0 (OL α × Γ) α (List α × Γ) := ⟨fun γ => (γ.1.l, γ.2), fun {K G F L σ γ} ⟨L1, L2, o, σ', h1, h2, ⟨q, vs, h3, h4, h5, h6⟩, h7, h8⟩ => by
  subst h2
  have hq : q ∉ L2 := h8 q (by rw [h3]; exact List.mem_singleton.mpr rfl)
  refine ⟨q, vs, L2, by rw [h1, h3]; exact List.mem_append_left _ (List.mem_singleton.mpr rfl), h5, by rw [h1]; exact List.sublist_append_right _ _, fun hG => ?_⟩
  have ex : Ex G (upd G q (.lst vs)) := Ex.upd hG
  exact ⟨[], L2, o, σ', rfl, rfl, ⟨rfl, _, h4, q, vs, rfl, upd_same, Paired.mono (fun _ _ z => Rep.mono ex z) h6⟩, EnvR.keep (fun b hb => del_ne (fun z => hq (by rw [← z]; exact hb))) (EnvR.mono ex h7), fun _ hb => by cases hb⟩⟩
def fs {i : Nat} {τ Γ α Γ' : Type} [Slot τ] [EnvR Γ] [Rep α] [EnvR Γ'] (w : Frz i Γ α Γ') : Frz (i + 1) (τ × Γ) α (τ × Γ') := ⟨fun γ => (γ.1, w.fr γ.2), fun {K G F L σ γ} ⟨L1, L2, o, σ', h1, h2, h3, h4, h5⟩ => by
  obtain ⟨q, vs, L', k1, k2, k3, k4⟩ := w.ok h4
  subst h2
  have hq : q ∉ L1 := fun z => h5 q z k1
  refine ⟨q, vs, L1 ++ L', by rw [h1]; exact List.mem_append_right _ k1, k2, by rw [h1]; exact List.Sublist.append (List.Sublist.refl _) k3, fun hG => ?_⟩
  exact ⟨L1, L', o, σ', rfl, rfl, Slot.keep (fun b hb => del_ne (fun z => hq (by rw [← z]; exact hb))) (Slot.mono (Ex.upd hG) h3), k4 hG, fun b hb hb' => h5 b hb (k3.subset hb')⟩⟩
section
variable {Γ Γ' Γ'' S ρ α : Type} [EnvR Γ] [EnvR Γ'] [EnvR Γ''] [Md S] [Rep α] {X : Cx} {R : RR ρ} {sts : List Stmt} {e : Expr} {pos : Pos} {i : Nat}
def sfrz (z : Frz i Γ α Γ') (g : Γ' → Option (Fl Γ'' S ρ)) : Γ → Option (Fl Γ'' S ρ) := fun γ => g (z.fr γ)
theorem vss_frz (z : Frz i Γ α Γ') {g : Γ' → Option (Fl Γ'' S ρ)} {fr : Γ → Option (Fl Γ'' S ρ)} (efr : sfrz z g = fr) (h : VSs X S R sts g) : VSs X S R sts fr := by
  subst efr
  exact PSs.le h fun D σ H ⟨F, G, L, γ, p, r, wd, nd, he, ha, ea, q⟩ => by
    obtain ⟨a, vs, L', k1, k2, k3, k4⟩ := z.ok he
    have hG : G a = none := wd.d a _ k2
    exact ⟨del F a, upd G a (.lst vs), L', z.fr γ, p, r, wd.free k2, nd.sublist k3, k4 hG, ha, ea, q.trans (Ex.upd hG) (fun b o hb e => by rw [del_ne (fun z => hb (by rw [z]; exact k1))]; exact e) (fun b hb => .inl (k3.subset hb))⟩
/-- x = a list just made with draws, to be changed -/
def snewm (p : PutO i Γ α Γ') (f : Γ → Option (List α × Γ)) : Γ → Option (Fl Γ' S ρ) := fun γ => (f γ).map fun (xs, γ) => .nx (p.put γ xs)
end
/-! in, not in: whole numbers in a list or a tuple -/
end Vx
/-! sorted(a text); sorted(a tuple of texts) -/
namespace Vx
open Rep (rep)
open EnvR (er)
open PySem PySem.Spec PyProof.Rows L2
theorem o_lCatE {K : PySem.W.Frag} {α : Type} [Rep α] : Op2 rCat (RE K (α := List α)) (RE K) (RF K) lCat := fun F G H x y z vx vy Q w rx ry e k => o_lCat F G H x y z vx vy Q w (rl_of rx) (rl_of ry) e k
end Vx
/-! a list of one's own that does not change while an expression is looked at -/
namespace Vx
open Rep (rep)
open EnvR (er)
open PySem PySem.Spec PyProof.Rows L2
/-- values that lean on no object -/
class FlatR (α : Type) [Rep α] : Prop where
  flat : ∀ {K : PySem.W.Frag} {G G' : Hp} {a : α} {v : V}, rep K G a v → rep K G' a v
instance : FlatR Int := ⟨fun h => h⟩
instance : FlatR Bool := ⟨fun h => h⟩
instance : FlatR Str := ⟨fun h => h⟩
instance : FlatR Unit := ⟨fun h => h⟩
instance {α : Type} [Rep α] [FlatR α] : FlatR (Option α) := ⟨fun {K G G' a v} h => by
  cases a with
  | none => exact h
  | some x => exact FlatR.flat (α := α) h⟩
section
variable {Γ Γ' α β : Type} [EnvR Γ] [EnvR Γ'] [Rep α] [Rep β] [FlatR β] {X : Cx} {e : Expr} {i : Nat}
theorem tmp_back {F G G2 H2 : Hp} {q : Addr} {o : HO} (hF : F q = some o) (hG : G q = none) (x2 : Ex (upd G q o) G2) (w2 : W (del F q) G2 H2) : Ex G (del G2 q) ∧ W F (del G2 q) H2 := by
  have g2 : G2 q = some o := x2 q o upd_same
  refine ⟨fun a u h => ?_, ⟨fun a u h => ?_, fun a u h => ?_, fun a u h => ?_⟩⟩
  · have ne : a ≠ q := fun z => by rw [z, hG] at h; cases h
    rw [del_ne ne]
    exact x2 a u (by rw [upd_ne ne]; exact h)
  · by_cases z : a = q
    · rw [z, del_same] at h
      cases h
    · rw [del_ne z] at h
      exact w2.g a u h
  · by_cases z : a = q
    · subst z
      rw [hF] at h
      rw [← h]
      exact w2.g _ _ g2
    · exact w2.f a u (by rw [del_ne z]; exact h)
  · by_cases z : a = q
    · rw [z]
      exact del_same
    · rw [del_ne z]
      exact w2.d a u (by rw [del_ne z]; exact h)
theorem ve_tmp (z : Frz i Γ α Γ') {f : Γ' → Option β} {fr : Γ → Option β} (efr : (fun γ => f (z.fr γ)) = fr) (h : VE X e f) : VE X e fr := by
  subst efr
  exact PE.le h fun σ H Q ⟨F, G, L, γ, a, w, he, ea, q⟩ => by
    obtain ⟨p, vs, L', k1, k2, k3, k4⟩ := z.ok he
    have hG : G p = none := w.d p _ k2
    refine ⟨del F p, upd G p (.lst vs), L', z.fr γ, a, w.free k2, k4 hG, ea, fun v G2 H2 x2 w2 r2 => ?_⟩
    obtain ⟨x3, w3⟩ := tmp_back k2 hG x2 w2
    exact q v _ H2 x3 w3 (FlatR.flat (α := β) r2)
end
/-! text.index(sign) -/
/-! xs[i], xs[j] = xs[j], xs[i], xs of one's own -/
end Vx
/-! x != y of two objects of one class that has its own word for == -/
namespace Vx
open Rep (rep)
open EnvR (er)
open PySem PySem.Spec PyProof.Rows L2
section
variable {prog : Program} {w : World} {A : Around} {E : Value → Shared → Prop} {s : Shared} {K : PySem.W.Frag} {x C L f : Addr} {h₀ : Heap} {m : Str → Option Value} {ox : Obj} {od : Option Obj} {b : Value}
theorem bound_ne {Q : Option Value → Shared → Prop} (X : K.In s.heap) (I : PySem.W.InstAt s.heap x ox C od) (hs : PySem.W.findIn K (.ref C) "__ne__" = some (some (.builtin "object.__ne__")))
    (h : wpAny (model prog w) A (call (.builtin "object.__ne__") [.ref x, b]) (fun v => Q (some v)) E s) : wpAny (model prog w) A (callSpecialIfBound? (.ref x) "__ne__" [b]) Q E s := by
  have hb := F.cmp_object.ne.bind (.ref x)
  simp only [callSpecialIfBound?, bindSpecialIfBound?]
  apply wpAny_holding
  apply wpAny_bind
  apply wpAny_bind
  apply wpAny_bind
  refine I.type.here ?_
  refine (PySem.W.looks_findIn X hs).here ?_
  simp only [hb]
  refine wpAny_bind (wpAny_askSetting (wpAny_ite ?_))
  have fin : wpAny (model prog w) A (call (.builtin "object.__ne__") ([Value.ref x] ++ [b]) >>= fun v => pure (some v)) Q E s := wpAny_bind (wpAny_mono h (fun v s' q => wpAny_pure q) fun _ _ q => q)
  split
  · exact wpAny_bind (wpAny_pure (wpAny_pure fin))
  · exact wpAny_tryCatch (wpAny_bind (wpAny_pure (wpAny_pure fin)))
theorem neI_K {Q : Value → Shared → Prop} (hu : A.units + 1 < cLine) (F' : PyProof.Rows.Fr h₀ L s.heap m) (X₀ : K.In h₀) (I : PySem.W.InstAt s.heap x ox C od) (hb : PySem.W.Looks (model prog w) s.heap (typeOf b) (.ref C)) (hs : PySem.W.findIn K (.ref C) "__ne__" = some (some (.builtin "object.__ne__"))) (he : PySem.W.findIn K (.ref C) "__eq__" = some (some (.ref f)))
    (hf : PySem.W.isFn K (.ref f) = true) (ho : PySem.W.mroIn K C (.type "object") = some true)
    (h : wpAny (model prog w) A.in1 (call (.ref f) [.ref x, b]) (fun v s' => ∃ c, v = .bool c ∧ Q (.bool (!c)) s') E s) : wpAny (model prog w) A (richCompare .NotEq (.ref x) b) Q E s := by
  have X := X₀.keeps F'.keep
  have inst : PySem.W.Looks (model prog w) s.heap (isInstance (.ref x) (.type "object")) true := I.type.andThen (PySem.W.looks_subIn X (show PySem.W.subIn K (.ref C) (.type "object") = some true from ho))
  have one : wpAny (model prog w) A (tryCompare (.ref x) (cmpInfo .NotEq).2.1 b) (fun r s' => ∃ v, r = some v ∧ Q v s') E s := by
    unfold tryCompare
    apply wpAny_bind
    apply bound_ne X I hs
    apply wpAny_call
    refine codeAny_call_builtin F.cmp_object.ne.plain F.cmpEntry_ne ?_
    refine PySem.W.check_slot F.cmpKind_ne F.cmpSplit_ne inst (F.cmpArgs_ne _ _) ?_
    unfold Builtin.«object.__ne__»
    have es : slotArgs "__ne__" 1 ⟨[Value.ref x, b], []⟩ = pure (Value.ref x, [b]) := rfl
    rw [es]
    apply wpAny_bind
    apply wpAny_pure
    apply wpAny_bind
    apply wpAny_cRoomFor (A := A.in1) hu
    apply wpAny_bind
    refine PySem.W.ifBound_K X I he hf (wpAny_mono h (fun v s' q => ?_) fun _ _ q => q)
    obtain ⟨c, rfl, q⟩ := q
    dsimp only
    refine wpAny_bind (wpAny_truthy_bool ?_)
    exact wpAny_pure (wpAny_pure ⟨_, rfl, q⟩)
  unfold richCompare
  simp only [oneThing_ref]
  apply wpAny_holding
  apply wpAny_bind
  apply wpAny_cRoomFor (by omega)
  apply wpAny_bind
  refine I.type.here ?_
  apply wpAny_bind
  refine hb.here ?_
  rw [if_neg (by simp)]
  apply wpAny_bind
  apply wpAny_pure
  simp only [Bool.false_eq_true, if_false]
  refine wpAny_bind (wpAny_mono one (fun r s' q => ?_) fun _ _ q => q)
  obtain ⟨v, rfl, q⟩ := q
  exact wpAny_pure q
end
section
variable {X : Cx} {k : Nat} {g C : Addr} {fd : FuncData} {ps : List Str} {sp : Sp}
def rNeI (C : Addr) (sp : Sp) : R2 := fun x y H Q => ∃ a dx fs b dy gs, x = .ref a ∧ y = .ref b ∧ H a = some (.ins C dx fs) ∧ H b = some (.ins C dy gs) ∧ sp [x, y] H (fun v H2 => ∃ c, v = V.bl c ∧ Q (V.bl (!c)) H2) E0
theorem op_neI (hs : PySem.W.findIn X.K (.ref C) "__ne__" = some (some (.builtin "object.__ne__"))) (he : PySem.W.findIn X.K (.ref C) "__eq__" = some (some (.ref g))) (ho : PySem.W.mroIn X.K C (.type "object") = some true) (hf : PySem.W.isFn X.K (.ref g) = true) (F : GnOk X.prog X.w X.K X.mg X.base k g fd ps sp) (hgd : X.A.guards = some []) (hr : Room (k + 1) X.A) (hb : Binds X.K fd ps []) : OpR X (compareOp .NotEq) (rNeI C sp) := by
  intro pins s σ H x y v u Q I rx ry h
  obtain ⟨a, dx, fs, b, dy, gs, rfl, rfl, ha, hb', q⟩ := h
  cases (show v = Value.ref a from rx)
  cases (show u = Value.ref b from ry)
  obtain ⟨mA, O, _⟩ := ins_get I.hok ha
  obtain ⟨od, J, _⟩ := O.look
  obtain ⟨mB, O', _⟩ := ins_get I.hok hb'
  obtain ⟨od', J', _⟩ := O'.look
  obtain ⟨m, hF⟩ := I.fr
  have r2 : Vals [V.ref a, V.ref b] [Value.ref a, Value.ref b] := .cons rfl (.cons rfl .nil)
  have hl : [Value.ref a, Value.ref b].length = ps.length := F.len _ _ _ _ q
  have bt := hb s [Value.ref a, Value.ref b] I.kIn (by rw [List.append_nil]; exact hl)
  rw [List.append_nil] at bt
  show wpAny _ _ (richCompare .NotEq (Value.ref a) (Value.ref b)) _ _ _
  refine neI_K (by have := hr.un; omega) hF I.ok.mod.kin J J'.type hs he hf ho ?_
  apply wpAny_call
  apply codeAny_mono (F.run X.A.in1 X.stack s H ⟨[Value.ref a, Value.ref b], []⟩ _ _ _ hgd hr.in1 I.env0.in1 bt r2 q)
  intro r s' z
  cases r with
  | error e => exact z.elim
  | ok fl =>
    cases fl with
    | ret w =>
      obtain ⟨z', H', I', rz, c, hc, qz⟩ := I.after z
      subst hc
      cases rz
      exact ⟨c, rfl, V.bl (!c), H', I', rfl, qz⟩
    | next => exact z.elim
    | brk => exact z.elim
    | cont => exact z.elim
theorem o_neI {K : PySem.W.Frag} {C : Addr} (at_ : ClsAt K C) {mi : Clo × Clo × Unit → Option Bool} : Op2 (rNeI C (spF K mi)) (RE K (α := Clo)) (RE K (α := Clo)) (RE K) (fun x y => (mi (x, y, ())).map (!·)) := fun F G H x y z vx vy Q w rx ry e k => by
  obtain ⟨p, C', dx, vc, va, h1, h2, h3, h4, h5⟩ := id rx
  obtain ⟨q, C2, dy, vc2, va2, g1, g2, g3, g4, g5⟩ := id ry
  have := at_.one h2
  subst this
  have := at_.one g2
  subst this
  subst h1 g1
  replace e : (mi (x, y, ())).map (fun z => !z) = some z := e
  cases em : mi (x, y, ()) with
  | none => rw [em] at e; cases e
  | some c =>
    rw [em] at e
    cases e
    refine ⟨p, dx, _, q, dy, _, rfl, rfl, w.g _ _ h3, w.g _ _ g3, ?_⟩
    exact ⟨F, G, (x, y, ()), c, w, ⟨_, _, rfl, rx, ⟨_, _, rfl, ry, rfl⟩⟩, em, fun v G4 H4 x4 w4 r4 => ⟨c, r4, k _ G4 H4 x4 w4 rfl⟩⟩
structure TmNe (K : PySem.W.Frag) : Prop where
  ex : ∃ C, ClsAt K C ∧ PySem.W.findIn K (.ref C) "__ne__" = some (some (.builtin "object.__ne__")) ∧ PySem.W.mroIn K C (.type "object") = some true
variable {Γ : Type} [EnvR Γ] {a b : Expr} {pos : Pos}
end
/-! len(set(a text)) -/
/-! name = [.. for x in xs ..], xs of one's own, the name a plain local -/
end Vx
/-! enumerate(a text); tests of == and != between objects -/
namespace Vx
open Rep (rep)
open EnvR (er)
open PySem PySem.Spec PyProof.Rows L2
section
variable {X : Cx} {k : Nat} {Γ : Type} [EnvR Γ] {a b : Expr} {pos : Pos} {mi : Clo × Clo × Unit → Option Bool} {f h : Γ → Option Clo} {ps : List Str}
theorem vd_neT (N : TmNe X.K) (D : DfMt X.prog X.w X.K X.mg X.base "__eq__" k ps (spF X.K mi)) (hgd : X.A.guards = some []) (hr : Room (k + 1) X.A) (h1 : VE X a f) (h2 : VE X b h) (hmk : behindInMarks CmpOp.NotEq b = false := by rfl) : VT X (.Compare a [.NotEq] [b] pos) (f2 (fun x y => (mi (x, y, ())).map (!·)) f h) := by
  obtain ⟨C, g, fd, at_, _, hm, hb, G⟩ := D
  obtain ⟨C2, at2, n1, n2⟩ := N.ex
  have := at_.one at2
  subst this
  exact vt_cmp (R1 := RE X.K) (R2 := RE X.K) (φ := fun x y => (mi (x, y, ())).map (!·)) (op_neI n1 hm.at_ n2 hm.fn G hgd hr hb) (o_neI (mi := mi) at_) re_mono h1 h2 hmk
end
end Vx
/-! a dict of one's own, read -/
namespace Vx
open Rep (rep)
open EnvR (er)
open PySem PySem.Spec PyProof.Rows L2
end Vx
/-! lists cut, lists from behind, the greatest of a list of whole numbers -/
namespace Vx
open Rep (rep)
open EnvR (er)
open PySem PySem.Spec PyProof.Rows L2
/-! ### max of a list of whole numbers -/
def maxI (a : List Int × Unit) : Option Int := match a.1 with
  | [] => none
  | x :: xs => if xs.length ≤ 100000 then some (xs.foldl max x) else none
def rMaxI (K : PySem.W.Frag) : List V → Hp → VK → Prop := fun vs H Q => ∃ (b : Addr) (x : Int) (xs : List Int), vs = [.ref b] ∧ SqL K H b ((x :: xs).map V.int) ∧ xs.length ≤ 100000 ∧ Q (.int (xs.foldl max x)) H
section
variable {X : Cx}
theorem reads_ints (h : Heap) : ∀ {xs : List Int} {us : List Value}, Vals (xs.map V.int) us → ReadsAll h us (xs.map .int) []
  | [], _, .nil => .nil
  | x :: xs, _, .cons r t => by
    obtain ⟨t1, rfl⟩ := r
    exact ReadsAll.cons (as := []) (bs := []) (Reads.int _ _) (reads_ints h t)
theorem depth_ints : ∀ xs : List Int, PyData.depthAll (xs.map .int) ≤ 0
  | [] => Nat.le_refl _
  | x :: xs => by
    have := depth_ints xs
    simp only [List.map_cons, PyData.depthAll, PyData.depth]
    omega
theorem cr_maxI (hu : X.A.units + 64 < cLine) (hc : X.calm = true) : CallR X (.builtin "max") (rMaxI X.K) := by
  intro pins s σ H vs us Q I r h
  obtain ⟨b, x, xs, rfl, hs, hz, k⟩ := h
  obtain ⟨its, rv, hl, _⟩ := I.list hs
  rw [Vals.ref1 r]
  refine PySem.W.max_list_data (I.ok.hd hc) hl.isList (x := .int x) (xs := xs.map .int) (reads_ints _ rv) ⟨fun a ha c hc => ?_, fun a ha => ?_⟩ ?_ (fun i v h' tk bs hi hr hk => ?_)
  · obtain ⟨a, _, rfl⟩ := List.mem_map.mp (show a ∈ (x :: xs).map PyData.int from ha)
    obtain ⟨c, _, rfl⟩ := List.mem_map.mp (show c ∈ (x :: xs).map PyData.int from hc)
    simp [PySem.W.alike]
  · obtain ⟨a, _, rfl⟩ := List.mem_map.mp (show a ∈ (x :: xs).map PyData.int from ha)
    exact fun e => by cases e
  · have := depth_ints (x :: xs)
    rw [List.map_cons] at this
    omega
  · rw [PySem.W.maxD_ints] at hr
    cases hr with
    | int i t => exact ⟨.int (xs.foldl max x), H, I.kept (t' := tk) hk, ⟨t, rfl⟩, k⟩
theorem o_maxI {K : PySem.W.Frag} : OpA (rMaxI K) K (RE K) maxI := fun F G H a y vs Q w r e k => by
  obtain ⟨v, h1, p, us, h2, h3, h4⟩ := rl1 r
  unfold maxI at e
  split at e
  · cases e
  · rename_i x xs ex
    split at e
    · rename_i hl
      cases e
      subst h2
      rw [ex] at h4
      have := ints_of h4
      subst this
      exact ⟨p, x, xs, h1, .inl (.inl (w.g _ _ h3)), hl, k _ G H (Ex.refl G) w rfl⟩
    · cases e
end
end Vx
/-! [e for x, y in pairs if ..] -/
namespace Vx
open Rep (rep)
open EnvR (er)
open PySem PySem.Spec PyProof.Rows L2
section
variable {Γ : Type} [EnvR Γ] {α α1 α2 : Type} [Rep α1] [Rep α2] [Rep α] {i j : Nat} {Γ1 Γe : Type} [EnvR Γ1] [EnvR Γe]
def flcp (p1 : Put i Γ α1 Γ1) (p2 : Put j Γ1 α2 Γe) (g : Γ → Option (List (T2 α1 α2))) (t : Γe → Option Bool) (e : Γe → Option α) : Γ → Option (List α) := fun γ => (g γ).bind fun xs => if xs.length ≤ 100000 then lcGo (fun x => t (p2.put (p1.put γ x.a) x.b)) (fun x => e (p2.put (p1.put γ x.a) x.b)) xs else none
/-- the turns of a comprehension that changes nothing -/
theorem tlcpP (hij : i ≠ j) {K : PySem.W.Frag} {p1 : Put i Γ α1 Γ1} {p2 : Put j Γ1 α2 Γe} {g : Γ → Option (List (T2 α1 α2))} {t : Γe → Option Bool} {e : Γe → Option α} {σ : L2.St} {H : Hp} {Q : VK} (h : tev K (RF K) (flcp p1 p2 g t e) σ H Q) :
    tLc (tiv K g) (gPair K i j) (tet K t) (tev K (RE K) e) [i, j] σ H Q := by
  obtain ⟨F, G, L, γ, zs, w, he, ea, q⟩ := h
  unfold flcp at ea
  cases e0 : g γ with
  | none => rw [e0] at ea; cases ea
  | some xs =>
  rw [e0] at ea
  simp only [Option.bind_some] at ea
  split at ea
  case isFalse => cases ea
  rename_i hlen
  refine ⟨F, G, L, γ, xs, w, he, e0, fun J G1 H1 x1 w1 wl D hD => ?_⟩
  have fd := w1.fresh hD
  have nD : ∀ q ∈ L, q ≠ D := fun q hq z => EnvR.there he q hq (by rw [z]; exact fd.2)
  refine ⟨fun n m H' => m = xs.length - n ∧ n ≤ xs.length ∧ ∃ G2 acc ys rest, Ex G1 G2 ∧ W (upd F D (.lst acc)) G2 H' ∧ PySem.Paired (rep K G2) ys acc ∧ acc.length ≤ n ∧
      lcGo (fun x => t (p2.put (p1.put γ x.a) x.b)) (fun x => e (p2.put (p1.put γ x.a) x.b)) (xs.drop n) = some rest ∧ zs = ys ++ rest, ⟨xs.length, by simp, Nat.zero_le _, G1, [], [], zs, Ex.refl _, w1.own hD, .nil, Nat.zero_le _, ea, rfl⟩, ?_⟩
  rintro n m H' ⟨rfl, hj, G2, acc, ys, rest, x2, w2, r2, hacc, go, rfl⟩
  have fDx : ∀ acc : List V, Ex F (upd F D (.lst acc)) := fun acc a o z => by
    rw [upd_ne (fun y => by rw [y, fd.2] at z; cases z)]
    exact z
  by_cases hlt : n < xs.length
  · obtain ⟨x, hx⟩ : ∃ x, xs[n]? = some x := ⟨xs[n], List.getElem?_eq_getElem hlt⟩
    obtain ⟨hgo, hyl⟩ := (wl (upd F D (.lst acc)) G2 H' x2 w2 n).1 x hx
    have hdrop : xs.drop n = x :: xs.drop (n + 1) := by
      rw [List.drop_eq_getElem_cons hlt]
      have : xs[n] = x := Option.some.inj ((List.getElem?_eq_getElem hlt).symm.trans hx)
      rw [this]
    rw [hdrop] at go
    unfold lcGo at go
    refine .inr ⟨hgo, fun H3 => ∃ G2 acc ys rest', Ex G1 G2 ∧ W (upd F D (.lst acc)) G2 H3 ∧ PySem.Paired (rep K G2) ys acc ∧ acc.length ≤ n + 1 ∧
      lcGo (fun x => t (p2.put (p1.put γ x.a) x.b)) (fun x => e (p2.put (p1.put γ x.a) x.b)) (xs.drop (n + 1)) = some rest' ∧ _ = ys ++ rest', fun H3 z => ⟨xs.length - (n + 1), by omega, rfl, hlt, z⟩, fun xv H3 hy => ?_⟩
    obtain ⟨G3, x3, w3, p, va, vb, h1, h2, h3, h4⟩ := hyl xv H3 hy
    refine ⟨p, [va, vb], h1, .inl (.inl (w3.g _ _ h2)), rfl, va, [vb], rfl, vb, [], rfl, rfl, wipe2' hij, ?_⟩
    rw [wipe2 hij]
    have er3 : er K G3 (upd F D (.lst acc)) L ((σ.set i (some va)).set j (some vb)) (p2.put (p1.put γ x.a) x.b) := p2.ok (p1.ok (EnvR.keep (fun q hq => upd_ne (nD q hq)) (EnvR.mono ((x1.trans x2).trans x3) he)) h3) h4
    cases et : t (p2.put (p1.put γ x.a) x.b) with
    | none =>
      rw [et] at go
      cases go
    | some b =>
      rw [et] at go
      simp only [Option.bind_some] at go
      refine ⟨_, G3, L, _, b, w3, er3, et, fun G4 H4 x4 w4 => ?_⟩
      cases b with
      | false =>
        simp only [Bool.false_eq_true, if_false] at go ⊢
        exact ⟨G4, acc, ys, rest, (x2.trans x3).trans x4, w4, Paired.mono (fun _ _ z => Rep.mono (x3.trans x4) z) r2, by omega, go, rfl⟩
      | true =>
        simp only [if_true] at go ⊢
        cases ee : e (p2.put (p1.put γ x.a) x.b) with
        | none =>
          rw [ee] at go
          cases go
        | some y =>
          rw [ee] at go
          simp only [Option.bind_some] at go
          cases eg : lcGo (fun x => t (p2.put (p1.put γ x.a) x.b)) (fun x => e (p2.put (p1.put γ x.a) x.b)) (xs.drop (n + 1)) with
          | none =>
            rw [eg] at go
            cases go
          | some rest' =>
            rw [eg] at go
            simp only [Option.map_some] at go
            cases go
            refine ⟨_, G4, L, _, y, w4, EnvR.mono x4 er3, ee, fun yv G5 H5 x5 w5 ry => ?_⟩
            refine ⟨acc, w5.f _ _ upd_same, Nat.lt_of_lt_of_le (Nat.lt_of_le_of_lt hacc (Nat.lt_of_lt_of_le hlt hlen)) line_ge, G5, acc ++ [yv], ys ++ [y], rest', ((x2.trans x3).trans x4).trans x5, ?_,
              paired_app (Paired.mono (fun _ _ z => Rep.mono ((x3.trans x4).trans x5) z) r2) (.cons ry .nil), ?_, (by first | exact eg | rfl), ?_⟩
            · have := w5.set (u := .lst (acc ++ [yv])) upd_same
              rw [upd_upd] at this
              exact this
            · rw [List.length_append, List.length_singleton]
              omega
            · rw [List.append_assoc]
              rfl
  · have hn' : n = xs.length := by omega
    subst hn'
    rw [List.drop_length] at go
    unfold lcGo at go
    cases go
    refine .inl ⟨(wl (upd F D (.lst acc)) G2 H' x2 w2 xs.length).2 (Nat.le_refl _), ?_⟩
    rw [List.append_nil] at q
    exact q _ G2 H' (x1.trans x2) (w2.less (fDx acc)) ⟨D, acc, rfl, fd.2, w2.d D _ upd_same, w2.f _ _ upd_same, r2⟩
variable {X : Cx} {elt iter : Expr} {ifs : List Expr} {scope : Scope} {pos tpos px py : Pos} {x y : Str} {k0 : Nat}
theorem vf_lcp_ (p1 : Put i Γ α1 Γ1) (p2 : Put j Γ1 α2 Γe) {g : Γ → Option (List (T2 α1 α2))} {t : Γe → Option Bool} {e : Γe → Option α} {fr : Γ → Option (List α)} (efr : flcp p1 p2 g t e = fr) (hc : X.calm = true) (hN : X.N.Nodup) (hi : VI X (.Tuple [.Name x px, .Name y py] k0 tpos) iter g) (ok : blkC X.N X.env.scope scope [(x, i), (y, j)] = true)
    (hg : ∀ (s : Shared) (H : Hp) (C : Addr) (cl : List (Str × Addr)) (fp : List Addr), PG (X.blk s H scope (compEnvC scope cl C X.env) fp) (.Tuple [.Name x px, .Name y py] k0 tpos) (gPair X.K i j))
    (ht : ∀ (s : Shared) (H : Hp) (C : Addr) (cl : List (Str × Addr)) (fp : List Addr), VTs (X.blk s H scope (compEnvC scope cl C X.env) fp) ifs t)
    (he : ∀ (s : Shared) (H : Hp) (C : Addr) (cl : List (Str × Addr)) (fp : List Addr), VE (X.blk s H scope (compEnvC scope cl C X.env) fp) elt e) (hij : i ≠ j := by decide) (hs : ∀ x, foldedSetIterable iter X.env x = pure x := by intro _; rfl) :
    VF X (.ListComp elt [⟨.Tuple [.Name x px, .Name y py] k0 tpos, iter, ifs, 0⟩] scope pos) fr := by
  subst efr
  exact PE.le (pe_lc (own := [(x, i), (y, j)]) (g := gPair X.K i j) hc hN hi (blkOk_by ok) hg ht he hs) fun σ H Q h => tlcpP hij h
end
end Vx
/-! three names at once -/
namespace Vx
open Rep (rep)
open EnvR (er)
open PySem PySem.Spec PyProof.Rows L2
end Vx
/-! len of an object of the class that has its own word for it -/
namespace Vx
open Rep (rep)
open EnvR (er)
open PySem PySem.Spec PyProof.Rows L2
end Vx
/-! dicts of one's own: locked while they are walked, made of pairs -/
namespace Vx
open Rep (rep)
open EnvR (er)
open PySem PySem.Spec PyProof.Rows L2
structure Lk (β : Type) where
  l : List (Key × β)
instance {β : Type} [Rep β] : Rep (Lk β) := ⟨fun K G x v => ∃ p od kvs, v = .ref p ∧ G p = some (.frz od (.dK kvs)) ∧ PySem.Paired (RK K G) x.l kvs,
  fun e ⟨p, od, kvs, h1, h2, h3⟩ => ⟨p, od, kvs, h1, e _ _ h2, rk_mono e h3⟩⟩
/-- values that lean on no locked thing -/
class NoF (α : Type) [Rep α] : Prop where
  off : ∀ {K : PySem.W.Frag} {G : Hp} {q : Addr} {od : Obj} {u : HO} {a : α} {v : V}, G q = some (.frz od u) → rep K G a v → rep K (del G q) a v
instance : NoF Int := ⟨fun _ h => h⟩
instance : NoF Bool := ⟨fun _ h => h⟩
instance : NoF Str := ⟨fun _ h => h⟩
instance {α β : Type} [Rep α] [Rep β] [NoF α] [NoF β] : NoF (T2 α β) := ⟨fun {K G q od u a v} hq ⟨p, va, vb, h1, h2, h3, h4⟩ => ⟨p, va, vb, h1, by
  rw [del_ne (fun z => by rw [z, hq] at h2; cases h2)]
  exact h2, NoF.off hq h3, NoF.off hq h4⟩⟩
/-! dict(pairs) -/
def RFd (K : PySem.W.Frag) {β : Type} [Rep β] : RR (List (Key × β)) := fun F G H xs v => ∃ p ks, v = .ref p ∧ F p = none ∧ G p = none ∧ H p = some (.dK ks) ∧ PySem.Paired (RK K G) xs ks
section
variable {Γ Γ' S ρ β : Type} [EnvR Γ] [EnvR Γ'] [Md S] [Rep β] {X : Cx} {R : RR ρ} {e : Expr} {pos : Pos} {i : Nat}
def toD (d : List (Key × β)) : Option (Dct β) := some ⟨d⟩
theorem W.give {F G H : Hp} {q : Addr} {o : HO} (w : W F G H) (hF : F q = none) (hG : G q = none) (hH : H q = some o) : W F (upd G q o) H := ⟨fun b u hb => by
  by_cases c : b = q
  · subst c
    rw [upd_same] at hb
    rw [hH]
    exact hb
  · rw [upd_ne c] at hb
    exact w.g b u hb, w.f, fun b u hb => by
  by_cases c : b = q
  · rw [c, hF] at hb
    cases hb
  · rw [upd_ne c]
    exact w.d b u hb⟩
theorem VF.upd {f : Γ → Option (List (Key × β))} (h : VO X e (RFd X.K) f) : VE X e (f1 toD f) := PE.le h fun σ H Q ⟨F, G, L, γ, a, w, he, ea, q⟩ => by
  unfold f1 at ea
  cases e1 : f γ with
  | none => rw [e1] at ea; cases ea
  | some y =>
    rw [e1] at ea
    cases ea
    refine ⟨F, G, L, γ, y, w, he, e1, fun v G2 H2 x2 w2 ⟨p, ks, h1, h2, h3, h4, h5⟩ => ?_⟩
    exact q v _ H2 (x2.trans (Ex.upd h3)) (W.give w2 h2 h3 h4) ⟨p, ks, h1, upd_same, rk_mono (Ex.upd h3) h5⟩
end
/-! {0: 0, 1: 1, 2: 2, 3: 3} -/
end Vx
/-! [e for x, y in pairs if ..], the pairs made with draws; x, y = [..], v by a tuple -/
namespace Vx
open Rep (rep)
open EnvR (er)
open PySem PySem.Spec PyProof.Rows L2
section
variable {Γ : Type} [EnvR Γ] {α α1 α2 : Type} [Rep α1] [Rep α2] [Rep α] {i j : Nat} {Γ1 Γe : Type} [EnvR Γ1] [EnvR Γe]
def flcpm (p1 : Put i Γ α1 Γ1) (p2 : Put j Γ1 α2 Γe) (g : Γ → Option (List (T2 α1 α2) × Γ)) (t : Γe → Option Bool) (e : Γe → Option α) : Γ → Option (List α × Γ) := fun γ => (g γ).bind fun (xs, γ) => if xs.length ≤ 100000 then (lcGo (fun x => t (p2.put (p1.put γ x.a) x.b)) (fun x => e (p2.put (p1.put γ x.a) x.b)) xs).map (·, γ) else none
/-- the turns of a comprehension that changes nothing -/
theorem tlcpPM (hij : i ≠ j) {K : PySem.W.Frag} {p1 : Put i Γ α1 Γ1} {p2 : Put j Γ1 α2 Γe} {g : Γ → Option (List (T2 α1 α2) × Γ)} {t : Γe → Option Bool} {e : Γe → Option α} {σ : L2.St} {H : Hp} {Q : VK} (h : tem K (RF K) (flcpm p1 p2 g t e) σ H Q) :
    tLc (tim K g) (gPair K i j) (tet K t) (tev K (RE K) e) [i, j] σ H Q := by
  obtain ⟨F0, G0, L, γ0, zs, γ, w0, he0, ea, q⟩ := h
  unfold flcpm at ea
  cases e0 : g γ0 with
  | none => rw [e0] at ea; cases ea
  | some y =>
  obtain ⟨xs, γ1⟩ := y
  rw [e0] at ea
  simp only [Option.bind_some] at ea
  split at ea
  case isFalse => cases ea
  rename_i hlen
  cases ez : lcGo (fun x => t (p2.put (p1.put γ1 x.a) x.b)) (fun x => e (p2.put (p1.put γ1 x.a) x.b)) xs with
  | none => rw [ez] at ea; cases ea
  | some zs' =>
  rw [ez] at ea
  simp only [Option.map_some] at ea
  cases ea
  have ea := ez
  refine ⟨F0, G0, L, γ0, xs, γ, w0, he0, e0, fun J F G1 H1 x1 w1 off he wl D hD => ?_⟩
  have fd := w1.fresh hD
  have nD : ∀ q ∈ L, q ≠ D := fun q hq z => EnvR.there he q hq (by rw [z]; exact fd.2)
  refine ⟨fun n m H' => m = xs.length - n ∧ n ≤ xs.length ∧ ∃ G2 acc ys rest, Ex G1 G2 ∧ W (upd F D (.lst acc)) G2 H' ∧ PySem.Paired (rep K G2) ys acc ∧ acc.length ≤ n ∧
      lcGo (fun x => t (p2.put (p1.put γ x.a) x.b)) (fun x => e (p2.put (p1.put γ x.a) x.b)) (xs.drop n) = some rest ∧ zs = ys ++ rest, ⟨xs.length, by simp, Nat.zero_le _, G1, [], [], zs, Ex.refl _, w1.own hD, .nil, Nat.zero_le _, ea, rfl⟩, ?_⟩
  rintro n m H' ⟨rfl, hj, G2, acc, ys, rest, x2, w2, r2, hacc, go, rfl⟩
  have fDx : ∀ acc : List V, Ex F (upd F D (.lst acc)) := fun acc a o z => by
    rw [upd_ne (fun y => by rw [y, fd.2] at z; cases z)]
    exact z
  by_cases hlt : n < xs.length
  · obtain ⟨x, hx⟩ : ∃ x, xs[n]? = some x := ⟨xs[n], List.getElem?_eq_getElem hlt⟩
    obtain ⟨hgo, hyl⟩ := (wl (upd F D (.lst acc)) G2 H' x2 w2 n).1 x hx
    have hdrop : xs.drop n = x :: xs.drop (n + 1) := by
      rw [List.drop_eq_getElem_cons hlt]
      have : xs[n] = x := Option.some.inj ((List.getElem?_eq_getElem hlt).symm.trans hx)
      rw [this]
    rw [hdrop] at go
    unfold lcGo at go
    refine .inr ⟨hgo, fun H3 => ∃ G2 acc ys rest', Ex G1 G2 ∧ W (upd F D (.lst acc)) G2 H3 ∧ PySem.Paired (rep K G2) ys acc ∧ acc.length ≤ n + 1 ∧
      lcGo (fun x => t (p2.put (p1.put γ x.a) x.b)) (fun x => e (p2.put (p1.put γ x.a) x.b)) (xs.drop (n + 1)) = some rest' ∧ _ = ys ++ rest', fun H3 z => ⟨xs.length - (n + 1), by omega, rfl, hlt, z⟩, fun xv H3 hy => ?_⟩
    obtain ⟨G3, x3, w3, p, va, vb, h1, h2, h3, h4⟩ := hyl xv H3 hy
    refine ⟨p, [va, vb], h1, .inl (.inl (w3.g _ _ h2)), rfl, va, [vb], rfl, vb, [], rfl, rfl, wipe2' hij, ?_⟩
    rw [wipe2 hij]
    have er3 : er K G3 (upd F D (.lst acc)) L ((σ.set i (some va)).set j (some vb)) (p2.put (p1.put γ x.a) x.b) := p2.ok (p1.ok (EnvR.keep (fun q hq => upd_ne (nD q hq)) (EnvR.mono (x2.trans x3) he)) h3) h4
    cases et : t (p2.put (p1.put γ x.a) x.b) with
    | none =>
      rw [et] at go
      cases go
    | some b =>
      rw [et] at go
      simp only [Option.bind_some] at go
      refine ⟨_, G3, L, _, b, w3, er3, et, fun G4 H4 x4 w4 => ?_⟩
      cases b with
      | false =>
        simp only [Bool.false_eq_true, if_false] at go ⊢
        exact ⟨G4, acc, ys, rest, (x2.trans x3).trans x4, w4, Paired.mono (fun _ _ z => Rep.mono (x3.trans x4) z) r2, by omega, go, rfl⟩
      | true =>
        simp only [if_true] at go ⊢
        cases ee : e (p2.put (p1.put γ x.a) x.b) with
        | none =>
          rw [ee] at go
          cases go
        | some y =>
          rw [ee] at go
          simp only [Option.bind_some] at go
          cases eg : lcGo (fun x => t (p2.put (p1.put γ x.a) x.b)) (fun x => e (p2.put (p1.put γ x.a) x.b)) (xs.drop (n + 1)) with
          | none =>
            rw [eg] at go
            cases go
          | some rest' =>
            rw [eg] at go
            simp only [Option.map_some] at go
            cases go
            refine ⟨_, G4, L, _, y, w4, EnvR.mono x4 er3, ee, fun yv G5 H5 x5 w5 ry => ?_⟩
            refine ⟨acc, w5.f _ _ upd_same, Nat.lt_of_lt_of_le (Nat.lt_of_le_of_lt hacc (Nat.lt_of_lt_of_le hlt hlen)) line_ge, G5, acc ++ [yv], ys ++ [y], rest', ((x2.trans x3).trans x4).trans x5, ?_,
              paired_app (Paired.mono (fun _ _ z => Rep.mono ((x3.trans x4).trans x5) z) r2) (.cons ry .nil), ?_, (by first | exact eg | rfl), ?_⟩
            · have := w5.set (u := .lst (acc ++ [yv])) upd_same
              rw [upd_upd] at this
              exact this
            · rw [List.length_append, List.length_singleton]
              omega
            · rw [List.append_assoc]
              rfl
  · have hn' : n = xs.length := by omega
    subst hn'
    rw [List.drop_length] at go
    unfold lcGo at go
    cases go
    refine .inl ⟨(wl (upd F D (.lst acc)) G2 H' x2 w2 xs.length).2 (Nat.le_refl _), ?_⟩
    rw [List.append_nil] at q
    exact q _ F G2 H' (x1.trans x2) (w2.less (fDx acc)) off (EnvR.mono x2 he) ⟨D, acc, rfl, fd.2, w2.d D _ upd_same, w2.f _ _ upd_same, r2⟩
variable {X : Cx} {elt iter : Expr} {ifs : List Expr} {scope : Scope} {pos tpos px py : Pos} {x y : Str} {k0 : Nat}
theorem mf_lcpm_ (p1 : Put i Γ α1 Γ1) (p2 : Put j Γ1 α2 Γe) {g : Γ → Option (List (T2 α1 α2) × Γ)} {t : Γe → Option Bool} {e : Γe → Option α} {fr : Γ → Option (List α × Γ)} (efr : flcpm p1 p2 g t e = fr) (hc : X.calm = true) (hN : X.N.Nodup) (hi : MI X (.Tuple [.Name x px, .Name y py] k0 tpos) iter g) (ok : blkC X.N X.env.scope scope [(x, i), (y, j)] = true)
    (hg : ∀ (s : Shared) (H : Hp) (C : Addr) (cl : List (Str × Addr)) (fp : List Addr), PG (X.blk s H scope (compEnvC scope cl C X.env) fp) (.Tuple [.Name x px, .Name y py] k0 tpos) (gPair X.K i j))
    (ht : ∀ (s : Shared) (H : Hp) (C : Addr) (cl : List (Str × Addr)) (fp : List Addr), VTs (X.blk s H scope (compEnvC scope cl C X.env) fp) ifs t)
    (he : ∀ (s : Shared) (H : Hp) (C : Addr) (cl : List (Str × Addr)) (fp : List Addr), VE (X.blk s H scope (compEnvC scope cl C X.env) fp) elt e) (hij : i ≠ j := by decide) (hs : ∀ x, foldedSetIterable iter X.env x = pure x := by intro _; rfl) :
    MO X (.ListComp elt [⟨.Tuple [.Name x px, .Name y py] k0 tpos, iter, ifs, 0⟩] scope pos) (RF X.K) fr := by
  subst efr
  exact PE.le (pe_lc (own := [(x, i), (y, j)]) (g := gPair X.K i j) hc hN hi (blkOk_by ok) hg ht he hs) fun σ H Q h => tlcpPM hij h
end
end Vx
/-! -1; min of a list -/
namespace Vx
open Rep (rep)
open EnvR (er)
open PySem PySem.Spec PyProof.Rows L2
end Vx
/-! a tuple is not None -/
namespace Vx
open Rep (rep)
open EnvR (er)
open PySem PySem.Spec PyProof.Rows L2
instance {α : Type} [Rep α] : NN (Tup α) := ⟨fun ⟨p, vs, h, _⟩ => by rw [h]; exact fun z => V.noConfusion z⟩
instance {α β : Type} [Rep α] [Rep β] : NN (T2 α β) := ⟨fun ⟨p, va, vb, h, _⟩ => by rw [h]; exact fun z => V.noConfusion z⟩
end Vx
/-! what all comprehensions have in common: the way into the block, a turn's end, the way out of it -/
namespace Vx
open Rep (rep)
open EnvR (er)
open PySem PySem.Spec PyProof.Rows L2
end Vx
/-! a comprehension over a text whose letter is struck out by text.replace(letter, ""): the letter's token is known -/
namespace Vx
open Rep (rep)
open EnvR (er)
open PySem PySem.Spec PyProof.Rows L2
end Vx
/-! the same with mirrors -/
namespace Vx
open Rep (rep)
open EnvR (er)
open PySem PySem.Spec PyProof.Rows L2
end Vx
/-! pair[0].replace(letter, "") where the letter goes through pair[0] -/
namespace Vx
open Rep (rep)
open EnvR (er)
open PySem PySem.Spec PyProof.Rows L2
end Vx
/-! {text for x in ..}, and sorted of it -/
namespace Vx
open Rep (rep)
open EnvR (er)
open PySem PySem.Spec PyProof.Rows L2 PpSet
end Vx
namespace Vx
open Rep (rep)
open EnvR (er)
open PySem PySem.Spec PyProof.Rows L2 PpSet
end Vx
/-! own.pop() -/
namespace Vx
open Rep (rep)
open EnvR (er)
open PySem PySem.Spec PyProof.Rows L2
end Vx
/-! list.count of a text -/
namespace Vx
open Rep (rep)
open EnvR (er)
open PySem PySem.Spec PyProof.Rows L2
end Vx
/-! max of a list of plain data -/
namespace Vx
open Rep (rep)
open EnvR (er)
open PySem PySem.Spec PyProof.Rows L2
end Vx
/-! an own dict that changes no more; a closer is not None -/
namespace Vx
open Rep (rep)
open EnvR (er)
open PySem PySem.Spec PyProof.Rows L2
instance : NN Clo := ⟨fun ⟨p, C, dx, vc, va, h, _⟩ => by rw [h]; exact fun z => V.noConfusion z⟩
end Vx
/-! {k: v for x in iter} as a dict of one's own -/
namespace Vx
open Rep (rep)
open EnvR (er)
open PySem PySem.Spec PyProof.Rows L2
end Vx
/-! the class Table, as Closer -/
namespace Vx
open Rep (rep)
open EnvR (er)
open PySem PySem.Spec PyProof.Rows L2
structure Tbl where
  things : Str
  rows : Tup Str
def TbAt (K : PySem.W.Frag) (C : Addr) : Prop := PySem.W.nsIn K mainGlobals "Table" = some (some (.ref C))
theorem TbAt.one {K : PySem.W.Frag} {C C' : Addr} (h : TbAt K C) (k : TbAt K C') : C = C' := by
  unfold TbAt at h k
  rw [h] at k
  cases k
  rfl
/-- the fields, as __init__ lays them -/
def tfl (a b : V) : List (Str × V) := putF "_rows" b (putF "_things" a [])
theorem tf_ne1 : ¬ (("_things" : Str) = "_rows") := by decide +kernel
theorem tfl_t (a b : V) : (tfl a b).lookup ("_things" : Str) = some a := by
  unfold tfl
  rw [lookup_putF, if_neg tf_ne1, lookup_putF, if_pos rfl]
theorem tfl_r (a b : V) : (tfl a b).lookup ("_rows" : Str) = some b := by
  unfold tfl
  rw [lookup_putF, if_pos rfl]
instance : Rep Tbl := ⟨fun K G c v => ∃ p C dx vc, v = .ref p ∧ TbAt K C ∧ G p = some (.ins C dx (tfl (.str c.things) vc)) ∧ Rep.rep K G c.rows vc,
  fun e ⟨p, C, dx, vc, h1, h2, h3, h4⟩ => ⟨p, C, dx, vc, h1, h2, e _ _ h3, Rep.mono e h4⟩⟩
instance : NN Tbl := ⟨fun ⟨p, C, dx, vc, h, _⟩ => by rw [h]; exact fun z => V.noConfusion z⟩
section
variable {Γ : Type} [EnvR Γ] {X : Cx} {e : Expr} {pos : Pos} {C : Addr}
theorem ve_tT {f : Γ → Option Tbl} (h : VE X e f) (at_ : TbAt X.K C) (c : Cls X.K C) (n : NoAttr X.K C "_things") (hb : attributeBase e "_things" X.env (eval e X.env) = eval e X.env := by rfl) : VE X (.Attribute e "_things" pos) (f1 (fun c => some c.things) f) :=
  PE.le (pe_fld h hb) fun σ H Q ⟨F, G, L, γ, z, w, he, ea, q⟩ => by
    unfold f1 at ea
    cases e1 : f γ with
    | none => rw [e1] at ea; cases ea
    | some y =>
      rw [e1] at ea
      cases ea
      refine ⟨F, G, L, γ, y, w, he, e1, fun v G2 H2 x2 w2 ⟨p, C', dx, vc, h1, h2, h3, h4⟩ => ?_⟩
      have := at_.one h2
      subst this
      exact ⟨p, C, dx, _, _, h1, w2.g _ _ h3, c, n, tfl_t _ _, q _ G2 H2 x2 w2 rfl⟩
theorem ve_tR {f : Γ → Option Tbl} (h : VE X e f) (at_ : TbAt X.K C) (c : Cls X.K C) (n : NoAttr X.K C "_rows") (hb : attributeBase e "_rows" X.env (eval e X.env) = eval e X.env := by rfl) : VE X (.Attribute e "_rows" pos) (f1 (fun c => some c.rows) f) :=
  PE.le (pe_fld h hb) fun σ H Q ⟨F, G, L, γ, z, w, he, ea, q⟩ => by
    unfold f1 at ea
    cases e1 : f γ with
    | none => rw [e1] at ea; cases ea
    | some y =>
      rw [e1] at ea
      cases ea
      refine ⟨F, G, L, γ, y, w, he, e1, fun v G2 H2 x2 w2 ⟨p, C', dx, vc, h1, h2, h3, h4⟩ => ?_⟩
      have := at_.one h2
      subst this
      exact ⟨p, C, dx, _, _, h1, w2.g _ _ h3, c, n, tfl_r _ _, q _ G2 H2 x2 w2 h4⟩
variable {ρ A : Type} [Rep ρ] [RepL A] {k : Nat} {g pq fm : Addr} {fd : FuncData} {ps : List Str} {m : Str}
/-- a property, by its mirror -/
theorem ve_tprop {f : Γ → Option Tbl} {mi : Tbl × Unit → Option ρ} (h : VE X e f) (at_ : TbAt X.K C) (c : Cls X.K C) (hp : PropOf X.K C m pq g) (F : GnOk X.prog X.w X.K X.mg X.base k g fd ps (spF X.K mi)) (hgd : X.A.guards = some []) (hr : Room (k + 1) X.A) (hb : Binds X.K fd ps [])
    (hab : attributeBase e m X.env (eval e X.env) = eval e X.env := by rfl) : VE X (.Attribute e m pos) (f1 (fun c => mi (c, ())) f) :=
  PE.le (ge_prop h c hp F hgd hr hb hab) fun σ H Q ⟨F, G, L, γ, z, w, he, ea, q⟩ => by
    unfold f1 at ea
    cases e1 : f γ with
    | none => rw [e1] at ea; cases ea
    | some y =>
      rw [e1] at ea
      refine ⟨F, G, L, γ, y, w, he, e1, fun v G2 H2 x2 w2 r2 => ?_⟩
      obtain ⟨p, C', dx, vc, h1, h2, h3, h4⟩ := id r2
      have := at_.one h2
      subst this
      subst h1
      exact ⟨p, dx, _, rfl, w2.g _ _ h3, F, G2, (y, ()), z, w2, ⟨_, [], rfl, r2, rfl⟩, ea, fun v G3 H3 x3 w3 r3 => q v G3 H3 (x2.trans x3) w3 r3⟩
end
structure TI0 where
  p : Addr
structure TI1 where
  p : Addr
  things : Str
structure TI2 where
  p : Addr
  c : Tbl
instance : Slot TI0 := ⟨fun K G F L o t => ∃ C dx, L = [t.p] ∧ o = some (.ref t.p) ∧ TbAt K C ∧ F t.p = some (.ins C dx []), fun _ h => h, fun {K G F F' L o t} k ⟨C, dx, h1, h2, h3, h4⟩ => ⟨C, dx, h1, h2, h3, by rw [k t.p (by rw [h1]; exact List.mem_singleton.mpr rfl)]; exact h4⟩, fun ⟨C, dx, h1, h2, h3, h4⟩ q hq => by
  rw [in_one h1 hq, h4]
  exact fun z => by cases z⟩
instance : Slot TI1 := ⟨fun K G F L o t => ∃ C dx, L = [t.p] ∧ o = some (.ref t.p) ∧ TbAt K C ∧ F t.p = some (.ins C dx (putF "_things" (.str t.things) [])), fun _ h => h, fun {K G F F' L o t} k ⟨C, dx, h1, h2, h3, h4⟩ => ⟨C, dx, h1, h2, h3, by rw [k t.p (by rw [h1]; exact List.mem_singleton.mpr rfl)]; exact h4⟩, fun ⟨C, dx, h1, h2, h3, h4⟩ q hq => by
  rw [in_one h1 hq, h4]
  exact fun z => by cases z⟩
instance : Slot TI2 := ⟨fun K G F L o t => ∃ C dx vc, L = [t.p] ∧ o = some (.ref t.p) ∧ TbAt K C ∧ F t.p = some (.ins C dx (tfl (.str t.c.things) vc)) ∧ Rep.rep K G t.c.rows vc, fun e ⟨C, dx, vc, h1, h2, h3, h4, h5⟩ => ⟨C, dx, vc, h1, h2, h3, h4, Rep.mono e h5⟩,
  fun {K G F F' L o t} k ⟨C, dx, vc, h1, h2, h3, h4, h5⟩ => ⟨C, dx, vc, h1, h2, h3, by rw [k t.p (by rw [h1]; exact List.mem_singleton.mpr rfl)]; exact h4, h5⟩, fun ⟨C, dx, vc, h1, h2, h3, h4, h5⟩ q hq => by
  rw [in_one h1 hq, h4]
  exact fun z => by cases z⟩
/-- what __init__ promises -/
def tpI {A : Type} [RepL A] (K : PySem.W.Frag) (m : A → Option Tbl) : Sp := fun vs H Q _ => ∃ F G y vs' C dx a r, vs = .ref y :: vs' ∧ W F G H ∧ TbAt K C ∧ F y = some (.ins C dx []) ∧ RepL.rl K G a vs' ∧ m a = some r ∧
  ∀ dx2 vc F2 G2 H2, Ex G G2 → W F2 G2 H2 → F2 y = some (.ins C dx2 (tfl (.str r.things) vc)) → Rep.rep K G2 r.rows vc → (∀ b o, b ≠ y → F b = some o → F2 b = some o) → Q .non H2
section
variable {X : Cx} {A Γ : Type} [RepL A] [EnvR Γ] {k : Nat} {f C : Addr} {fd : FuncData} {ps : List Str} {x : Str} {p pos : Pos} {e : Expr} {es : List Expr}
theorem ve_tmake {m : A → Option Tbl} {g : Γ → Option A} (M : Mk X.K C f) (at_ : TbAt X.K C) (F : GnOk X.prog X.w X.K X.mg X.base k f fd ps (tpI X.K m)) (hgd : X.A.guards = some []) (hr : Room (k + 1) X.A) (hm : X.mg x = some (.ref C)) (hb : Binds X.K fd ps []) (ha : VA X (e :: es) g) (hg : Gl X x := by rfl)
    (hdb : (x == ("__debug__" : Str)) = false := by decide) (he : starEach (e :: es) X.env = (false, eval e X.env) :: starEach es X.env := by rfl) (hpl : (backTo pos (starEach es X.env)).any (·.1) = false := by rfl) : VE X (.Call (.Name x p) (e :: es) [] pos) (f1 m g) :=
  PE.le (ge_make M F hgd hr hm hb ha hg hdb he hpl) fun σ H Q ⟨F, G, L, γ, z, w, hh, ea, q⟩ => by
    unfold f1 at ea
    cases e1 : g γ with
    | none => rw [e1] at ea; cases ea
    | some a =>
      rw [e1] at ea
      refine ⟨F, G, L, γ, a, w, hh, e1, fun vs G2 H2 x2 w2 r2 y dx hy hd hne => ?_⟩
      have fy := w2.fresh hy
      have fdx := w2.fresh hd
      have w3 : W F G2 (upd H2 dx (.own y)) := ⟨w2.g.trans (Ex.upd hd), w2.f.trans (Ex.upd hd), w2.d⟩
      have hy3 : (upd H2 dx (.own y)) y = none := by rw [upd_ne (Ne.symm hne)]; exact hy
      have w4 := w3.own (o := HO.ins C dx []) hy3
      refine ⟨upd F y (.ins C dx []), G2, y, vs, C, dx, a, z, rfl, w4, at_, upd_same, r2, ea, fun dx2 vc F5 G5 H5 x5 w5 h5 hc off => ⟨rfl, ?_⟩⟩
      have gy : G5 y = none := w5.d y _ h5
      have ex := Ex.upd (o := HO.ins C dx2 (tfl (.str z.things) vc)) gy
      have w6 : W F (upd G5 y (.ins C dx2 (tfl (.str z.things) vc))) H5 := (w5.free h5).less fun b o u => by
        have hby : b ≠ y := fun q => by
          rw [q, fy.2] at u
          cases u
        rw [del_ne hby]
        exact off b o hby (by rw [upd_ne hby]; exact u)
      exact q _ _ _ ((x2.trans x5).trans ex) w6 ⟨y, C, dx2, vc, rfl, at_, upd_same, Rep.mono ex hc⟩
end
section
variable {Γ Γ' ρ : Type} [EnvR Γ] [EnvR Γ'] {X : Cx} {R : RR ρ} {value : Expr} {pos p1 p2 : Pos} {C : Addr} {x : Str}
def st1 (f : TI0 × Γ → Option Str) : TI0 × Γ → Option (Fl (TI1 × Γ) Unit ρ) := fun γ => (f γ).map fun v => .nx ((⟨γ.1.p, v⟩ : TI1), γ.2)
theorem vs_t1 {f : TI0 × Γ → Option Str} {fr : TI0 × Γ → Option (Fl (TI1 × Γ) Unit ρ)} (efr : st1 f = fr) (at_ : TbAt X.K C) (c : Cls X.K C) (n : NoAttr X.K C "_things") (hv : VE X value f) (hN : X.N[0]? = some x := by rfl) (hvs : Vis X.env.scope x := by first | exact Or.inl rfl | exact Or.inr (Or.inl rfl) | exact Or.inr (Or.inr rfl)) (hd : (x == ("__debug__" : Str)) = false := by decide)
    (hcd : (x == ("__classdict__" : Str)) = false := by decide) (hs : swapsWith value (some (.Attribute (.Name x p1) "_things" p2)) pos.line X.env = pure false := by rfl) : VS X Unit R (.Assign [.Attribute (.Name x p1) "_things" p2] value pos) fr := by
  subst efr
  exact PS.le (ps_fld (pe_var hN hvs hd hcd) hv hs) fun D σ H ⟨F, G, L, γ, p, r, wd, nd, he, ha, ea, k⟩ => by
    unfold st1 at ea
    cases e1 : f γ with
    | none => rw [e1] at ea; cases ea
    | some y =>
      rw [e1] at ea
      cases ea
      refine ⟨F, G, L, γ, y, wd, he, e1, fun v G2 H2 x2 w2 r2 => ?_⟩
      obtain ⟨L1, L2, o, σ', hL, hσ, ⟨C', dx, h1, h2, h3, h4⟩, h5, h6⟩ := EnvR.mono x2 he
      have := at_.one h3
      subst this
      have hp : γ.1.p ∉ L2 := h6 _ (by rw [h1]; exact List.mem_singleton.mpr rfl)
      refine ⟨.ref γ.1.p, by rw [hσ, h2]; rfl, γ.1.p, C, dx, _, rfl, w2.f _ _ h4, c, n, show 0 < 1000 by decide, ?_⟩
      refine k σ L _ G2 _ x2 (w2.set h4) nd (fun b u hb e => by rw [upd_ne (fun z => hb (by rw [z, hL, h1]; exact List.mem_append_left _ (List.mem_singleton.mpr rfl)))]; exact e) Sub.refl ?_ ha
      exact ⟨L1, L2, o, σ', hL, hσ, ⟨C, dx, h1, h2, h3, by cases r2; exact upd_same⟩, EnvR.keep (fun b hb => upd_ne (fun z => hp (by rw [← z]; exact hb))) h5, h6⟩
def st2 (f : TI1 × Γ → Option (Tup Str)) : TI1 × Γ → Option (Fl (TI2 × Γ) Unit ρ) := fun γ => (f γ).map fun v => .nx ((⟨γ.1.p, ⟨γ.1.things, v⟩⟩ : TI2), γ.2)
theorem vs_t2 {f : TI1 × Γ → Option (Tup Str)} {fr : TI1 × Γ → Option (Fl (TI2 × Γ) Unit ρ)} (efr : st2 f = fr) (at_ : TbAt X.K C) (c : Cls X.K C) (n : NoAttr X.K C "_rows") (hv : VE X value f) (hN : X.N[0]? = some x := by rfl) (hvs : Vis X.env.scope x := by first | exact Or.inl rfl | exact Or.inr (Or.inl rfl) | exact Or.inr (Or.inr rfl)) (hd : (x == ("__debug__" : Str)) = false := by decide)
    (hcd : (x == ("__classdict__" : Str)) = false := by decide) (hs : swapsWith value (some (.Attribute (.Name x p1) "_rows" p2)) pos.line X.env = pure false := by rfl) : VS X Unit R (.Assign [.Attribute (.Name x p1) "_rows" p2] value pos) fr := by
  subst efr
  exact PS.le (ps_fld (pe_var hN hvs hd hcd) hv hs) fun D σ H ⟨F, G, L, γ, p, r, wd, nd, he, ha, ea, k⟩ => by
    unfold st2 at ea
    cases e1 : f γ with
    | none => rw [e1] at ea; cases ea
    | some y =>
      rw [e1] at ea
      cases ea
      refine ⟨F, G, L, γ, y, wd, he, e1, fun v G2 H2 x2 w2 r2 => ?_⟩
      obtain ⟨L1, L2, o, σ', hL, hσ, ⟨C', dx, h1, h2, h3, h4⟩, h5, h6⟩ := EnvR.mono x2 he
      have := at_.one h3
      subst this
      have hp : γ.1.p ∉ L2 := h6 _ (by rw [h1]; exact List.mem_singleton.mpr rfl)
      refine ⟨.ref γ.1.p, by rw [hσ, h2]; rfl, γ.1.p, C, dx, _, rfl, w2.f _ _ h4, c, n, show 1 < 1000 by decide, ?_⟩
      refine k σ L _ G2 _ x2 (w2.set h4) nd (fun b u hb e => by rw [upd_ne (fun z => hb (by rw [z, hL, h1]; exact List.mem_append_left _ (List.mem_singleton.mpr rfl)))]; exact e) Sub.refl ?_ ha
      exact ⟨L1, L2, o, σ', hL, hσ, ⟨C, dx, v, h1, h2, h3, upd_same, r2⟩, EnvR.keep (fun b hb => upd_ne (fun z => hp (by rw [← z]; exact hb))) h5, h6⟩
end
section
variable {P : Program} {w : World} {K : PySem.W.Frag} {mg : Str → Option Value} {base : Heap} {x qual : Str} {st : Stmt} {f : Addr} {fd : FuncData} {N ps : List Str} {k n : Nat} {A Γ Γ' : Type} [RepL A] [EnvR Γ] [EnvR Γ']
def runT (b : TI0 × Γ → Option (Fl (TI2 × Γ') Unit Unit)) (γ : Γ) : Option Tbl := (b (⟨(0 : Nat)⟩, γ)).bind fun r => match r with
  | .nx γ' => some γ'.1.c
  | .rt _ _ => none
def BlindT (b : TI0 × Γ → Option (Fl (TI2 × Γ') Unit Unit)) : Prop := ∀ (γ : Γ) (c : Tbl) (q : Addr) (γ' : Γ'), b (⟨(0 : Nat)⟩, γ) = some (.nx (⟨q, c⟩, γ')) → ∀ p : Addr, ∃ δ, b (⟨p⟩, γ) = some (.nx (⟨p, c⟩, δ))
theorem ok_T (F : Fun K x qual st f fd) (S : FnScope N ps (defScope st)) (I : Ini A Γ n) {b : TI0 × Γ → Option (Fl (TI2 × Γ') Unit Unit)} (hb : BlindT b) (hn : N.length = RepL.n A + 1 + n) (hp : RepL.n A + 1 = ps.length)
    (body : BodyOk P w K mg base N qual st k fun X => VSs X Unit (RE K) (defBody st) b) : GnOk P w K mg base (k + 1) f fd ps (tpI K fun a => runT b (I.ini a)) := by
  apply gn_of F S
  · intro vs H Q E ⟨F, G, y, vs', C, dx, a, r, h0, h1, h2, h3, h4, h5⟩
    rw [← hp, h0, List.length_cons, RepL.len h4]
  · intro cdv A' outer s H vs Q hg hr ⟨F, G, y, vs', C, dx, a, r, h0, h1, h2, h3, h4, h5, h6⟩
    refine ⟨_, body cdv A' outer s H f hg hr, ?_⟩
    have e0 : L2.start N vs = some (.ref y) :: (vs'.map some ++ List.replicate n none) := by
      unfold L2.start
      rw [h0, hn, List.length_cons, RepL.len h4, Nat.add_sub_cancel_left]
      rfl
    rw [e0]
    have h5 : runT b (I.ini a) = some r := h5
    unfold runT at h5
    cases e : b (⟨(0 : Nat)⟩, I.ini a) with
    | none => rw [e] at h5; cases h5
    | some fr =>
      rw [e] at h5
      cases fr with
      | rt z u => cases h5
      | nx γ' =>
        cases h5
        obtain ⟨⟨q, c⟩, γ2⟩ := γ'
        obtain ⟨δ, e2⟩ := hb _ c q γ2 e y
        refine ⟨F, G, [y], (⟨y⟩, I.ini a), 0, .nx (⟨y, c⟩, δ), h1, (by simp), ⟨[y], [], _, _, rfl, rfl, ⟨C, dx, rfl, rfl, h2, h3⟩, I.ok h4, fun _ _ h => by cases h⟩, trivial, e2, ?_⟩
        intro σ' L2 F2 G2 H2 x2 w2 n2 o2 s2 er2 at2
        obtain ⟨M1, M2, o, σ2, hL, hσ, ⟨C', dx', vc, g1, g2, g3, g4, g5⟩, g7, g8⟩ := er2
        have := h2.one g3
        subst this
        exact h6 dx' vc F2 G2 H2 x2 w2 g4 g5 fun b u hby e => o2 b u (fun z => hby (List.mem_singleton.mp z)) e
end
def TtF (K : PySem.W.Frag) : Prop := ∃ C, TbAt K C ∧ Cls K C ∧ NoAttr K C "_things" ∧ NoAttr K C "_rows"
def TtP (K : PySem.W.Frag) (m qual : Str) (st : Stmt) (ps : List Str) : Prop := ∃ C p g fd, TbAt K C ∧ Cls K C ∧ PropOf K C m p g ∧ Fun K m qual st g fd ∧ Binds K fd ps []
def TtI (K : PySem.W.Frag) (mg : Str → Option Value) (qual : Str) (st : Stmt) (ps : List Str) : Prop := ∃ C f fd, TbAt K C ∧ Mk K C f ∧ mg "Table" = some (.ref C) ∧ Fun K "__init__" qual st f fd ∧ Binds K fd ps []
def TtIs (K : PySem.W.Frag) (mg : Str → Option Value) : Prop := ∃ C, TbAt K C ∧ C8.InsC K C ∧ mg "Table" = some (.ref C)
def DtP (P : Program) (w : World) (K : PySem.W.Frag) (mg : Str → Option Value) (base : Heap) (m : Str) (k : Nat) (ps : List Str) (sp : Sp) : Prop := ∃ C p g fd, TbAt K C ∧ Cls K C ∧ PropOf K C m p g ∧ Binds K fd ps [] ∧ GnOk P w K mg base k g fd ps sp
def DtI (P : Program) (w : World) (K : PySem.W.Frag) (mg : Str → Option Value) (base : Heap) (k : Nat) (ps : List Str) (sp : Sp) : Prop := ∃ C f fd, TbAt K C ∧ Mk K C f ∧ mg "Table" = some (.ref C) ∧ Binds K fd ps [] ∧ GnOk P w K mg base k f fd ps sp
section
variable {P : Program} {w : World} {K : PySem.W.Frag} {mg : Str → Option Value} {base : Heap} {m qual : Str} {st : Stmt} {N ps : List Str} {k n : Nat} {A ρ Γ Γ' : Type} [RepL A] [EnvR Γ] [EnvR Γ'] [Rep ρ]
theorem dt_P (T : TtP K m qual st ps) (S : FnScope N ps (defScope st)) (I : Ini A Γ n) {b : Γ → Option (Fl Γ' Unit ρ)} (body : BodyOk P w K mg base N qual st k fun X => VSs X Unit (RE K) (defBody st) b) (hn : N.length = RepL.n A + n := by rfl) (hp : RepL.n A = ps.length := by rfl) :
    DtP P w K mg base m (k + 1) ps (spF K fun a => runF b (I.ini a)) := by
  obtain ⟨C, p, g, fd, h1, h2, h3, F, hb⟩ := T
  exact ⟨C, p, g, fd, h1, h2, h3, hb, ok_F F S I hn hp body⟩
theorem dt_I (T : TtI K mg qual st ps) (S : FnScope N ps (defScope st)) (I : Ini A Γ n) {b : TI0 × Γ → Option (Fl (TI2 × Γ') Unit Unit)} (hb : BlindT b) (body : BodyOk P w K mg base N qual st k fun X => VSs X Unit (RE K) (defBody st) b) (hn : N.length = RepL.n A + 1 + n := by rfl) (hp : RepL.n A + 1 = ps.length := by rfl) :
    DtI P w K mg base (k + 1) ps (tpI K fun a => runT b (I.ini a)) := by
  obtain ⟨C, f, fd, h1, h2, h3, F, hbi⟩ := T
  exact ⟨C, f, fd, h1, h2, h3, hbi, ok_T F S I hb hn hp body⟩
end
section
variable {Γ : Type} [EnvR Γ] {X : Cx} {A ρ : Type} [RepL A] [Rep ρ] {k : Nat} {psn : List Str} {m : Str} {p pp pos apos : Pos} {e o : Expr} {es : List Expr}
theorem vd_tprop {mi : Tbl × Unit → Option ρ} {f : Γ → Option Tbl} (D : DtP X.prog X.w X.K X.mg X.base m k psn (spF X.K mi)) (hgd : X.A.guards = some []) (hr : Room (k + 1) X.A) (h : VE X e f) (hab : attributeBase e m X.env (eval e X.env) = eval e X.env := by rfl) : VE X (.Attribute e m pos) (f1 (fun c => mi (c, ())) f) := by
  obtain ⟨C, q, g, fd, h1, h2, h3, hb, G⟩ := D
  exact ve_tprop h h1 h2 h3 G hgd hr hb hab
theorem vd_tmake {mi : A → Option Tbl} {g : Γ → Option A} (D : DtI X.prog X.w X.K X.mg X.base k psn (tpI X.K mi)) (hgd : X.A.guards = some []) (hr : Room (k + 1) X.A) (ha : VA X (e :: es) g) (hg : Gl X "Table" := by rfl)
    (he : starEach (e :: es) X.env = (false, eval e X.env) :: starEach es X.env := by rfl) (hpl : (backTo pos (starEach es X.env)).any (·.1) = false := by rfl) : VE X (.Call (.Name "Table" p) (e :: es) [] pos) (f1 mi g) := by
  obtain ⟨C, f, fd, h1, h2, h3, hb, G⟩ := D
  exact ve_tmake h2 h1 G hgd hr h3 hb ha hg (by decide) he hpl
theorem vd_tT {f : Γ → Option Tbl} (T : TtF X.K) (h : VE X e f) (hb : attributeBase e "_things" X.env (eval e X.env) = eval e X.env := by rfl) : VE X (.Attribute e "_things" pos) (f1 (fun c => some c.things) f) := by
  obtain ⟨C, h1, h2, n1, n2⟩ := T
  exact ve_tT h h1 h2 n1 hb
theorem vd_tR {f : Γ → Option Tbl} (T : TtF X.K) (h : VE X e f) (hb : attributeBase e "_rows" X.env (eval e X.env) = eval e X.env := by rfl) : VE X (.Attribute e "_rows" pos) (f1 (fun c => some c.rows) f) := by
  obtain ⟨C, h1, h2, n1, n2⟩ := T
  exact ve_tR h h1 h2 n2 hb
theorem ve_isTbl {f : Γ → Option Tbl} (T : TtIs X.K X.mg) (h : VE X e f) (hm : X.mg "isinstance" = none) (hg : Gl X "isinstance" := by rfl) (hg2 : Gl X "Table" := by rfl) (he : starEach [e, .Name "Table" pp] X.env = (false, eval e X.env) :: starEach [.Name "Table" pp] X.env := by rfl) (he2 : starEach [.Name "Table" pp] X.env = (false, eval (.Name "Table" pp) X.env) :: starEach [] X.env := by rfl)
    (hpl : (backTo pos (starEach [.Name "Table" pp] X.env)).any (·.1) = false := by rfl) : VE X (.Call (.Name "isinstance" p) [e, .Name "Table" pp] [] pos) (f1 (fun _ => some true) f) := by
  obtain ⟨C, h1, h2, h3⟩ := T
  exact PE.le (pe_callB (C8.call_isC h2) hg hm (by decide +kernel) (pa_cons h (pa_cons (pe_glob hg2 h3 (v := .ref C) rfl) pa_nil he2) he) (he := he) (hpl := hpl)) fun σ H Q ⟨F, G, L, γ, z, w, hh, ea, q⟩ => by
    unfold f1 at ea
    cases e1 : f γ with
    | none => rw [e1] at ea; cases ea
    | some x =>
      rw [e1] at ea
      cases ea
      refine ⟨F, G, L, γ, x, w, hh, e1, fun v G2 H2 x2 w2 ⟨p, C', dx, vc, g1, g2, g3, g4⟩ => ?_⟩
      have := h1.one g2
      subst this
      subst g1
      exact ⟨p, dx, _, rfl, w2.g _ _ g3, q _ G2 H2 x2 w2 rfl⟩
end
end Vx
/-! isinstance(a whole number, int), (.., bool); the stores of Table -/
namespace Vx
open Rep (rep)
open EnvR (er)
open PySem PySem.Spec PyProof.Rows L2
section
variable {Γ : Type} [EnvR Γ] {X : Cx} {a : Expr} {p p2 pos : Pos}
theorem ve_isInt {f : Γ → Option Int} (h : VE X a f) (hm : X.mg "isinstance" = none) (hm2 : X.mg "int" = none) (hg : Gl X "isinstance" := by rfl) (hg2 : Gl X "int" := by rfl)
    (he : starEach [a, .Name "int" p2] X.env = (false, eval a X.env) :: starEach [.Name "int" p2] X.env := by rfl) (he2 : starEach [.Name "int" p2] X.env = (false, eval (.Name "int" p2) X.env) :: starEach [] X.env := by rfl) (hpl : (backTo pos (starEach [.Name "int" p2] X.env)).any (·.1) = false := by rfl) :
    VE X (.Call (.Name "isinstance" p) [a, .Name "int" p2] [] pos) (f1 (fun _ => some true) f) :=
  ve_isT (T := "int") (Tn := "int") (fun r => by cases r; exact .int _) h hm hm2 (by decide +kernel) hg2 (by decide) (by decide) hg (by decide +kernel) he he2 hpl
theorem ve_isIB {f : Γ → Option Int} (kt : PySem.W.kitOne X.K (.type "int") (.type "bool") = some false) (h : VE X a f) (hm : X.mg "isinstance" = none) (hm2 : X.mg "bool" = none) (hg : Gl X "isinstance" := by rfl) (hg2 : Gl X "bool" := by rfl) (hb : bootBuiltins "isinstance" = some (.builtin "isinstance") := by decide +kernel)
    (he : starEach [a, .Name "bool" p2] X.env = (false, eval a X.env) :: starEach [.Name "bool" p2] X.env := by rfl) (he2 : starEach [.Name "bool" p2] X.env = (false, eval (.Name "bool" p2) X.env) :: starEach [] X.env := by rfl) (hpl : (backTo pos (starEach [.Name "bool" p2] X.env)).any (·.1) = false := by rfl) :
    VE X (.Call (.Name "isinstance" p) [a, .Name "bool" p2] [] pos) (f1 (fun _ => some false) f) :=
  PE.le (pe_callB call_isi hg hm hb (pa_cons h (pa_cons (pe_bltn hg2 hm2 (by decide +kernel : bootBuiltins "bool" = some (.type "bool")) (v := .ty "bool") rfl (by decide) (by decide)) pa_nil he2) he) (he := he) (hpl := hpl)) fun σ H Q ⟨F, G, L, γ, z, w, hh, ea, q⟩ => by
    unfold f1 at ea
    cases e1 : f γ with
    | none => rw [e1] at ea; cases ea
    | some x =>
      rw [e1] at ea
      cases ea
      refine ⟨F, G, L, γ, x, w, hh, e1, fun v G2 H2 x2 w2 r2 => ?_⟩
      cases r2
      exact ⟨_, _, .type "int", .type "bool", false, rfl, .ty "bool", .base (.int _), kt, q _ G2 H2 x2 w2 rfl⟩
end
section
variable {Γ Γ' ρ : Type} [EnvR Γ] [EnvR Γ'] {X : Cx} {R : RR ρ} {value : Expr} {pos p1 p2 : Pos} {C : Addr} {x : Str}
theorem vd_t1 {f : TI0 × Γ → Option Str} {fr : TI0 × Γ → Option (Fl (TI1 × Γ) Unit ρ)} (T : TtF X.K) (efr : st1 f = fr) (hv : VE X value f) (hN : X.N[0]? = some x := by rfl) (hvs : Vis X.env.scope x := by first | exact Or.inl rfl | exact Or.inr (Or.inl rfl) | exact Or.inr (Or.inr rfl)) (hd : (x == ("__debug__" : Str)) = false := by decide)
    (hcd : (x == ("__classdict__" : Str)) = false := by decide) (hs : swapsWith value (some (.Attribute (.Name x p1) "_things" p2)) pos.line X.env = pure false := by rfl) : VS X Unit R (.Assign [.Attribute (.Name x p1) "_things" p2] value pos) fr := by
  obtain ⟨C, h1, h2, n1, n2⟩ := T
  exact vs_t1 efr h1 h2 n1 hv hN hvs hd hcd hs
theorem vd_t2 {f : TI1 × Γ → Option (Tup Str)} {fr : TI1 × Γ → Option (Fl (TI2 × Γ) Unit ρ)} (T : TtF X.K) (efr : st2 f = fr) (hv : VE X value f) (hN : X.N[0]? = some x := by rfl) (hvs : Vis X.env.scope x := by first | exact Or.inl rfl | exact Or.inr (Or.inl rfl) | exact Or.inr (Or.inr rfl)) (hd : (x == ("__debug__" : Str)) = false := by decide)
    (hcd : (x == ("__classdict__" : Str)) = false := by decide) (hs : swapsWith value (some (.Attribute (.Name x p1) "_rows" p2)) pos.line X.env = pure false := by rfl) : VS X Unit R (.Assign [.Attribute (.Name x p1) "_rows" p2] value pos) fr := by
  obtain ⟨C, h1, h2, n1, n2⟩ := T
  exact vs_t2 efr h1 h2 n2 hv hN hvs hd hcd hs
end
end Vx
namespace K73
open Vx.Rep (rep)
open Vx.EnvR (er)
open PySem PySem.Spec PyProof.Rows L2 Vx
def topS (i : Nat) : Stmt := PySem.Challenge.pw_closerworks_k73_whole_rules_in_tables.main.body.getD i (.Pass ⟨0, 0, 0, 0⟩)
def topC (i j : Nat) : Stmt := match topS i with
  | .ClassDef _ _ _ body _ _ _ _ _ _ _ => body.getD j (.Pass ⟨0, 0, 0, 0⟩)
  | s => s
theorem reL {α β δ : Type} [Rep α] {K : PySem.W.Frag} {r : L2.R2} {R2 : RR β} {R3 : RR δ} {φ : List α → β → Option δ} (h : Op2 r (RL K (α := α)) R2 R3 φ) : Op2 r (RE K (α := List α)) R2 R3 φ := fun F G H x y z vx vy Q w rx ry e k => h F G H x y z vx vy Q w (rl_of rx) ry e k
structure Top (K : PySem.W.Frag) (mg : Str → Option Value) : Prop where
  f_is_letter : Tf K mg "is_letter" (topS 16) ["sign"]
  f_is_word : Tf K mg "is_word" (topS 17) ["value"]
  f_is_any_lot : Tf K mg "is_any_lot" (topS 18) ["value"]
  f_is_things : Tf K mg "is_things" (topS 19) ["value"]
  f_has_all : Tf K mg "has_all" (topS 25) ["lot", "part"]
  f_is_lot : Tf K mg "is_lot" (topS 20) ["things", "value"]
  f_check_things : Tf K mg "check_things" (topS 22) ["things"]
  f_check_lot : Tf K mg "check_lot" (topS 23) ["things", "lot"]
  f_first_wrong : Tf K mg "first_wrong" (topS 24) ["things", "values"]
  f_lots_by_number : Tf K mg "lots_by_number" (topS 27) ["things"]
  f_number_by_lot : Tf K mg "number_by_lot" (topS 28) ["things"]
  f_numbers_of : Tf K mg "numbers_of" (topS 29) ["things", "lots"]
  f_family_of : Tf K mg "family_of" (topS 30) ["things", "numbers"]
  f_meets_of : Tf K mg "meets_of" (topS 31) ["things", "lots"]
  f_is_system : Tf K mg "is_system" (topS 36) ["things", "values"]
  f_check_closed : Tf K mg "check_closed" (topS 34) ["things", "closed"]
  f_first_around : Tf K mg "first_around" (topS 38) ["lots", "part"]
  f_lots_around : Tf K mg "lots_around" (topS 37) ["things", "closed"]
  f_Closer___init__ : TmI K mg "Closer.__init__" (topC 33 0) ["self", "things", "closed"]
  f_Closer_things : TmP K "things" "Closer.things" (topC 33 2) ["self"]
  f_Closer_closed : TmP K "closed" "Closer.closed" (topC 33 3) ["self"]
  f_Closer_around : TmM K "around" "Closer.around" (topC 33 7) ["self", "lot"]
  f_Closer___eq__ : TmM K "__eq__" "Closer.__eq__" (topC 33 6) ["self", "other"]
  f_check_closer : Tf K mg "check_closer" (topS 35) ["closer"]
  f_is_rule : Tf K mg "is_rule" (topS 42) ["things", "value"]
  f_wrong_rule : Tf K mg "wrong_rule" (topS 43) ["things", "rules"]
  f_check_book : Tf K mg "check_book" (topS 44) ["things", "book"]
  f_check_rows : Tf K mg "check_rows" (topS 45) ["things", "rows"]
  f_by_rules : Tf K mg "by_rules" (topS 46) ["things", "book"]
  f_by_rows : Tf K mg "by_rows" (topS 47) ["things", "rows"]
  f_meet_above : Tf K mg "meet_above" (topS 49) ["numbers", "number"]
  f_corners : Tf K mg "corners" (topS 48) ["closer"]
  f_in_both : Tf K mg "in_both" (topS 26) ["one", "other"]
  f_check_rule : Tf K mg "check_rule" (topS 62) ["things", "rule"]
  f_keeps : Tf K mg "keeps" (topS 63) ["lot", "rule"]
  f_holds : Tf K mg "holds" (topS 65) ["closer", "rule"]
  f_first_broken : Tf K mg "first_broken" (topS 64) ["book", "lot"]
  f_Closer_is_closed : TmM K "is_closed" "Closer.is_closed" (topC 33 8) ["self", "lot"]
  f_stem_of : Tf K mg "stem_of" (topS 68) ["closer"]
  f_stem : Tf K mg "stem" (topS 69) ["closer"]
  f_Closer___len__ : TmM K "__len__" "Closer.__len__" (topC 33 5) ["self"]
  f__law_hopper : Tf K mg "_law_hopper" (topS 71) ["_law_script", "_law_k"]
  f__law_spill : Tf K mg "_law_spill" (topS 72) ["_law_hopper_here", "_law_many"]
  f__law_out_of : Tf K mg "_law_out_of" (topS 73) ["_law_hopper_here", "_law_bowl"]
  f__law_tags : Tf K mg "_law_tags" (topS 74) ["_law_hopper_here", "_law_most"]
  f__law_bag : Tf K mg "_law_bag" (topS 75) ["_law_hopper_here", "_law_tags_here"]
  f__law_bags : Tf K mg "_law_bags" (topS 76) ["_law_tags_here"]
  f__law_in : Tf K mg "_law_in" (topS 77) ["_law_one", "_law_other"]
  f__law_both : Tf K mg "_law_both" (topS 78) ["_law_one", "_law_other"]
  f__law_met : Tf K mg "_law_met" (topS 79) ["_law_tags_here", "_law_bags_here"]
  f_is_number : Tf K mg "is_number" (topS 21) ["value", "most"]
  f_Table___init__ : TtI K mg "Table.__init__" (topC 51 0) ["self", "things", "rows"]
  f_Table_things : TtP K "things" "Table.things" (topC 51 1) ["self"]
  f_Table_rows : TtP K "rows" "Table.rows" (topC 51 2) ["self"]
  f_check_table : Tf K mg "check_table" (topS 52) ["table"]
  f_check_numbers : Tf K mg "check_numbers" (topS 53) ["table", "numbers"]
  f_shared_by : Tf K mg "shared_by" (topS 54) ["table", "numbers"]
  f_owners_of : Tf K mg "owners_of" (topS 55) ["table", "lot"]
  f_shared_marks : Tf K mg "shared_marks" (topS 56) ["table", "numbers"]
  f_owners : Tf K mg "owners" (topS 57) ["table", "lot"]
  f_concepts : Tf K mg "concepts" (topS 58) ["table"]
  f_closer_of : Tf K mg "closer_of" (topS 59) ["table"]
  f_least_table : Tf K mg "least_table" (topS 60) ["closer"]
  f_breaker : Tf K mg "breaker" (topS 66) ["closer", "rule"]
  f__law_own : Tf K mg "_law_own" (topS 80) ["_law_rows", "_law_bag_here"]
  f__law_shared : Tf K mg "_law_shared" (topS 81) ["_law_tags_here", "_law_rows", "_law_numbers"]
  f__law_rule_right : Tf K mg "_law_rule_right" (topS 82) ["_law_one", "_law_rows", "_law_rule"]
  f__law_right : Tf K mg "_law_right" (topS 83) ["_law_hopper_here"]
  f_law : Tf K mg "law" (topS 84) ["_law_script"]
  b_len : mg "len" = none
  b_all : mg "all" = none
  b_any : mg "any" = none
  b_abs : mg "abs" = none
  b_int : mg "int" = none
  b_min : mg "min" = none
  b_max : mg "max" = none
  b_tuple : mg "tuple" = none
  b_repr : mg "repr" = none
  b_isinstance : mg "isinstance" = none
  b_str : mg "str" = none
  b_range : mg "range" = none
  b_enumerate : mg "enumerate" = none
  b_sorted : mg "sorted" = none
  b_set : mg "set" = none
  b_list : mg "list" = none
  b_divmod : mg "divmod" = none
  b_dict : mg "dict" = none
  b_bool : mg "bool" = none
  c_MOST_THINGS : ∃ t, mg "MOST_THINGS" = some (.int 7 t)
  c_MOST_ROWS : ∃ t, mg "MOST_ROWS" = some (.int 60 t)
  c_MOST_RULES : ∃ t, mg "MOST_RULES" = some (.int 200 t)
  kiIB : PySem.W.kitOne K (.type "int") (.type "bool") = some false
  tblF : TtF K
  isTbl : TtIs K mg
  cloF : TmF K
  isClo : TmIs K mg
  neF : TmNe K
theorem sc_is_letter : FnScope ["sign"] ["sign"] (defScope (topS 16)) := ⟨rfl, rfl, rfl, by decide +kernel, rfl, by decide +kernel, by decide +kernel⟩
def P_is_letter : { m : Str×Unit → Option Bool // ∀ {P : Program} {w : World} {K : PySem.W.Frag} {mg : Str → Option Value} {base : Heap}, Top K mg → Df P w K mg base "is_letter" (topS 16) 1 ["sign"] (spF K m) } :=
  ⟨_, fun {P w K mg base} T => df_F T.f_is_letter sc_is_letter (ic i0) (fun cdv A outer s H f hgd hr => (vs_cons (vs_ret (ve_chain op_le_str op_le_str o_sLe o_sLe ve_str (ve_var gz) ve_str)) (vs_nil (wid (Γ := Unit)))))⟩
def m_is_letter := P_is_letter.1
theorem d_is_letter {P : Program} {w : World} {K : PySem.W.Frag} {mg : Str → Option Value} {base : Heap} (T : Top K mg) : Df P w K mg base "is_letter" (topS 16) 1 ["sign"] (spF K m_is_letter) := P_is_letter.2 T
theorem sc_is_word : FnScope ["value", "ahead", "sign"] ["value"] (defScope (topS 17)) := ⟨rfl, rfl, rfl, by decide +kernel, rfl, by decide +kernel, by decide +kernel⟩
def P_is_word : { m : Str×Unit → Option Bool // ∀ {P : Program} {w : World} {K : PySem.W.Frag} {mg : Str → Option Value} {base : Heap}, Top K mg → Df P w K mg base "is_word" (topS 17) 2 ["value"] (spF K m) } :=
  ⟨_, fun {P w K mg base} T => df_F T.f_is_word sc_is_word (ic (ia (ia i0))) (fun cdv A outer s H f hgd hr => (vs_cons (vs_if (vt_not (vt_val (ve_isStr (ve_var gz) T.b_isinstance T.b_str))) (vs_cons (vs_ret ve_bl) (vs_nil wid)) (vs_nil wid)) (vs_cons (vs_set_ (ps pz) rfl sc_is_word.nd ve_str) (vs_cons (vs_forn wid (ps (ps pz)) rfl PassesOwn.never rfl (vi_str (ve_var gz)) (pg_name (i := 2) sc_is_word.nd rfl (by first | exact Or.inl rfl | exact Or.inr rfl)) (vs_cons (vs_if (vw_t (vw_or (vt_cmp op_le_str o_sLe re_mono (ve_var (gs (gs gz))) (ve_var (gs gz)) rfl) (vw_or1 (vt_not (vt_val (vd_call (d_is_letter T) hgd (rm hr) (va_cons (ve_var (gs (gs gz))) va_nil))))))) (vs_cons (vs_ret ve_bl) (vs_nil wid)) (vs_nil wid)) (vs_cons (vs_set_ (ps pz) rfl sc_is_word.nd (ve_var (gs (gs gz)))) (vs_nil (wk (wk (wa wn))))))) (vs_cons (vs_ret ve_bl) (vs_nil (wid (Γ := Unit))))))))⟩
def m_is_word := P_is_word.1
theorem d_is_word {P : Program} {w : World} {K : PySem.W.Frag} {mg : Str → Option Value} {base : Heap} (T : Top K mg) : Df P w K mg base "is_word" (topS 17) 2 ["value"] (spF K m_is_word) := P_is_word.2 T
theorem sc_is_any_lot : FnScope ["value"] ["value"] (defScope (topS 18)) := ⟨rfl, rfl, rfl, by decide +kernel, rfl, by decide +kernel, by decide +kernel⟩
def P_is_any_lot : { m : Str×Unit → Option Bool // ∀ {P : Program} {w : World} {K : PySem.W.Frag} {mg : Str → Option Value} {base : Heap}, Top K mg → Df P w K mg base "is_any_lot" (topS 18) 3 ["value"] (spF K m) } :=
  ⟨_, fun {P w K mg base} T => df_F T.f_is_any_lot sc_is_any_lot (ic i0) (fun cdv A outer s H f hgd hr => (vs_cons (vs_ret (ve_and (vd_call (d_is_word T) hgd (rm hr) (va_cons (ve_var gz) va_nil)) (ve_one (vo_cmp op_le o_iLe re_mono (vo_blt call_len o_lenS (va_cons (ve_var gz) va_nil) T.b_len) (ve_gint T.c_MOST_THINGS) rfl)))) (vs_nil (wid (Γ := Unit)))))⟩
def m_is_any_lot := P_is_any_lot.1
theorem d_is_any_lot {P : Program} {w : World} {K : PySem.W.Frag} {mg : Str → Option Value} {base : Heap} (T : Top K mg) : Df P w K mg base "is_any_lot" (topS 18) 3 ["value"] (spF K m_is_any_lot) := P_is_any_lot.2 T
theorem sc_is_things : FnScope ["value"] ["value"] (defScope (topS 19)) := ⟨rfl, rfl, rfl, by decide +kernel, rfl, by decide +kernel, by decide +kernel⟩
def P_is_things : { m : Str×Unit → Option Bool // ∀ {P : Program} {w : World} {K : PySem.W.Frag} {mg : Str → Option Value} {base : Heap}, Top K mg → Df P w K mg base "is_things" (topS 19) 4 ["value"] (spF K m) } :=
  ⟨_, fun {P w K mg base} T => df_F T.f_is_things sc_is_things (ic i0) (fun cdv A outer s H f hgd hr => (vs_cons (vs_ret (ve_and (vd_call (d_is_any_lot T) hgd (rm hr) (va_cons (ve_var gz) va_nil)) (ve_one (vo_cmp op_ne o_sNe re_mono (ve_var gz) ve_str rfl)))) (vs_nil (wid (Γ := Unit)))))⟩
def m_is_things := P_is_things.1
theorem d_is_things {P : Program} {w : World} {K : PySem.W.Frag} {mg : Str → Option Value} {base : Heap} (T : Top K mg) : Df P w K mg base "is_things" (topS 19) 4 ["value"] (spF K m_is_things) := P_is_things.2 T
theorem sc_has_all : FnScope ["lot", "part", "letter"] ["lot", "part"] (defScope (topS 25)) := ⟨rfl, rfl, rfl, by decide +kernel, rfl, by decide +kernel, by decide +kernel⟩
def P_has_all : { m : Str×Str×Unit → Option Bool // ∀ {P : Program} {w : World} {K : PySem.W.Frag} {mg : Str → Option Value} {base : Heap}, Top K mg → Df P w K mg base "has_all" (topS 25) 1 ["lot", "part"] (spF K m) } :=
  ⟨_, fun {P w K mg base} T => df_F T.f_has_all sc_has_all (ic (ic (ia i0))) (fun cdv A outer s H f hgd hr => (vs_cons (vs_ret (vo_blt (cr_all rfl) o_allB (va_cons (VF.up (vf_lc_ (ps (ps pz)) rfl rfl sc_has_all.nd (vi_str (ve_var (gs gz))) (by rfl) (fun _ _ _ _ _ => pg_name (i := 2) sc_has_all.nd rfl (by first | exact Or.inl rfl | exact Or.inr rfl)) (fun _ _ _ _ _ => vts_nil) (fun _ _ _ _ _ => (vo_cmp op_in_sign o_sIn re_mono (ve_var (gs (gs gz))) (ve_var gz) rfl)))) va_nil) T.b_all)) (vs_nil (wid (Γ := Unit)))))⟩
def m_has_all := P_has_all.1
theorem d_has_all {P : Program} {w : World} {K : PySem.W.Frag} {mg : Str → Option Value} {base : Heap} (T : Top K mg) : Df P w K mg base "has_all" (topS 25) 1 ["lot", "part"] (spF K m_has_all) := P_has_all.2 T
theorem sc_is_lot : FnScope ["things", "value"] ["things", "value"] (defScope (topS 20)) := ⟨rfl, rfl, rfl, by decide +kernel, rfl, by decide +kernel, by decide +kernel⟩
def P_is_lot : { m : Str×Str×Unit → Option Bool // ∀ {P : Program} {w : World} {K : PySem.W.Frag} {mg : Str → Option Value} {base : Heap}, Top K mg → Df P w K mg base "is_lot" (topS 20) 3 ["things", "value"] (spF K m) } :=
  ⟨_, fun {P w K mg base} T => df_F T.f_is_lot sc_is_lot (ic (ic i0)) (fun cdv A outer s H f hgd hr => (vs_cons (vs_ret (ve_and (vd_call (d_is_word T) hgd (rm hr) (va_cons (ve_var (gs gz)) va_nil)) (ve_one (vd_call (d_has_all T) hgd (rm hr) (va_cons (ve_var gz) (va_cons (ve_var (gs gz)) va_nil)))))) (vs_nil (wid (Γ := Unit)))))⟩
def m_is_lot := P_is_lot.1
theorem d_is_lot {P : Program} {w : World} {K : PySem.W.Frag} {mg : Str → Option Value} {base : Heap} (T : Top K mg) : Df P w K mg base "is_lot" (topS 20) 3 ["things", "value"] (spF K m_is_lot) := P_is_lot.2 T
theorem sc_check_things : FnScope ["things"] ["things"] (defScope (topS 22)) := ⟨rfl, rfl, rfl, by decide +kernel, rfl, by decide +kernel, by decide +kernel⟩
def P_check_things : { m : Str×Unit → Option Unit // ∀ {P : Program} {w : World} {K : PySem.W.Frag} {mg : Str → Option Value} {base : Heap}, Top K mg → Df P w K mg base "check_things" (topS 22) 5 ["things"] (spF K m) } :=
  ⟨_, fun {P w K mg base} T => df_U T.f_check_things sc_check_things (ic i0) (fun cdv A outer s H f hgd hr => (vs_cons (vs_if (vt_not (vt_val (vd_call (d_is_things T) hgd (rm hr) (va_cons (ve_var gz) va_nil)))) vss_never (vs_nil wid)) (vs_nil wid)))⟩
def m_check_things := P_check_things.1
theorem d_check_things {P : Program} {w : World} {K : PySem.W.Frag} {mg : Str → Option Value} {base : Heap} (T : Top K mg) : Df P w K mg base "check_things" (topS 22) 5 ["things"] (spF K m_check_things) := P_check_things.2 T
theorem sc_check_lot : FnScope ["things", "lot"] ["things", "lot"] (defScope (topS 23)) := ⟨rfl, rfl, rfl, by decide +kernel, rfl, by decide +kernel, by decide +kernel⟩
def P_check_lot : { m : Str×Str×Unit → Option Unit // ∀ {P : Program} {w : World} {K : PySem.W.Frag} {mg : Str → Option Value} {base : Heap}, Top K mg → Df P w K mg base "check_lot" (topS 23) 4 ["things", "lot"] (spF K m) } :=
  ⟨_, fun {P w K mg base} T => df_U T.f_check_lot sc_check_lot (ic (ic i0)) (fun cdv A outer s H f hgd hr => (vs_cons (vs_if (vt_not (vt_val (vd_call (d_is_lot T) hgd (rm hr) (va_cons (ve_var gz) (va_cons (ve_var (gs gz)) va_nil))))) vss_never (vs_nil wid)) (vs_nil wid)))⟩
def m_check_lot := P_check_lot.1
theorem d_check_lot {P : Program} {w : World} {K : PySem.W.Frag} {mg : Str → Option Value} {base : Heap} (T : Top K mg) : Df P w K mg base "check_lot" (topS 23) 4 ["things", "lot"] (spF K m_check_lot) := P_check_lot.2 T
theorem sc_first_wrong : FnScope ["things", "values", "at", "value"] ["things", "values"] (defScope (topS 24)) := ⟨rfl, rfl, rfl, by decide +kernel, rfl, by decide +kernel, by decide +kernel⟩
def P_first_wrong : { m : (Str×(Tup Str)×Unit) → Option (Option Int) // ∀ {P : Program} {w : World} {K : PySem.W.Frag} {mg : Str → Option Value} {base : Heap}, Top K mg → Df P w K mg base "first_wrong" (topS 24) 4 ["things", "values"] (spF K m) } :=
  ⟨_, fun {P w K mg base} T => df_F T.f_first_wrong sc_first_wrong (ic (ic (ia (ia i0)))) (fun cdv A outer s H f hgd hr => (vs_cons (vs_forp wid (ps (ps pz)) (ps (ps (ps pz))) rfl PassesOwn.never rfl (vi_enumT (ve_var (gs gz)) T.b_enumerate) (pg_tup rfl (pgs_cons (pg_name (i := 2) sc_first_wrong.nd rfl (by first | exact Or.inl rfl | exact Or.inr rfl)) (pgs_cons (pg_name (i := 3) sc_first_wrong.nd rfl (by first | exact Or.inl rfl | exact Or.inr rfl)) pgs_nil))) (vs_cons (vs_if (vw_t (vw_or (vt_not (vt_val (vd_call (d_is_lot T) hgd (rm hr) (va_cons (ve_var gz) (va_cons (ve_var (gs (gs (gs gz)))) va_nil))))) (vw_or1 (vw_t (vw_and (vt_cmp op_gt o_iGt re_mono (ve_var (gs (gs gz))) ve_int rfl) (vw_and1 (vt_cmp op_le_str o_sLe re_mono (ve_var (gs (gs (gs gz)))) (vo_ix ix_tup o_tIx re_mono (ve_var (gs gz)) (vo_op op_sub o_iSub re_mono (ve_var (gs (gs gz))) ve_int)) rfl))))))) (vs_cons (vs_ret (VE.some (ve_var (gs (gs gz))))) (vs_nil wid)) (vs_nil wid)) (vs_nil (wk (wk (wa (wa wn))))))) (vs_cons (vs_ret (ve_nonO (α := Int))) (vs_nil (wid (Γ := Unit))))))⟩
def m_first_wrong := P_first_wrong.1
theorem d_first_wrong {P : Program} {w : World} {K : PySem.W.Frag} {mg : Str → Option Value} {base : Heap} (T : Top K mg) : Df P w K mg base "first_wrong" (topS 24) 4 ["things", "values"] (spF K m_first_wrong) := P_first_wrong.2 T
theorem sc_lots_by_number : FnScope ["things", "lots", "letter", "lot"] ["things"] (defScope (topS 27)) := ⟨rfl, rfl, rfl, by decide +kernel, rfl, by decide +kernel, by decide +kernel⟩
def P_lots_by_number : { m : Str×Unit → Option (List Str) // ∀ {P : Program} {w : World} {K : PySem.W.Frag} {mg : Str → Option Value} {base : Heap}, Top K mg → Df P w K mg base "lots_by_number" (topS 27) 1 ["things"] (spF K m) } :=
  ⟨_, fun {P w K mg base} T => df_F T.f_lots_by_number sc_lots_by_number (ic (ia (ia (ia i0)))) (fun cdv A outer s H f hgd hr => (vs_cons (vs_set_ (ps pz) rfl sc_lots_by_number.nd (VF.up (vf_lst (vls_cons ve_str vls_nil)))) (vs_cons (vs_forn wid (ps (ps pz)) rfl PassesOwn.never rfl (vi_str (ve_var gz)) (pg_name (i := 2) sc_lots_by_number.nd rfl (by first | exact Or.inl rfl | exact Or.inr rfl)) (vs_cons (vs_set_ (ps pz) rfl sc_lots_by_number.nd (VF.up (vo_op op_cat o_lCat rl_mono (VE.l (ve_var (gs gz))) (VE.l (VF.up (vf_lc_ (ps (ps (ps pz))) rfl rfl sc_lots_by_number.nd (vi_list (ve_var (gs gz))) (by rfl) (fun _ _ _ _ _ => pg_name (i := 3) sc_lots_by_number.nd rfl (by first | exact Or.inl rfl | exact Or.inr rfl)) (fun _ _ _ _ _ => vts_nil) (fun _ _ _ _ _ => (vo_op op_add_str o_sAdd re_mono (ve_var (gs (gs (gs gz)))) (ve_var (gs (gs gz))))))))))) (vs_nil (wk (wk (wa (wk wn))))))) (vs_cons (vs_ret (ve_var (gs gz))) (vs_nil (wid (Γ := Unit)))))))⟩
def m_lots_by_number := P_lots_by_number.1
theorem d_lots_by_number {P : Program} {w : World} {K : PySem.W.Frag} {mg : Str → Option Value} {base : Heap} (T : Top K mg) : Df P w K mg base "lots_by_number" (topS 27) 1 ["things"] (spF K m_lots_by_number) := P_lots_by_number.2 T
theorem sc_number_by_lot : FnScope ["things", "number", "lot"] ["things"] (defScope (topS 28)) := ⟨rfl, rfl, rfl, by decide +kernel, rfl, by decide +kernel, by decide +kernel⟩
def P_number_by_lot : { m : Str×Unit → Option (Dct Int) // ∀ {P : Program} {w : World} {K : PySem.W.Frag} {mg : Str → Option Value} {base : Heap}, Top K mg → Df P w K mg base "number_by_lot" (topS 28) 2 ["things"] (spF K m) } :=
  ⟨_, fun {P w K mg base} T => df_F T.f_number_by_lot sc_number_by_lot (ic (ia (ia i0))) (fun cdv A outer s H f hgd hr => (vs_cons (vs_ret (ve_dc_ (ps pz) (ps (ps pz)) rfl rfl sc_number_by_lot.nd (vi_enumL (vd_call (d_lots_by_number T) hgd (rm hr) (va_cons (ve_var gz) va_nil)) T.b_enumerate) (by rfl) (fun _ _ _ _ _ => pg_tup rfl (pgs_cons (pg_name (i := 1) sc_number_by_lot.nd rfl (by first | exact Or.inl rfl | exact Or.inr rfl)) (pgs_cons (pg_name (i := 2) sc_number_by_lot.nd rfl (by first | exact Or.inl rfl | exact Or.inr rfl)) pgs_nil))) (fun _ _ _ _ _ => (ve_var (gs (gs gz)))) (fun _ _ _ _ _ => (ve_var (gs gz))))) (vs_nil (wid (Γ := Unit)))))⟩
def m_number_by_lot := P_number_by_lot.1
theorem d_number_by_lot {P : Program} {w : World} {K : PySem.W.Frag} {mg : Str → Option Value} {base : Heap} (T : Top K mg) : Df P w K mg base "number_by_lot" (topS 28) 2 ["things"] (spF K m_number_by_lot) := P_number_by_lot.2 T
theorem sc_numbers_of : FnScope ["things", "lots", "number", "lot"] ["things", "lots"] (defScope (topS 29)) := ⟨rfl, rfl, rfl, by decide +kernel, rfl, by decide +kernel, by decide +kernel⟩
def P_numbers_of : { m : (Str×(Tup Str)×Unit) → Option (List Int) // ∀ {P : Program} {w : World} {K : PySem.W.Frag} {mg : Str → Option Value} {base : Heap}, Top K mg → Df P w K mg base "numbers_of" (topS 29) 3 ["things", "lots"] (spF K m) } :=
  ⟨_, fun {P w K mg base} T => df_F T.f_numbers_of sc_numbers_of (ic (ic (ia (ia i0)))) (fun cdv A outer s H f hgd hr => (vs_cons (vs_set_ (ps (ps pz)) rfl sc_numbers_of.nd (vd_call (d_number_by_lot T) hgd (rm hr) (va_cons (ve_var gz) va_nil))) (vs_cons (vs_ret (VF.up (vf_lc_ (ps (ps (ps pz))) rfl rfl sc_numbers_of.nd (vi_tup (ve_var (gs gz))) (by rfl) (fun _ _ _ _ _ => pg_name (i := 3) sc_numbers_of.nd rfl (by first | exact Or.inl rfl | exact Or.inr rfl)) (fun _ _ _ _ _ => vts_nil) (fun _ _ _ _ _ => (ve_dget (un1 hr) (ve_var (gs (gs gz))) (ve_var (gs (gs (gs gz)))) (by intro _ _; rfl)))))) (vs_nil (wid (Γ := Unit))))))⟩
def m_numbers_of := P_numbers_of.1
theorem d_numbers_of {P : Program} {w : World} {K : PySem.W.Frag} {mg : Str → Option Value} {base : Heap} (T : Top K mg) : Df P w K mg base "numbers_of" (topS 29) 3 ["things", "lots"] (spF K m_numbers_of) := P_numbers_of.2 T
theorem sc_family_of : FnScope ["things", "numbers", "lots", "number"] ["things", "numbers"] (defScope (topS 30)) := ⟨rfl, rfl, rfl, by decide +kernel, rfl, by decide +kernel, by decide +kernel⟩
def P_family_of : { m : (Str×(List Int)×Unit) → Option (Tup Str) // ∀ {P : Program} {w : World} {K : PySem.W.Frag} {mg : Str → Option Value} {base : Heap}, Top K mg → Df P w K mg base "family_of" (topS 30) 2 ["things", "numbers"] (spF K m) } :=
  ⟨_, fun {P w K mg base} T => df_F T.f_family_of sc_family_of (ic (ic (ia (ia i0)))) (fun cdv A outer s H f hgd hr => (vs_cons (vs_set_ (ps (ps pz)) rfl sc_family_of.nd (vd_call (d_lots_by_number T) hgd (rm hr) (va_cons (ve_var gz) va_nil))) (vs_cons (vs_ret (vo_bty call_tuple_of o_tupL (va_cons (VF.up (vo_blt (cr_srt (un64 hr)) o_srtL (va_cons (VF.up (vf_lc_ (ps (ps (ps pz))) rfl rfl sc_family_of.nd (vi_list (ve_var (gs gz))) (by rfl) (fun _ _ _ _ _ => pg_name (i := 3) sc_family_of.nd rfl (by first | exact Or.inl rfl | exact Or.inr rfl)) (fun _ _ _ _ _ => vts_nil) (fun _ _ _ _ _ => (vo_ix ix_list o_lIx rl_mono (VE.l (ve_var (gs (gs gz)))) (ve_var (gs (gs (gs gz)))))))) va_nil) T.b_sorted)) va_nil) T.b_tuple)) (vs_nil (wid (Γ := Unit))))))⟩
def m_family_of := P_family_of.1
theorem d_family_of {P : Program} {w : World} {K : PySem.W.Frag} {mg : Str → Option Value} {base : Heap} (T : Top K mg) : Df P w K mg base "family_of" (topS 30) 2 ["things", "numbers"] (spF K m_family_of) := P_family_of.2 T
theorem sc_meets_of : FnScope ["things", "lots", "whole", "found", "number", "other"] ["things", "lots"] (defScope (topS 31)) := ⟨rfl, rfl, rfl, by decide +kernel, rfl, by decide +kernel, by decide +kernel⟩
def P_meets_of : { m : (Str×(Tup Str)×Unit) → Option (Tup Str) // ∀ {P : Program} {w : World} {K : PySem.W.Frag} {mg : Str → Option Value} {base : Heap}, Top K mg → Df P w K mg base "meets_of" (topS 31) 4 ["things", "lots"] (spF K m) } :=
  ⟨_, fun {P w K mg base} T => df_F T.f_meets_of sc_meets_of (ic (ic (ia (ia (ia (ia i0)))))) (fun cdv A outer s H f hgd hr => (vs_cons (vs_set_ (ps (ps pz)) rfl sc_meets_of.nd (vo_op op_sub o_iSub re_mono (vo_blt call_len o_lenL (va_cons (vd_call (d_lots_by_number T) hgd (rm hr) (va_cons (ve_var gz) va_nil)) va_nil) T.b_len) ve_int)) (vs_cons (vs_newD_ (κ := Int) (pds (pds (pds pdz))) rfl sc_meets_of.nd (ve_var (gs (gs gz))) ve_bl) (vs_cons (vs_forn wid (ps (ps (ps (ps pz)))) rfl PassesOwn.never rfl (vi_list (vd_call (d_numbers_of T) hgd (rm hr) (va_cons (ve_var gz) (va_cons (ve_var (gs gz)) va_nil)))) (pg_name (i := 4) sc_meets_of.nd rfl (by first | exact Or.inl rfl | exact Or.inr rfl)) (vs_cons (vs_forn wid (ps (ps (ps (ps (ps pz))))) rfl PassesOwn.never rfl (vi_list (VF.up (vf_keys_ Int (ds (ds (ds dz))) rfl rfl T.b_list))) (pg_name (i := 5) sc_meets_of.nd rfl (by first | exact Or.inl rfl | exact Or.inr rfl)) (vs_cons (vs_dput_ (ds (ds (ds dz))) rfl (un1 hr) (vo_op op_and o_iAnd re_mono (ve_var (gs (gs (gs (gs gz))))) (ve_var (gs (gs (gs (gs (gs gz))))))) ve_bl) (vs_nil (wk (wk (wk (wk (wk (wa wn))))))))) (vs_nil (wk (wk (wk (wk (wa (wk wn))))))))) (vs_cons (vs_ret (vd_call (d_family_of T) hgd (rm hr) (va_cons (ve_var gz) (va_cons (VF.up (vf_keys_ Int (ds (ds (ds dz))) rfl rfl T.b_list)) va_nil)))) (vs_nil (wid (Γ := Unit))))))))⟩
def m_meets_of := P_meets_of.1
theorem d_meets_of {P : Program} {w : World} {K : PySem.W.Frag} {mg : Str → Option Value} {base : Heap} (T : Top K mg) : Df P w K mg base "meets_of" (topS 31) 4 ["things", "lots"] (spF K m_meets_of) := P_meets_of.2 T
theorem sc_is_system : FnScope ["things", "values"] ["things", "values"] (defScope (topS 36)) := ⟨rfl, rfl, rfl, by decide +kernel, rfl, by decide +kernel, by decide +kernel⟩
def P_is_system : { m : (Str×(Tup Str)×Unit) → Option Bool // ∀ {P : Program} {w : World} {K : PySem.W.Frag} {mg : Str → Option Value} {base : Heap}, Top K mg → Df P w K mg base "is_system" (topS 36) 5 ["things", "values"] (spF K m) } :=
  ⟨_, fun {P w K mg base} T => df_F T.f_is_system sc_is_system (ic (ic i0)) (fun cdv A outer s H f hgd hr => (vs_cons (vs_ret (ve_and (vo_cmp op_isN o_isN re_mono (vd_call (d_first_wrong T) hgd (rm hr) (va_cons (ve_var gz) (va_cons (ve_var (gs gz)) va_nil))) ve_non rfl) (ve_one (vo_cmp (op_eqP (un60 hr)) o_dEq re_mono (vd_call (d_meets_of T) hgd (rm hr) (va_cons (ve_var gz) (va_cons (ve_var (gs gz)) va_nil))) (ve_var (gs gz)) rfl)))) (vs_nil (wid (Γ := Unit)))))⟩
def m_is_system := P_is_system.1
theorem d_is_system {P : Program} {w : World} {K : PySem.W.Frag} {mg : Str → Option Value} {base : Heap} (T : Top K mg) : Df P w K mg base "is_system" (topS 36) 5 ["things", "values"] (spF K m_is_system) := P_is_system.2 T
theorem sc_check_closed : FnScope ["things", "closed", "wrong"] ["things", "closed"] (defScope (topS 34)) := ⟨rfl, rfl, rfl, by decide +kernel, rfl, by decide +kernel, by decide +kernel⟩
def P_check_closed : { m : (Str×(Tup Str)×Unit) → Option Unit // ∀ {P : Program} {w : World} {K : PySem.W.Frag} {mg : Str → Option Value} {base : Heap}, Top K mg → Df P w K mg base "check_closed" (topS 34) 6 ["things", "closed"] (spF K m) } :=
  ⟨_, fun {P w K mg base} T => df_U T.f_check_closed sc_check_closed (ic (ic (ia i0))) (fun cdv A outer s H f hgd hr => (vs_cons (vs_if (vt_not (vt_val (ve_isTup (ve_var (gs gz)) T.b_isinstance T.b_tuple))) vss_never (vs_nil wid)) (vs_cons (vs_set_ (ps (ps pz)) rfl sc_check_closed.nd (vd_call (d_first_wrong T) hgd (rm hr) (va_cons (ve_var gz) (va_cons (ve_var (gs gz)) va_nil)))) (vs_cons (vs_if (vt_cmp op_notN o_notN re_mono (ve_var (gs (gs gz))) ve_non rfl) vss_never (vs_nil wid)) (vs_cons (vs_if (vt_not (vt_val (vd_call (d_is_system T) hgd (rm hr) (va_cons (ve_var gz) (va_cons (ve_var (gs gz)) va_nil))))) vss_never (vs_nil wid)) (vs_nil wid))))))⟩
def m_check_closed := P_check_closed.1
theorem d_check_closed {P : Program} {w : World} {K : PySem.W.Frag} {mg : Str → Option Value} {base : Heap} (T : Top K mg) : Df P w K mg base "check_closed" (topS 34) 6 ["things", "closed"] (spF K m_check_closed) := P_check_closed.2 T
theorem sc_first_around : FnScope ["lots", "part", "at"] ["lots", "part"] (defScope (topS 38)) := ⟨rfl, rfl, rfl, by decide +kernel, rfl, by decide +kernel, by decide +kernel⟩
def P_first_around : { m : ((List Str)×Str×Unit) → Option Str // ∀ {P : Program} {w : World} {K : PySem.W.Frag} {mg : Str → Option Value} {base : Heap}, Top K mg → Df P w K mg base "first_around" (topS 38) 2 ["lots", "part"] (spF K m) } :=
  ⟨_, fun {P w K mg base} T => df_F T.f_first_around sc_first_around (ic (ic (ia i0))) (fun cdv A outer s H f hgd hr => (vs_cons (vs_set_ (ps (ps pz)) rfl sc_first_around.nd ve_int) (vs_cons (vs_while_ wid 1000 rfl PassesOwn.never (vt_not (vt_val (vd_call (d_has_all T) hgd (rm hr) (va_cons (vo_ix ix_list o_lIx rl_mono (VE.l (ve_var gz)) (ve_var (gs (gs gz)))) (va_cons (ve_var (gs gz)) va_nil))))) (vs_cons (vs_aug (gs (gs gz)) (ps (ps pz)) rfl sc_first_around.nd ve_int) (vs_nil wid))) (vs_cons (vs_ret (vo_ix ix_list o_lIx rl_mono (VE.l (ve_var gz)) (ve_var (gs (gs gz))))) (vs_nil (wid (Γ := Unit)))))))⟩
def m_first_around := P_first_around.1
theorem d_first_around {P : Program} {w : World} {K : PySem.W.Frag} {mg : Str → Option Value} {base : Heap} (T : Top K mg) : Df P w K mg base "first_around" (topS 38) 2 ["lots", "part"] (spF K m_first_around) := P_first_around.2 T
theorem sc_lots_around : FnScope ["things", "closed", "by_size", "lot"] ["things", "closed"] (defScope (topS 37)) := ⟨rfl, rfl, rfl, by decide +kernel, rfl, by decide +kernel, by decide +kernel⟩
def P_lots_around : { m : (Str×(Tup Str)×Unit) → Option (Dct Str) // ∀ {P : Program} {w : World} {K : PySem.W.Frag} {mg : Str → Option Value} {base : Heap}, Top K mg → Df P w K mg base "lots_around" (topS 37) 3 ["things", "closed"] (spF K m) } :=
  ⟨_, fun {P w K mg base} T => df_F T.f_lots_around sc_lots_around (ic (ic (ia (ia i0)))) (fun cdv A outer s H f hgd hr => (vs_cons (vs_set_ (ps (ps pz)) rfl sc_lots_around.nd (VF.up (vf_sortK (un64 hr) T.b_sorted T.b_len (ve_var (gs gz))))) (vs_cons (vs_ret (ve_dc1 (ps (ps (ps pz))) rfl rfl sc_lots_around.nd (vi_list (vd_call (d_lots_by_number T) hgd (rm hr) (va_cons (ve_var gz) va_nil))) (by rfl) (fun _ _ _ _ _ => pg_name (i := 3) sc_lots_around.nd rfl (by first | exact Or.inl rfl | exact Or.inr rfl)) (fun _ _ _ _ _ => (ve_var (gs (gs (gs gz))))) (fun _ _ _ _ _ => (vd_call (d_first_around T) hgd (rm hr) (va_cons (ve_var (gs (gs gz))) (va_cons (ve_var (gs (gs (gs gz)))) va_nil)))))) (vs_nil (wid (Γ := Unit))))))⟩
def m_lots_around := P_lots_around.1
theorem d_lots_around {P : Program} {w : World} {K : PySem.W.Frag} {mg : Str → Option Value} {base : Heap} (T : Top K mg) : Df P w K mg base "lots_around" (topS 37) 3 ["things", "closed"] (spF K m_lots_around) := P_lots_around.2 T
theorem sc_Closer___init__ : FnScope ["self", "things", "closed"] ["self", "things", "closed"] (defScope (topC 33 0)) := ⟨rfl, rfl, rfl, by decide +kernel, rfl, by decide +kernel, by decide +kernel⟩
def P_Closer___init__ : { m : (Str×(Tup Str)×Unit) → Option Clo // ∀ {P : Program} {w : World} {K : PySem.W.Frag} {mg : Str → Option Value} {base : Heap}, Top K mg → DfI P w K mg base 7 ["self", "things", "closed"] (spI K m) } :=
  ⟨_, fun {P w K mg base} T => df_I T.f_Closer___init__ sc_Closer___init__ (ic (ic i0)) (by
      intro γ c q γ' h p
      cases e1 : m_check_things (γ.1, ()) with
      | none => simp only [sseq, sex, sf1, sf2, sf3, snil, Fl.bnd, f1, fv, fcons, fnil, gs, gz, wid, Option.bind_some, e1, Option.map_none, Option.bind_none] at h; cases h
      | some u1 =>
        cases e2 : m_check_closed (γ.1, γ.2.1, ()) with
        | none => simp only [sseq, sex, sf1, sf2, sf3, snil, Fl.bnd, f1, fv, fcons, fnil, gs, gz, wid, Option.bind_some, Option.map_some, e1, e2, Option.map_none, Option.bind_none] at h; cases h
        | some u2 =>
          cases e3 : m_lots_around (γ.1, γ.2.1, ()) with
          | none => simp only [sseq, sex, sf1, sf2, sf3, snil, Fl.bnd, f1, fv, fcons, fnil, gs, gz, wid, Option.bind_some, Option.map_some, e1, e2, e3, Option.map_none, Option.bind_none] at h; cases h
          | some u3 =>
            simp only [sseq, sex, sf1, sf2, sf3, snil, Fl.bnd, f1, fv, fcons, fnil, gs, gz, wid, Option.bind_some, Option.map_some, e1, e2, e3] at h ⊢
            cases h
            exact ⟨_, rfl⟩) (fun cdv A outer s H f hgd hr => (vs_cons (vs_ex (vd_call (d_check_things T) hgd (rm hr) (va_cons (ve_var (gs gz)) va_nil))) (vs_cons (vs_ex (vd_call (d_check_closed T) hgd (rm hr) (va_cons (ve_var (gs gz)) (va_cons (ve_var (gs (gs gz))) va_nil)))) (vs_cons (vd_s1 T.cloF rfl (ve_var (gs gz))) (vs_cons (vd_s2 T.cloF rfl (ve_var (gs (gs gz)))) (vs_cons (vd_s3 T.cloF rfl (vd_call (d_lots_around T) hgd (rm hr) (va_cons (ve_var (gs gz)) (va_cons (ve_var (gs (gs gz))) va_nil)))) (vs_nil wid)))))))⟩
def m_Closer___init__ := P_Closer___init__.1
theorem d_Closer___init__ {P : Program} {w : World} {K : PySem.W.Frag} {mg : Str → Option Value} {base : Heap} (T : Top K mg) : DfI P w K mg base 7 ["self", "things", "closed"] (spI K m_Closer___init__) := P_Closer___init__.2 T
theorem sc_Closer_things : FnScope ["self"] ["self"] (defScope (topC 33 2)) := ⟨rfl, rfl, rfl, by decide +kernel, rfl, by decide +kernel, by decide +kernel⟩
def P_Closer_things : { m : Clo×Unit → Option Str // ∀ {P : Program} {w : World} {K : PySem.W.Frag} {mg : Str → Option Value} {base : Heap}, Top K mg → DfP P w K mg base "things" 1 ["self"] (spF K m) } :=
  ⟨_, fun {P w K mg base} T => df_P T.f_Closer_things sc_Closer_things (ic i0) (fun cdv A outer s H f hgd hr => (vs_cons (vs_ret (vd_fT T.cloF (ve_var gz))) (vs_nil (wid (Γ := Unit)))))⟩
def m_Closer_things := P_Closer_things.1
theorem d_Closer_things {P : Program} {w : World} {K : PySem.W.Frag} {mg : Str → Option Value} {base : Heap} (T : Top K mg) : DfP P w K mg base "things" 1 ["self"] (spF K m_Closer_things) := P_Closer_things.2 T
theorem sc_Closer_closed : FnScope ["self"] ["self"] (defScope (topC 33 3)) := ⟨rfl, rfl, rfl, by decide +kernel, rfl, by decide +kernel, by decide +kernel⟩
def P_Closer_closed : { m : Clo×Unit → Option (Tup Str) // ∀ {P : Program} {w : World} {K : PySem.W.Frag} {mg : Str → Option Value} {base : Heap}, Top K mg → DfP P w K mg base "closed" 1 ["self"] (spF K m) } :=
  ⟨_, fun {P w K mg base} T => df_P T.f_Closer_closed sc_Closer_closed (ic i0) (fun cdv A outer s H f hgd hr => (vs_cons (vs_ret (vd_fC T.cloF (ve_var gz))) (vs_nil (wid (Γ := Unit)))))⟩
def m_Closer_closed := P_Closer_closed.1
theorem d_Closer_closed {P : Program} {w : World} {K : PySem.W.Frag} {mg : Str → Option Value} {base : Heap} (T : Top K mg) : DfP P w K mg base "closed" 1 ["self"] (spF K m_Closer_closed) := P_Closer_closed.2 T
theorem sc_Closer_around : FnScope ["self", "lot"] ["self", "lot"] (defScope (topC 33 7)) := ⟨rfl, rfl, rfl, by decide +kernel, rfl, by decide +kernel, by decide +kernel⟩
def P_Closer_around : { m : Clo×Str×Unit → Option Str // ∀ {P : Program} {w : World} {K : PySem.W.Frag} {mg : Str → Option Value} {base : Heap}, Top K mg → DfMt P w K mg base "around" 5 ["self", "lot"] (spF K m) } :=
  ⟨_, fun {P w K mg base} T => df_Mt T.f_Closer_around sc_Closer_around (ic (ic i0)) (fun cdv A outer s H f hgd hr => (vs_cons (vs_ex (vd_call (d_check_lot T) hgd (rm hr) (va_cons (vd_fT T.cloF (ve_var gz)) (va_cons (ve_var (gs gz)) va_nil)))) (vs_cons (vs_ret (ve_dget (un1 hr) (vd_fA T.cloF (ve_var gz)) (ve_var (gs gz)) (by intro _ _; rfl))) (vs_nil (wid (Γ := Unit))))))⟩
def m_Closer_around := P_Closer_around.1
theorem d_Closer_around {P : Program} {w : World} {K : PySem.W.Frag} {mg : Str → Option Value} {base : Heap} (T : Top K mg) : DfMt P w K mg base "around" 5 ["self", "lot"] (spF K m_Closer_around) := P_Closer_around.2 T
theorem sc_Closer___eq__ : FnScope ["self", "other"] ["self", "other"] (defScope (topC 33 6)) := ⟨rfl, rfl, rfl, by decide +kernel, rfl, by decide +kernel, by decide +kernel⟩
def P_Closer___eq__ : { m : Clo×Clo×Unit → Option Bool // ∀ {P : Program} {w : World} {K : PySem.W.Frag} {mg : Str → Option Value} {base : Heap}, Top K mg → DfMt P w K mg base "__eq__" 1 ["self", "other"] (spF K m) } :=
  ⟨_, fun {P w K mg base} T => df_Mt T.f_Closer___eq__ sc_Closer___eq__ (ic (ic i0)) (fun cdv A outer s H f hgd hr => (vs_cons (vs_ret (ve_and (ve_isClo T.isClo (ve_var (gs gz)) T.b_isinstance) (ve_and (vo_cmp op_eq o_sEq re_mono (vd_fT T.cloF (ve_var gz)) (vd_fT T.cloF (ve_var (gs gz))) rfl) (ve_one (vo_cmp (op_eqP (un60 hr)) o_dEq re_mono (vd_fC T.cloF (ve_var gz)) (vd_fC T.cloF (ve_var (gs gz))) rfl))))) (vs_nil (wid (Γ := Unit)))))⟩
def m_Closer___eq__ := P_Closer___eq__.1
theorem d_Closer___eq__ {P : Program} {w : World} {K : PySem.W.Frag} {mg : Str → Option Value} {base : Heap} (T : Top K mg) : DfMt P w K mg base "__eq__" 1 ["self", "other"] (spF K m_Closer___eq__) := P_Closer___eq__.2 T
theorem sc_check_closer : FnScope ["closer"] ["closer"] (defScope (topS 35)) := ⟨rfl, rfl, rfl, by decide +kernel, rfl, by decide +kernel, by decide +kernel⟩
def P_check_closer : { m : Clo×Unit → Option Unit // ∀ {P : Program} {w : World} {K : PySem.W.Frag} {mg : Str → Option Value} {base : Heap}, Top K mg → Df P w K mg base "check_closer" (topS 35) 1 ["closer"] (spF K m) } :=
  ⟨_, fun {P w K mg base} T => df_U T.f_check_closer sc_check_closer (ic i0) (fun cdv A outer s H f hgd hr => (vs_cons (vs_if (vt_not (vt_val (ve_isClo T.isClo (ve_var gz) T.b_isinstance))) vss_never (vs_nil wid)) (vs_nil wid)))⟩
def m_check_closer := P_check_closer.1
theorem d_check_closer {P : Program} {w : World} {K : PySem.W.Frag} {mg : Str → Option Value} {base : Heap} (T : Top K mg) : Df P w K mg base "check_closer" (topS 35) 1 ["closer"] (spF K m_check_closer) := P_check_closer.2 T
theorem sc_is_rule : FnScope ["things", "value"] ["things", "value"] (defScope (topS 42)) := ⟨rfl, rfl, rfl, by decide +kernel, rfl, by decide +kernel, by decide +kernel⟩
def P_is_rule : { m : (Str×(T2 Str Str)×Unit) → Option Bool // ∀ {P : Program} {w : World} {K : PySem.W.Frag} {mg : Str → Option Value} {base : Heap}, Top K mg → Df P w K mg base "is_rule" (topS 42) 4 ["things", "value"] (spF K m) } :=
  ⟨_, fun {P w K mg base} T => df_F T.f_is_rule sc_is_rule (ic (ic i0)) (fun cdv A outer s H f hgd hr => (vs_cons (vs_ret (ve_and (ve_isT2 (ve_var (gs gz)) T.b_isinstance T.b_tuple) (ve_and (vo_cmp op_eq o_sEq re_mono (vo_blt call_len o_len2 (va_cons (ve_var (gs gz)) va_nil) T.b_len) ve_int rfl) (ve_and (vd_call (d_is_lot T) hgd (rm hr) (va_cons (ve_var gz) (va_cons (vo_ix ix_tup o_ix0 re_mono (ve_var (gs gz)) ve_int) va_nil))) (ve_one (vd_call (d_is_lot T) hgd (rm hr) (va_cons (ve_var gz) (va_cons (vo_ix ix_tup o_ix1 re_mono (ve_var (gs gz)) ve_int) va_nil)))))))) (vs_nil (wid (Γ := Unit)))))⟩
def m_is_rule := P_is_rule.1
theorem d_is_rule {P : Program} {w : World} {K : PySem.W.Frag} {mg : Str → Option Value} {base : Heap} (T : Top K mg) : Df P w K mg base "is_rule" (topS 42) 4 ["things", "value"] (spF K m_is_rule) := P_is_rule.2 T
theorem sc_wrong_rule : FnScope ["things", "rules", "at", "rule"] ["things", "rules"] (defScope (topS 43)) := ⟨rfl, rfl, rfl, by decide +kernel, rfl, by decide +kernel, by decide +kernel⟩
def P_wrong_rule : { m : (Str×(Tup (T2 Str Str))×Unit) → Option (Option Int) // ∀ {P : Program} {w : World} {K : PySem.W.Frag} {mg : Str → Option Value} {base : Heap}, Top K mg → Df P w K mg base "wrong_rule" (topS 43) 5 ["things", "rules"] (spF K m) } :=
  ⟨_, fun {P w K mg base} T => df_F T.f_wrong_rule sc_wrong_rule (ic (ic (ia (ia i0)))) (fun cdv A outer s H f hgd hr => (vs_cons (vs_forp wid (ps (ps pz)) (ps (ps (ps pz))) rfl PassesOwn.never rfl (vi_enumT (ve_var (gs gz)) T.b_enumerate) (pg_tup rfl (pgs_cons (pg_name (i := 2) sc_wrong_rule.nd rfl (by first | exact Or.inl rfl | exact Or.inr rfl)) (pgs_cons (pg_name (i := 3) sc_wrong_rule.nd rfl (by first | exact Or.inl rfl | exact Or.inr rfl)) pgs_nil))) (vs_cons (vs_if (vw_t (vw_or (vt_cmp op_ge o_iGe re_mono (ve_var (gs (gs gz))) (ve_gint T.c_MOST_RULES) rfl) (vw_or1 (vt_not (vt_val (vd_call (d_is_rule T) hgd (rm hr) (va_cons (ve_var gz) (va_cons (ve_var (gs (gs (gs gz)))) va_nil)))))))) (vs_cons (vs_ret (VE.some (ve_var (gs (gs gz))))) (vs_nil wid)) (vs_nil wid)) (vs_nil (wk (wk (wa (wa wn))))))) (vs_cons (vs_ret (ve_nonO (α := Int))) (vs_nil (wid (Γ := Unit))))))⟩
def m_wrong_rule := P_wrong_rule.1
theorem d_wrong_rule {P : Program} {w : World} {K : PySem.W.Frag} {mg : Str → Option Value} {base : Heap} (T : Top K mg) : Df P w K mg base "wrong_rule" (topS 43) 5 ["things", "rules"] (spF K m_wrong_rule) := P_wrong_rule.2 T
theorem sc_check_book : FnScope ["things", "book", "wrong"] ["things", "book"] (defScope (topS 44)) := ⟨rfl, rfl, rfl, by decide +kernel, rfl, by decide +kernel, by decide +kernel⟩
def P_check_book : { m : (Str×(Tup (T2 Str Str))×Unit) → Option Unit // ∀ {P : Program} {w : World} {K : PySem.W.Frag} {mg : Str → Option Value} {base : Heap}, Top K mg → Df P w K mg base "check_book" (topS 44) 6 ["things", "book"] (spF K m) } :=
  ⟨_, fun {P w K mg base} T => df_U T.f_check_book sc_check_book (ic (ic (ia i0))) (fun cdv A outer s H f hgd hr => (vs_cons (vs_if (vt_not (vt_val (ve_isTup (ve_var (gs gz)) T.b_isinstance T.b_tuple))) vss_never (vs_nil wid)) (vs_cons (vs_set_ (ps (ps pz)) rfl sc_check_book.nd (vd_call (d_wrong_rule T) hgd (rm hr) (va_cons (ve_var gz) (va_cons (ve_var (gs gz)) va_nil)))) (vs_cons (vs_if (vt_cmp op_notN o_notN re_mono (ve_var (gs (gs gz))) ve_non rfl) vss_never (vs_nil wid)) (vs_nil wid)))))⟩
def m_check_book := P_check_book.1
theorem d_check_book {P : Program} {w : World} {K : PySem.W.Frag} {mg : Str → Option Value} {base : Heap} (T : Top K mg) : Df P w K mg base "check_book" (topS 44) 6 ["things", "book"] (spF K m_check_book) := P_check_book.2 T
theorem sc_check_rows : FnScope ["things", "rows", "at", "row"] ["things", "rows"] (defScope (topS 45)) := ⟨rfl, rfl, rfl, by decide +kernel, rfl, by decide +kernel, by decide +kernel⟩
def P_check_rows : { m : (Str×(Tup Str)×Unit) → Option Unit // ∀ {P : Program} {w : World} {K : PySem.W.Frag} {mg : Str → Option Value} {base : Heap}, Top K mg → Df P w K mg base "check_rows" (topS 45) 4 ["things", "rows"] (spF K m) } :=
  ⟨_, fun {P w K mg base} T => df_U T.f_check_rows sc_check_rows (ic (ic (ia (ia i0)))) (fun cdv A outer s H f hgd hr => (vs_cons (vs_if (vt_not (vt_val (ve_isTup (ve_var (gs gz)) T.b_isinstance T.b_tuple))) vss_never (vs_nil wid)) (vs_cons (vs_forp wid (ps (ps pz)) (ps (ps (ps pz))) rfl PassesOwn.never rfl (vi_enumT (ve_var (gs gz)) T.b_enumerate) (pg_tup rfl (pgs_cons (pg_name (i := 2) sc_check_rows.nd rfl (by first | exact Or.inl rfl | exact Or.inr rfl)) (pgs_cons (pg_name (i := 3) sc_check_rows.nd rfl (by first | exact Or.inl rfl | exact Or.inr rfl)) pgs_nil))) (vs_cons (vs_if (vw_t (vw_or (vt_cmp op_ge o_iGe re_mono (ve_var (gs (gs gz))) (ve_gint T.c_MOST_ROWS) rfl) (vw_or1 (vt_not (vt_val (vd_call (d_is_lot T) hgd (rm hr) (va_cons (ve_var gz) (va_cons (ve_var (gs (gs (gs gz)))) va_nil)))))))) vss_never (vs_nil wid)) (vs_nil (wk (wk (wa (wa wn))))))) (vs_nil wid))))⟩
def m_check_rows := P_check_rows.1
theorem d_check_rows {P : Program} {w : World} {K : PySem.W.Frag} {mg : Str → Option Value} {base : Heap} (T : Top K mg) : Df P w K mg base "check_rows" (topS 45) 4 ["things", "rows"] (spF K m_check_rows) := P_check_rows.2 T
theorem sc_by_rules : FnScope ["things", "book", "number", "kept", "needed", "added", "first", "then", "lot"] ["things", "book"] (defScope (topS 46)) := ⟨rfl, rfl, rfl, by decide +kernel, rfl, by decide +kernel, by decide +kernel⟩
def P_by_rules : { m : (Str×(Tup (T2 Str Str))×Unit) → Option Clo // ∀ {P : Program} {w : World} {K : PySem.W.Frag} {mg : Str → Option Value} {base : Heap}, Top K mg → Df P w K mg base "by_rules" (topS 46) 9 ["things", "book"] (spF K m) } :=
  ⟨_, fun {P w K mg base} T => df_F T.f_by_rules sc_by_rules (ic (ic (ia (ia (ia (ia (ia (ia (ia i0))))))))) (fun cdv A outer s H f hgd hr => (vs_cons (vs_ex (vd_call (d_check_things T) hgd (rm hr) (va_cons (ve_var gz) va_nil))) (vs_cons (vs_ex (vd_call (d_check_book T) hgd (rm hr) (va_cons (ve_var gz) (va_cons (ve_var (gs gz)) va_nil)))) (vs_cons (vs_set_ (ps (ps pz)) rfl sc_by_rules.nd (vd_call (d_number_by_lot T) hgd (rm hr) (va_cons (ve_var gz) va_nil))) (vs_cons (vs_set_ (ps (ps (ps pz))) rfl sc_by_rules.nd (VF.up (vf_lrng rfl T.b_list T.b_range (vo_blt call_len o_lenL (va_cons (vd_call (d_lots_by_number T) hgd (rm hr) (va_cons (ve_var gz) va_nil)) va_nil) T.b_len)))) (vs_cons (vs_forp wid (ps (ps (ps (ps pz)))) (ps (ps (ps (ps (ps pz))))) rfl PassesOwn.never rfl (vi_tup (ve_var (gs gz))) (pg_tup rfl (pgs_cons (pg_name (i := 4) sc_by_rules.nd rfl (by first | exact Or.inl rfl | exact Or.inr rfl)) (pgs_cons (pg_name (i := 5) sc_by_rules.nd rfl (by first | exact Or.inl rfl | exact Or.inr rfl)) pgs_nil))) (vs_cons (vs_unp (ps (ps (ps (ps (ps (ps pz)))))) (ps (ps (ps (ps (ps (ps (ps pz))))))) rfl rfl sc_by_rules.nd (ve_pair (va_cons (ve_dget (un1 hr) (ve_var (gs (gs gz))) (ve_var (gs (gs (gs (gs gz))))) (by intro _ _; rfl)) (va_cons (ve_dget (un1 hr) (ve_var (gs (gs gz))) (ve_var (gs (gs (gs (gs (gs gz)))))) (by intro _ _; rfl)) va_nil)))) (vs_cons (vs_setLc (ps (ps (ps pz))) (ps (ps (ps (ps (ps (ps (ps (ps pz)))))))) rfl rfl sc_by_rules.nd (vi_list (ve_var (gs (gs (gs gz))))) (by rfl) (fun _ _ _ _ _ => pg_name (i := 8) sc_by_rules.nd rfl (by first | exact Or.inl rfl | exact Or.inr rfl)) (fun _ _ _ _ _ => (vts_one (vw_t (vw_or (vt_cmp op_ne o_sNe re_mono (vo_op op_and o_iAnd re_mono (ve_var (gs (gs (gs (gs (gs (gs (gs (gs gz))))))))) (ve_var (gs (gs (gs (gs (gs (gs gz)))))))) (ve_var (gs (gs (gs (gs (gs (gs gz))))))) rfl) (vw_or1 (vt_cmp op_eq o_sEq re_mono (vo_op op_and o_iAnd re_mono (ve_var (gs (gs (gs (gs (gs (gs (gs (gs gz))))))))) (ve_var (gs (gs (gs (gs (gs (gs (gs gz))))))))) (ve_var (gs (gs (gs (gs (gs (gs (gs gz)))))))) rfl)))))) (fun _ _ _ _ _ => (ve_var (gs (gs (gs (gs (gs (gs (gs (gs gz))))))))))) (vs_nil (wk (wk (wk (wk (wa (wa (wa (wa (wk wn))))))))))))) (vs_cons (vs_ret (vd_make (d_Closer___init__ T) hgd (rm hr) (va_cons (ve_var gz) (va_cons (vd_call (d_family_of T) hgd (rm hr) (va_cons (ve_var gz) (va_cons (ve_var (gs (gs (gs gz)))) va_nil))) va_nil)))) (vs_nil (wid (Γ := Unit))))))))))⟩
def m_by_rules := P_by_rules.1
theorem d_by_rules {P : Program} {w : World} {K : PySem.W.Frag} {mg : Str → Option Value} {base : Heap} (T : Top K mg) : Df P w K mg base "by_rules" (topS 46) 9 ["things", "book"] (spF K m_by_rules) := P_by_rules.2 T
theorem sc_by_rows : FnScope ["things", "rows"] ["things", "rows"] (defScope (topS 47)) := ⟨rfl, rfl, rfl, by decide +kernel, rfl, by decide +kernel, by decide +kernel⟩
def P_by_rows : { m : (Str×(Tup Str)×Unit) → Option Clo // ∀ {P : Program} {w : World} {K : PySem.W.Frag} {mg : Str → Option Value} {base : Heap}, Top K mg → Df P w K mg base "by_rows" (topS 47) 9 ["things", "rows"] (spF K m) } :=
  ⟨_, fun {P w K mg base} T => df_F T.f_by_rows sc_by_rows (ic (ic i0)) (fun cdv A outer s H f hgd hr => (vs_cons (vs_ex (vd_call (d_check_things T) hgd (rm hr) (va_cons (ve_var gz) va_nil))) (vs_cons (vs_ex (vd_call (d_check_rows T) hgd (rm hr) (va_cons (ve_var gz) (va_cons (ve_var (gs gz)) va_nil)))) (vs_cons (vs_ret (vd_make (d_Closer___init__ T) hgd (rm hr) (va_cons (ve_var gz) (va_cons (vd_call (d_meets_of T) hgd (rm hr) (va_cons (ve_var gz) (va_cons (ve_var (gs gz)) va_nil))) va_nil)))) (vs_nil (wid (Γ := Unit)))))))⟩
def m_by_rows := P_by_rows.1
theorem d_by_rows {P : Program} {w : World} {K : PySem.W.Frag} {mg : Str → Option Value} {base : Heap} (T : Top K mg) : Df P w K mg base "by_rows" (topS 47) 9 ["things", "rows"] (spF K m_by_rows) := P_by_rows.2 T
theorem sc_meet_above : FnScope ["numbers", "number", "meet", "other"] ["numbers", "number"] (defScope (topS 49)) := ⟨rfl, rfl, rfl, by decide +kernel, rfl, by decide +kernel, by decide +kernel⟩
def P_meet_above : { m : ((List Int)×Int×Unit) → Option Int // ∀ {P : Program} {w : World} {K : PySem.W.Frag} {mg : Str → Option Value} {base : Heap}, Top K mg → Df P w K mg base "meet_above" (topS 49) 1 ["numbers", "number"] (spF K m) } :=
  ⟨_, fun {P w K mg base} T => df_F T.f_meet_above sc_meet_above (ic (ic (ia (ia i0)))) (fun cdv A outer s H f hgd hr => (vs_cons (vs_set_ (ps (ps pz)) rfl sc_meet_above.nd (vo_blt (cr_maxI (un64 hr) rfl) o_maxI (va_cons (ve_var gz) va_nil) T.b_max)) (vs_cons (vs_forn wid (ps (ps (ps pz))) rfl PassesOwn.never rfl (vi_list (ve_var gz)) (pg_name (i := 3) sc_meet_above.nd rfl (by first | exact Or.inl rfl | exact Or.inr rfl)) (vs_cons (vs_if (vw_t (vw_and (vt_cmp op_ne o_sNe re_mono (ve_var (gs (gs (gs gz)))) (ve_var (gs gz)) rfl) (vw_and1 (vt_cmp op_eq o_sEq re_mono (vo_op op_and o_iAnd re_mono (ve_var (gs (gs (gs gz)))) (ve_var (gs gz))) (ve_var (gs gz)) rfl)))) (vs_cons (vs_set_ (ps (ps pz)) rfl sc_meet_above.nd (vo_op op_and o_iAnd re_mono (ve_var (gs (gs gz))) (ve_var (gs (gs (gs gz)))))) (vs_nil wid)) (vs_nil wid)) (vs_nil (wk (wk (wk (wa wn))))))) (vs_cons (vs_ret (ve_var (gs (gs gz)))) (vs_nil (wid (Γ := Unit)))))))⟩
def m_meet_above := P_meet_above.1
theorem d_meet_above {P : Program} {w : World} {K : PySem.W.Frag} {mg : Str → Option Value} {base : Heap} (T : Top K mg) : Df P w K mg base "meet_above" (topS 49) 1 ["numbers", "number"] (spF K m_meet_above) := P_meet_above.2 T
theorem sc_corners : FnScope ["closer", "numbers", "number"] ["closer"] (defScope (topS 48)) := ⟨rfl, rfl, rfl, by decide +kernel, rfl, by decide +kernel, by decide +kernel⟩
def P_corners : { m : Clo×Unit → Option (Tup Str) // ∀ {P : Program} {w : World} {K : PySem.W.Frag} {mg : Str → Option Value} {base : Heap}, Top K mg → Df P w K mg base "corners" (topS 48) 4 ["closer"] (spF K m) } :=
  ⟨_, fun {P w K mg base} T => df_F T.f_corners sc_corners (ic (ia (ia i0))) (fun cdv A outer s H f hgd hr => (vs_cons (vs_ex (vd_call (d_check_closer T) hgd (rm hr) (va_cons (ve_var gz) va_nil))) (vs_cons (vs_set_ (ps pz) rfl sc_corners.nd (vd_call (d_numbers_of T) hgd (rm hr) (va_cons (vd_prop (d_Closer_things T) hgd (rm hr) (ve_var gz)) (va_cons (vd_prop (d_Closer_closed T) hgd (rm hr) (ve_var gz)) va_nil)))) (vs_cons (vs_ret (vd_call (d_family_of T) hgd (rm hr) (va_cons (vd_prop (d_Closer_things T) hgd (rm hr) (ve_var gz)) (va_cons (VF.up (vf_lc_ (ps (ps pz)) rfl rfl sc_corners.nd (vi_list (ve_var (gs gz))) (by rfl) (fun _ _ _ _ _ => pg_name (i := 2) sc_corners.nd rfl (by first | exact Or.inl rfl | exact Or.inr rfl)) (fun _ _ _ _ _ => (vts_one (vt_cmp op_ne o_sNe re_mono (vd_call (d_meet_above T) hgd (rm hr) (va_cons (ve_var (gs gz)) (va_cons (ve_var (gs (gs gz))) va_nil))) (ve_var (gs (gs gz))) rfl))) (fun _ _ _ _ _ => (ve_var (gs (gs gz)))))) va_nil)))) (vs_nil (wid (Γ := Unit)))))))⟩
def m_corners := P_corners.1
theorem d_corners {P : Program} {w : World} {K : PySem.W.Frag} {mg : Str → Option Value} {base : Heap} (T : Top K mg) : Df P w K mg base "corners" (topS 48) 4 ["closer"] (spF K m_corners) := P_corners.2 T
theorem sc_in_both : FnScope ["one", "other", "letter"] ["one", "other"] (defScope (topS 26)) := ⟨rfl, rfl, rfl, by decide +kernel, rfl, by decide +kernel, by decide +kernel⟩
def P_in_both : { m : Str×Str×Unit → Option Str // ∀ {P : Program} {w : World} {K : PySem.W.Frag} {mg : Str → Option Value} {base : Heap}, Top K mg → Df P w K mg base "in_both" (topS 26) 1 ["one", "other"] (spF K m) } :=
  ⟨_, fun {P w K mg base} T => df_F T.f_in_both sc_in_both (ic (ic (ia i0))) (fun cdv A outer s H f hgd hr => (vs_cons (vs_ret (ve_join ve_str (VF.up (vf_lc_ (ps (ps pz)) rfl rfl sc_in_both.nd (vi_str (ve_var gz)) (by rfl) (fun _ _ _ _ _ => pg_name (i := 2) sc_in_both.nd rfl (by first | exact Or.inl rfl | exact Or.inr rfl)) (fun _ _ _ _ _ => (vts_one (vt_cmp op_in_sign o_sIn re_mono (ve_var (gs (gs gz))) (ve_var (gs gz)) rfl))) (fun _ _ _ _ _ => (ve_var (gs (gs gz)))))))) (vs_nil (wid (Γ := Unit)))))⟩
def m_in_both := P_in_both.1
theorem d_in_both {P : Program} {w : World} {K : PySem.W.Frag} {mg : Str → Option Value} {base : Heap} (T : Top K mg) : Df P w K mg base "in_both" (topS 26) 1 ["one", "other"] (spF K m_in_both) := P_in_both.2 T
theorem sc_check_rule : FnScope ["things", "rule"] ["things", "rule"] (defScope (topS 62)) := ⟨rfl, rfl, rfl, by decide +kernel, rfl, by decide +kernel, by decide +kernel⟩
def P_check_rule : { m : (Str×(T2 Str Str)×Unit) → Option Unit // ∀ {P : Program} {w : World} {K : PySem.W.Frag} {mg : Str → Option Value} {base : Heap}, Top K mg → Df P w K mg base "check_rule" (topS 62) 5 ["things", "rule"] (spF K m) } :=
  ⟨_, fun {P w K mg base} T => df_U T.f_check_rule sc_check_rule (ic (ic i0)) (fun cdv A outer s H f hgd hr => (vs_cons (vs_if (vt_not (vt_val (vd_call (d_is_rule T) hgd (rm hr) (va_cons (ve_var gz) (va_cons (ve_var (gs gz)) va_nil))))) vss_never (vs_nil wid)) (vs_nil wid)))⟩
def m_check_rule := P_check_rule.1
theorem d_check_rule {P : Program} {w : World} {K : PySem.W.Frag} {mg : Str → Option Value} {base : Heap} (T : Top K mg) : Df P w K mg base "check_rule" (topS 62) 5 ["things", "rule"] (spF K m_check_rule) := P_check_rule.2 T
theorem sc_keeps : FnScope ["lot", "rule", "needed", "added"] ["lot", "rule"] (defScope (topS 63)) := ⟨rfl, rfl, rfl, by decide +kernel, rfl, by decide +kernel, by decide +kernel⟩
def P_keeps : { m : (Str×(T2 Str Str)×Unit) → Option Bool // ∀ {P : Program} {w : World} {K : PySem.W.Frag} {mg : Str → Option Value} {base : Heap}, Top K mg → Df P w K mg base "keeps" (topS 63) 2 ["lot", "rule"] (spF K m) } :=
  ⟨_, fun {P w K mg base} T => df_F T.f_keeps sc_keeps (ic (ic (ia (ia i0)))) (fun cdv A outer s H f hgd hr => (vs_cons (vs_unp (ps (ps pz)) (ps (ps (ps pz))) rfl rfl sc_keeps.nd (ve_var (gs gz))) (vs_cons (vs_ret (ve_or (ve_not (vd_call (d_has_all T) hgd (rm hr) (va_cons (ve_var gz) (va_cons (ve_var (gs (gs gz))) va_nil)))) (ve_one (vd_call (d_has_all T) hgd (rm hr) (va_cons (ve_var gz) (va_cons (ve_var (gs (gs (gs gz)))) va_nil)))))) (vs_nil (wid (Γ := Unit))))))⟩
def m_keeps := P_keeps.1
theorem d_keeps {P : Program} {w : World} {K : PySem.W.Frag} {mg : Str → Option Value} {base : Heap} (T : Top K mg) : Df P w K mg base "keeps" (topS 63) 2 ["lot", "rule"] (spF K m_keeps) := P_keeps.2 T
theorem sc_holds : FnScope ["closer", "rule"] ["closer", "rule"] (defScope (topS 65)) := ⟨rfl, rfl, rfl, by decide +kernel, rfl, by decide +kernel, by decide +kernel⟩
def P_holds : { m : (Clo×(T2 Str Str)×Unit) → Option Bool // ∀ {P : Program} {w : World} {K : PySem.W.Frag} {mg : Str → Option Value} {base : Heap}, Top K mg → Df P w K mg base "holds" (topS 65) 6 ["closer", "rule"] (spF K m) } :=
  ⟨_, fun {P w K mg base} T => df_F T.f_holds sc_holds (ic (ic i0)) (fun cdv A outer s H f hgd hr => (vs_cons (vs_ex (vd_call (d_check_closer T) hgd (rm hr) (va_cons (ve_var gz) va_nil))) (vs_cons (vs_ex (vd_call (d_check_rule T) hgd (rm hr) (va_cons (vd_prop (d_Closer_things T) hgd (rm hr) (ve_var gz)) (va_cons (ve_var (gs gz)) va_nil)))) (vs_cons (vs_ret (vd_call (d_keeps T) hgd (rm hr) (va_cons (vd_meth (d_Closer_around T) hgd (rm hr) (ve_var gz) (va_cons (vo_ix ix_tup o_ix0 re_mono (ve_var (gs gz)) ve_int) va_nil)) (va_cons (ve_var (gs gz)) va_nil)))) (vs_nil (wid (Γ := Unit)))))))⟩
def m_holds := P_holds.1
theorem d_holds {P : Program} {w : World} {K : PySem.W.Frag} {mg : Str → Option Value} {base : Heap} (T : Top K mg) : Df P w K mg base "holds" (topS 65) 6 ["closer", "rule"] (spF K m_holds) := P_holds.2 T
theorem sc_first_broken : FnScope ["book", "lot", "at", "rule"] ["book", "lot"] (defScope (topS 64)) := ⟨rfl, rfl, rfl, by decide +kernel, rfl, by decide +kernel, by decide +kernel⟩
def P_first_brokenL : { m : ((List (T2 Str Str))×Str×Unit) → Option (Option Int) // ∀ {P : Program} {w : World} {K : PySem.W.Frag} {mg : Str → Option Value} {base : Heap}, Top K mg → Df P w K mg base "first_broken" (topS 64) 3 ["book", "lot"] (spF K m) } :=
  ⟨_, fun {P w K mg base} T => df_F T.f_first_broken sc_first_broken (ic (ic (ia (ia i0)))) (fun cdv A outer s H f hgd hr => (vs_cons (vs_forp wid (ps (ps pz)) (ps (ps (ps pz))) rfl PassesOwn.never rfl (vi_enumL (ve_var gz) T.b_enumerate) (pg_tup rfl (pgs_cons (pg_name (i := 2) sc_first_broken.nd rfl (by first | exact Or.inl rfl | exact Or.inr rfl)) (pgs_cons (pg_name (i := 3) sc_first_broken.nd rfl (by first | exact Or.inl rfl | exact Or.inr rfl)) pgs_nil))) (vs_cons (vs_if (vt_not (vt_val (vd_call (d_keeps T) hgd (rm hr) (va_cons (ve_var (gs gz)) (va_cons (ve_var (gs (gs (gs gz)))) va_nil))))) (vs_cons (vs_ret (VE.some (ve_var (gs (gs gz))))) (vs_nil wid)) (vs_nil wid)) (vs_nil (wk (wk (wa (wa wn))))))) (vs_cons (vs_ret (ve_nonO (α := Int))) (vs_nil (wid (Γ := Unit))))))⟩
def m_first_brokenL := P_first_brokenL.1
theorem d_first_brokenL {P : Program} {w : World} {K : PySem.W.Frag} {mg : Str → Option Value} {base : Heap} (T : Top K mg) : Df P w K mg base "first_broken" (topS 64) 3 ["book", "lot"] (spF K m_first_brokenL) := P_first_brokenL.2 T
theorem sc_Closer_is_closed : FnScope ["self", "lot"] ["self", "lot"] (defScope (topC 33 8)) := ⟨rfl, rfl, rfl, by decide +kernel, rfl, by decide +kernel, by decide +kernel⟩
def P_Closer_is_closed : { m : Clo×Str×Unit → Option Bool // ∀ {P : Program} {w : World} {K : PySem.W.Frag} {mg : Str → Option Value} {base : Heap}, Top K mg → DfMt P w K mg base "is_closed" 5 ["self", "lot"] (spF K m) } :=
  ⟨_, fun {P w K mg base} T => df_Mt T.f_Closer_is_closed sc_Closer_is_closed (ic (ic i0)) (fun cdv A outer s H f hgd hr => (vs_cons (vs_ex (vd_call (d_check_lot T) hgd (rm hr) (va_cons (vd_fT T.cloF (ve_var gz)) (va_cons (ve_var (gs gz)) va_nil)))) (vs_cons (vs_ret (vo_cmp op_eq o_sEq re_mono (ve_dget (un1 hr) (vd_fA T.cloF (ve_var gz)) (ve_var (gs gz)) (by intro _ _; rfl)) (ve_var (gs gz)) rfl)) (vs_nil (wid (Γ := Unit))))))⟩
def m_Closer_is_closed := P_Closer_is_closed.1
theorem d_Closer_is_closed {P : Program} {w : World} {K : PySem.W.Frag} {mg : Str → Option Value} {base : Heap} (T : Top K mg) : DfMt P w K mg base "is_closed" 5 ["self", "lot"] (spF K m_Closer_is_closed) := P_Closer_is_closed.2 T
theorem sc_stem_of : FnScope ["closer", "found", "lot"] ["closer"] (defScope (topS 68)) := ⟨rfl, rfl, rfl, by decide +kernel, rfl, by decide +kernel, by decide +kernel⟩
def P_stem_of : { m : Clo×Unit → Option (Tup (T2 Str Str)) // ∀ {P : Program} {w : World} {K : PySem.W.Frag} {mg : Str → Option Value} {base : Heap}, Top K mg → Df P w K mg base "stem_of" (topS 68) 6 ["closer"] (spF K m) } :=
  ⟨_, fun {P w K mg base} T => df_F T.f_stem_of sc_stem_of (ic (ia (ia i0))) (fun cdv A outer s H f hgd hr => (vs_cons (vs_new_ (pos' poz) rfl sc_stem_of.nd (vf_lst (vls_nil (α := T2 Str Str)))) (vs_cons (vs_forn wid (ps (ps pz)) rfl PassesOwn.never rfl (vi_list (vd_call (d_lots_by_number T) hgd (rm hr) (va_cons (vd_prop (d_Closer_things T) hgd (rm hr) (ve_var gz)) va_nil))) (pg_name (i := 2) sc_stem_of.nd rfl (by first | exact Or.inl rfl | exact Or.inr rfl)) (vs_cons (vs_if (vw_t (vw_and (vt_not (vt_val (vd_meth (d_Closer_is_closed T) hgd (rm hr) (ve_var gz) (va_cons (ve_var (gs (gs gz))) va_nil)))) (vw_and1 (vt_cmp op_isN o_isN re_mono (ve_tmp (fs fz) rfl (vd_call (d_first_brokenL T) hgd (rm hr) (va_cons (ve_var (gs gz)) (va_cons (ve_var (gs (gs gz))) va_nil)))) ve_non rfl)))) (vs_cons (vs_app_ (os oz) rfl (vo_up (ve_pair (va_cons (ve_var (gs (gs gz))) (va_cons (vd_meth (d_Closer_around T) hgd (rm hr) (ve_var gz) (va_cons (ve_var (gs (gs gz))) va_nil)) va_nil)))) (hpe := fun t h => pe_bm PySem.F.plainAttrs_list PySem.F.slot_list_append PySem.F.type_list_append mt_append (pe_var (i := 1) rfl (by first | exact Or.inl rfl | exact Or.inr (Or.inl rfl) | exact Or.inr (Or.inr rfl)) (by decide) (by decide)) h)) (vs_nil wid)) (vs_nil wid)) (vs_nil (wk (wk (wa wn)))))) (vss_frz (fs fz) rfl (vs_cons (vs_ret (vo_bty call_tuple_of o_tupL (va_cons (VF.up (vo_blt (cr_srtP (α := T2 Str Str) (un64 hr)) o_srtLP (va_cons (ve_var (gs gz)) va_nil) T.b_sorted)) va_nil) T.b_tuple)) (vs_nil (wid (Γ := Unit))))))))⟩
def m_stem_of := P_stem_of.1
theorem d_stem_of {P : Program} {w : World} {K : PySem.W.Frag} {mg : Str → Option Value} {base : Heap} (T : Top K mg) : Df P w K mg base "stem_of" (topS 68) 6 ["closer"] (spF K m_stem_of) := P_stem_of.2 T
theorem sc_stem : FnScope ["closer"] ["closer"] (defScope (topS 69)) := ⟨rfl, rfl, rfl, by decide +kernel, rfl, by decide +kernel, by decide +kernel⟩
def P_stem : { m : Clo×Unit → Option (Tup (T2 Str Str)) // ∀ {P : Program} {w : World} {K : PySem.W.Frag} {mg : Str → Option Value} {base : Heap}, Top K mg → Df P w K mg base "stem" (topS 69) 7 ["closer"] (spF K m) } :=
  ⟨_, fun {P w K mg base} T => df_F T.f_stem sc_stem (ic i0) (fun cdv A outer s H f hgd hr => (vs_cons (vs_ex (vd_call (d_check_closer T) hgd (rm hr) (va_cons (ve_var gz) va_nil))) (vs_cons (vs_ret (vd_call (d_stem_of T) hgd (rm hr) (va_cons (ve_var gz) va_nil))) (vs_nil (wid (Γ := Unit))))))⟩
def m_stem := P_stem.1
theorem d_stem {P : Program} {w : World} {K : PySem.W.Frag} {mg : Str → Option Value} {base : Heap} (T : Top K mg) : Df P w K mg base "stem" (topS 69) 7 ["closer"] (spF K m_stem) := P_stem.2 T
theorem sc__law_hopper : FnScope ["_law_script", "_law_k", "_law_own_here", "_law_stirred", "_law_entry"] ["_law_script", "_law_k"] (defScope (topS 71)) := ⟨rfl, rfl, rfl, by decide +kernel, rfl, by decide +kernel, by decide +kernel⟩
def P__law_hopper : { m : Scr×Int×Unit → Option (List Int) // ∀ {P : Program} {w : World} {K : PySem.W.Frag} {mg : Str → Option Value} {base : Heap}, Top K mg → Df P w K mg base "_law_hopper" (topS 71) 1 ["_law_script", "_law_k"] (spN K m) } :=
  ⟨_, fun {P w K mg base} T => df_N T.f__law_hopper sc__law_hopper (ic (ic (ia (ia (ia i0))))) (fun cdv A outer s H f hgd hr => (vs_cons (vs_set_ (ps (ps pz)) rfl sc__law_hopper.nd (vo_if (vt_cmp op_lt o_iLt re_mono (ve_var (gs gz)) (vo_blt call_len o_lenC (va_cons (ve_var gz) va_nil) T.b_len) rfl) (vo_bty call_int1 o_int (va_cons (vo_ix ix_list o_cIx re_mono (ve_var gz) (ve_var (gs gz))) va_nil) T.b_int) (vo_op op_add o_iAdd re_mono (vo_op op_mul o_iMul re_mono ve_int (ve_var (gs gz))) ve_int))) (vs_cons (vs_set_ (ps (ps (ps pz))) rfl sc__law_hopper.nd (vo_op op_add o_iAdd re_mono ve_int (vo_op op_mul o_iMul re_mono ve_int (ve_var (gs gz))))) (vs_cons (vs_forn wid (ps (ps (ps (ps pz)))) rfl PassesOwn.never rfl (vi_list (VF.up (vf_scrTo (ve_var gz) ve_int))) (pg_name (i := 4) sc__law_hopper.nd rfl (by first | exact Or.inl rfl | exact Or.inr rfl)) (vs_cons (vs_set_ (ps (ps (ps pz))) rfl sc__law_hopper.nd (vo_op op_mod o_iMod re_mono (vo_bty call_int1 o_int (va_cons (vo_op op_add o_iAdd re_mono (vo_op op_mul o_iMul re_mono (ve_var (gs (gs (gs gz)))) ve_int) (vo_op op_mod o_iMod re_mono (vo_bty call_int1 o_int (va_cons (ve_var (gs (gs (gs (gs gz))))) va_nil) T.b_int) ve_int)) va_nil) T.b_int) ve_int)) (vs_nil (wk (wk (wk (wk (wa wn)))))))) (vs_cons (vs_ret (vf_lst (vls_cons (vo_op op_mod o_iMod re_mono (vo_bty call_int1 o_int (va_cons (vo_op op_add o_iAdd re_mono (vo_op op_mul o_iMul re_mono (ve_var (gs (gs (gs gz)))) ve_int) (vo_op op_mod o_iMod re_mono (ve_var (gs (gs gz))) ve_int)) va_nil) T.b_int) ve_int) (vls_cons ve_int (vls_cons (vo_if (vw_t (vw_or (vt_cmp op_lt o_iLt re_mono (ve_var (gs (gs gz))) ve_int rfl) (vw_or1 (vt_cmp op_ge o_iGe re_mono (ve_var (gs (gs gz))) (vo_op op_pow o_iPow re_mono ve_int ve_int) rfl)))) (vo_blt call_abs o_abs (va_cons (ve_var (gs (gs gz))) va_nil) T.b_abs) ve_int) vls_nil))))) (vs_nil (wid (Γ := Unit))))))))⟩
def m__law_hopper := P__law_hopper.1
theorem d__law_hopper {P : Program} {w : World} {K : PySem.W.Frag} {mg : Str → Option Value} {base : Heap} (T : Top K mg) : Df P w K mg base "_law_hopper" (topS 71) 1 ["_law_script", "_law_k"] (spN K m__law_hopper) := P__law_hopper.2 T
theorem sc__law_spill : FnScope ["_law_hopper_here", "_law_many", "_law_figure"] ["_law_hopper_here", "_law_many"] (defScope (topS 72)) := ⟨rfl, rfl, rfl, by decide +kernel, rfl, by decide +kernel, by decide +kernel⟩
def P__law_spill : { m : List Int → Int×Unit → Option (Int × List Int) // ∀ {P : Program} {w : World} {K : PySem.W.Frag} {mg : Str → Option Value} {base : Heap}, Top K mg → Df P w K mg base "_law_spill" (topS 72) 1 ["_law_hopper_here", "_law_many"] (spM K m) } :=
  ⟨_, fun {P w K mg base} T => df_M T.f__law_spill sc__law_spill (ic (ia i0)) (fun cdv A outer s H f hgd hr => (vs_cons (vs_set1_ oz rfl (vo_op op_add o_iAdd re_mono (vo_ix ix_list o_lIx rl_mono (vl_own oz) ve_int) ve_int) ve_int) (vs_cons (vs_if (vt_cmp op_gt o_iGt re_mono (vo_ix ix_list o_lIx rl_mono (vl_own oz) ve_int) ve_int rfl) (vs_cons (vs_dm_ oz (ps (ps pz)) rfl rfl sc__law_spill.nd (va_cons (vo_bty call_int1 o_int (va_cons (vo_ix ix_list o_lIx rl_mono (vl_own oz) ve_int) va_nil) T.b_int) (va_cons (ve_var (gs gz)) va_nil)) T.b_divmod) (vs_cons (vs_ret (ve_var (gs (gs gz)))) (vs_nil wid))) (vs_nil wid)) (vs_cons (vs_set1_ oz rfl (vo_op op_mod o_iMod re_mono (vo_bty call_int1 o_int (va_cons (vo_op op_add o_iAdd re_mono (vo_op op_add o_iAdd re_mono (vo_op op_mul o_iMul re_mono (vo_ix ix_list o_lIx rl_mono (vl_own oz) ve_int) ve_int) (vo_op op_mul o_iMul re_mono (vo_ix ix_list o_lIx rl_mono (vl_own oz) ve_int) ve_int)) (vo_op op_mul o_iMul re_mono (vo_op op_fdiv o_iDiv re_mono (vo_ix ix_list o_lIx rl_mono (vl_own oz) ve_int) ve_int) ve_int)) va_nil) T.b_int) ve_int) ve_int) (vs_cons (vs_ret (vo_op op_mod o_iMod re_mono (vo_bty call_int1 o_int (va_cons (vo_op op_fdiv o_iDiv re_mono (vo_ix ix_list o_lIx rl_mono (vl_own oz) ve_int) ve_int) va_nil) T.b_int) (ve_var (gs gz)))) (vs_nil (wid (Γ := Unit))))))))⟩
def m__law_spill := P__law_spill.1
theorem d__law_spill {P : Program} {w : World} {K : PySem.W.Frag} {mg : Str → Option Value} {base : Heap} (T : Top K mg) : Df P w K mg base "_law_spill" (topS 72) 1 ["_law_hopper_here", "_law_many"] (spM K m__law_spill) := P__law_spill.2 T
theorem sc__law_out_of : FnScope ["_law_hopper_here", "_law_bowl"] ["_law_hopper_here", "_law_bowl"] (defScope (topS 73)) := ⟨rfl, rfl, rfl, by decide +kernel, rfl, by decide +kernel, by decide +kernel⟩
def P__law_out_ofL : { m : List Int → ((List Str)×Unit) → Option (Str × List Int) // ∀ {P : Program} {w : World} {K : PySem.W.Frag} {mg : Str → Option Value} {base : Heap}, Top K mg → Df P w K mg base "_law_out_of" (topS 73) 2 ["_law_hopper_here", "_law_bowl"] (spM K m) } :=
  ⟨_, fun {P w K mg base} T => df_M T.f__law_out_of sc__law_out_of (ic i0) (fun cdv A outer s H f hgd hr => (vs_cons (vs_retM (mo_ix ix_list (reL o_lIx) re_mmono (vo_up (ve_var (gs gz))) (md_draw (d__law_spill T) hgd (rm hr) (pe_var (i := 0) rfl (by first | exact Or.inl rfl | exact Or.inr (Or.inl rfl) | exact Or.inr (Or.inr rfl)) (by decide) (by decide)) (va_up (va_cons (vo_blt call_len o_lenL (va_cons (ve_var (gs gz)) va_nil) T.b_len) va_nil))))) (vs_nil (wid (Γ := Unit)))))⟩
def m__law_out_ofL := P__law_out_ofL.1
theorem d__law_out_ofL {P : Program} {w : World} {K : PySem.W.Frag} {mg : Str → Option Value} {base : Heap} (T : Top K mg) : Df P w K mg base "_law_out_of" (topS 73) 2 ["_law_hopper_here", "_law_bowl"] (spM K m__law_out_ofL) := P__law_out_ofL.2 T
theorem sc__law_tags : FnScope ["_law_hopper_here", "_law_most", "_law_many"] ["_law_hopper_here", "_law_most"] (defScope (topS 74)) := ⟨rfl, rfl, rfl, by decide +kernel, rfl, by decide +kernel, by decide +kernel⟩
def P__law_tags : { m : List Int → Int×Unit → Option (Str × List Int) // ∀ {P : Program} {w : World} {K : PySem.W.Frag} {mg : Str → Option Value} {base : Heap}, Top K mg → Df P w K mg base "_law_tags" (topS 74) 3 ["_law_hopper_here", "_law_most"] (spM K m) } :=
  ⟨_, fun {P w K mg base} T => df_M T.f__law_tags sc__law_tags (ic (ia i0)) (fun cdv A outer s H f hgd hr => (vs_cons (vs_setM_ (ps (ps pz)) rfl sc__law_tags.nd (mo_op op_add o_iAdd re_mmono (vo_up ve_int) (md_draw (d__law_spill T) hgd (rm hr) (pe_var (i := 0) rfl (by first | exact Or.inl rfl | exact Or.inr (Or.inl rfl) | exact Or.inr (Or.inr rfl)) (by decide) (by decide)) (va_up (va_cons (ve_var (gs gz)) va_nil))))) (vs_cons (vs_retM (me_sliceTo (md_draw (d__law_out_ofL T) hgd (rm hr) (pe_var (i := 0) rfl (by first | exact Or.inl rfl | exact Or.inr (Or.inl rfl) | exact Or.inr (Or.inr rfl)) (by decide) (by decide)) (va_up (va_cons (VF.up (vf_lst (vls_cons ve_str (vls_cons ve_str (vls_cons ve_str vls_nil))))) va_nil))) (vo_up (ve_var (gs (gs gz)))))) (vs_nil (wid (Γ := Unit))))))⟩
def m__law_tags := P__law_tags.1
theorem d__law_tags {P : Program} {w : World} {K : PySem.W.Frag} {mg : Str → Option Value} {base : Heap} (T : Top K mg) : Df P w K mg base "_law_tags" (topS 74) 3 ["_law_hopper_here", "_law_most"] (spM K m__law_tags) := P__law_tags.2 T
theorem sc__law_bag : FnScope ["_law_hopper_here", "_law_tags_here", "_law_tag", "_law_side"] ["_law_hopper_here", "_law_tags_here"] (defScope (topS 75)) := ⟨rfl, rfl, rfl, by decide +kernel, rfl, by decide +kernel, by decide +kernel⟩
def P__law_bag : { m : List Int → Str×Unit → Option (Str × List Int) // ∀ {P : Program} {w : World} {K : PySem.W.Frag} {mg : Str → Option Value} {base : Heap}, Top K mg → Df P w K mg base "_law_bag" (topS 75) 2 ["_law_hopper_here", "_law_tags_here"] (spM K m) } :=
  ⟨_, fun {P w K mg base} T => df_M T.f__law_bag sc__law_bag (ic (ia (ia i0))) (fun cdv A outer s H f hgd hr => (vs_cons (vs_retM (me_join (vo_up ve_str) (mo_keep (mf_lcpm_ (ps (ps pz)) (ps (ps (ps pz))) rfl rfl sc__law_bag.nd (mi_list (mo_keep (mf_lc_ (cs (cs cz)) rfl rfl sc__law_bag.nd (vi_up (vi_str (ve_var (gs gz)))) (by rfl) (fun _ _ _ _ _ => pg_name (i := 2) sc__law_bag.nd rfl (by first | exact Or.inl rfl | exact Or.inr rfl)) (fun _ _ _ _ _ => (vts_up vts_nil)) (fun _ _ _ _ _ => (me_pair (ma_cons (vo_up (ve_var (gs (gs gz)))) (ma_cons (md_draw (d__law_spill T) hgd (rm hr) (pe_var (i := 0) rfl (by first | exact Or.inl rfl | exact Or.inr (Or.inl rfl) | exact Or.inr (Or.inr rfl)) (by decide) (by decide)) (va_up (va_cons ve_int va_nil))) (va_up va_nil)))))))) (by rfl) (fun _ _ _ _ _ => pg_tup rfl (pgs_cons (pg_name (i := 2) sc__law_bag.nd rfl (by first | exact Or.inl rfl | exact Or.inr rfl)) (pgs_cons (pg_name (i := 3) sc__law_bag.nd rfl (by first | exact Or.inl rfl | exact Or.inr rfl)) pgs_nil))) (fun _ _ _ _ _ => (vts_one (vt_cmp op_eq o_sEq re_mono (ve_var (gs (gs (gs gz)))) ve_int rfl))) (fun _ _ _ _ _ => (ve_var (gs (gs gz)))))))) (vs_nil (wid (Γ := Unit)))))⟩
def m__law_bag := P__law_bag.1
theorem d__law_bag {P : Program} {w : World} {K : PySem.W.Frag} {mg : Str → Option Value} {base : Heap} (T : Top K mg) : Df P w K mg base "_law_bag" (topS 75) 2 ["_law_hopper_here", "_law_tags_here"] (spM K m__law_bag) := P__law_bag.2 T
theorem sc__law_bags : FnScope ["_law_tags_here", "_law_found", "_law_tag", "_law_bag_here"] ["_law_tags_here"] (defScope (topS 76)) := ⟨rfl, rfl, rfl, by decide +kernel, rfl, by decide +kernel, by decide +kernel⟩
def P__law_bags : { m : Str×Unit → Option (List Str) // ∀ {P : Program} {w : World} {K : PySem.W.Frag} {mg : Str → Option Value} {base : Heap}, Top K mg → Df P w K mg base "_law_bags" (topS 76) 1 ["_law_tags_here"] (spF K m) } :=
  ⟨_, fun {P w K mg base} T => df_F T.f__law_bags sc__law_bags (ic (ia (ia (ia i0)))) (fun cdv A outer s H f hgd hr => (vs_cons (vs_set_ (ps pz) rfl sc__law_bags.nd (VF.up (vf_lst (vls_cons ve_str vls_nil)))) (vs_cons (vs_forn wid (ps (ps pz)) rfl PassesOwn.never rfl (vi_str (ve_var gz)) (pg_name (i := 2) sc__law_bags.nd rfl (by first | exact Or.inl rfl | exact Or.inr rfl)) (vs_cons (vs_set_ (ps pz) rfl sc__law_bags.nd (VF.up (vo_op op_cat o_lCat rl_mono (VE.l (ve_var (gs gz))) (VE.l (VF.up (vf_lc_ (ps (ps (ps pz))) rfl rfl sc__law_bags.nd (vi_list (ve_var (gs gz))) (by rfl) (fun _ _ _ _ _ => pg_name (i := 3) sc__law_bags.nd rfl (by first | exact Or.inl rfl | exact Or.inr rfl)) (fun _ _ _ _ _ => vts_nil) (fun _ _ _ _ _ => (vo_op op_add_str o_sAdd re_mono (ve_var (gs (gs (gs gz)))) (ve_var (gs (gs gz))))))))))) (vs_nil (wk (wk (wa (wk wn))))))) (vs_cons (vs_ret (VF.up (vo_blt (cr_srt (un64 hr)) o_srtL (va_cons (ve_var (gs gz)) va_nil) T.b_sorted))) (vs_nil (wid (Γ := Unit)))))))⟩
def m__law_bags := P__law_bags.1
theorem d__law_bags {P : Program} {w : World} {K : PySem.W.Frag} {mg : Str → Option Value} {base : Heap} (T : Top K mg) : Df P w K mg base "_law_bags" (topS 76) 1 ["_law_tags_here"] (spF K m__law_bags) := P__law_bags.2 T
theorem sc__law_in : FnScope ["_law_one", "_law_other", "_law_tag"] ["_law_one", "_law_other"] (defScope (topS 77)) := ⟨rfl, rfl, rfl, by decide +kernel, rfl, by decide +kernel, by decide +kernel⟩
def P__law_in : { m : Str×Str×Unit → Option Bool // ∀ {P : Program} {w : World} {K : PySem.W.Frag} {mg : Str → Option Value} {base : Heap}, Top K mg → Df P w K mg base "_law_in" (topS 77) 1 ["_law_one", "_law_other"] (spF K m) } :=
  ⟨_, fun {P w K mg base} T => df_F T.f__law_in sc__law_in (ic (ic (ia i0))) (fun cdv A outer s H f hgd hr => (vs_cons (vs_ret (vo_blt (cr_all rfl) o_allB (va_cons (VF.up (vf_lc_ (ps (ps pz)) rfl rfl sc__law_in.nd (vi_str (ve_var gz)) (by rfl) (fun _ _ _ _ _ => pg_name (i := 2) sc__law_in.nd rfl (by first | exact Or.inl rfl | exact Or.inr rfl)) (fun _ _ _ _ _ => vts_nil) (fun _ _ _ _ _ => (vo_cmp op_in_sign o_sIn re_mono (ve_var (gs (gs gz))) (ve_var (gs gz)) rfl)))) va_nil) T.b_all)) (vs_nil (wid (Γ := Unit)))))⟩
def m__law_in := P__law_in.1
theorem d__law_in {P : Program} {w : World} {K : PySem.W.Frag} {mg : Str → Option Value} {base : Heap} (T : Top K mg) : Df P w K mg base "_law_in" (topS 77) 1 ["_law_one", "_law_other"] (spF K m__law_in) := P__law_in.2 T
theorem sc__law_both : FnScope ["_law_one", "_law_other", "_law_tag"] ["_law_one", "_law_other"] (defScope (topS 78)) := ⟨rfl, rfl, rfl, by decide +kernel, rfl, by decide +kernel, by decide +kernel⟩
def P__law_both : { m : Str×Str×Unit → Option Str // ∀ {P : Program} {w : World} {K : PySem.W.Frag} {mg : Str → Option Value} {base : Heap}, Top K mg → Df P w K mg base "_law_both" (topS 78) 1 ["_law_one", "_law_other"] (spF K m) } :=
  ⟨_, fun {P w K mg base} T => df_F T.f__law_both sc__law_both (ic (ic (ia i0))) (fun cdv A outer s H f hgd hr => (vs_cons (vs_ret (ve_join ve_str (VF.up (vf_lc_ (ps (ps pz)) rfl rfl sc__law_both.nd (vi_str (ve_var gz)) (by rfl) (fun _ _ _ _ _ => pg_name (i := 2) sc__law_both.nd rfl (by first | exact Or.inl rfl | exact Or.inr rfl)) (fun _ _ _ _ _ => (vts_one (vt_cmp op_in_sign o_sIn re_mono (ve_var (gs (gs gz))) (ve_var (gs gz)) rfl))) (fun _ _ _ _ _ => (ve_var (gs (gs gz)))))))) (vs_nil (wid (Γ := Unit)))))⟩
def m__law_both := P__law_both.1
theorem d__law_both {P : Program} {w : World} {K : PySem.W.Frag} {mg : Str → Option Value} {base : Heap} (T : Top K mg) : Df P w K mg base "_law_both" (topS 78) 1 ["_law_one", "_law_other"] (spF K m__law_both) := P__law_both.2 T
theorem sc__law_met : FnScope ["_law_tags_here", "_law_bags_here", "_law_found", "_law_bag_here", "_law_each"] ["_law_tags_here", "_law_bags_here"] (defScope (topS 79)) := ⟨rfl, rfl, rfl, by decide +kernel, rfl, by decide +kernel, by decide +kernel⟩
theorem sc_is_number : FnScope ["value", "most"] ["value", "most"] (defScope (topS 21)) := ⟨rfl, rfl, rfl, by decide +kernel, rfl, by decide +kernel, by decide +kernel⟩
def P_is_number : { m : Int×Int×Unit → Option Bool // ∀ {P : Program} {w : World} {K : PySem.W.Frag} {mg : Str → Option Value} {base : Heap}, Top K mg → Df P w K mg base "is_number" (topS 21) 1 ["value", "most"] (spF K m) } :=
  ⟨_, fun {P w K mg base} T => df_F T.f_is_number sc_is_number (ic (ic i0)) (fun cdv A outer s H f hgd hr => (vs_cons (vs_ret (ve_and (ve_isInt (ve_var gz) T.b_isinstance T.b_int) (ve_and (ve_not (ve_isIB T.kiIB (ve_var gz) T.b_isinstance T.b_bool)) (ve_one (ve_chain op_le op_le o_iLe o_iLe ve_int (ve_var gz) (ve_var (gs gz))))))) (vs_nil (wid (Γ := Unit)))))⟩
def m_is_number := P_is_number.1
theorem d_is_number {P : Program} {w : World} {K : PySem.W.Frag} {mg : Str → Option Value} {base : Heap} (T : Top K mg) : Df P w K mg base "is_number" (topS 21) 1 ["value", "most"] (spF K m_is_number) := P_is_number.2 T
theorem sc_Table___init__ : FnScope ["self", "things", "rows"] ["self", "things", "rows"] (defScope (topC 51 0)) := ⟨rfl, rfl, rfl, by decide +kernel, rfl, by decide +kernel, by decide +kernel⟩
def P_Table___init__ : { m : (Str×(Tup Str)×Unit) → Option Tbl // ∀ {P : Program} {w : World} {K : PySem.W.Frag} {mg : Str → Option Value} {base : Heap}, Top K mg → DtI P w K mg base 6 ["self", "things", "rows"] (tpI K m) } :=
  ⟨_, fun {P w K mg base} T => dt_I T.f_Table___init__ sc_Table___init__ (ic (ic i0)) (by
      intro γ c q γ' h p
      cases e1 : m_check_things (γ.1, ()) with
      | none => simp only [sseq, sex, st1, st2, snil, Fl.bnd, f1, fv, fcons, fnil, gs, gz, wid, Option.bind_some, e1, Option.map_none, Option.bind_none] at h; cases h
      | some u1 =>
        cases e2 : m_check_rows (γ.1, γ.2.1, ()) with
        | none => simp only [sseq, sex, st1, st2, snil, Fl.bnd, f1, fv, fcons, fnil, gs, gz, wid, Option.bind_some, Option.map_some, e1, e2, Option.map_none, Option.bind_none] at h; cases h
        | some u2 =>
          simp only [sseq, sex, st1, st2, snil, Fl.bnd, f1, fv, fcons, fnil, gs, gz, wid, Option.bind_some, Option.map_some, e1, e2] at h ⊢
          cases h
          exact ⟨_, rfl⟩) (fun cdv A outer s H f hgd hr => (vs_cons (vs_ex (vd_call (d_check_things T) hgd (rm hr) (va_cons (ve_var (gs gz)) va_nil))) (vs_cons (vs_ex (vd_call (d_check_rows T) hgd (rm hr) (va_cons (ve_var (gs gz)) (va_cons (ve_var (gs (gs gz))) va_nil)))) (vs_cons (vd_t1 T.tblF rfl (ve_var (gs gz))) (vs_cons (vd_t2 T.tblF rfl (ve_var (gs (gs gz)))) (vs_nil wid))))))⟩
def m_Table___init__ := P_Table___init__.1
theorem d_Table___init__ {P : Program} {w : World} {K : PySem.W.Frag} {mg : Str → Option Value} {base : Heap} (T : Top K mg) : DtI P w K mg base 6 ["self", "things", "rows"] (tpI K m_Table___init__) := P_Table___init__.2 T
theorem sc_Table_things : FnScope ["self"] ["self"] (defScope (topC 51 1)) := ⟨rfl, rfl, rfl, by decide +kernel, rfl, by decide +kernel, by decide +kernel⟩
def P_Table_things : { m : Tbl×Unit → Option Str // ∀ {P : Program} {w : World} {K : PySem.W.Frag} {mg : Str → Option Value} {base : Heap}, Top K mg → DtP P w K mg base "things" 1 ["self"] (spF K m) } :=
  ⟨_, fun {P w K mg base} T => dt_P T.f_Table_things sc_Table_things (ic i0) (fun cdv A outer s H f hgd hr => (vs_cons (vs_ret (vd_tT T.tblF (ve_var gz))) (vs_nil (wid (Γ := Unit)))))⟩
def m_Table_things := P_Table_things.1
theorem d_Table_things {P : Program} {w : World} {K : PySem.W.Frag} {mg : Str → Option Value} {base : Heap} (T : Top K mg) : DtP P w K mg base "things" 1 ["self"] (spF K m_Table_things) := P_Table_things.2 T
theorem sc_Table_rows : FnScope ["self"] ["self"] (defScope (topC 51 2)) := ⟨rfl, rfl, rfl, by decide +kernel, rfl, by decide +kernel, by decide +kernel⟩
def P_Table_rows : { m : Tbl×Unit → Option (Tup Str) // ∀ {P : Program} {w : World} {K : PySem.W.Frag} {mg : Str → Option Value} {base : Heap}, Top K mg → DtP P w K mg base "rows" 1 ["self"] (spF K m) } :=
  ⟨_, fun {P w K mg base} T => dt_P T.f_Table_rows sc_Table_rows (ic i0) (fun cdv A outer s H f hgd hr => (vs_cons (vs_ret (vd_tR T.tblF (ve_var gz))) (vs_nil (wid (Γ := Unit)))))⟩
def m_Table_rows := P_Table_rows.1
theorem d_Table_rows {P : Program} {w : World} {K : PySem.W.Frag} {mg : Str → Option Value} {base : Heap} (T : Top K mg) : DtP P w K mg base "rows" 1 ["self"] (spF K m_Table_rows) := P_Table_rows.2 T
theorem sc_check_table : FnScope ["table"] ["table"] (defScope (topS 52)) := ⟨rfl, rfl, rfl, by decide +kernel, rfl, by decide +kernel, by decide +kernel⟩
def P_check_table : { m : Tbl×Unit → Option Unit // ∀ {P : Program} {w : World} {K : PySem.W.Frag} {mg : Str → Option Value} {base : Heap}, Top K mg → Df P w K mg base "check_table" (topS 52) 1 ["table"] (spF K m) } :=
  ⟨_, fun {P w K mg base} T => df_U T.f_check_table sc_check_table (ic i0) (fun cdv A outer s H f hgd hr => (vs_cons (vs_if (vt_not (vt_val (ve_isTbl T.isTbl (ve_var gz) T.b_isinstance))) vss_never (vs_nil wid)) (vs_nil wid)))⟩
def m_check_table := P_check_table.1
theorem d_check_table {P : Program} {w : World} {K : PySem.W.Frag} {mg : Str → Option Value} {base : Heap} (T : Top K mg) : Df P w K mg base "check_table" (topS 52) 1 ["table"] (spF K m_check_table) := P_check_table.2 T
theorem sc_check_numbers : FnScope ["table", "numbers", "at", "number"] ["table", "numbers"] (defScope (topS 53)) := ⟨rfl, rfl, rfl, by decide +kernel, rfl, by decide +kernel, by decide +kernel⟩
def P_check_numbers : { m : (Tbl×(Tup Int)×Unit) → Option Unit // ∀ {P : Program} {w : World} {K : PySem.W.Frag} {mg : Str → Option Value} {base : Heap}, Top K mg → Df P w K mg base "check_numbers" (topS 53) 3 ["table", "numbers"] (spF K m) } :=
  ⟨_, fun {P w K mg base} T => df_U T.f_check_numbers sc_check_numbers (ic (ic (ia (ia i0)))) (fun cdv A outer s H f hgd hr => (vs_cons (vs_if (vt_not (vt_val (ve_isTup (ve_var (gs gz)) T.b_isinstance T.b_tuple))) vss_never (vs_nil wid)) (vs_cons (vs_forp wid (ps (ps pz)) (ps (ps (ps pz))) rfl PassesOwn.never rfl (vi_enumT (ve_var (gs gz)) T.b_enumerate) (pg_tup rfl (pgs_cons (pg_name (i := 2) sc_check_numbers.nd rfl (by first | exact Or.inl rfl | exact Or.inr rfl)) (pgs_cons (pg_name (i := 3) sc_check_numbers.nd rfl (by first | exact Or.inl rfl | exact Or.inr rfl)) pgs_nil))) (vs_cons (vs_if (vw_t (vw_or (vt_not (vt_val (vd_call (d_is_number T) hgd (rm hr) (va_cons (ve_var (gs (gs (gs gz)))) (va_cons (vo_op op_sub o_iSub re_mono (vo_blt call_len o_lenT (va_cons (vd_tprop (d_Table_rows T) hgd (rm hr) (ve_var gz)) va_nil) T.b_len) ve_int) va_nil))))) (vw_or1 (vw_t (vw_and (vt_cmp op_gt o_iGt re_mono (ve_var (gs (gs gz))) ve_int rfl) (vw_and1 (vt_cmp op_le o_iLe re_mono (ve_var (gs (gs (gs gz)))) (vo_ix ix_tup o_tIx re_mono (ve_var (gs gz)) (vo_op op_sub o_iSub re_mono (ve_var (gs (gs gz))) ve_int)) rfl))))))) vss_never (vs_nil wid)) (vs_nil (wk (wk (wa (wa wn))))))) (vs_nil wid))))⟩
def m_check_numbers := P_check_numbers.1
theorem d_check_numbers {P : Program} {w : World} {K : PySem.W.Frag} {mg : Str → Option Value} {base : Heap} (T : Top K mg) : Df P w K mg base "check_numbers" (topS 53) 3 ["table", "numbers"] (spF K m_check_numbers) := P_check_numbers.2 T
theorem sc_shared_by : FnScope ["table", "numbers", "found", "number"] ["table", "numbers"] (defScope (topS 54)) := ⟨rfl, rfl, rfl, by decide +kernel, rfl, by decide +kernel, by decide +kernel⟩
def P_shared_by : { m : (Tbl×(Tup Int)×Unit) → Option Str // ∀ {P : Program} {w : World} {K : PySem.W.Frag} {mg : Str → Option Value} {base : Heap}, Top K mg → Df P w K mg base "shared_by" (topS 54) 3 ["table", "numbers"] (spF K m) } :=
  ⟨_, fun {P w K mg base} T => df_F T.f_shared_by sc_shared_by (ic (ic (ia (ia i0)))) (fun cdv A outer s H f hgd hr => (vs_cons (vs_set_ (ps (ps pz)) rfl sc_shared_by.nd (vd_tprop (d_Table_things T) hgd (rm hr) (ve_var gz))) (vs_cons (vs_forn wid (ps (ps (ps pz))) rfl PassesOwn.never rfl (vi_tup (ve_var (gs gz))) (pg_name (i := 3) sc_shared_by.nd rfl (by first | exact Or.inl rfl | exact Or.inr rfl)) (vs_cons (vs_set_ (ps (ps pz)) rfl sc_shared_by.nd (vd_call (d_in_both T) hgd (rm hr) (va_cons (ve_var (gs (gs gz))) (va_cons (vo_ix ix_tup o_tIx re_mono (vd_tprop (d_Table_rows T) hgd (rm hr) (ve_var gz)) (ve_var (gs (gs (gs gz))))) va_nil)))) (vs_nil (wk (wk (wk (wa wn))))))) (vs_cons (vs_ret (ve_var (gs (gs gz)))) (vs_nil (wid (Γ := Unit)))))))⟩
def m_shared_by := P_shared_by.1
theorem d_shared_by {P : Program} {w : World} {K : PySem.W.Frag} {mg : Str → Option Value} {base : Heap} (T : Top K mg) : Df P w K mg base "shared_by" (topS 54) 3 ["table", "numbers"] (spF K m_shared_by) := P_shared_by.2 T
theorem sc_owners_of : FnScope ["table", "lot", "at", "row"] ["table", "lot"] (defScope (topS 55)) := ⟨rfl, rfl, rfl, by decide +kernel, rfl, by decide +kernel, by decide +kernel⟩
def P_owners_of : { m : Tbl×Str×Unit → Option (Tup Int) // ∀ {P : Program} {w : World} {K : PySem.W.Frag} {mg : Str → Option Value} {base : Heap}, Top K mg → Df P w K mg base "owners_of" (topS 55) 3 ["table", "lot"] (spF K m) } :=
  ⟨_, fun {P w K mg base} T => df_F T.f_owners_of sc_owners_of (ic (ic (ia (ia i0)))) (fun cdv A outer s H f hgd hr => (vs_cons (vs_ret (vo_bty call_tuple_of o_tupL (va_cons (VF.up (vf_lcp_ (ps (ps pz)) (ps (ps (ps pz))) rfl rfl sc_owners_of.nd (vi_enumT (vd_tprop (d_Table_rows T) hgd (rm hr) (ve_var gz)) T.b_enumerate) (by rfl) (fun _ _ _ _ _ => pg_tup rfl (pgs_cons (pg_name (i := 2) sc_owners_of.nd rfl (by first | exact Or.inl rfl | exact Or.inr rfl)) (pgs_cons (pg_name (i := 3) sc_owners_of.nd rfl (by first | exact Or.inl rfl | exact Or.inr rfl)) pgs_nil))) (fun _ _ _ _ _ => (vts_one (vt_val (vd_call (d_has_all T) hgd (rm hr) (va_cons (ve_var (gs (gs (gs gz)))) (va_cons (ve_var (gs gz)) va_nil)))))) (fun _ _ _ _ _ => (ve_var (gs (gs gz)))))) va_nil) T.b_tuple)) (vs_nil (wid (Γ := Unit)))))⟩
def m_owners_of := P_owners_of.1
theorem d_owners_of {P : Program} {w : World} {K : PySem.W.Frag} {mg : Str → Option Value} {base : Heap} (T : Top K mg) : Df P w K mg base "owners_of" (topS 55) 3 ["table", "lot"] (spF K m_owners_of) := P_owners_of.2 T
theorem sc_shared_marks : FnScope ["table", "numbers"] ["table", "numbers"] (defScope (topS 56)) := ⟨rfl, rfl, rfl, by decide +kernel, rfl, by decide +kernel, by decide +kernel⟩
def P_shared_marks : { m : (Tbl×(Tup Int)×Unit) → Option Str // ∀ {P : Program} {w : World} {K : PySem.W.Frag} {mg : Str → Option Value} {base : Heap}, Top K mg → Df P w K mg base "shared_marks" (topS 56) 4 ["table", "numbers"] (spF K m) } :=
  ⟨_, fun {P w K mg base} T => df_F T.f_shared_marks sc_shared_marks (ic (ic i0)) (fun cdv A outer s H f hgd hr => (vs_cons (vs_ex (vd_call (d_check_table T) hgd (rm hr) (va_cons (ve_var gz) va_nil))) (vs_cons (vs_ex (vd_call (d_check_numbers T) hgd (rm hr) (va_cons (ve_var gz) (va_cons (ve_var (gs gz)) va_nil)))) (vs_cons (vs_ret (vd_call (d_shared_by T) hgd (rm hr) (va_cons (ve_var gz) (va_cons (ve_var (gs gz)) va_nil)))) (vs_nil (wid (Γ := Unit)))))))⟩
def m_shared_marks := P_shared_marks.1
theorem d_shared_marks {P : Program} {w : World} {K : PySem.W.Frag} {mg : Str → Option Value} {base : Heap} (T : Top K mg) : Df P w K mg base "shared_marks" (topS 56) 4 ["table", "numbers"] (spF K m_shared_marks) := P_shared_marks.2 T
theorem sc_owners : FnScope ["table", "lot"] ["table", "lot"] (defScope (topS 57)) := ⟨rfl, rfl, rfl, by decide +kernel, rfl, by decide +kernel, by decide +kernel⟩
def P_owners : { m : Tbl×Str×Unit → Option (Tup Int) // ∀ {P : Program} {w : World} {K : PySem.W.Frag} {mg : Str → Option Value} {base : Heap}, Top K mg → Df P w K mg base "owners" (topS 57) 5 ["table", "lot"] (spF K m) } :=
  ⟨_, fun {P w K mg base} T => df_F T.f_owners sc_owners (ic (ic i0)) (fun cdv A outer s H f hgd hr => (vs_cons (vs_ex (vd_call (d_check_table T) hgd (rm hr) (va_cons (ve_var gz) va_nil))) (vs_cons (vs_ex (vd_call (d_check_lot T) hgd (rm hr) (va_cons (vd_tprop (d_Table_things T) hgd (rm hr) (ve_var gz)) (va_cons (ve_var (gs gz)) va_nil)))) (vs_cons (vs_ret (vd_call (d_owners_of T) hgd (rm hr) (va_cons (ve_var gz) (va_cons (ve_var (gs gz)) va_nil)))) (vs_nil (wid (Γ := Unit)))))))⟩
def m_owners := P_owners.1
theorem d_owners {P : Program} {w : World} {K : PySem.W.Frag} {mg : Str → Option Value} {base : Heap} (T : Top K mg) : Df P w K mg base "owners" (topS 57) 5 ["table", "lot"] (spF K m_owners) := P_owners.2 T
theorem sc_concepts : FnScope ["table", "lot"] ["table"] (defScope (topS 58)) := ⟨rfl, rfl, rfl, by decide +kernel, rfl, by decide +kernel, by decide +kernel⟩
def P_concepts : { m : Tbl×Unit → Option (Tup (T2 (Tup Int) Str)) // ∀ {P : Program} {w : World} {K : PySem.W.Frag} {mg : Str → Option Value} {base : Heap}, Top K mg → Df P w K mg base "concepts" (topS 58) 10 ["table"] (spF K m) } :=
  ⟨_, fun {P w K mg base} T => df_F T.f_concepts sc_concepts (ic (ia i0)) (fun cdv A outer s H f hgd hr => (vs_cons (vs_ex (vd_call (d_check_table T) hgd (rm hr) (va_cons (ve_var gz) va_nil))) (vs_cons (vs_ret (vo_bty call_tuple_of o_tupL (va_cons (VF.up (vf_lc_ (ps pz) rfl rfl sc_concepts.nd (vi_tup (vd_prop (d_Closer_closed T) hgd (rm hr) (vd_call (d_by_rows T) hgd (rm hr) (va_cons (vd_tprop (d_Table_things T) hgd (rm hr) (ve_var gz)) (va_cons (vd_tprop (d_Table_rows T) hgd (rm hr) (ve_var gz)) va_nil))))) (by rfl) (fun _ _ _ _ _ => pg_name (i := 1) sc_concepts.nd rfl (by first | exact Or.inl rfl | exact Or.inr rfl)) (fun _ _ _ _ _ => vts_nil) (fun _ _ _ _ _ => (ve_pair (va_cons (vd_call (d_owners_of T) hgd (rm hr) (va_cons (ve_var gz) (va_cons (ve_var (gs gz)) va_nil))) (va_cons (ve_var (gs gz)) va_nil)))))) va_nil) T.b_tuple)) (vs_nil (wid (Γ := Unit))))))⟩
def m_concepts := P_concepts.1
theorem d_concepts {P : Program} {w : World} {K : PySem.W.Frag} {mg : Str → Option Value} {base : Heap} (T : Top K mg) : Df P w K mg base "concepts" (topS 58) 10 ["table"] (spF K m_concepts) := P_concepts.2 T
theorem sc_closer_of : FnScope ["table"] ["table"] (defScope (topS 59)) := ⟨rfl, rfl, rfl, by decide +kernel, rfl, by decide +kernel, by decide +kernel⟩
def P_closer_of : { m : Tbl×Unit → Option Clo // ∀ {P : Program} {w : World} {K : PySem.W.Frag} {mg : Str → Option Value} {base : Heap}, Top K mg → Df P w K mg base "closer_of" (topS 59) 10 ["table"] (spF K m) } :=
  ⟨_, fun {P w K mg base} T => df_F T.f_closer_of sc_closer_of (ic i0) (fun cdv A outer s H f hgd hr => (vs_cons (vs_ex (vd_call (d_check_table T) hgd (rm hr) (va_cons (ve_var gz) va_nil))) (vs_cons (vs_ret (vd_call (d_by_rows T) hgd (rm hr) (va_cons (vd_tprop (d_Table_things T) hgd (rm hr) (ve_var gz)) (va_cons (vd_tprop (d_Table_rows T) hgd (rm hr) (ve_var gz)) va_nil)))) (vs_nil (wid (Γ := Unit))))))⟩
def m_closer_of := P_closer_of.1
theorem d_closer_of {P : Program} {w : World} {K : PySem.W.Frag} {mg : Str → Option Value} {base : Heap} (T : Top K mg) : Df P w K mg base "closer_of" (topS 59) 10 ["table"] (spF K m_closer_of) := P_closer_of.2 T
theorem sc_least_table : FnScope ["closer"] ["closer"] (defScope (topS 60)) := ⟨rfl, rfl, rfl, by decide +kernel, rfl, by decide +kernel, by decide +kernel⟩
def P_least_table : { m : Clo×Unit → Option Tbl // ∀ {P : Program} {w : World} {K : PySem.W.Frag} {mg : Str → Option Value} {base : Heap}, Top K mg → Df P w K mg base "least_table" (topS 60) 8 ["closer"] (spF K m) } :=
  ⟨_, fun {P w K mg base} T => df_F T.f_least_table sc_least_table (ic i0) (fun cdv A outer s H f hgd hr => (vs_cons (vs_ex (vd_call (d_check_closer T) hgd (rm hr) (va_cons (ve_var gz) va_nil))) (vs_cons (vs_ret (vd_tmake (d_Table___init__ T) hgd (rm hr) (va_cons (vd_prop (d_Closer_things T) hgd (rm hr) (ve_var gz)) (va_cons (vd_call (d_corners T) hgd (rm hr) (va_cons (ve_var gz) va_nil)) va_nil)))) (vs_nil (wid (Γ := Unit))))))⟩
def m_least_table := P_least_table.1
theorem d_least_table {P : Program} {w : World} {K : PySem.W.Frag} {mg : Str → Option Value} {base : Heap} (T : Top K mg) : Df P w K mg base "least_table" (topS 60) 8 ["closer"] (spF K m_least_table) := P_least_table.2 T
theorem sc_breaker : FnScope ["closer", "rule", "least"] ["closer", "rule"] (defScope (topS 66)) := ⟨rfl, rfl, rfl, by decide +kernel, rfl, by decide +kernel, by decide +kernel⟩
def P_breaker : { m : (Clo×(T2 Str Str)×Unit) → Option (Option Str) // ∀ {P : Program} {w : World} {K : PySem.W.Frag} {mg : Str → Option Value} {base : Heap}, Top K mg → Df P w K mg base "breaker" (topS 66) 6 ["closer", "rule"] (spF K m) } :=
  ⟨_, fun {P w K mg base} T => df_F T.f_breaker sc_breaker (ic (ic (ia i0))) (fun cdv A outer s H f hgd hr => (vs_cons (vs_ex (vd_call (d_check_closer T) hgd (rm hr) (va_cons (ve_var gz) va_nil))) (vs_cons (vs_ex (vd_call (d_check_rule T) hgd (rm hr) (va_cons (vd_prop (d_Closer_things T) hgd (rm hr) (ve_var gz)) (va_cons (ve_var (gs gz)) va_nil)))) (vs_cons (vs_set_ (ps (ps pz)) rfl sc_breaker.nd (vd_meth (d_Closer_around T) hgd (rm hr) (ve_var gz) (va_cons (vo_ix ix_tup o_ix0 re_mono (ve_var (gs gz)) ve_int) va_nil))) (vs_cons (vs_ret (vo_if (vt_val (vd_call (d_keeps T) hgd (rm hr) (va_cons (ve_var (gs (gs gz))) (va_cons (ve_var (gs gz)) va_nil)))) (ve_nonO (α := Str)) (VE.some (ve_var (gs (gs gz)))))) (vs_nil (wid (Γ := Unit))))))))⟩
def m_breaker := P_breaker.1
theorem d_breaker {P : Program} {w : World} {K : PySem.W.Frag} {mg : Str → Option Value} {base : Heap} (T : Top K mg) : Df P w K mg base "breaker" (topS 66) 6 ["closer", "rule"] (spF K m_breaker) := P_breaker.2 T
theorem sc__law_own : FnScope ["_law_rows", "_law_bag_here", "_law_k"] ["_law_rows", "_law_bag_here"] (defScope (topS 80)) := ⟨rfl, rfl, rfl, by decide +kernel, rfl, by decide +kernel, by decide +kernel⟩
def P__law_own : { m : ((Tup Str)×Str×Unit) → Option (Tup Int) // ∀ {P : Program} {w : World} {K : PySem.W.Frag} {mg : Str → Option Value} {base : Heap}, Top K mg → Df P w K mg base "_law_own" (topS 80) 2 ["_law_rows", "_law_bag_here"] (spF K m) } :=
  ⟨_, fun {P w K mg base} T => df_F T.f__law_own sc__law_own (ic (ic (ia i0))) (fun cdv A outer s H f hgd hr => (vs_cons (vs_ret (vo_bty call_tuple_of o_tupL (va_cons (VF.up (vf_lc_ (ps (ps pz)) rfl rfl sc__law_own.nd (vi_range1 (vo_blt call_len o_lenT (va_cons (ve_var gz) va_nil) T.b_len) T.b_range) (by rfl) (fun _ _ _ _ _ => pg_name (i := 2) sc__law_own.nd rfl (by first | exact Or.inl rfl | exact Or.inr rfl)) (fun _ _ _ _ _ => (vts_one (vt_val (vd_call (d__law_in T) hgd (rm hr) (va_cons (ve_var (gs gz)) (va_cons (vo_ix ix_tup o_tIx re_mono (ve_var gz) (ve_var (gs (gs gz)))) va_nil)))))) (fun _ _ _ _ _ => (ve_var (gs (gs gz)))))) va_nil) T.b_tuple)) (vs_nil (wid (Γ := Unit)))))⟩
def m__law_own := P__law_own.1
theorem d__law_own {P : Program} {w : World} {K : PySem.W.Frag} {mg : Str → Option Value} {base : Heap} (T : Top K mg) : Df P w K mg base "_law_own" (topS 80) 2 ["_law_rows", "_law_bag_here"] (spF K m__law_own) := P__law_own.2 T
theorem sc__law_shared : FnScope ["_law_tags_here", "_law_rows", "_law_numbers", "_law_found", "_law_k"] ["_law_tags_here", "_law_rows", "_law_numbers"] (defScope (topS 81)) := ⟨rfl, rfl, rfl, by decide +kernel, rfl, by decide +kernel, by decide +kernel⟩
def P__law_shared : { m : (Str×(Tup Str)×(Tup Int)×Unit) → Option Str // ∀ {P : Program} {w : World} {K : PySem.W.Frag} {mg : Str → Option Value} {base : Heap}, Top K mg → Df P w K mg base "_law_shared" (topS 81) 2 ["_law_tags_here", "_law_rows", "_law_numbers"] (spF K m) } :=
  ⟨_, fun {P w K mg base} T => df_F T.f__law_shared sc__law_shared (ic (ic (ic (ia (ia i0))))) (fun cdv A outer s H f hgd hr => (vs_cons (vs_set_ (ps (ps (ps pz))) rfl sc__law_shared.nd (ve_var gz)) (vs_cons (vs_forn wid (ps (ps (ps (ps pz)))) rfl PassesOwn.never rfl (vi_tup (ve_var (gs (gs gz)))) (pg_name (i := 4) sc__law_shared.nd rfl (by first | exact Or.inl rfl | exact Or.inr rfl)) (vs_cons (vs_set_ (ps (ps (ps pz))) rfl sc__law_shared.nd (vd_call (d__law_both T) hgd (rm hr) (va_cons (ve_var (gs (gs (gs gz)))) (va_cons (vo_ix ix_tup o_tIx re_mono (ve_var (gs gz)) (ve_var (gs (gs (gs (gs gz)))))) va_nil)))) (vs_nil (wk (wk (wk (wk (wa wn)))))))) (vs_cons (vs_ret (ve_var (gs (gs (gs gz))))) (vs_nil (wid (Γ := Unit)))))))⟩
def m__law_shared := P__law_shared.1
theorem d__law_shared {P : Program} {w : World} {K : PySem.W.Frag} {mg : Str → Option Value} {base : Heap} (T : Top K mg) : Df P w K mg base "_law_shared" (topS 81) 2 ["_law_tags_here", "_law_rows", "_law_numbers"] (spF K m__law_shared) := P__law_shared.2 T
theorem sc__law_rule_right : FnScope ["_law_one", "_law_rows", "_law_rule", "_law_due", "_law_told", "_law_row"] ["_law_one", "_law_rows", "_law_rule"] (defScope (topS 82)) := ⟨rfl, rfl, rfl, by decide +kernel, rfl, by decide +kernel, by decide +kernel⟩
def P__law_rule_right : { m : (Clo×(Tup Str)×(T2 Str Str)×Unit) → Option Bool // ∀ {P : Program} {w : World} {K : PySem.W.Frag} {mg : Str → Option Value} {base : Heap}, Top K mg → Df P w K mg base "_law_rule_right" (topS 82) 7 ["_law_one", "_law_rows", "_law_rule"] (spF K m) } :=
  ⟨_, fun {P w K mg base} T => df_F T.f__law_rule_right sc__law_rule_right (ic (ic (ic (ia (ia (ia i0)))))) (fun cdv A outer s H f hgd hr => (vs_cons (vs_set_ (ps (ps (ps pz))) rfl sc__law_rule_right.nd (vo_cmp (op_eqP (un60 hr)) o_dEq re_mono (VF.up (vf_lc_ (ps (ps (ps (ps (ps pz))))) rfl rfl sc__law_rule_right.nd (vi_tup (ve_var (gs gz))) (by rfl) (fun _ _ _ _ _ => pg_name (i := 5) sc__law_rule_right.nd rfl (by first | exact Or.inl rfl | exact Or.inr rfl)) (fun _ _ _ _ _ => (vts_one (vw_t (vw_and (vt_val (vd_call (d__law_in T) hgd (rm hr) (va_cons (vo_ix ix_tup o_ix0 re_mono (ve_var (gs (gs gz))) ve_int) (va_cons (ve_var (gs (gs (gs (gs (gs gz)))))) va_nil)))) (vw_and1 (vt_not (vt_val (vd_call (d__law_in T) hgd (rm hr) (va_cons (vo_ix ix_tup o_ix1 re_mono (ve_var (gs (gs gz))) ve_int) (va_cons (ve_var (gs (gs (gs (gs (gs gz)))))) va_nil)))))))))) (fun _ _ _ _ _ => (ve_var (gs (gs (gs (gs (gs gz))))))))) (VF.up (vf_lst (vls_nil (α := Str)))) rfl)) (vs_cons (vs_set_ (ps (ps (ps (ps pz)))) rfl sc__law_rule_right.nd (vd_call (d_breaker T) hgd (rm hr) (va_cons (ve_var gz) (va_cons (ve_var (gs (gs gz))) va_nil)))) (vs_cons (vs_if (vw_t (vw_or (vt_cmp op_ne o_sNe re_mono (vd_call (d_holds T) hgd (rm hr) (va_cons (ve_var gz) (va_cons (ve_var (gs (gs gz))) va_nil))) (ve_var (gs (gs (gs gz)))) rfl) (vw_or1 (vt_cmp op_ne o_sNe re_mono (vo_cmp op_isN o_isN re_mono (ve_var (gs (gs (gs (gs gz))))) ve_non rfl) (ve_var (gs (gs (gs gz)))) rfl)))) (vs_cons (vs_ret ve_bl) (vs_nil wid)) (vs_nil wid)) (vs_cons (vs_ret (ve_or (ve_var (gs (gs (gs gz)))) (ve_one (ve_and (vo_cmp op_in_seq o_tIn re_mono (VE.unw (ve_var (gs (gs (gs (gs gz)))))) (vd_prop (d_Closer_closed T) hgd (rm hr) (ve_var gz)) rfl) (ve_and (vd_call (d__law_in T) hgd (rm hr) (va_cons (vo_ix ix_tup o_ix0 re_mono (ve_var (gs (gs gz))) ve_int) (va_cons (VE.unw (ve_var (gs (gs (gs (gs gz)))))) va_nil))) (ve_one (ve_not (vd_call (d__law_in T) hgd (rm hr) (va_cons (vo_ix ix_tup o_ix1 re_mono (ve_var (gs (gs gz))) ve_int) (va_cons (VE.unw (ve_var (gs (gs (gs (gs gz)))))) va_nil)))))))))) (vs_nil (wid (Γ := Unit))))))))⟩
def m__law_rule_right := P__law_rule_right.1
theorem d__law_rule_right {P : Program} {w : World} {K : PySem.W.Frag} {mg : Str → Option Value} {base : Heap} (T : Top K mg) : Df P w K mg base "_law_rule_right" (topS 82) 7 ["_law_one", "_law_rows", "_law_rule"] (spF K m__law_rule_right) := P__law_rule_right.2 T
def P__law_metT : { m : (Str×(Tup Str)×Unit) → Option (Tup Str) // ∀ {P : Program} {w : World} {K : PySem.W.Frag} {mg : Str → Option Value} {base : Heap}, Top K mg → Df P w K mg base "_law_met" (topS 79) 2 ["_law_tags_here", "_law_bags_here"] (spF K m) } :=
  ⟨_, fun {P w K mg base} T => df_F T.f__law_met sc__law_met (ic (ic (ia (ia (ia i0))))) (fun cdv A outer s H f hgd hr => (vs_cons (vs_set_ (ps (ps pz)) rfl sc__law_met.nd (VF.up (vf_lst (vls_cons (ve_var gz) vls_nil)))) (vs_cons (vs_forn wid (ps (ps (ps pz))) rfl PassesOwn.never rfl (vi_tup (ve_var (gs gz))) (pg_name (i := 3) sc__law_met.nd rfl (by first | exact Or.inl rfl | exact Or.inr rfl)) (vs_cons (vs_set_ (ps (ps pz)) rfl sc__law_met.nd (VF.up (vf_ssL rfl (un64 hr) T.b_sorted T.b_set (VE.l (VF.up (vo_op op_cat o_lCat rl_mono (VE.l (ve_var (gs (gs gz)))) (VE.l (VF.up (vf_lc_ (ps (ps (ps (ps pz)))) rfl rfl sc__law_met.nd (vi_list (ve_var (gs (gs gz)))) (by rfl) (fun _ _ _ _ _ => pg_name (i := 4) sc__law_met.nd rfl (by first | exact Or.inl rfl | exact Or.inr rfl)) (fun _ _ _ _ _ => vts_nil) (fun _ _ _ _ _ => (vd_call (d__law_both T) hgd (rm hr) (va_cons (ve_var (gs (gs (gs gz)))) (va_cons (ve_var (gs (gs (gs (gs gz))))) va_nil))))))))))))) (vs_nil (wk (wk (wk (wa (wk wn)))))))) (vs_cons (vs_ret (vo_bty call_tuple_of o_tupL (va_cons (ve_var (gs (gs gz))) va_nil) T.b_tuple)) (vs_nil (wid (Γ := Unit)))))))⟩
def m__law_metT := P__law_metT.1
theorem d__law_metT {P : Program} {w : World} {K : PySem.W.Frag} {mg : Str → Option Value} {base : Heap} (T : Top K mg) : Df P w K mg base "_law_met" (topS 79) 2 ["_law_tags_here", "_law_bags_here"] (spF K m__law_metT) := P__law_metT.2 T
theorem sc__law_right : FnScope ["_law_hopper_here", "_law_tags_here", "_law_rows", "_law_page", "_law_bag_here", "_law_rules_here", "_law_one", "_law_small", "_law_mine", "_law_aim", "_law_k", "_law_rule", "_law_row"] ["_law_hopper_here"] (defScope (topS 83)) := ⟨rfl, rfl, rfl, by decide +kernel, rfl, by decide +kernel, by decide +kernel⟩
def P__law_right : { m : List Int → Unit → Option (Bool × List Int) // ∀ {P : Program} {w : World} {K : PySem.W.Frag} {mg : Str → Option Value} {base : Heap}, Top K mg → Df P w K mg base "_law_right" (topS 83) 11 ["_law_hopper_here"] (spM K m) } :=
  ⟨_, fun {P w K mg base} T => df_M T.f__law_right sc__law_right (ia (ia (ia (ia (ia (ia (ia (ia (ia (ia (ia (ia i0)))))))))))) (fun cdv A outer s H f hgd hr => (vs_cons (vs_setM_ (ps pz) rfl sc__law_right.nd (md_draw (d__law_tags T) hgd (rm hr) (pe_var (i := 0) rfl (by first | exact Or.inl rfl | exact Or.inr (Or.inl rfl) | exact Or.inr (Or.inr rfl)) (by decide) (by decide)) (va_up (va_cons ve_int va_nil)))) (vs_cons (vs_setM_ (ps (ps pz)) rfl sc__law_right.nd (mo_bty call_tuple_of o_tupL (ma_cons (mo_keep (mf_lc_ (cs (cs (cs (cs (cs (cs (cs (cs (cs (cs cz)))))))))) rfl rfl sc__law_right.nd (mi_range1 (md_draw (d__law_spill T) hgd (rm hr) (pe_var (i := 0) rfl (by first | exact Or.inl rfl | exact Or.inr (Or.inl rfl) | exact Or.inr (Or.inr rfl)) (by decide) (by decide)) (va_up (va_cons ve_int va_nil))) T.b_range) (by rfl) (fun _ _ _ _ _ => pg_name (i := 10) sc__law_right.nd rfl (by first | exact Or.inl rfl | exact Or.inr rfl)) (fun _ _ _ _ _ => (vts_up vts_nil)) (fun _ _ _ _ _ => (md_draw (d__law_bag T) hgd (rm hr) (pe_var (i := 0) rfl (by first | exact Or.inl rfl | exact Or.inr (Or.inl rfl) | exact Or.inr (Or.inr rfl)) (by decide) (by decide)) (va_up (va_cons (ve_var (gs gz)) va_nil)))))) (va_up va_nil)) T.b_tuple)) (vs_cons (vs_set_ (ps (ps (ps pz))) rfl sc__law_right.nd (vd_tmake (d_Table___init__ T) hgd (rm hr) (va_cons (ve_var (gs gz)) (va_cons (ve_var (gs (gs gz))) va_nil)))) (vs_cons (vs_unp (ps (ps (ps (ps (ps (ps pz)))))) (ps (ps (ps (ps (ps (ps (ps pz))))))) rfl rfl sc__law_right.nd (ve_pair (va_cons (vd_call (d_closer_of T) hgd (rm hr) (va_cons (ve_var (gs (gs (gs gz)))) va_nil)) (va_cons (vd_call (d_least_table T) hgd (rm hr) (va_cons (vd_call (d_closer_of T) hgd (rm hr) (va_cons (ve_var (gs (gs (gs gz)))) va_nil)) va_nil)) va_nil)))) (vs_cons (vs_forn wid (ps (ps (ps (ps pz)))) rfl PassesOwn.never rfl (vi_list (vd_call (d__law_bags T) hgd (rm hr) (va_cons (ve_var (gs gz)) va_nil))) (pg_name (i := 4) sc__law_right.nd rfl (by first | exact Or.inl rfl | exact Or.inr rfl)) (vs_cons (vs_set_ (ps (ps (ps (ps (ps (ps (ps (ps pz)))))))) rfl sc__law_right.nd (vd_call (d__law_own T) hgd (rm hr) (va_cons (ve_var (gs (gs gz))) (va_cons (ve_var (gs (gs (gs (gs gz))))) va_nil)))) (vs_cons (vs_set_ (ps (ps (ps (ps (ps (ps (ps (ps (ps pz))))))))) rfl sc__law_right.nd (vd_call (d__law_shared T) hgd (rm hr) (va_cons (ve_var (gs gz)) (va_cons (ve_var (gs (gs gz))) (va_cons (ve_var (gs (gs (gs (gs (gs (gs (gs (gs gz))))))))) va_nil))))) (vs_cons (vs_if (vw_t (vw_or (vt_cmp (op_neP (un60 hr)) o_dNe re_mono (vd_call (d_owners T) hgd (rm hr) (va_cons (ve_var (gs (gs (gs gz)))) (va_cons (ve_var (gs (gs (gs (gs gz))))) va_nil))) (ve_var (gs (gs (gs (gs (gs (gs (gs (gs gz))))))))) rfl) (vw_or (vt_cmp op_ne o_sNe re_mono (vd_call (d_shared_marks T) hgd (rm hr) (va_cons (ve_var (gs (gs (gs gz)))) (va_cons (ve_var (gs (gs (gs (gs (gs (gs (gs (gs gz))))))))) va_nil))) (ve_var (gs (gs (gs (gs (gs (gs (gs (gs (gs gz)))))))))) rfl) (vw_or1 (vt_cmp op_ne o_sNe re_mono (vd_meth (d_Closer_around T) hgd (rm hr) (ve_var (gs (gs (gs (gs (gs (gs gz))))))) (va_cons (ve_var (gs (gs (gs (gs gz))))) va_nil)) (ve_var (gs (gs (gs (gs (gs (gs (gs (gs (gs gz)))))))))) rfl))))) (vs_cons (vs_ret ve_bl) (vs_nil wid)) (vs_nil wid)) (vs_nil (wk (wk (wk (wk (wa (wk (wk (wk (wa (wa (wk (wk (wk wn)))))))))))))))))) (vs_cons (vs_if (vt_cmp (op_neP (un60 hr)) o_dNe re_mono (vd_call (d_concepts T) hgd (rm hr) (va_cons (ve_var (gs (gs (gs gz)))) va_nil)) (vo_bty call_tuple_of o_tupL (va_cons (VF.up (vf_lc_ (ps (ps (ps (ps pz)))) rfl rfl sc__law_right.nd (vi_tup (vd_prop (d_Closer_closed T) hgd (rm hr) (ve_var (gs (gs (gs (gs (gs (gs gz))))))))) (by rfl) (fun _ _ _ _ _ => pg_name (i := 4) sc__law_right.nd rfl (by first | exact Or.inl rfl | exact Or.inr rfl)) (fun _ _ _ _ _ => vts_nil) (fun _ _ _ _ _ => (ve_pair (va_cons (vd_call (d__law_own T) hgd (rm hr) (va_cons (ve_var (gs (gs gz))) (va_cons (ve_var (gs (gs (gs (gs gz))))) va_nil))) (va_cons (ve_var (gs (gs (gs (gs gz))))) va_nil)))))) va_nil) T.b_tuple) rfl) (vs_cons (vs_ret ve_bl) (vs_nil wid)) (vs_nil wid)) (vs_cons (vs_if (vw_t (vw_or (vt_cmp (op_neP (un60 hr)) o_dNe re_mono (vd_prop (d_Closer_closed T) hgd (rm hr) (ve_var (gs (gs (gs (gs (gs (gs gz)))))))) (vd_call (d__law_metT T) hgd (rm hr) (va_cons (ve_var (gs gz)) (va_cons (ve_var (gs (gs gz))) va_nil))) rfl) (vw_or (vt_cmp (op_neP (un60 hr)) o_dNe re_mono (vd_tprop (d_Table_rows T) hgd (rm hr) (ve_var (gs (gs (gs (gs (gs (gs (gs gz))))))))) (vd_call (d_corners T) hgd (rm hr) (va_cons (ve_var (gs (gs (gs (gs (gs (gs gz))))))) va_nil)) rfl) (vw_or1 (vd_neT T.neF (d_Closer___eq__ T) hgd (rm hr) (vd_call (d_closer_of T) hgd (rm hr) (va_cons (ve_var (gs (gs (gs (gs (gs (gs (gs gz)))))))) va_nil)) (ve_var (gs (gs (gs (gs (gs (gs gz)))))))))))) (vs_cons (vs_ret ve_bl) (vs_nil wid)) (vs_nil wid)) (vs_cons (vs_if (vw_t (vw_or (vt_cmp (op_neP (un60 hr)) o_dNe re_mono (VF.up (vf_lc_ (ps (ps (ps (ps (ps (ps (ps (ps (ps (ps (ps (ps pz)))))))))))) rfl rfl sc__law_right.nd (vi_tup (vd_call (d_corners T) hgd (rm hr) (va_cons (ve_var (gs (gs (gs (gs (gs (gs gz))))))) va_nil))) (by rfl) (fun _ _ _ _ _ => pg_name (i := 12) sc__law_right.nd rfl (by first | exact Or.inl rfl | exact Or.inr rfl)) (fun _ _ _ _ _ => (vts_one (vt_cmp op_notIn_seq o_tNotIn re_mono (ve_var (gs (gs (gs (gs (gs (gs (gs (gs (gs (gs (gs (gs gz))))))))))))) (ve_var (gs (gs gz))) rfl))) (fun _ _ _ _ _ => (ve_var (gs (gs (gs (gs (gs (gs (gs (gs (gs (gs (gs (gs gz)))))))))))))))) (VF.up (vf_lst (vls_nil (α := Str)))) rfl) (vw_or1 (vd_neT T.neF (d_Closer___eq__ T) hgd (rm hr) (vd_call (d_by_rules T) hgd (rm hr) (va_cons (ve_var (gs gz)) (va_cons (vd_call (d_stem T) hgd (rm hr) (va_cons (ve_var (gs (gs (gs (gs (gs (gs gz))))))) va_nil)) va_nil))) (ve_var (gs (gs (gs (gs (gs (gs gz))))))))))) (vs_cons (vs_ret ve_bl) (vs_nil wid)) (vs_nil wid)) (vs_cons (vs_setM_ (ps (ps (ps (ps (ps pz))))) rfl sc__law_right.nd (mo_keep (mo_op op_cat o_lCatE re_mmono (mo_keep (mf_lc_ (cs (cs (cs (cs (cs (cs (cs (cs (cs (cs cz)))))))))) rfl rfl sc__law_right.nd (vi_up (vi_range1 ve_int T.b_range)) (by rfl) (fun _ _ _ _ _ => pg_name (i := 10) sc__law_right.nd rfl (by first | exact Or.inl rfl | exact Or.inr rfl)) (fun _ _ _ _ _ => (vts_up vts_nil)) (fun _ _ _ _ _ => (me_pair (ma_cons (md_draw (d__law_bag T) hgd (rm hr) (pe_var (i := 0) rfl (by first | exact Or.inl rfl | exact Or.inr (Or.inl rfl) | exact Or.inr (Or.inr rfl)) (by decide) (by decide)) (va_up (va_cons (ve_var (gs gz)) va_nil))) (ma_cons (md_draw (d__law_bag T) hgd (rm hr) (pe_var (i := 0) rfl (by first | exact Or.inl rfl | exact Or.inr (Or.inl rfl) | exact Or.inr (Or.inr rfl)) (by decide) (by decide)) (va_up (va_cons (ve_var (gs gz)) va_nil))) (va_up va_nil))))))) (vo_up (VF.up (vo_bty call_list_of o_lstT (va_cons (vd_call (d_stem T) hgd (rm hr) (va_cons (ve_var (gs (gs (gs (gs (gs (gs gz))))))) va_nil)) va_nil) T.b_list)))))) (vs_cons (vs_ret (vo_blt (cr_all rfl) o_allB (va_cons (VF.up (vf_lc_ (ps (ps (ps (ps (ps (ps (ps (ps (ps (ps (ps pz))))))))))) rfl rfl sc__law_right.nd (vi_list (ve_var (gs (gs (gs (gs (gs gz))))))) (by rfl) (fun _ _ _ _ _ => pg_name (i := 11) sc__law_right.nd rfl (by first | exact Or.inl rfl | exact Or.inr rfl)) (fun _ _ _ _ _ => vts_nil) (fun _ _ _ _ _ => (vd_call (d__law_rule_right T) hgd (rm hr) (va_cons (ve_var (gs (gs (gs (gs (gs (gs gz))))))) (va_cons (ve_var (gs (gs gz))) (va_cons (ve_var (gs (gs (gs (gs (gs (gs (gs (gs (gs (gs (gs gz)))))))))))) va_nil))))))) va_nil) T.b_all)) (vs_nil (wid (Γ := Unit))))))))))))))⟩
def m__law_right := P__law_right.1
theorem d__law_right {P : Program} {w : World} {K : PySem.W.Frag} {mg : Str → Option Value} {base : Heap} (T : Top K mg) : Df P w K mg base "_law_right" (topS 83) 11 ["_law_hopper_here"] (spM K m__law_right) := P__law_right.2 T
theorem sc_law : FnScope ["_law_script", "_law_k"] ["_law_script"] (defScope (topS 84)) := ⟨rfl, rfl, rfl, by decide +kernel, rfl, by decide +kernel, by decide +kernel⟩
def P_law : { m : Scr×Unit → Option Bool // ∀ {P : Program} {w : World} {K : PySem.W.Frag} {mg : Str → Option Value} {base : Heap}, Top K mg → Df P w K mg base "law" (topS 84) 12 ["_law_script"] (spF K m) } :=
  ⟨_, fun {P w K mg base} T => df_F T.f_law sc_law (ic (ia i0)) (fun cdv A outer s H f hgd hr => (vs_cons (vs_ret (vo_blt (cr_all rfl) o_allB (va_cons (VF.up (vf_lc_ (ps pz) rfl rfl sc_law.nd (vi_range1 (vo_blt (call_max2 rfl) o_max2 (va_cons ve_int (va_cons (vo_blt (call_min2 rfl) o_min2 (va_cons (vo_blt call_len o_lenC (va_cons (ve_var gz) va_nil) T.b_len) (va_cons ve_int va_nil)) T.b_min) va_nil)) T.b_max) T.b_range) (by rfl) (fun _ _ _ _ _ => pg_name (i := 1) sc_law.nd rfl (by first | exact Or.inl rfl | exact Or.inr rfl)) (fun _ _ _ _ _ => vts_nil) (fun _ _ _ _ _ => (vd_fresh (d__law_right T) hgd (rm hr) (vd_callN (d__law_hopper T) hgd (rm hr) (va_cons (ve_var gz) (va_cons (ve_var (gs gz)) va_nil))))))) va_nil) T.b_all)) (vs_nil (wid (Γ := Unit)))))⟩
def m_law := P_law.1
theorem d_law {P : Program} {w : World} {K : PySem.W.Frag} {mg : Str → Option Value} {base : Heap} (T : Top K mg) : Df P w K mg base "law" (topS 84) 12 ["_law_script"] (spF K m_law) := P_law.2 T
end K73
namespace K73
open Vx.Rep (rep)
open Vx.EnvR (er)
open PySem PySem.Spec PyProof.Rows L2 Vx
def S (l : List Nat) : Str := ⟨l.toArray⟩
theorem S_tl (s : Str) : S s.cps.toList = s := by
  cases s
  simp [S]
@[simp] theorem tl_S (l : List Nat) : (S l).cps.toList = l := by simp [S]
@[simp] theorem len_S (l : List Nat) : (S l).length = l.length := by simp [S, Str.length]
theorem S_inj {a b : List Nat} : S a = S b ↔ a = b := by
  constructor
  · intro h
    have := congrArg (fun s : Str => s.cps.toList) h
    simpa using this
  · intro h
    rw [h]
@[simp] theorem S_add (a b : List Nat) : S a ++ S b = S (a ++ b) := by
  show Str.append _ _ = _
  simp [S, Str.append]
theorem signs_S (l : List Nat) : Vx.signs (S l) = l.map fun c => S [c] := by
  simp [Vx.signs, S]
theorem sIn_S (c : Nat) (l : List Nat) : sIn (S [c]) (S l) = some (decide (c ∈ l)) := rfl
theorem emp : Str.ofString "" = S [] := rfl
theorem join_S (l : List (List Nat)) : Txt.join (S []) (l.map S) = S l.flatten := by
  have e : ∀ l : List (List Nat), Str.join (S []) (l.map S) = S l.flatten := by
    intro l
    induction l with
    | nil => rfl
    | cons a r ih =>
      cases r with
      | nil => simp [Str.join]
      | cons b r =>
        rw [List.map_cons, List.map_cons]
        show S a ++ S [] ++ Str.join (S []) ((b :: r).map S) = _
        rw [ih]
        simp
  rw [TL.join_eq]
  exact e l
theorem sum_one : ∀ l : List Nat, ((l.map fun c => S [c]).map (·.length)).sum = l.length
  | [] => rfl
  | a :: r => by
    have := sum_one r
    simp only [List.map_cons, List.sum_cons, len_S, List.length_cons, List.length_nil] at this ⊢
    omega
theorem flat_one : ∀ l : List Nat, (l.map fun c => [c]).flatten = l
  | [] => rfl
  | a :: r => by
    have := flat_one r
    simp only [List.map_cons, List.flatten_cons, List.singleton_append, this]
theorem jn_S (l : List Nat) (h : l.length ≤ 100000) : jn (Str.ofString "") (l.map fun c => S [c]) = some (S l) := by
  have e : (l.map fun c => S [c]) = (l.map fun c => [c]).map S := by
    rw [List.map_map]
    rfl
  unfold jn
  rw [emp, if_pos (by rw [sum_one]; simpa using h), e, join_S, flat_one]
theorem lcGo_of {τ α : Type} {t : τ → Option Bool} {e : τ → Option α} {T : τ → Bool} {E : τ → α} : ∀ {xs : List τ}, (∀ x ∈ xs, t x = some (T x)) → (∀ x ∈ xs, T x = true → e x = some (E x)) → lcGo t e xs = some ((xs.filter T).map E)
  | [], _, _ => rfl
  | x :: xs, h, k => by
    unfold lcGo
    rw [h x List.mem_cons_self, Option.bind_some, lcGo_of (fun y hy => h y (List.mem_cons_of_mem _ hy)) (fun y hy => k y (List.mem_cons_of_mem _ hy))]
    cases hT : T x with
    | true => simp [k x List.mem_cons_self hT, hT]
    | false => simp [hT]
theorem filter_map_sign (l : List Nat) (p : Nat → Bool) (T : Str → Bool) (h : ∀ c, T (S [c]) = p c) : (l.map fun c => S [c]).filter T = (l.filter p).map fun c => S [c] := by
  induction l with
  | nil => rfl
  | cons a r ih =>
    rw [List.map_cons, List.filter_cons, List.filter_cons, h a]
    cases p a <;> simp [ih]
theorem in_both_S (a b : List Nat) (h : a.length ≤ 1000) : m_in_both (S a, S b, ()) = some (S (a.filter fun c => decide (c ∈ b))) := by
  show runF _ _ = _
  simp only [runF, runU, sseq, Fl.bnd, sret, sset, sif, sex, snever, f1, f2, fv, fc, fif, fand, foor, fnot, fcons, fnil, lcons, lnil, flc, gz, gs, pz, ps, ic, ia, i0, snil, wid, wn, wk, wa, Option.bind_some, Option.map_some, Option.map_map, Function.comp_def, fyes]
  rw [signs_S]
  rw [if_pos (by rw [List.length_map]; omega), lcGo_of (T := fun s => decide (∃ c ∈ b, s = S [c])) (E := fun s => s)]
  · rw [filter_map_sign a (fun c => decide (c ∈ b)) _ (fun c => by simp [S_inj])]
    rw [List.map_id', Option.bind_some, jn_S _ (by have := List.length_filter_le (fun c => decide (c ∈ b)) a; omega)]
    rfl
  · intro s hs
    obtain ⟨c, hc, rfl⟩ := List.mem_map.mp hs
    rw [sIn_S]
    simp [S_inj]
  · intro s hs _
    rfl
theorem both_S (a b : List Nat) (h : a.length ≤ 1000) : m__law_both (S a, S b, ()) = some (S (a.filter fun c => decide (c ∈ b))) := in_both_S a b h
theorem has_all_S (b a : List Nat) (h : a.length ≤ 1000) : m_has_all (S b, S a, ()) = some (decide (∀ c ∈ a, c ∈ b)) := by
  show runF _ _ = _
  simp only [runF, runU, sseq, Fl.bnd, sret, sset, sif, sex, snever, f1, f2, fv, fc, fif, fand, foor, fnot, fcons, fnil, lcons, lnil, flc, gz, gs, pz, ps, ic, ia, i0, snil, wid, wn, wk, wa, Option.bind_some, Option.map_some, Option.map_map, Function.comp_def, fyes]
  rw [signs_S]
  rw [if_pos (by rw [List.length_map]; omega), lcGo_of (T := fun s => true) (E := fun s => decide (∃ c ∈ b, s = S [c]))]
  · rw [Option.bind_some, Option.bind_some]
    unfold Vx.allB
    simp only [Option.bind_some, Option.map_some]
    congr 1
    rw [Bool.eq_iff_iff]
    simp [S_inj]
  · intro s hs
    rfl
  · intro s hs _
    obtain ⟨c, hc, rfl⟩ := List.mem_map.mp hs
    rw [sIn_S]
    simp [S_inj]
theorem inside_S (a b : List Nat) (h : a.length ≤ 1000) : m__law_in (S a, S b, ()) = some (decide (∀ c ∈ a, c ∈ b)) := by
  show runF _ _ = _
  simp only [runF, runU, sseq, Fl.bnd, sret, sset, sif, sex, snever, f1, f2, fv, fc, fif, fand, foor, fnot, fcons, fnil, lcons, lnil, flc, gz, gs, pz, ps, ic, ia, i0, snil, wid, wn, wk, wa, Option.bind_some, Option.map_some, Option.map_map, Function.comp_def, fyes]
  rw [signs_S]
  rw [if_pos (by rw [List.length_map]; omega), lcGo_of (T := fun s => true) (E := fun s => decide (∃ c ∈ b, s = S [c]))]
  · rw [Option.bind_some, Option.bind_some]
    unfold Vx.allB
    simp only [Option.bind_some, Option.map_some]
    congr 1
    rw [Bool.eq_iff_iff]
    simp [S_inj]
  · intro s hs
    rfl
  · intro s hs _
    obtain ⟨c, hc, rfl⟩ := List.mem_map.mp hs
    rw [sIn_S]
    simp [S_inj]
theorem forL_then {τ Γ S ρ β : Type} {step : τ → Γ → Option (Fl Γ S ρ)} {k : Fl Γ S ρ → Option β} {r : Option β} (I : List τ → Γ → Prop) : ∀ {xs : List τ} {γ : Γ}, I xs γ → (∀ x xs γ, I (x :: xs) γ → ∃ γ', step x γ = some (.nx γ') ∧ I xs γ') → (∀ γ', I [] γ' → k (.nx γ') = r) → (forL step xs γ).bind k = r
  | [], γ, h0, _, hk => hk γ h0
  | x :: xs, γ, h0, hs, hk => by
    obtain ⟨γ', e, h1⟩ := hs x xs γ h0
    unfold forL
    rw [e, Option.bind_some]
    exact forL_then I h1 hs hk
structure Word (l : List Nat) : Prop where
  asc : l.Pairwise (· < ·)
  let_ : ∀ c ∈ l, 97 ≤ c ∧ c ≤ 122
theorem lt1 (c d : Nat) : ([c] < [d]) ↔ c < d := by
  rw [List.cons_lt_cons_iff]
  simp
theorem is_letter_S (c : Nat) : m_is_letter (S [c], ()) = some (decide (97 ≤ c ∧ c ≤ 122)) := by
  show runF _ _ = _
  simp only [runF, runU, sseq, Fl.bnd, sret, sset, sif, sex, snever, sfor, f1, f2, fv, fc, fif, fand, foor, fnot, fcons, fnil, fch, lcons, lnil, flc, gz, gs, pz, ps, ic, ia, i0, snil, wid, wn, wk, wa, Option.bind_some, Option.map_some, Option.map_map, Function.comp_def, fyes, Option.bind_assoc]
  have e1 : Str.ofString "a" = S [97] := rfl
  have e2 : Str.ofString "z" = S [122] := rfl
  rw [e1, e2]
  unfold sLe
  simp only [tl_S, lt1, Option.bind_some]
  by_cases h1 : c < 97 <;> by_cases h2 : 122 < c <;> simp [h1, h2] <;> omega
theorem is_word_S (l : List Nat) (h : Word l) : m_is_word (S l, ()) = some true := by
  show runF _ _ = _
  simp only [runF, runU, sseq, Fl.bnd, sret, sset, sif, sex, snever, sfor, f1, f2, fv, fc, fif, fand, foor, fnot, fcons, fnil, fch, lcons, lnil, flc, gz, gs, pz, ps, ic, ia, i0, snil, wid, wn, wk, wa, Option.bind_some, Option.map_some, Option.map_map, Function.comp_def, fyes, Option.bind_assoc]
  simp only [Bool.not_true, Bool.false_eq_true, if_false, Option.bind_some, Option.bind_assoc, signs_S]
  refine forL_then (fun xs γ => ∃ l' a, xs = (l'.map fun c => S [c]) ∧ γ = (S l, S a, ⟨⟩, ()) ∧ Word l' ∧ ∀ c ∈ l', a < [c]) ⟨l, [], rfl, rfl, h, fun c _ => List.nil_lt_cons ..⟩ ?_ ?_
  · rintro x xs γ ⟨l', a, h1, rfl, h3, h4⟩
    cases l' with
    | nil => cases h1
    | cons c r =>
      cases h1
      refine ⟨_, ?_, r, [c], rfl, rfl, ⟨(List.pairwise_cons.mp h3.asc).2, fun d hd => h3.let_ d (List.mem_cons_of_mem _ hd)⟩, fun d hd => (lt1 _ _).mpr ((List.pairwise_cons.mp h3.asc).1 d hd)⟩
      simp only [runF, runU, sseq, Fl.bnd, sret, sset, sif, sex, snever, sfor, f1, f2, fv, fc, fif, fand, foor, fnot, fcons, fnil, fch, lcons, lnil, flc, gz, gs, pz, ps, ic, ia, i0, snil, wid, wn, wk, wa, Option.bind_some, Option.map_some, Option.map_map, Function.comp_def, fyes, Option.bind_assoc]
      have e : sLe (S [c]) (S a) = some false := by
        unfold sLe
        simp [h4 c List.mem_cons_self]
      have e2 := h3.let_ c List.mem_cons_self
      rw [e]
      simp only [Option.bind_some, is_letter_S, e2, and_self, decide_true, Bool.not_true, Bool.false_eq_true, if_false, Option.map_some]
      first | done | rfl
  · rintro γ' ⟨l', a, h1, rfl, h3, h4⟩
    first | done | rfl
theorem is_any_lot_S (l : List Nat) (h : Word l) (hl : l.length ≤ 7) : m_is_any_lot (S l, ()) = some true := by
  show runF _ _ = _
  simp only [runF, runU, sseq, Fl.bnd, sret, sset, sif, sex, snever, sfor, f1, f2, fv, fc, fif, fand, foor, fnot, fcons, fnil, fch, lcons, lnil, flc, gz, gs, pz, ps, ic, ia, i0, snil, wid, wn, wk, wa, Option.bind_some, Option.map_some, Option.map_map, Function.comp_def, fyes, Option.bind_assoc]
  simp only [is_word_S l h, Option.bind_some, if_true, lenS, len_S, if_pos (show l.length ≤ 100000 by omega), iLe]
  simp
  omega
theorem is_things_S (l : List Nat) (h : Word l) (hl : l.length ≤ 7) (h0 : l ≠ []) : m_is_things (S l, ()) = some true := by
  show runF _ _ = _
  simp only [runF, runU, sseq, Fl.bnd, sret, sset, sif, sex, snever, sfor, f1, f2, fv, fc, fif, fand, foor, fnot, fcons, fnil, fch, lcons, lnil, flc, gz, gs, pz, ps, ic, ia, i0, snil, wid, wn, wk, wa, Option.bind_some, Option.map_some, Option.map_map, Function.comp_def, fyes, Option.bind_assoc]
  simp only [is_any_lot_S l h hl, Option.bind_some, if_true, sNe, emp, S_inj]
  simp [h0]
theorem is_lot_S (l a : List Nat) (h : Word a) (ha : ∀ c ∈ a, c ∈ l) (hn : a.length ≤ 1000) : m_is_lot (S l, S a, ()) = some true := by
  show runF _ _ = _
  simp only [runF, runU, sseq, Fl.bnd, sret, sset, sif, sex, snever, sfor, f1, f2, fv, fc, fif, fand, foor, fnot, fcons, fnil, fch, lcons, lnil, flc, gz, gs, pz, ps, ic, ia, i0, snil, wid, wn, wk, wa, Option.bind_some, Option.map_some, Option.map_map, Function.comp_def, fyes, Option.bind_assoc]
  simp only [is_word_S a h, Option.bind_some, if_true, has_all_S l a hn]
  simp
  exact ha
theorem chk_things_S (l : List Nat) (h : Word l) (hl : l.length ≤ 7) (h0 : l ≠ []) : m_check_things (S l, ()) = some () := by
  show runU _ _ = _
  simp only [runF, runU, sseq, Fl.bnd, sret, sset, sif, sex, snever, sfor, f1, f2, fv, fc, fif, fand, foor, fnot, fcons, fnil, fch, lcons, lnil, flc, gz, gs, pz, ps, ic, ia, i0, snil, wid, wn, wk, wa, Option.bind_some, Option.map_some, Option.map_map, Function.comp_def, fyes, Option.bind_assoc]
  simp [is_things_S l h hl h0]
theorem chk_lot_S (l a : List Nat) (h : Word a) (ha : ∀ c ∈ a, c ∈ l) (hn : a.length ≤ 1000) : m_check_lot (S l, S a, ()) = some () := by
  show runU _ _ = _
  simp only [runF, runU, sseq, Fl.bnd, sret, sset, sif, sex, snever, sfor, f1, f2, fv, fc, fif, fand, foor, fnot, fcons, fnil, fch, lcons, lnil, flc, gz, gs, pz, ps, ic, ia, i0, snil, wid, wn, wk, wa, Option.bind_some, Option.map_some, Option.map_map, Function.comp_def, fyes, Option.bind_assoc]
  simp [is_lot_S l a h ha hn]
def sel (l : List Nat) (k : Nat) : List Nat := l.filter fun c => k.testBit (l.idxOf c)
def grow (acc : List (List Nat)) (c : Nat) : List (List Nat) := acc ++ acc.map (· ++ [c])
def subs (l : List Nat) : List (List Nat) := l.foldl grow [[]]
theorem subs_snoc (l : List Nat) (c : Nat) : subs (l ++ [c]) = subs l ++ (subs l).map (· ++ [c]) := by
  unfold subs
  rw [List.foldl_append]
  rfl
theorem sel_snoc_lo (l : List Nat) (c : Nat) (hc : c ∉ l) (k : Nat) (hk : k < 2 ^ l.length) : sel (l ++ [c]) k = sel l k := by
  unfold sel
  rw [List.filter_append]
  have h1 : l.filter (fun d => k.testBit ((l ++ [c]).idxOf d)) = l.filter (fun d => k.testBit (l.idxOf d)) := by
    apply List.filter_congr
    intro d hd
    rw [List.idxOf_append, if_pos hd]
  have h2 : [c].filter (fun d => k.testBit ((l ++ [c]).idxOf d)) = [] := by
    rw [List.filter_cons, List.idxOf_append, if_neg hc]
    have : k.testBit (List.idxOf c [c] + l.length) = false := by
      rw [show List.idxOf c [c] = 0 by simp, Nat.zero_add]
      exact Nat.testBit_lt_two_pow hk
    rw [if_neg (by rw [this]; simp)]
    rfl
  rw [h1, h2, List.append_nil]
theorem sel_snoc_hi (l : List Nat) (c : Nat) (hc : c ∉ l) (k : Nat) (hk : k < 2 ^ l.length) : sel (l ++ [c]) (2 ^ l.length + k) = sel l k ++ [c] := by
  unfold sel
  rw [List.filter_append]
  have h1 : l.filter (fun d => (2 ^ l.length + k).testBit ((l ++ [c]).idxOf d)) = l.filter (fun d => k.testBit (l.idxOf d)) := by
    apply List.filter_congr
    intro d hd
    rw [List.idxOf_append, if_pos hd]
    exact Nat.testBit_two_pow_add_gt (List.idxOf_lt_length_of_mem hd) k
  have h2 : [c].filter (fun d => (2 ^ l.length + k).testBit ((l ++ [c]).idxOf d)) = [c] := by
    rw [List.filter_cons, List.idxOf_append, if_neg hc]
    have : (2 ^ l.length + k).testBit (List.idxOf c [c] + l.length) = true := by
      rw [show List.idxOf c [c] = 0 by simp, Nat.zero_add, Nat.testBit_two_pow_add_eq, Nat.testBit_lt_two_pow hk]
      rfl
    rw [if_pos (by rw [this])]
    rfl
  rw [h1, h2]
theorem subs_sel : ∀ (n : Nat) (l : List Nat), l.length = n → l.Nodup → subs l = (List.range (2 ^ n)).map (sel l)
  | 0, l, hn, _ => by
    have : l = [] := List.length_eq_zero_iff.mp hn
    subst this
    rfl
  | n + 1, l, hn, nd => by
    obtain ⟨r, c, rfl⟩ : ∃ r c, l = r ++ [c] := by
      rcases List.eq_nil_or_concat l with h | ⟨r, c, h⟩
      · rw [h] at hn
        cases hn
      · exact ⟨r, c, by rw [h, List.concat_eq_append]⟩
    have hr : r.length = n := by simpa using hn
    have nd' := List.nodup_append.mp nd
    have hc : c ∉ r := fun h => nd'.2.2 c h c (by simp) rfl
    rw [subs_snoc, subs_sel n r hr nd'.1, Nat.pow_succ, Nat.mul_two, List.range_add, List.map_append, List.map_map, List.map_map]
    congr 1
    · apply List.map_congr_left
      intro k hk
      exact (sel_snoc_lo r c hc k (by rw [hr]; exact List.mem_range.mp hk)).symm
    · apply List.map_congr_left
      intro k hk
      have := sel_snoc_hi r c hc k (by rw [hr]; exact List.mem_range.mp hk)
      rw [hr] at this
      exact this.symm
theorem filt_true {α : Type} (xs : List α) : xs.filter (fun _ => true) = xs := List.filter_eq_self.mpr fun _ _ => rfl
theorem lots_by_number_S (l : List Nat) (hl : l.length ≤ 7) : m_lots_by_number (S l, ()) = some ((subs l).map S) := by
  show runF _ _ = _
  simp only [runF, runU, sseq, Fl.bnd, sret, sset, sif, sex, snever, sfor, f1, f2, fv, fc, fif, fand, foor, fnot, fcons, fnil, fch, lcons, lnil, flc, gz, gs, pz, ps, ic, ia, i0, snil, wid, wn, wk, wa, Option.bind_some, Option.map_some, Option.map_map, Function.comp_def, fyes, Option.bind_assoc]
  simp only [short, List.length_cons, List.length_nil]
  rw [if_pos (by omega)]
  simp only [Option.bind_some, Option.map_some, Option.bind_assoc, signs_S]
  refine forL_then (fun xs γ => ∃ (l' : List Nat) (acc : List (List Nat)), xs = (l'.map fun c => S [c]) ∧ γ = (S l, acc.map S, (⟨⟩ : Any), (⟨⟩ : Any), ()) ∧ l'.foldl grow acc = subs l ∧ acc.length * 2 ^ l'.length ≤ 128 ∧ ∀ s ∈ acc, s.length + l'.length ≤ 7) ⟨l, [[]], rfl, rfl, rfl, ?_, ?_⟩ ?_ ?_
  · have : 2 ^ l.length ≤ 2 ^ 7 := Nat.pow_le_pow_right (by decide) hl
    simpa using this
  · intro s hs
    cases List.mem_singleton.mp hs
    simpa using hl
  · rintro x xs γ ⟨l', acc, h1, rfl, h3, h4, h5⟩
    cases l' with
    | nil => cases h1
    | cons c r =>
      cases h1
      have h6 : acc.length * 2 ^ r.length * 2 ≤ 128 := by
        rw [List.length_cons, Nat.pow_succ, ← Nat.mul_assoc] at h4
        exact h4
      have h7 : acc.length ≤ 128 := by
        have : 0 < 2 ^ r.length := Nat.two_pow_pos _
        have := Nat.le_mul_of_pos_right acc.length this
        omega
      refine ⟨_, ?_, r, grow acc c, rfl, rfl, h3, ?_, ?_⟩
      · simp only [List.length_map]
        rw [if_pos (by omega), lcGo_of (T := fun _ => true) (E := fun s => s ++ S [c])]
        · simp only [Option.bind_some, lCat, List.length_map, filt_true]
          rw [if_pos (by omega)]
          simp only [Option.map_some, Option.bind_some]
          unfold grow
          rw [List.map_append, List.map_map, List.map_map]
          have e : ((fun s => s ++ S [c]) ∘ S) = (S ∘ fun x => x ++ [c]) := by
            funext z
            exact S_add z [c]
          rw [e]
        · intro s _
          rfl
        · intro s hs _
          obtain ⟨z, hz, rfl⟩ := List.mem_map.mp hs
          have := h5 z hz
          unfold sAdd
          rw [if_pos (by simp only [len_S, List.length_cons, List.length_nil] at this ⊢; omega)]
      · unfold grow
        rw [List.length_append, List.length_map, ← Nat.two_mul, Nat.mul_assoc, Nat.mul_comm 2]
        exact h6
      · intro s hs
        unfold grow at hs
        rcases List.mem_append.mp hs with h | h
        · have := h5 s h
          rw [List.length_cons] at this
          omega
        · obtain ⟨z, hz, rfl⟩ := List.mem_map.mp h
          have := h5 z hz
          rw [List.length_cons] at this
          rw [List.length_append, List.length_singleton]
          omega
  · rintro γ' ⟨l', acc, h1, rfl, h3, h4, h5⟩
    have : l' = [] := by
      cases l' with
      | nil => rfl
      | cons => cases h1
    subst this
    show some (acc.map S) = _
    rw [← h3]
    rfl
theorem mem_sel {l : List Nat} {k c : Nat} : c ∈ sel l k ↔ c ∈ l ∧ k.testBit (l.idxOf c) = true := by
  unfold sel
  rw [List.mem_filter]
theorem bit_hi {k n p : Nat} (h : k < 2 ^ n) (hp : n ≤ p) : k.testBit p = false := Nat.testBit_lt_two_pow (Nat.lt_of_lt_of_le h (Nat.pow_le_pow_right (by decide) hp))
theorem bit_sel {l : List Nat} (nd : l.Nodup) {k p : Nat} (hp : p < l.length) : l[p] ∈ sel l k ↔ k.testBit p = true := by
  rw [mem_sel, List.Nodup.idxOf_getElem nd]
  simp
theorem sel_sub {l : List Nat} (nd : l.Nodup) {i j : Nat} (hi : i < 2 ^ l.length) : (∀ c ∈ sel l i, c ∈ sel l j) ↔ i &&& j = i := by
  constructor
  · intro h
    apply Nat.eq_of_testBit_eq
    intro p
    rw [Nat.testBit_and]
    by_cases hp : p < l.length
    · cases hb : i.testBit p with
      | false => rfl
      | true =>
        have := (bit_sel nd hp).mp (h _ ((bit_sel nd hp).mpr hb))
        rw [this]
        rfl
    · rw [bit_hi hi (by omega)]
      rfl
  · intro h c hc
    rw [mem_sel] at hc ⊢
    refine ⟨hc.1, ?_⟩
    have := hc.2
    rw [← h, Nat.testBit_and, Bool.and_eq_true] at this
    exact this.2
theorem sel_inj {l : List Nat} (nd : l.Nodup) {i j : Nat} (hi : i < 2 ^ l.length) (hj : j < 2 ^ l.length) (h : sel l i = sel l j) : i = j := by
  have h1 := (sel_sub nd (j := j) hi).mp (by rw [h]; exact fun _ z => z)
  have h2 := (sel_sub nd (j := i) hj).mp (by rw [h]; exact fun _ z => z)
  rw [← h1, Nat.and_comm, h2]
theorem sel_and (l : List Nat) (i j : Nat) : (sel l i).filter (fun c => decide (c ∈ sel l j)) = sel l (i &&& j) := by
  unfold sel
  rw [List.filter_filter]
  apply List.filter_congr
  intro c hc
  rw [Nat.testBit_and, Bool.eq_iff_iff]
  simp [List.mem_filter, hc, and_comm]
theorem sel_len (l : List Nat) (i : Nat) : (sel l i).length ≤ l.length := List.length_filter_le _ _
theorem enum_map {α β : Type} (f : α → β) : ∀ (xs : List α) (k : Nat), enumF k (xs.map f) = (enumF k xs).map fun t => ⟨t.a, f t.b⟩
  | [], _ => rfl
  | x :: xs, k => by
    show _ :: enumF (k + 1) (xs.map f) = _
    rw [enum_map f xs (k + 1)]
    rfl
theorem enum_range (n : Nat) : ∀ k : Nat, enumF k (List.range' k n) = (List.range' k n).map fun i => ⟨(i : Int), i⟩ := by
  induction n with
  | zero => intro k; rfl
  | succ n ih =>
    intro k
    rw [List.range'_succ]
    show ⟨(k : Int), k⟩ :: enumF (k + 1) (List.range' (k + 1) n) = _
    rw [ih (k + 1)]
    rfl
theorem dcGo_new {τ κ β : Type} [Rep κ] [KeyOf κ] {kf : τ → Option κ} {vf : τ → Option β} {kx : τ → κ} {vx : τ → β} : ∀ (xs : List τ) (d : List (Key × β)), (∀ x ∈ xs, kf x = some (kx x) ∧ vf x = some (vx x)) → (xs.map fun x => KeyOf.key (kx x)).Nodup → (∀ x ∈ xs, ∀ q ∈ d, q.1 ≠ KeyOf.key (kx x)) →
    dcGo kf vf xs d = some (d ++ xs.map fun x => (KeyOf.key (kx x), vx x))
  | [], d, _, _, _ => by simp [dcGo]
  | x :: xs, d, h1, h2, h3 => by
    unfold dcGo
    obtain ⟨e1, e2⟩ := h1 x List.mem_cons_self
    rw [e1, e2, Option.bind_some, Option.bind_some]
    have hp : putB d (KeyOf.key (kx x)) (vx x) = d ++ [(KeyOf.key (kx x), vx x)] := by
      unfold putB
      rw [if_neg]
      intro z
      obtain ⟨q, hq, e⟩ := List.any_eq_true.mp z
      exact h3 x List.mem_cons_self q hq (of_decide_eq_true e)
    rw [List.map_cons, List.nodup_cons] at h2
    rw [hp, dcGo_new xs _ (fun y hy => h1 y (List.mem_cons_of_mem _ hy)) h2.2]
    · simp
    · intro y hy q hq
      rcases List.mem_append.mp hq with h | h
      · exact h3 y (List.mem_cons_of_mem _ hy) q h
      · rw [List.mem_singleton.mp h]
        intro z
        exact h2.1 (List.mem_map.mpr ⟨y, hy, z.symm⟩)
theorem nodup_map {α β : Type} {f : α → β} : ∀ {xs : List α}, xs.Nodup → (∀ a ∈ xs, ∀ b ∈ xs, f a = f b → a = b) → (xs.map f).Nodup
  | [], _, _ => List.nodup_nil
  | x :: xs, h, k => by
    rw [List.nodup_cons] at h
    rw [List.map_cons, List.nodup_cons]
    refine ⟨fun z => ?_, nodup_map h.2 fun a ha b hb => k a (List.mem_cons_of_mem _ ha) b (List.mem_cons_of_mem _ hb)⟩
    obtain ⟨y, hy, e⟩ := List.mem_map.mp z
    have := k y (List.mem_cons_of_mem _ hy) x List.mem_cons_self e
    exact h.1 (this ▸ hy)
structure Lets (l : List Nat) : Prop where
  w : Word l
  n : l.length ≤ 7
  p : l ≠ []
theorem Lets.nd {l : List Nat} (h : Lets l) : l.Nodup := h.w.asc.imp fun h => Nat.ne_of_lt h
theorem lots_S {l : List Nat} (h : Lets l) : m_lots_by_number (S l, ()) = some ((List.range (2 ^ l.length)).map fun k => S (sel l k)) := by
  rw [lots_by_number_S l h.n, subs_sel _ l rfl h.nd, List.map_map]
  rfl
theorem p7 {l : List Nat} (h : Lets l) : 2 ^ l.length ≤ 128 := Nat.pow_le_pow_right (by decide) h.n
def numD (l : List Nat) : List (Key × Int) := (List.range (2 ^ l.length)).map fun k => (Sum.inr (S (sel l k)), (k : Int))
theorem number_by_lot_S {l : List Nat} (h : Lets l) : m_number_by_lot (S l, ()) = some ⟨numD l⟩ := by
  show runF _ _ = _
  simp only [runF, runU, sseq, Fl.bnd, sret, sset, sif, sex, snever, sfor, f1, f2, fv, fc, fif, fand, foor, fnot, fcons, fnil, fch, lcons, lnil, flc, gz, gs, pz, ps, ic, ia, i0, snil, wid, wn, wk, wa, Option.bind_some, Option.map_some, Option.map_map, Function.comp_def, fyes, Option.bind_assoc]
  simp only [lots_S h, Option.bind_some, fdc]
  have e : enumF 0 ((List.range (2 ^ l.length)).map fun k => S (sel l k)) = (List.range (2 ^ l.length)).map fun (k : Nat) => (⟨(k : Int), S (sel l k)⟩ : T2 Int Str) := by
    rw [enum_map, List.range_eq_range', enum_range, List.map_map]
    rfl
  simp only [f1, lots_S h, Option.bind_some, fcons, fnil, fv, e, List.length_map, List.length_range]
  rw [if_pos (by have := p7 h; omega), dcGo_new (kx := fun x => x.b) (vx := fun x => x.a)]
  · simp only [List.nil_append, List.map_map, Option.map_some, Option.bind_some]
    rfl
  · intro x _
    exact ⟨rfl, rfl⟩
  · rw [List.map_map]
    apply nodup_map List.nodup_range
    intro i hi j hj e
    have e2 : S (sel l i) = S (sel l j) := Sum.inr.inj e
    exact sel_inj h.nd (List.mem_range.mp hi) (List.mem_range.mp hj) (S_inj.mp e2)
  · intro x _ q hq
    cases hq
theorem band (a b : Nat) : Builtin.bitAnd (a : Int) (b : Int) = ((a &&& b : Nat) : Int) := by
  unfold Builtin.bitAnd
  rw [decide_eq_true (Int.natCast_nonneg a), decide_eq_true (Int.natCast_nonneg b)]
  rfl
def T (l : List Nat) (F : List Nat) : List Str := F.map fun k => S (sel l k)
def Z (F : List Nat) : List Int := F.map fun (k : Nat) => (k : Int)
theorem valD {l : List Nat} (h : Lets l) {k : Nat} (hk : k < 2 ^ l.length) : valB (numD l) (Sum.inr (S (sel l k))) = some (k : Int) := by
  unfold valB numD
  rw [List.find?_map]
  have e : List.find? ((fun kv : Key × Int => decide (kv.1 = Sum.inr (S (sel l k)))) ∘ fun (k : Nat) => ((Sum.inr (S (sel l k)) : Key), (k : Int))) (List.range (2 ^ l.length)) = some k := by
    rw [List.find?_range_eq_some]
    refine ⟨by simp, List.mem_range.mpr hk, fun j hj => ?_⟩
    simp only [Function.comp_apply, Bool.not_eq_true', decide_eq_false_iff_not]
    intro z
    have := sel_inj h.nd (by omega) hk (S_inj.mp (Sum.inr.inj z))
    omega
  rw [e]
  rfl
theorem numbers_of_S {l : List Nat} (h : Lets l) (F : List Nat) (hF : ∀ k ∈ F, k < 2 ^ l.length) (hn : F.length ≤ 1000) : m_numbers_of (S l, ⟨T l F⟩, ()) = some (Z F) := by
  show runF _ _ = _
  simp only [runF, runU, sseq, Fl.bnd, sret, sset, sif, sex, snever, sfor, f1, f2, fv, fc, fif, fand, foor, fnot, fcons, fnil, fch, lcons, lnil, flc, gz, gs, pz, ps, ic, ia, i0, snil, wid, wn, wk, wa, Option.bind_some, Option.map_some, Option.map_map, Function.comp_def, fyes, Option.bind_assoc]
  simp only [number_by_lot_S h, Option.bind_some, Option.map_some]
  rw [if_pos (by simp [T]; omega)]
  have e : lcGo (fun x => some true) (fun x => dget (⟨numD l⟩ : Dct Int) x) (T l F) = some (Z F) := by
    have key : ∀ F : List Nat, (∀ k ∈ F, k < 2 ^ l.length) → lcGo (fun x => some true) (fun x => dget (⟨numD l⟩ : Dct Int) x) (T l F) = some (Z F) := by
      intro F
      induction F with
      | nil => intro _; rfl
      | cons k F ih =>
        intro hF
        show (lcGo _ _ (S (sel l k) :: T l F)) = _
        unfold lcGo
        have e1 : dget (⟨numD l⟩ : Dct Int) (S (sel l k)) = some (k : Int) := valD h (hF k List.mem_cons_self)
        simp only [Option.bind_some, if_true, e1, ih (fun j hj => hF j (List.mem_cons_of_mem _ hj)), Option.map_some]
        rfl
    exact key F hF
  rw [e]
  rfl
theorem family_of_S {l : List Nat} (h : Lets l) (F : List Nat) (hF : ∀ k ∈ F, k < 2 ^ l.length) (hn : F.length ≤ 1000) : m_family_of (S l, Z F, ()) = some ⟨srt (T l F)⟩ := by
  show runF _ _ = _
  simp only [runF, runU, sseq, Fl.bnd, sret, sset, sif, sex, snever, sfor, f1, f2, fv, fc, fif, fand, foor, fnot, fcons, fnil, fch, lcons, lnil, flc, gz, gs, pz, ps, ic, ia, i0, snil, wid, wn, wk, wa, Option.bind_some, Option.map_some, Option.map_map, Function.comp_def, fyes, Option.bind_assoc]
  simp only [lots_S h, Option.bind_some, Option.map_some]
  rw [if_pos (by simp [Z]; omega)]
  have e : lcGo (fun x => some true) (fun x => lIx ((List.range (2 ^ l.length)).map fun k => S (sel l k)) x) (Z F) = some (T l F) := by
    have key : ∀ F : List Nat, (∀ k ∈ F, k < 2 ^ l.length) → lcGo (fun x => some true) (fun x => lIx ((List.range (2 ^ l.length)).map fun k => S (sel l k)) x) (Z F) = some (T l F) := by
      intro F
      induction F with
      | nil => intro _; rfl
      | cons k F ih =>
        intro hF
        show (lcGo _ _ ((k : Int) :: Z F)) = _
        unfold lcGo
        have e1 : lIx ((List.range (2 ^ l.length)).map fun k => S (sel l k)) (k : Int) = some (S (sel l k)) := by
          unfold lIx
          apply atI_nat
          rw [List.getElem?_map, List.getElem?_range (hF k List.mem_cons_self)]
          rfl
        simp only [Option.bind_some, if_true, e1, ih (fun j hj => hF j (List.mem_cons_of_mem _ hj)), Option.map_some]
        rfl
    exact key F hF
  rw [e]
  simp only [Option.bind_some, srtL, tupL]
  rw [if_pos (by simp [T]; omega)]
  rfl
theorem lcGo_Z {α : Type} {t : Int → Option Bool} {e : Int → Option α} {P : Nat → Bool} {E : Nat → α} : ∀ F : List Nat, (∀ k ∈ F, t (k : Int) = some (P k)) → (∀ k ∈ F, P k = true → e (k : Int) = some (E k)) → lcGo t e (Z F) = some ((F.filter P).map E)
  | [], _, _ => rfl
  | k :: F, h, g => by
    show lcGo t e ((k : Int) :: Z F) = _
    unfold lcGo
    rw [h k List.mem_cons_self, Option.bind_some, lcGo_Z F (fun j hj => h j (List.mem_cons_of_mem _ hj)) (fun j hj => g j (List.mem_cons_of_mem _ hj))]
    cases hP : P k with
    | true => simp [g k List.mem_cons_self hP, hP]
    | false => simp [hP]
def keysD (ks : List Nat) : List (Key × Bool) := ks.map fun (k : Nat) => (Sum.inl (k : Int), true)
def addK (ks : List Nat) (k : Nat) : List Nat := if k ∈ ks then ks else ks ++ [k]
theorem putB_keysD (ks : List Nat) (k : Nat) : putB (keysD ks) (KeyOf.key (k : Int)) true = keysD (addK ks k) := by
  unfold putB addK
  have e : ((keysD ks).any fun kv => decide (kv.1 = KeyOf.key (k : Int))) = decide (k ∈ ks) := by
    rw [Bool.eq_iff_iff, List.any_eq_true]
    simp only [keysD, List.mem_map, decide_eq_true_eq]
    constructor
    · rintro ⟨x, ⟨j, hj, rfl⟩, h⟩
      have h2 : (j : Int) = (k : Int) := Sum.inl.inj h
      have : j = k := by omega
      exact this ▸ hj
    · intro h
      exact ⟨_, ⟨k, h, rfl⟩, rfl⟩
  rw [e]
  by_cases h : k ∈ ks
  · rw [if_pos (decide_eq_true h), if_pos h]
    unfold keysD
    rw [List.map_map]
    apply List.map_congr_left
    intro j hj
    simp only [Function.comp_apply]
    split <;> rfl
  · rw [if_neg (by simpa using h), if_neg h]
    unfold keysD
    rw [List.map_append]
    rfl
theorem keysOf_keysD : ∀ ks : List Nat, (keysOf (keysD ks) : Option (List Int)) = some (Z ks)
  | [] => rfl
  | k :: ks => by
    show (keysOf ((Sum.inl (k : Int), true) :: keysD ks) : Option (List Int)) = _
    unfold keysOf
    rw [keysOf_keysD ks]
    rfl
structure Good (N : Nat) (ks : List Nat) : Prop where
  nd : ks.Nodup
  lt : ∀ k ∈ ks, k < N
theorem Good.len {N : Nat} {ks : List Nat} (g : Good N ks) : ks.length ≤ N := by
  have := List.Nodup.length_le_of_subset g.nd (l₂ := List.range N) (fun k hk => List.mem_range.mpr (g.lt k hk))
  rwa [List.length_range] at this
theorem addK_good {N : Nat} {ks : List Nat} {k : Nat} (g : Good N ks) (h : k < N) : Good N (addK ks k) := by
  unfold addK
  split
  · exact g
  · rename_i hk
    refine ⟨List.nodup_append.mpr ⟨g.nd, by simp, fun a ha b hb e => hk ?_⟩, fun j hj => ?_⟩
    · rw [List.mem_singleton.mp hb] at e
      exact e ▸ ha
    · rcases List.mem_append.mp hj with q | q
      · exact g.lt j q
      · rw [List.mem_singleton.mp q]
        exact h
theorem mem_addK {ks : List Nat} {k j : Nat} : j ∈ addK ks k ↔ j ∈ ks ∨ j = k := by
  unfold addK
  split
  · rename_i h
    constructor
    · exact .inl
    · rintro (q | q)
      · exact q
      · exact q ▸ h
  · simp
def step (op : Nat → Nat → Nat) (ks : List Nat) (n : Nat) : List Nat := ks.foldl (fun acc o => addK acc (op n o)) ks
theorem meets_of_S {l : List Nat} (h : Lets l) (F : List Nat) (hF : ∀ k ∈ F, k < 2 ^ l.length) (hn : F.length ≤ 1000) : m_meets_of (S l, ⟨T l F⟩, ()) = some ⟨srt (T l (F.foldl (step (· &&& ·)) [2 ^ l.length - 1]))⟩ := by
  show runF _ _ = _
  simp only [runF, runU, sseq, Fl.bnd, sret, sset, sif, sex, snever, sfor, snewD, sdput, fkeys, dz, ds, pdz, pds, f1, f2, fv, fc, fif, fand, foor, fnot, fcons, fnil, fch, lcons, lnil, flc, gz, gs, pz, ps, ic, ia, i0, snil, wid, wn, wk, wa, Option.bind_some, Option.map_some, Option.map_map, Function.comp_def, fyes, Option.bind_assoc]
  simp only [lots_S h, numbers_of_S h F hF hn, Option.bind_some, Option.map_some, lenL, iSub, List.length_map, List.length_range, Option.bind_assoc]
  have N1 : 0 < 2 ^ l.length := Nat.two_pow_pos _
  have ec : ((2 ^ l.length : Nat) : Int) - 1 = ((2 ^ l.length - 1 : Nat) : Int) := by
    rw [Int.natCast_sub N1]
    rfl
  rw [ec]
  have N7 := p7 h
  generalize hN : 2 ^ l.length = N at *
  refine forL_then (fun xs γ => ∃ (r acc : List Nat), xs = Z r ∧ γ = (S l, (⟨T l F⟩ : Tup Str), ((N - 1 : Nat) : Int), (⟨keysD acc⟩ : OD Bool), (⟨⟩ : Any), (⟨⟩ : Any), ()) ∧ r.foldl (step (· &&& ·)) acc = F.foldl (step (· &&& ·)) [N - 1] ∧ Good N acc ∧ ∀ k ∈ r, k < N) ⟨F, [N - 1], rfl, rfl, rfl, ⟨by simp, by simp; omega⟩, hF⟩ ?_ ?_
  · rintro x xs γ ⟨r, acc, h1, rfl, h3, g, h5⟩
    cases r with
    | nil => cases h1
    | cons n r =>
      cases h1
      refine ⟨_, ?_, r, step (· &&& ·) acc n, rfl, rfl, h3, ?_, fun k hk => h5 k (List.mem_cons_of_mem _ hk)⟩
      · simp only [keysOf_keysD, Option.bind_some]
        refine forL_then (fun xs γ => ∃ (q a : List Nat), xs = Z q ∧ γ = (S l, (⟨T l F⟩ : Tup Str), ((N - 1 : Nat) : Int), (⟨keysD a⟩ : OD Bool), (n : Int), (⟨⟩ : Any), ()) ∧ q.foldl (fun acc o => addK acc ((· &&& ·) n o)) a = step (· &&& ·) acc n ∧ Good N a ∧ ∀ k ∈ q, k < N) ⟨acc, acc, rfl, rfl, rfl, g, g.lt⟩ ?_ ?_
        · rintro x xs γ ⟨q, a, e1, rfl, e3, g2, e5⟩
          cases q with
          | nil => cases e1
          | cons o q =>
            cases e1
            have hlt : (· &&& ·) n o < N := by
              rw [← hN]
              have h8 := e5 o List.mem_cons_self
              have h9 := h5 n List.mem_cons_self
              rw [← hN] at h8 h9
              exact Nat.and_lt_two_pow _ h8
            refine ⟨_, ?_, q, addK a ((· &&& ·) n o), rfl, rfl, e3, addK_good g2 hlt, fun k hk => e5 k (List.mem_cons_of_mem _ hk)⟩
            simp only [iAnd, band, Option.bind_some, putB_keysD]
            have hl : (keysD a).length < 100000 := by
              have := g2.len
              simp only [keysD, List.length_map]
              omega
            rw [if_pos hl]
            rfl
        · rintro γ' ⟨q, a, e1, rfl, e3, g2, e5⟩
          have : q = [] := by
            cases q with
            | nil => rfl
            | cons => cases e1
          subst this
          rw [← e3]
          rfl
      · have key : ∀ q a : List Nat, Good N a → (∀ k ∈ q, k < N) → Good N (q.foldl (fun acc o => addK acc ((· &&& ·) n o)) a) := by
          intro q
          induction q with
          | nil => intro a g2 _; exact g2
          | cons o q ih =>
            intro a g2 e5
            refine ih _ (addK_good g2 ?_) fun k hk => e5 k (List.mem_cons_of_mem _ hk)
            rw [← hN]
            have h8 := e5 o List.mem_cons_self
            have h9 := h5 n List.mem_cons_self
            rw [← hN] at h8 h9
            exact Nat.and_lt_two_pow _ h8
        exact key acc acc g g.lt
  · rintro γ' ⟨r, acc, h1, rfl, h3, g, h5⟩
    have : r = [] := by
      cases r with
      | nil => rfl
      | cons => cases h1
    subst this
    simp only [keysOf_keysD, Option.bind_some]
    have := g.len
    rw [family_of_S h acc (by rw [hN]; exact g.lt) (by omega)]
    rw [← h3]
    rfl
def Asc (xs : List Str) : Prop := xs.Pairwise fun a b => a.cps.toList < b.cps.toList
structure Fam (l : List Nat) (F : List Nat) : Prop where
  lt : ∀ k ∈ F, k < 2 ^ l.length
  asc : Asc (T l F)
  n : F.length ≤ 1000
theorem sel_word {l : List Nat} (h : Lets l) (k : Nat) : Word (sel l k) := ⟨h.w.asc.filter _, fun c hc => h.w.let_ c (mem_sel.mp hc).1⟩
theorem sel_in (l : List Nat) (k : Nat) : ∀ c ∈ sel l k, c ∈ l := fun c hc => (mem_sel.mp hc).1
theorem first_wrong_S {l : List Nat} (h : Lets l) {F : List Nat} (f : Fam l F) : m_first_wrong (S l, ⟨T l F⟩, ()) = some none := by
  show runF _ _ = _
  simp only [runF, runU, sseq, Fl.bnd, sret, sset, sif, sex, snever, sfor, snewD, sdput, fkeys, dz, ds, pdz, pds, f1, f2, fv, fc, fif, fand, foor, fnot, fcons, fnil, fch, lcons, lnil, flc, gz, gs, pz, ps, ic, ia, i0, snil, wid, wn, wk, wa, Option.bind_some, Option.map_some, Option.map_map, Function.comp_def, fyes, Option.bind_assoc]
  refine forL_then (fun xs γ => ∃ (p r : List Str), p ++ r = T l F ∧ xs = enumF p.length r ∧ γ = (S l, (⟨T l F⟩ : Tup Str), (⟨⟩ : Any), (⟨⟩ : Any), ())) ⟨[], T l F, rfl, rfl, rfl⟩ ?_ ?_
  · rintro x xs γ ⟨p, r, h1, h2, rfl⟩
    cases r with
    | nil => cases h2
    | cons s r =>
      cases h2
      refine ⟨_, ?_, p ++ [s], r, by simpa using h1, by simp, rfl⟩
      obtain ⟨k, hk, rfl⟩ : ∃ k, k ∈ F ∧ S (sel l k) = s := by
        have : s ∈ T l F := by
          rw [← h1]
          simp
        exact List.mem_map.mp this
      have e1 : m_is_lot (S l, S (sel l k), ()) = some true := is_lot_S l _ (sel_word h k) (sel_in l k) (by have := sel_len l k; have := h.n; omega)
      simp only [e1, Option.map_some, Option.bind_some, Bool.not_true, Bool.false_eq_true, if_false, iGt]
      by_cases hp : p = []
      · subst hp
        simp
      · have hpl : 0 < p.length := List.length_pos_iff.mpr hp
        have e2 : (decide (0 < (p.length : Int))) = true := by simp; omega
        obtain ⟨q, y, rfl⟩ : ∃ q y, p = q ++ [y] := by
          rcases List.eq_nil_or_concat p with z | ⟨q, y, z⟩
          · exact absurd z hp
          · exact ⟨q, y, by rw [z, List.concat_eq_append]⟩
        have e3 : tIx (⟨T l F⟩ : Tup Str) (((q ++ [y]).length : Int) - 1) = some y := by
          unfold tIx
          have : (((q ++ [y]).length : Int) - 1) = (q.length : Int) := by
            rw [List.length_append, List.length_singleton]
            omega
          rw [this]
          apply atI_nat
          rw [← h1]
          simp
        have e4 : sLe (S (sel l k)) y = some false := by
          unfold sLe
          have := f.asc
          unfold Asc at this
          rw [← h1] at this
          have h5 := (List.pairwise_append.mp this).2.2 y (by simp) (S (sel l k)) (by simp)
          rw [decide_eq_true h5]
          rfl
        simp only [e2, if_true, iSub, Option.bind_some, e3, e4, Bool.false_eq_true, if_false]
        try rfl
  · rintro γ' ⟨p, r, h1, h2, rfl⟩
    try rfl
theorem mem_ded : ∀ (xs acc : List Str) (s : Str), s ∈ ded acc xs ↔ s ∈ acc ∨ s ∈ xs
  | [], acc, s => by simp [ded]
  | x :: xs, acc, s => by
    unfold ded
    rw [mem_ded xs]
    split
    · rename_i h
      simp only [List.mem_cons]
      constructor
      · rintro (q | q)
        · exact .inl q
        · exact .inr (.inr q)
      · rintro (q | q | q)
        · exact .inl q
        · exact .inl (q ▸ h)
        · exact .inr q
    · simp only [List.mem_cons]
      constructor
      · rintro ((q | q) | q)
        · exact .inr (.inl q)
        · exact .inl q
        · exact .inr (.inr q)
      · rintro (q | q | q)
        · exact .inl (.inr q)
        · exact .inl (.inl q)
        · exact .inr q
theorem ded_nd : ∀ (xs acc : List Str), acc.Nodup → (ded acc xs).Nodup
  | [], acc, h => h
  | x :: xs, acc, h => by
    unfold ded
    apply ded_nd xs
    split
    · exact h
    · rename_i hx
      exact List.nodup_cons.mpr ⟨hx, h⟩
theorem srt_ext {xs ys : List Str} (h1 : xs.Nodup) (h2 : ys.Nodup) (h : ∀ s, s ∈ xs ↔ s ∈ ys) : srt xs = srt ys := srt_eq ((List.perm_ext_iff_of_nodup h1 h2).mpr h)
theorem mem_srt {xs : List Str} {s : Str} : s ∈ srt xs ↔ s ∈ xs := (srt_perm xs).mem_iff
theorem srt_nd {xs : List Str} (h : xs.Nodup) : (srt xs).Nodup := (srt_perm xs).nodup_iff.mpr h
theorem srt_id {xs : List Str} (h : xs.Pairwise fun a b => leS a b = true) : srt xs = xs := List.mergeSort_of_pairwise h
theorem T_nd {l : List Nat} (h : Lets l) {F : List Nat} (nd : F.Nodup) (lt : ∀ k ∈ F, k < 2 ^ l.length) : (T l F).Nodup := nodup_map nd fun a ha b hb e => sel_inj h.nd (lt a ha) (lt b hb) (S_inj.mp e)
theorem mem_T {l F : List Nat} {s : Str} : s ∈ T l F ↔ ∃ k ∈ F, S (sel l k) = s := List.mem_map
theorem T_mem {l : List Nat} (h : Lets l) {F : List Nat} (lt : ∀ k ∈ F, k < 2 ^ l.length) {k : Nat} (hk : k < 2 ^ l.length) : S (sel l k) ∈ T l F ↔ k ∈ F := by
  rw [mem_T]
  constructor
  · rintro ⟨j, hj, e⟩
    rw [← sel_inj h.nd (lt j hj) hk (S_inj.mp e)]
    exact hj
  · exact fun hk => ⟨k, hk, rfl⟩
theorem T_ext {l : List Nat} (h : Lets l) {F F' : List Nat} (g : Good (2 ^ l.length) F) (g' : Good (2 ^ l.length) F') (e : ∀ k, k ∈ F ↔ k ∈ F') : srt (T l F) = srt (T l F') :=
  srt_ext (T_nd h g.nd g.lt) (T_nd h g'.nd g'.lt) fun s => by
    rw [mem_T, mem_T]
    constructor
    · rintro ⟨k, hk, q⟩
      exact ⟨k, (e k).mp hk, q⟩
    · rintro ⟨k, hk, q⟩
      exact ⟨k, (e k).mpr hk, q⟩
theorem T_back {l : List Nat} : ∀ {ys : List Str}, (∀ s ∈ ys, ∃ k, k < 2 ^ l.length ∧ S (sel l k) = s) → ∃ A, ys = T l A ∧ ∀ k ∈ A, k < 2 ^ l.length
  | [], _ => ⟨[], rfl, fun _ h => by cases h⟩
  | s :: ys, h => by
    obtain ⟨k, hk, e⟩ := h s List.mem_cons_self
    obtain ⟨A, e2, h2⟩ := T_back fun y hy => h y (List.mem_cons_of_mem _ hy)
    exact ⟨k :: A, by rw [e2, ← e]; rfl, fun j hj => by
      rcases List.mem_cons.mp hj with q | q
      · rw [q]
        exact hk
      · exact h2 j q⟩
theorem nd_of_map {α β : Type} {f : α → β} : ∀ {xs : List α}, (xs.map f).Nodup → xs.Nodup
  | [], _ => List.nodup_nil
  | x :: xs, h => by
    rw [List.map_cons, List.nodup_cons] at h
    exact List.nodup_cons.mpr ⟨fun z => h.1 (List.mem_map_of_mem z), nd_of_map h.2⟩
theorem T_srt {l : List Nat} (h : Lets l) {F : List Nat} (g : Good (2 ^ l.length) F) : ∃ A, srt (T l F) = T l A ∧ Fam l A ∧ Good (2 ^ l.length) A ∧ ∀ k, k ∈ A ↔ k ∈ F := by
  obtain ⟨A, e, lt⟩ := T_back (l := l) (ys := srt (T l F)) fun s hs => by
    obtain ⟨k, hk, q⟩ := mem_T.mp (mem_srt.mp hs)
    exact ⟨k, g.lt k hk, q⟩
  have nd : (T l A).Nodup := by
    rw [← e]
    exact srt_nd (T_nd h g.nd g.lt)
  have gA : Good (2 ^ l.length) A := ⟨nd_of_map nd, lt⟩
  refine ⟨A, e, ⟨lt, ?_, by have := gA.len; have := p7 h; omega⟩, gA, fun k => ?_⟩
  · have p := srt_pair (T l F)
    rw [e] at p
    have q := p.and (List.nodup_iff_pairwise_ne.mp nd)
    refine q.imp ?_
    intro a b ⟨h1, h2⟩
    have h1 : a.cps.toList ≤ b.cps.toList := of_decide_eq_true h1
    apply Decidable.byContradiction
    intro h3
    have h4 : b.cps.toList ≤ a.cps.toList := List.not_lt.mp h3
    have h5 := List.le_antisymm h1 h4
    apply h2
    rw [← S_tl a, ← S_tl b, h5]
  · constructor
    · intro hk
      have : S (sel l k) ∈ srt (T l F) := by
        rw [e]
        exact mem_T.mpr ⟨k, hk, rfl⟩
      exact (T_mem h g.lt (lt k hk)).mp (mem_srt.mp this)
    · intro hk
      have : S (sel l k) ∈ T l A := by
        rw [← e]
        exact mem_srt.mpr (mem_T.mpr ⟨k, hk, rfl⟩)
      exact (T_mem h lt (g.lt k hk)).mp this
theorem T_len (l F : List Nat) : (T l F).length = F.length := List.length_map ..
theorem range_good (N : Nat) : Good N (List.range N) := ⟨List.nodup_range, fun _ h => List.mem_range.mp h⟩
theorem law_lots0 (l : List Nat) (hl : l.length ≤ 7) : m__law_bags (S l, ()) = some (srt ((subs l).map S)) := by
  show runF _ _ = _
  simp only [runF, runU, sseq, Fl.bnd, sret, sset, sif, sex, snever, sfor, f1, f2, fv, fc, fif, fand, foor, fnot, fcons, fnil, fch, lcons, lnil, flc, gz, gs, pz, ps, ic, ia, i0, snil, wid, wn, wk, wa, Option.bind_some, Option.map_some, Option.map_map, Function.comp_def, fyes, Option.bind_assoc]
  simp only [short, List.length_cons, List.length_nil]
  rw [if_pos (by omega)]
  simp only [Option.bind_some, Option.map_some, Option.bind_assoc, signs_S]
  refine forL_then (fun xs γ => ∃ (l' : List Nat) (acc : List (List Nat)), xs = (l'.map fun c => S [c]) ∧ γ = (S l, acc.map S, (⟨⟩ : Any), (⟨⟩ : Any), ()) ∧ l'.foldl grow acc = subs l ∧ acc.length * 2 ^ l'.length ≤ 128 ∧ ∀ s ∈ acc, s.length + l'.length ≤ 7) ⟨l, [[]], rfl, rfl, rfl, ?_, ?_⟩ ?_ ?_
  · have : 2 ^ l.length ≤ 2 ^ 7 := Nat.pow_le_pow_right (by decide) hl
    simpa using this
  · intro s hs
    cases List.mem_singleton.mp hs
    simpa using hl
  · rintro x xs γ ⟨l', acc, h1, rfl, h3, h4, h5⟩
    cases l' with
    | nil => cases h1
    | cons c r =>
      cases h1
      have h6 : acc.length * 2 ^ r.length * 2 ≤ 128 := by
        rw [List.length_cons, Nat.pow_succ, ← Nat.mul_assoc] at h4
        exact h4
      have h7 : acc.length ≤ 128 := by
        have : 0 < 2 ^ r.length := Nat.two_pow_pos _
        have := Nat.le_mul_of_pos_right acc.length this
        omega
      refine ⟨_, ?_, r, grow acc c, rfl, rfl, h3, ?_, ?_⟩
      · simp only [List.length_map]
        rw [if_pos (by omega), lcGo_of (T := fun _ => true) (E := fun s => s ++ S [c])]
        · simp only [Option.bind_some, lCat, List.length_map, filt_true]
          rw [if_pos (by omega)]
          simp only [Option.map_some, Option.bind_some]
          unfold grow
          rw [List.map_append, List.map_map, List.map_map]
          have e : ((fun s => s ++ S [c]) ∘ S) = (S ∘ fun x => x ++ [c]) := by
            funext z
            exact S_add z [c]
          rw [e]
        · intro s _
          rfl
        · intro s hs _
          obtain ⟨z, hz, rfl⟩ := List.mem_map.mp hs
          have := h5 z hz
          unfold sAdd
          rw [if_pos (by simp only [len_S, List.length_cons, List.length_nil] at this ⊢; omega)]
      · unfold grow
        rw [List.length_append, List.length_map, ← Nat.two_mul, Nat.mul_assoc, Nat.mul_comm 2]
        exact h6
      · intro s hs
        unfold grow at hs
        rcases List.mem_append.mp hs with h | h
        · have := h5 s h
          rw [List.length_cons] at this
          omega
        · obtain ⟨z, hz, rfl⟩ := List.mem_map.mp h
          have := h5 z hz
          rw [List.length_cons] at this
          rw [List.length_append, List.length_singleton]
          omega
  · rintro γ' ⟨l', acc, h1, rfl, h3, h4, h5⟩
    have : l' = [] := by
      cases l' with
      | nil => rfl
      | cons => cases h1
    subst this
    have h9 : acc.length ≤ 128 := by simpa using h4
    have e9 : srtL (acc.map S, ()) = some (srt (acc.map S)) := by
      unfold srtL
      rw [if_pos (by rw [List.length_map]; omega)]
    simp only [e9, Option.map_some, Option.bind_some]
    rw [← h3]
    rfl
theorem law_lots_S {l : List Nat} (h : Lets l) : m__law_bags (S l, ()) = some (srt (T l (List.range (2 ^ l.length)))) := by
  rw [law_lots0 l h.n, subs_sel _ l rfl h.nd, List.map_map]
  rfl
theorem mem_fold {f : Nat → Nat} {k : Nat} : ∀ (q a : List Nat), k ∈ q.foldl (fun acc o => addK acc (f o)) a ↔ k ∈ a ∨ ∃ o ∈ q, k = f o
  | [], a => by simp
  | o :: q, a => by
    rw [List.foldl_cons, mem_fold q, mem_addK]
    simp only [List.mem_cons]
    constructor
    · rintro ((h | h) | ⟨x, hx, e⟩)
      · exact .inl h
      · exact .inr ⟨o, .inl rfl, h⟩
      · exact .inr ⟨x, .inr hx, e⟩
    · rintro (h | ⟨x, hx | hx, e⟩)
      · exact .inl (.inl h)
      · subst hx
        exact .inl (.inr e)
      · exact .inr ⟨x, hx, e⟩
theorem mem_step {op : Nat → Nat → Nat} {ks : List Nat} {n k : Nat} : k ∈ step op ks n ↔ k ∈ ks ∨ ∃ o ∈ ks, k = op n o := mem_fold ks ks
theorem fold_good {N : Nat} {f : Nat → Nat} : ∀ (q a : List Nat), Good N a → (∀ o ∈ q, f o < N) → Good N (q.foldl (fun acc o => addK acc (f o)) a)
  | [], a, g, _ => g
  | o :: q, a, g, h => fold_good q _ (addK_good g (h o List.mem_cons_self)) fun x hx => h x (List.mem_cons_of_mem _ hx)
theorem step_good {N : Nat} {op : Nat → Nat → Nat} {ks : List Nat} {n : Nat} (g : Good N ks) (h : ∀ o ∈ ks, op n o < N) : Good N (step op ks n) := fold_good ks ks g h
def cm (l : List Nat) (k : Nat) : Nat := 2 ^ l.length - (k + 1)
theorem cm_bit (l : List Nat) {k : Nat} (hk : k < 2 ^ l.length) (i : Nat) : (cm l k).testBit i = (decide (i < l.length) && !k.testBit i) := Nat.testBit_two_pow_sub_succ hk i
theorem sel_cm (l : List Nat) {k : Nat} (hk : k < 2 ^ l.length) : l.filter (fun c => !decide (c ∈ sel l k)) = sel l (cm l k) := by
  unfold sel
  apply List.filter_congr
  intro c hc
  rw [cm_bit l hk, decide_eq_true (List.idxOf_lt_length_of_mem hc)]
  have : (decide (c ∈ List.filter (fun c => k.testBit (List.idxOf c l)) l)) = k.testBit (l.idxOf c) := by
    rw [Bool.eq_iff_iff, decide_eq_true_eq, List.mem_filter]
    simp [hc]
  rw [this]
  rfl
theorem sel_full (l : List Nat) : sel l (2 ^ l.length - 1) = l := by
  have h0 : 0 < 2 ^ l.length := Nat.two_pow_pos _
  have := sel_cm l h0
  unfold cm at this
  rw [Nat.zero_add] at this
  rw [← this]
  have e : sel l 0 = [] := by simp [sel]
  rw [e]
  simp
theorem law_both_T {l : List Nat} (h : Lets l) (i j : Nat) : m__law_both (S (sel l i), S (sel l j), ()) = some (S (sel l (i &&& j))) := by
  rw [both_S _ _ (by have := sel_len l i; have := h.n; omega), sel_and]
theorem law_inside_T {l : List Nat} (h : Lets l) {i : Nat} (hi : i < 2 ^ l.length) (j : Nat) : m__law_in (S (sel l i), S (sel l j), ()) = some (decide (i &&& j = i)) := by
  rw [inside_S _ _ (by have := sel_len l i; have := h.n; omega)]
  congr 1
  rw [decide_eq_decide]
  exact sel_sub h.nd hi
theorem lcGo_T {l : List Nat} (h : Lets l) {α : Type} {t : Str → Option Bool} {e : Str → Option α} {P : Nat → Bool} {E : Nat → α} : ∀ {F : List Nat}, (∀ k ∈ F, t (S (sel l k)) = some (P k)) → (∀ k ∈ F, P k = true → e (S (sel l k)) = some (E k)) → lcGo t e (T l F) = some ((F.filter P).map E)
  | [], _, _ => rfl
  | k :: F, h1, h2 => by
    show lcGo t e (S (sel l k) :: T l F) = _
    unfold lcGo
    rw [h1 k List.mem_cons_self, Option.bind_some, lcGo_T h (fun j hj => h1 j (List.mem_cons_of_mem _ hj)) (fun j hj => h2 j (List.mem_cons_of_mem _ hj))]
    cases hP : P k with
    | true => simp [h2 k List.mem_cons_self hP, hP]
    | false => simp [hP]
theorem le_bits {a b : Nat} : a &&& b = a ↔ ∀ i, a.testBit i = true → b.testBit i = true := by
  constructor
  · intro h i hi
    rw [← h, Nat.testBit_and, Bool.and_eq_true] at hi
    exact hi.2
  · intro h
    apply Nat.eq_of_testBit_eq
    intro i
    rw [Nat.testBit_and]
    cases ha : a.testBit i with
    | false => rfl
    | true => rw [h i ha]; rfl
theorem le_trans' {a b c : Nat} (h : a &&& b = a) (k : b &&& c = b) : a &&& c = a := le_bits.mpr fun i hi => le_bits.mp k i (le_bits.mp h i hi)
theorem le_anti {a b : Nat} (h : a &&& b = a) (k : b &&& a = b) : a = b := by
  rw [← h, Nat.and_comm]
  exact k
theorem mem_walk {op : Nat → Nat → Nat} {x : Nat} : ∀ (F A : List Nat), x ∈ F.foldl (step op) A ↔ ∃ a ∈ A, ∃ G : List Nat, G.Sublist F ∧ x = G.foldl (fun z n => op n z) a
  | [], A => by
    constructor
    · intro h
      exact ⟨x, h, [], List.Sublist.refl _, rfl⟩
    · rintro ⟨a, ha, G, hG, e⟩
      cases hG
      rw [e]
      exact ha
  | n :: F, A => by
    rw [List.foldl_cons, mem_walk F]
    constructor
    · rintro ⟨a, ha, G, hG, e⟩
      rcases mem_step.mp ha with h | ⟨o, ho, rfl⟩
      · exact ⟨a, h, G, hG.cons _, e⟩
      · exact ⟨o, ho, n :: G, hG.cons_cons _, e⟩
    · rintro ⟨a, ha, G, hG, e⟩
      cases hG with
      | cons _ h => exact ⟨a, mem_step.mpr (.inl ha), _, h, e⟩
      | cons_cons _ h => exact ⟨op n a, mem_step.mpr (.inr ⟨a, ha, rfl⟩), _, h, e⟩
theorem and_full {l : List Nat} {k : Nat} (hk : k < 2 ^ l.length) : k &&& (2 ^ l.length - 1) = k := by
  rw [Nat.and_two_pow_sub_one_eq_mod]
  exact Nat.mod_eq_of_lt hk
def Shut (M : List Nat) : Prop := ∀ x ∈ M, ∀ y ∈ M, x &&& y ∈ M
theorem shut_step {M : List Nat} (h : Shut M) (n : Nat) : Shut (step (· &&& ·) M n) := by
  intro x hx y hy
  rcases mem_step.mp hx with a | ⟨a, ha, rfl⟩ <;> rcases mem_step.mp hy with b | ⟨b, hb, rfl⟩
  · exact mem_step.mpr (.inl (h x a y b))
  · refine mem_step.mpr (.inr ⟨x &&& b, h x a b hb, ?_⟩)
    show x &&& (n &&& b) = n &&& (x &&& b)
    rw [← Nat.and_assoc, ← Nat.and_assoc, Nat.and_comm x n]
  · refine mem_step.mpr (.inr ⟨a &&& y, h a ha y b, ?_⟩)
    show (n &&& a) &&& y = n &&& (a &&& y)
    rw [Nat.and_assoc]
  · refine mem_step.mpr (.inr ⟨a &&& b, h a ha b hb, ?_⟩)
    show (n &&& a) &&& (n &&& b) = n &&& (a &&& b)
    apply Nat.eq_of_testBit_eq
    intro i
    simp only [Nat.testBit_and]
    cases n.testBit i <;> cases a.testBit i <;> cases b.testBit i <;> rfl
theorem shut_walk : ∀ (F M : List Nat), Shut M → Shut (F.foldl (step (· &&& ·)) M)
  | [], M, h => h
  | n :: F, M, h => shut_walk F _ (shut_step h n)
theorem walk_mem {op : Nat → Nat → Nat} {x : Nat} : ∀ (F M : List Nat), x ∈ M → x ∈ F.foldl (step op) M
  | [], M, h => h
  | n :: F, M, h => walk_mem F _ (mem_step.mpr (.inl h))
theorem walk_good {N : Nat} {op : Nat → Nat → Nat} (h : ∀ n o, n < N → o < N → op n o < N) : ∀ (F M : List Nat), (∀ k ∈ F, k < N) → Good N M → Good N (F.foldl (step op) M)
  | [], M, _, g => g
  | n :: F, M, hF, g => walk_good h F _ (fun k hk => hF k (List.mem_cons_of_mem _ hk)) (step_good g fun o ho => h n o (hF n List.mem_cons_self) (g.lt o ho))
theorem meet_meet {l : List Nat} {A : List Nat} (lt : ∀ k ∈ A, k < 2 ^ l.length) (w : 2 ^ l.length - 1 ∈ A) (s : Shut A) (k : Nat) : k ∈ A.foldl (step (· &&& ·)) [2 ^ l.length - 1] ↔ k ∈ A := by
  rw [mem_walk]
  constructor
  · rintro ⟨a, ha, G, hG, e⟩
    have ha' : a ∈ A := by
      rw [List.mem_singleton.mp ha]
      exact w
    have key : ∀ (G : List Nat) (a : Nat), (∀ g ∈ G, g ∈ A) → a ∈ A → G.foldl (fun z n => n &&& z) a ∈ A := by
      intro G
      induction G with
      | nil => intro a _ h; exact h
      | cons g G ih => exact fun a h1 h2 => ih _ (fun x hx => h1 x (List.mem_cons_of_mem _ hx)) (s g (h1 g List.mem_cons_self) a h2)
    rw [e]
    exact key G a (fun g hg => hG.subset hg) ha'
  · intro hk
    exact ⟨_, List.mem_singleton.mpr rfl, [k], List.singleton_sublist.mpr hk, (and_full (lt k hk)).symm⟩
structure Sys (l C : List Nat) : Prop extends Fam l C where
  full : 2 ^ l.length - 1 ∈ C
  shut : Shut C
theorem fam_good {l F : List Nat} (f : Fam l F) : Good (2 ^ l.length) F := ⟨nd_of_map (f := fun k => S (sel l k)) (f.asc.imp fun h e => by rw [e] at h; exact List.lt_irrefl _ h), f.lt⟩
theorem fam_srt {l F : List Nat} (f : Fam l F) : srt (T l F) = T l F := srt_id (f.asc.imp fun h => decide_eq_true (List.le_of_lt h))
theorem meets_sys {l C : List Nat} (h : Lets l) (s : Sys l C) : srt (T l (C.foldl (step (· &&& ·)) [2 ^ l.length - 1])) = T l C := by
  have N1 : 0 < 2 ^ l.length := Nat.two_pow_pos _
  have g : Good (2 ^ l.length) (C.foldl (step (· &&& ·)) [2 ^ l.length - 1]) := walk_good (fun n o h1 h2 => Nat.and_lt_two_pow _ h2) C _ s.lt ⟨by simp, by simp; omega⟩
  rw [T_ext h g (fam_good s.toFam) (meet_meet s.lt s.full s.shut), fam_srt s.toFam]
theorem is_system_S {l C : List Nat} (h : Lets l) (s : Sys l C) : m_is_system (S l, ⟨T l C⟩, ()) = some true := by
  show runF _ _ = _
  simp only [runF, runU, sseq, Fl.bnd, sret, sset, sif, sex, snever, sfor, snewD, sdput, fkeys, dz, ds, pdz, pds, f1, f2, fv, fc, fif, fand, foor, fnot, fcons, fnil, fch, lcons, lnil, flc, gz, gs, pz, ps, ic, ia, i0, snil, wid, wn, wk, wa, Option.bind_some, Option.map_some, Option.map_map, Function.comp_def, fyes, Option.bind_assoc]
  simp only [first_wrong_S h s.toFam, meets_of_S h C s.lt s.n, Option.bind_some, isN, meets_sys h s, dEq]
  simp
theorem chk_closed_S {l C : List Nat} (h : Lets l) (s : Sys l C) : m_check_closed (S l, ⟨T l C⟩, ()) = some () := by
  show runU _ _ = _
  simp only [runF, runU, sseq, Fl.bnd, sret, sset, sif, sex, snever, sfor, snewD, sdput, fkeys, dz, ds, pdz, pds, f1, f2, fv, fc, fif, fand, foor, fnot, fcons, fnil, fch, lcons, lnil, flc, gz, gs, pz, ps, ic, ia, i0, snil, wid, wn, wk, wa, Option.bind_some, Option.map_some, Option.map_map, Function.comp_def, fyes, Option.bind_assoc]
  simp [first_wrong_S h s.toFam, is_system_S h s, notN]
def ar (l C : List Nat) (k : Nat) : Nat := (C.filter fun m => decide (k &&& m = k)).foldl (fun z m => z &&& m) (2 ^ l.length - 1)
theorem fold_bit (i : Nat) : ∀ (G : List Nat) (z : Nat), (G.foldl (fun z m => z &&& m) z).testBit i = (z.testBit i && G.all fun m => m.testBit i)
  | [], z => by simp
  | m :: G, z => by
    rw [List.foldl_cons, fold_bit i G, Nat.testBit_and, List.all_cons, Bool.and_assoc]
theorem fold_mem {C : List Nat} (s : Shut C) : ∀ (G : List Nat) (z : Nat), z ∈ C → (∀ m ∈ G, m ∈ C) → G.foldl (fun z m => z &&& m) z ∈ C
  | [], z, hz, _ => hz
  | m :: G, z, hz, hG => fold_mem s G _ (s _ hz _ (hG m List.mem_cons_self)) fun x hx => hG x (List.mem_cons_of_mem _ hx)
theorem ar_mem {l C : List Nat} (s : Sys l C) (k : Nat) : ar l C k ∈ C := fold_mem s.shut _ _ s.full fun m hm => (List.mem_filter.mp hm).1
theorem ar_lt {l C : List Nat} (s : Sys l C) (k : Nat) : ar l C k < 2 ^ l.length := s.lt _ (ar_mem s k)
theorem ar_up {l C : List Nat} {k : Nat} (hk : k < 2 ^ l.length) : k &&& ar l C k = k := le_bits.mpr fun i hi => by
  unfold ar
  rw [fold_bit, Bool.and_eq_true]
  refine ⟨le_bits.mp (and_full hk) i hi, List.all_eq_true.mpr fun m hm => le_bits.mp (of_decide_eq_true (List.mem_filter.mp hm).2) i hi⟩
theorem ar_le {l C : List Nat} {k m : Nat} (hm : m ∈ C) (h : k &&& m = k) : ar l C k &&& m = ar l C k := le_bits.mpr fun i hi => by
  unfold ar at hi
  rw [fold_bit, Bool.and_eq_true] at hi
  exact List.all_eq_true.mp hi.2 m (List.mem_filter.mpr ⟨hm, decide_eq_true h⟩)
theorem ar_fix {l C : List Nat} (s : Sys l C) {k : Nat} (hk : k < 2 ^ l.length) : ar l C k = k ↔ k ∈ C := by
  constructor
  · intro e
    rw [← e]
    exact ar_mem s k
  · intro hm
    exact le_anti (ar_le hm (by simp)) (ar_up hk)
theorem filt_len {l : List Nat} {P Q : Nat → Bool} (h : ∀ c ∈ l, P c = true → Q c = true) : (l.filter P).length ≤ (l.filter Q).length ∧ ((l.filter P).length = (l.filter Q).length → l.filter P = l.filter Q) := by
  induction l with
  | nil => simp
  | cons c l ih =>
    obtain ⟨i1, i2⟩ := ih fun d hd => h d (List.mem_cons_of_mem _ hd)
    have hc := h c List.mem_cons_self
    cases hp : P c <;> cases hq : Q c
    · simp [hp, hq, i1]
      exact i2
    · simp only [List.filter_cons, hp, hq, Bool.false_eq_true, if_false, if_true, List.length_cons]
      exact ⟨by omega, fun e => by omega⟩
    · rw [hc hp] at hq
      cases hq
    · simp only [List.filter_cons, hp, hq, if_true, List.length_cons]
      exact ⟨by omega, fun e => by rw [i2 (by omega)]⟩
theorem sel_le_len {l : List Nat} (nd : l.Nodup) {i j : Nat} (h : i &&& j = i) : (sel l i).length ≤ (sel l j).length ∧ ((sel l i).length = (sel l j).length → sel l i = sel l j) :=
  filt_len fun c hc hi => le_bits.mp h _ hi
theorem whl_find {Γ S ρ : Type} {c : Γ → Option Bool} {f : Γ → Option (Fl Γ S ρ)} (st : Nat → Γ) (j : Nat) (hc : ∀ i, i < j → c (st i) = some true) (hf : ∀ i, i < j → f (st i) = some (.nx (st (i + 1)))) (he : c (st j) = some false) : ∀ (n i : Nat), i ≤ j → j - i < n → whl n c f (st i) = some (.nx (st j))
  | 0, i, _, h => by omega
  | n + 1, i, hi, h => by
    unfold whl
    by_cases e : i = j
    · subst e
      rw [he]
      rfl
    · rw [hc i (by omega), Option.bind_some, if_pos rfl, hf i (by omega), Option.bind_some]
      exact whl_find st j hc hf he n (i + 1) (by omega) (by omega)
theorem first_around_S {b : List Nat} (hb : b.length ≤ 1000) (pre : List (List Nat)) (m : List Nat) (post : List (List Nat)) (h1 : ∀ x ∈ pre, ¬ ∀ c ∈ b, c ∈ x) (h2 : ∀ c ∈ b, c ∈ m) (hn : pre.length < 900) : m_first_around ((pre ++ m :: post).map S, S b, ()) = some (S m) := by
  show runF _ _ = _
  simp only [runF, runU, sseq, Fl.bnd, sret, sset, sif, sex, snever, sfor, snewD, sdput, fkeys, dz, ds, pdz, pds, f1, f2, fv, fc, fif, fand, foor, fnot, fcons, fnil, fch, lcons, lnil, flc, gz, gs, pz, ps, ic, ia, i0, snil, wid, wn, wk, wa, Option.bind_some, Option.map_some, Option.map_map, Function.comp_def, fyes, Option.bind_assoc]
  unfold swhl
  simp only [lenS]
  have ix : ∀ i : Nat, i < (pre ++ m :: post).length → lIx ((pre ++ m :: post).map S) (i : Int) = some (S ((pre ++ m :: post).getD i [])) := by
    intro i hi
    unfold lIx
    apply atI_nat
    rw [List.getElem?_map, List.getD_eq_getElem?_getD, List.getElem?_eq_getElem hi]
    rfl
  have e0 : (((pre ++ m :: post).map S, S b, (0 : Int), ()) : List Str × Str × Int × Unit) = (fun i : Nat => ((pre ++ m :: post).map S, S b, (i : Int), ())) 0 := rfl
  rw [e0, whl_find (fun i : Nat => (((pre ++ m :: post).map S, S b, (i : Int), ()) : List Str × Str × Int × Unit)) pre.length ?_ ?_ ?_ 1000 0 (Nat.zero_le _) (by omega)]
  · simp only [Option.bind_some]
    rw [ix pre.length (by simp)]
    simp
    try rfl
  · intro i hi
    simp only [fnot, f1, f2, fv, fcons, fnil, Option.bind_some]
    rw [ix i (by simp; omega)]
    simp only [Option.bind_some]
    rw [has_all_S _ _ hb]
    have hm : (pre ++ m :: post).getD i [] ∈ pre := by
      rw [List.getD_eq_getElem?_getD, List.getElem?_append_left hi, List.getElem?_eq_getElem hi]
      exact List.getElem_mem hi
    rw [decide_eq_false (h1 _ hm)]
    rfl
  · intro i hi
    simp only [runF, runU, sseq, Fl.bnd, sret, sset, sif, sex, snever, sfor, snewD, sdput, fkeys, dz, ds, pdz, pds, f1, f2, fv, fc, fif, fand, foor, fnot, fcons, fnil, fch, lcons, lnil, flc, gz, gs, pz, ps, ic, ia, i0, snil, wid, wn, wk, wa, Option.bind_some, Option.map_some, Option.map_map, Function.comp_def, fyes, Option.bind_assoc]
    simp only [saug, fc, Option.map_some, Option.bind_some]
    try rfl
  · simp only [fnot, f1, f2, fv, fcons, fnil, Option.bind_some]
    rw [ix pre.length (by simp)]
    simp only [Option.bind_some]
    rw [has_all_S _ _ hb]
    have hm : (pre ++ m :: post).getD pre.length [] = m := by simp
    rw [hm]
    simp [h2]
    exact h2
theorem around_first {l C : List Nat} (h : Lets l) (s : Sys l C) {k : Nat} (hk : k < 2 ^ l.length) : m_first_around (srtK (T l C), S (sel l k), ()) = some (S (sel l (ar l C k))) := by
  have hp : (srtK (T l C)).Perm (T l C) := List.mergeSort_perm _ _
  obtain ⟨A, eA, lA⟩ := T_back (l := l) (ys := srtK (T l C)) fun t ht => by
    obtain ⟨k, hk, q⟩ := mem_T.mp (hp.mem_iff.mp ht)
    exact ⟨k, s.lt k hk, q⟩
  have nd : (T l A).Nodup := by
    rw [← eA]
    exact hp.nodup_iff.mpr (T_nd h (fam_good s.toFam).nd s.lt)
  have mA : ∀ k, k < 2 ^ l.length → (k ∈ A ↔ k ∈ C) := fun k hk => by
    rw [← T_mem h lA hk, ← T_mem h s.lt hk, ← eA]
    exact hp.mem_iff
  have pw : (T l A).Pairwise fun a b => leL a b = true := by
    rw [← eA]
    refine List.pairwise_mergeSort (le := leL) ?_ ?_ _
    · intro a b c h1 h2
      have h1 := of_decide_eq_true h1
      have h2 := of_decide_eq_true h2
      exact decide_eq_true (by omega)
    · intro a b
      rw [Bool.or_eq_true]
      rcases Int.le_total (a.length : Int) (b.length : Int) with h | h
      · exact .inl (decide_eq_true h)
      · exact .inr (decide_eq_true h)
  obtain ⟨A1, A2, e⟩ := List.append_of_mem ((mA _ (ar_lt s k)).mpr (ar_mem s k))
  have lenA : A.length = C.length := by
    have := hp.length_eq
    rw [eA, T_len, T_len] at this
    exact this
  have hn := (fam_good s.toFam).len
  have N7 := p7 h
  rw [eA]
  have eT : T l A = (A1.map (sel l) ++ sel l (ar l C k) :: A2.map (sel l)).map S := by
    rw [e]
    simp [T, Function.comp_def]
  rw [eT]
  refine first_around_S (by have := sel_len l k; have := h.n; omega) _ _ _ ?_ ((sel_sub h.nd hk).mpr (ar_up hk)) ?_
  · intro x hx hs
    obtain ⟨p, hp1, rfl⟩ := List.mem_map.mp hx
    have pA : p ∈ A := by rw [e]; exact List.mem_append_left _ hp1
    have hp3 := (sel_sub h.nd hk).mp hs
    have hle := ar_le (l := l) ((mA p (lA p pA)).mp pA) hp3
    obtain ⟨l1, l2⟩ := sel_le_len h.nd hle
    rw [e] at pw nd
    unfold T at pw nd
    rw [List.map_append, List.map_cons] at pw nd
    have q1 := (List.pairwise_append.mp pw).2.2 (S (sel l p)) (List.mem_map_of_mem hp1) (S (sel l (ar l C k))) List.mem_cons_self
    have q1 := of_decide_eq_true q1
    rw [len_S, len_S] at q1
    have q2 := l2 (by omega)
    have q3 := (List.nodup_append.mp nd).2.2 (S (sel l p)) (List.mem_map_of_mem hp1) (S (sel l (ar l C k))) List.mem_cons_self
    exact q3 (by rw [q2])
  · rw [List.length_map]
    have : A.length = A1.length + (A2.length + 1) := by rw [e, List.length_append, List.length_cons]
    omega
theorem lots_around_S {l C : List Nat} (h : Lets l) (s : Sys l C) : m_lots_around (S l, ⟨T l C⟩, ()) = some ⟨(List.range (2 ^ l.length)).map fun k => ((Sum.inr (S (sel l k)) : Key), S (sel l (ar l C k)))⟩ := by
  show runF _ _ = _
  simp only [runF, runU, sseq, Fl.bnd, sret, sset, sif, sex, snever, sfor, snewD, sdput, fkeys, dz, ds, pdz, pds, f1, f2, fv, fc, fif, fand, foor, fnot, fcons, fnil, fch, lcons, lnil, flc, gz, gs, pz, ps, ic, ia, i0, snil, wid, wn, wk, wa, Option.bind_some, Option.map_some, Option.map_map, Function.comp_def, fyes, Option.bind_assoc]
  simp only [lots_S h, Option.bind_some, sortK]
  have hn := s.n
  have N7 := p7 h
  rw [if_pos ⟨by rw [T_len]; omega, fun x hx => by
    obtain ⟨k, hk, rfl⟩ := mem_T.mp hx
    have := sel_len l k
    have := h.n
    rw [len_S]
    omega⟩]
  simp only [Option.map_some, Option.bind_some, fdc1, f1, fv, fcons, fnil, lots_S h, List.length_map, List.length_range]
  rw [if_pos (by omega), dcGo_new (kx := fun x => x) (vx := fun x => (m_first_around (srtK (T l C), x, ())).getD x)]
  · simp only [List.nil_append, List.map_map, Option.map_some, Option.bind_some]
    congr 2
    apply List.map_congr_left
    intro k hk
    have hk := List.mem_range.mp hk
    simp only [Function.comp_apply]
    rw [around_first h s hk]
    rfl
  · intro x hx
    obtain ⟨k, hk, rfl⟩ := List.mem_map.mp hx
    rw [around_first h s (List.mem_range.mp hk)]
    exact ⟨rfl, rfl⟩
  · rw [List.map_map]
    apply nodup_map List.nodup_range
    intro i hi j hj e
    have e2 : S (sel l i) = S (sel l j) := Sum.inr.inj e
    exact sel_inj h.nd (List.mem_range.mp hi) (List.mem_range.mp hj) (S_inj.mp e2)
  · intro x _ q hq
    cases hq
def arD (l C : List Nat) : List (Key × Str) := (List.range (2 ^ l.length)).map fun k => ((Sum.inr (S (sel l k)) : Key), S (sel l (ar l C k)))
def clo (l C : List Nat) : Clo := ⟨S l, ⟨T l C⟩, arD l C⟩
theorem make_S {l C : List Nat} (h : Lets l) (s : Sys l C) : m_Closer___init__ (S l, ⟨T l C⟩, ()) = some (clo l C) := by
  show runI _ _ = _
  unfold runI
  simp only [sseq, sex, sf1, sf2, sf3, snil, Fl.bnd, f1, fv, fcons, fnil, gs, gz, wid, ic, i0, Option.bind_some, Option.map_some, chk_things_S l h.w h.n h.p, chk_closed_S h s, lots_around_S h s]
  rfl
theorem things_S (l C : List Nat) : m_Closer_things (clo l C, ()) = some (S l) := rfl
theorem closed_S (l C : List Nat) : m_Closer_closed (clo l C, ()) = some ⟨T l C⟩ := rfl
theorem val_arD {l C : List Nat} (h : Lets l) {k : Nat} (hk : k < 2 ^ l.length) : valB (arD l C) (Sum.inr (S (sel l k))) = some (S (sel l (ar l C k))) := by
  unfold valB arD
  rw [List.find?_map]
  have e : List.find? ((fun kv : Key × Str => decide (kv.1 = Sum.inr (S (sel l k)))) ∘ fun (k : Nat) => ((Sum.inr (S (sel l k)) : Key), S (sel l (ar l C k)))) (List.range (2 ^ l.length)) = some k := by
    rw [List.find?_range_eq_some]
    refine ⟨by simp, List.mem_range.mpr hk, fun j hj => ?_⟩
    simp only [Function.comp_apply, Bool.not_eq_true', decide_eq_false_iff_not]
    intro z
    have := sel_inj h.nd (by omega) hk (S_inj.mp (Sum.inr.inj z))
    omega
  rw [e]
  rfl
theorem lot_ok {l : List Nat} (h : Lets l) (k : Nat) : m_is_lot (S l, S (sel l k), ()) = some true := is_lot_S l _ (sel_word h k) (sel_in l k) (by have := sel_len l k; have := h.n; omega)
theorem around_S {l C : List Nat} (h : Lets l) {k : Nat} (hk : k < 2 ^ l.length) : m_Closer_around (clo l C, S (sel l k), ()) = some (S (sel l (ar l C k))) := by
  show runF _ _ = _
  simp only [runF, runU, sseq, Fl.bnd, sret, sset, sif, sex, snever, sfor, f1, f2, fv, fc, fif, fand, foor, fnot, fcons, fnil, fch, lcons, lnil, flc, gz, gs, pz, ps, ic, ia, i0, snil, wid, wn, wk, wa, Option.bind_some, Option.map_some, Option.map_map, Function.comp_def, fyes, Option.bind_assoc]
  simp only [clo, chk_lot_S l _ (sel_word h k) (sel_in l k) (show (sel l k).length ≤ 1000 by have := sel_len l k; have := h.n; omega), Option.bind_some, Option.map_some, dget]
  rw [show (KeyOf.key (S (sel l k)) : Key) = Sum.inr (S (sel l k)) from rfl, val_arD h hk]
  rfl
def rul (l : List Nat) (i j : Nat) : T2 Str Str := ⟨S (sel l i), S (sel l j)⟩
theorem has_all_T {l : List Nat} (h : Lets l) (i : Nat) {j : Nat} (hj : j < 2 ^ l.length) : m_has_all (S (sel l i), S (sel l j), ()) = some (decide (j &&& i = j)) := by
  rw [has_all_S _ _ (by have := sel_len l j; have := h.n; omega)]
  congr 1
  exact decide_eq_decide.mpr (sel_sub h.nd hj)
theorem is_rule_S {l : List Nat} (h : Lets l) (i j : Nat) : m_is_rule (S l, rul l i j, ()) = some true := by
  show runF _ _ = _
  simp only [runF, runU, sseq, Fl.bnd, sret, sset, sif, sex, snever, sfor, f1, f2, fv, fc, fif, fand, foor, fnot, fcons, fnil, fch, lcons, lnil, flc, gz, gs, pz, ps, ic, ia, i0, snil, wid, wn, wk, wa, Option.bind_some, Option.map_some, Option.map_map, Function.comp_def, fyes, Option.bind_assoc]
  simp [rul, len2, sEq, ix0, ix1, lot_ok h]
theorem keeps_S {l : List Nat} (h : Lets l) (k : Nat) {i j : Nat} (hi : i < 2 ^ l.length) (hj : j < 2 ^ l.length) : m_keeps (S (sel l k), rul l i j, ()) = some (!decide (i &&& k = i) || decide (j &&& k = j)) := by
  show runF _ _ = _
  simp only [runF, runU, sseq, Fl.bnd, sret, sset, sif, sex, snever, sfor, f1, f2, fv, fc, fif, fand, foor, fnot, fcons, fnil, fch, lcons, lnil, flc, gz, gs, pz, ps, ic, ia, i0, snil, wid, wn, wk, wa, Option.bind_some, Option.map_some, Option.map_map, Function.comp_def, fyes, Option.bind_assoc]
  simp only [sunp, fv, rul, Function.comp_apply, Option.map_some, Option.bind_some, has_all_T h k hi, has_all_T h k hj]
  by_cases h1 : i &&& k = i <;> simp [h1]
theorem chk_closer_S (l C : List Nat) : m_check_closer (clo l C, ()) = some () := rfl
theorem chk_rule_S {l : List Nat} (h : Lets l) (i j : Nat) : m_check_rule (S l, rul l i j, ()) = some () := by
  show runU _ _ = _
  simp only [runF, runU, sseq, Fl.bnd, sret, sset, sif, sex, snever, sfor, f1, f2, fv, fc, fif, fand, foor, fnot, fcons, fnil, fch, lcons, lnil, flc, gz, gs, pz, ps, ic, ia, i0, snil, wid, wn, wk, wa, Option.bind_some, Option.map_some, Option.map_map, Function.comp_def, fyes, Option.bind_assoc]
  simp [is_rule_S h]
theorem holds_S {l C : List Nat} (h : Lets l) (s : Sys l C) {i j : Nat} (hi : i < 2 ^ l.length) (hj : j < 2 ^ l.length) : m_holds (clo l C, rul l i j, ()) = some (decide (j &&& ar l C i = j)) := by
  show runF _ _ = _
  simp only [runF, runU, sseq, Fl.bnd, sret, sset, sif, sex, snever, sfor, f1, f2, fv, fc, fif, fand, foor, fnot, fcons, fnil, fch, lcons, lnil, flc, gz, gs, pz, ps, ic, ia, i0, snil, wid, wn, wk, wa, Option.bind_some, Option.map_some, Option.map_map, Function.comp_def, fyes, Option.bind_assoc]
  have e0 : ix0 (rul l i j) 0 = some (S (sel l i)) := rfl
  simp only [chk_closer_S, things_S, Option.bind_some, Option.map_some, chk_rule_S h, e0, around_S h hi, keeps_S h (ar l C i) hi hj, ar_up hi, decide_true, Bool.not_true, Bool.false_or]
theorem breaker_S {l C : List Nat} (h : Lets l) (s : Sys l C) {i j : Nat} (hi : i < 2 ^ l.length) (hj : j < 2 ^ l.length) : m_breaker (clo l C, rul l i j, ()) = some (if j &&& ar l C i = j then none else some (S (sel l (ar l C i)))) := by
  show runF _ _ = _
  simp only [runF, runU, sseq, Fl.bnd, sret, sset, sif, sex, snever, sfor, f1, f2, fv, fc, fif, fand, foor, fnot, fcons, fnil, fch, lcons, lnil, flc, gz, gs, pz, ps, ic, ia, i0, snil, wid, wn, wk, wa, Option.bind_some, Option.map_some, Option.map_map, Function.comp_def, fyes, Option.bind_assoc]
  have e0 : ix0 (rul l i j) 0 = some (S (sel l i)) := rfl
  simp only [chk_closer_S, things_S, Option.bind_some, Option.map_some, chk_rule_S h, e0, around_S h hi, keeps_S h (ar l C i) hi hj, ar_up hi, decide_true, Bool.not_true, Bool.false_or]
  by_cases h1 : j &&& ar l C i = j <;> simp [h1]
def bk (l : List Nat) (B : List (Nat × Nat)) : Tup (T2 Str Str) := ⟨B.map fun p => rul l p.1 p.2⟩
structure Bok (l : List Nat) (B : List (Nat × Nat)) : Prop where
  lt : ∀ p ∈ B, p.1 < 2 ^ l.length ∧ p.2 < 2 ^ l.length
  n : B.length ≤ 100
def kp (B : List (Nat × Nat)) (k : Nat) : Bool := B.all fun p => !decide (p.1 &&& k = p.1) || decide (p.2 &&& k = p.2)
structure All (l E : List Nat) : Prop where
  f : Fam l E
  m : ∀ k, k ∈ E ↔ k < 2 ^ l.length
theorem all_ex {l : List Nat} (h : Lets l) : ∃ E, m__law_bags (S l, ()) = some (T l E) ∧ All l E := by
  obtain ⟨E, eE, fE, gE, mE⟩ := T_srt h (range_good (2 ^ l.length))
  exact ⟨E, by rw [law_lots_S h, eE], fE, fun k => (mE k).trans List.mem_range⟩
theorem kept_sys {l E : List Nat} (h : Lets l) (A : All l E) {B : List (Nat × Nat)} (b : Bok l B) : Sys l (E.filter (kp B)) := by
  have N1 : 0 < 2 ^ l.length := Nat.two_pow_pos _
  refine ⟨⟨fun k hk => A.f.lt k (List.mem_filter.mp hk).1, ?_, Nat.le_trans (List.length_filter_le _ _) A.f.n⟩, ?_, ?_⟩
  · have := A.f.asc
    unfold Asc at this ⊢
    exact this.sublist (List.Sublist.map _ List.filter_sublist)
  · refine List.mem_filter.mpr ⟨(A.m _).mpr (by omega), List.all_eq_true.mpr fun p hp => ?_⟩
    rw [Bool.or_eq_true]
    exact .inr (decide_eq_true (and_full (b.lt p hp).2))
  · intro x hx y hy
    obtain ⟨x1, x2⟩ := List.mem_filter.mp hx
    obtain ⟨y1, y2⟩ := List.mem_filter.mp hy
    refine List.mem_filter.mpr ⟨(A.m _).mpr (Nat.and_lt_two_pow _ (A.f.lt y y1)), List.all_eq_true.mpr fun p hp => ?_⟩
    have h1 := List.all_eq_true.mp x2 p hp
    have h2 := List.all_eq_true.mp y2 p hp
    by_cases hq : p.1 &&& (x &&& y) = p.1
    · have q := le_bits.mp hq
      have q1 : p.1 &&& x = p.1 := le_bits.mpr fun i hi => by
        have := q i hi
        rw [Nat.testBit_and, Bool.and_eq_true] at this
        exact this.1
      have q2 : p.1 &&& y = p.1 := le_bits.mpr fun i hi => by
        have := q i hi
        rw [Nat.testBit_and, Bool.and_eq_true] at this
        exact this.2
      simp only [q1, decide_true, Bool.not_true, Bool.false_or, decide_eq_true_eq] at h1
      simp only [q2, decide_true, Bool.not_true, Bool.false_or, decide_eq_true_eq] at h2
      rw [Bool.or_eq_true]
      refine .inr (decide_eq_true (le_bits.mpr fun i hi => ?_))
      rw [Nat.testBit_and, le_bits.mp h1 i hi, le_bits.mp h2 i hi]
      rfl
    · simp [hq]
def Sk (n : Int) (s : List Int) : Prop := ∃ a b c : Int, s = [a, b, c] ∧ 0 ≤ c ∧ c ≤ n
theorem Sk.mono {n m : Int} {s : List Int} (h : Sk n s) (k : n ≤ m) : Sk m s := let ⟨a, b, c, h1, h2, h3⟩ := h; ⟨a, b, c, h1, h2, by omega⟩
theorem bits_ex (f : Nat → Bool) : ∀ n, ∃ k, k < 2 ^ n ∧ ∀ p, p < n → k.testBit p = f p
  | 0 => ⟨0, by omega, fun p hp => by omega⟩
  | n + 1 => by
    obtain ⟨k, hk, h⟩ := bits_ex f n
    have e : 2 ^ (n + 1) = 2 ^ n + 2 ^ n := by rw [Nat.pow_succ]; omega
    cases hf : f n with
    | false =>
      refine ⟨k, by omega, fun p hp => ?_⟩
      by_cases q : p = n
      · subst q
        rw [bit_hi hk (Nat.le_refl _), hf]
      · exact h p (by omega)
    | true =>
      refine ⟨2 ^ n + k, by omega, fun p hp => ?_⟩
      by_cases q : p = n
      · subst q
        rw [Nat.testBit_two_pow_add_eq, bit_hi hk (Nat.le_refl _), hf]
        rfl
      · rw [Nat.testBit_two_pow_add_gt (by omega)]
        exact h p (by omega)
theorem filt_sub : ∀ {x l : List Nat}, x.Sublist l → l.Nodup → x = l.filter fun c => decide (c ∈ x)
  | _, _, .slnil, _ => rfl
  | x, c :: l, .cons _ s, nd => by
    have hc : c ∉ x := fun h => (List.nodup_cons.mp nd).1 (s.subset h)
    rw [List.filter_cons_of_neg (by simp [hc])]
    exact filt_sub s (List.nodup_cons.mp nd).2
  | c :: x, _ :: l, .cons_cons _ s, nd => by
    have ih := filt_sub s (List.nodup_cons.mp nd).2
    rw [List.filter_cons_of_pos (by simp)]
    congr 1
    rw [ih]
    apply List.filter_congr
    intro d hd
    have hdc : d ≠ c := fun e => (List.nodup_cons.mp nd).1 (by rw [← e]; exact hd)
    rw [← ih]
    simp [hdc]
theorem sub_sel {x l : List Nat} (s : x.Sublist l) (nd : l.Nodup) : ∃ k, k < 2 ^ l.length ∧ x = sel l k := by
  obtain ⟨k, hk, h⟩ := bits_ex (fun p => decide (l.getD p 0 ∈ x)) l.length
  refine ⟨k, hk, ?_⟩
  rw [filt_sub s nd]
  unfold sel
  apply List.filter_congr
  intro c hc
  have hp := List.idxOf_lt_length_of_mem hc
  rw [h _ hp]
  have : l.getD (l.idxOf c) 0 = c := by
    rw [List.getD_eq_getElem?_getD, List.getElem?_eq_getElem hp, Option.getD_some]
    exact List.getElem_idxOf hp
  rw [this]
  try simp only [List.mem_filter, hc, true_and, decide_eq_true_eq]
def Ev {β : Type} (X : Option β) (P : β → Prop) : Prop := ∃ y, X = some y ∧ P y
theorem Ev.of {β : Type} {X : Option β} {P : β → Prop} {y : β} (e : X = some y) (h : P y) : Ev X P := ⟨y, e, h⟩
theorem Ev.mono {β : Type} {X : Option β} {P Q : β → Prop} (h : Ev X P) (k : ∀ y, P y → Q y) : Ev X Q := let ⟨y, e, p⟩ := h; ⟨y, e, k y p⟩
theorem Ev.some {β : Type} {P : β → Prop} {y : β} (h : P y) : Ev (some y) P := ⟨y, rfl, h⟩
theorem Ev.bind {α β : Type} {X : Option α} {k : α → Option β} {P : β → Prop} (h : Ev X fun y => Ev (k y) P) : Ev (X.bind k) P := by
  obtain ⟨y, e, z, e2, p⟩ := h
  exact ⟨z, by rw [e]; exact e2, p⟩
theorem Ev.map {α β : Type} {X : Option α} {f : α → β} {P : β → Prop} (h : Ev X fun y => P (f y)) : Ev (X.map f) P := by
  obtain ⟨y, e, p⟩ := h
  exact ⟨f y, by rw [e]; rfl, p⟩
theorem Ev.forL {τ Γ S ρ : Type} {step : τ → Γ → Option (Fl Γ S ρ)} {P : Fl Γ S ρ → Prop} (I : List τ → Γ → Prop) : ∀ {xs : List τ} {γ : Γ}, I xs γ → (∀ x xs γ, I (x :: xs) γ → Ev (step x γ) fun r => ∃ γ', r = .nx γ' ∧ I xs γ') → (∀ γ, I [] γ → P (.nx γ)) → Ev (forL step xs γ) P
  | [], γ, h0, _, hk => ⟨_, rfl, hk γ h0⟩
  | x :: xs, γ, h0, hs, hk => by
    obtain ⟨r, e, γ', e2, h1⟩ := hs x xs γ h0
    subst e2
    obtain ⟨y, e3, p⟩ := Ev.forL I h1 hs hk
    refine ⟨y, ?_, p⟩
    unfold Vx.forL
    rw [e, Option.bind_some]
    exact e3
theorem Ev.lcStA {τ Γ α : Type} {t : τ → Γ → Option (Bool × Γ)} {e : τ → Γ → Option (α × Γ)} (I : Nat → Γ → Prop) (Q : τ → α → Prop) {P : List α × Γ → Prop} : ∀ {xs : List τ} {n : Nat} {s : Γ}, I n s → (∀ x m s, m < n + xs.length → I m s → x ∈ xs → Ev (t x s) fun b => b.1 = true ∧ Ev (e x b.2) fun y => Q x y.1 ∧ I (m + 1) y.2) →
    (∀ ys s', PySem.Paired Q xs ys → I (n + xs.length) s' → P (ys, s')) → Ev (Vx.lcSt t e xs s) P
  | [], n, s, h, _, k => ⟨([], s), rfl, k [] s .nil h⟩
  | x :: xs, n, s, h, hs, k => by
    obtain ⟨⟨b, s1⟩, e1, hb, ⟨y, s2⟩, e2, hq, h2⟩ := hs x n s (by rw [List.length_cons]; omega) h List.mem_cons_self
    have hb : b = true := hb
    subst hb
    have en : n + 1 + xs.length = n + (x :: xs).length := by rw [List.length_cons]; omega
    have := Ev.lcStA I Q (P := fun r => P (y :: r.1, r.2)) (xs := xs) (n := n + 1) (s := s2) h2 (fun x m s hm hi hx => hs x m s (by omega) hi (List.mem_cons_of_mem _ hx)) fun ys s' h4 h5 => k (y :: ys) s' (.cons hq h4) (by rw [← en]; exact h5)
    obtain ⟨⟨ys, s3⟩, e3, p⟩ := this
    refine ⟨(y :: ys, s3), ?_, p⟩
    unfold Vx.lcSt
    rw [e1]
    simp only [Option.bind_some, if_true]
    rw [e2]
    simp only [Option.bind_some]
    rw [e3]
    rfl
theorem Ev.mlcA {Γ Γe τ α : Type} {i : Nat} [EnvR Γ] [EnvR Γe] [Rep τ] [Rep α] {p : Put i Γ τ Γe} {bk : Bk i Γ τ Γe} {g : Γ → Option (List τ × Γ)} {t : Γe → Option (Bool × Γe)} {e : Γe → Option (α × Γe)} {γ : Γ} {P : List α × Γ → Prop} (I : Nat → Γ → Prop) (Q : τ → α → Prop)
    (h : Ev (g γ) fun r => r.1.length ≤ 100000 ∧ I 0 r.2 ∧ (∀ x m s, m < r.1.length → I m s → x ∈ r.1 → Ev (t (p.put s x)) fun b => b.1 = true ∧ Ev (e (p.put (bk.back b.2) x)) fun y => Q x y.1 ∧ I (m + 1) (bk.back y.2)) ∧ ∀ ys s', PySem.Paired Q r.1 ys → I r.1.length s' → P (ys, s')) :
    Ev (Vx.mlc p bk g t e γ) P := by
  obtain ⟨⟨xs, γ1⟩, e0, hl, h0, hs, hk⟩ := h
  unfold Vx.mlc
  rw [e0]
  simp only [Option.bind_some]
  rw [if_pos hl]
  refine Ev.lcStA I Q (n := 0) h0 (fun x m s hm hi hx => ?_) (fun ys s' h2 h3 => hk ys s' h2 (by rw [Nat.zero_add] at h3; exact h3))
  rw [Nat.zero_add] at hm
  exact Ev.map ((hs x m s hm hi hx).mono fun b hb => ⟨hb.1, Ev.map hb.2⟩)
theorem rng_n (n : Nat) (h : n ≤ 1000) : rangeOf1 (n : Int) = some (Z (List.range n)) := by
  unfold rangeOf1 rng
  rw [if_pos (by omega)]
  simp [Z]
theorem paired_len' {α β : Type} {R : α → β → Prop} {xs : List α} {ys : List β} (h : PySem.Paired R xs ys) : xs.length = ys.length := Vx.paired_len h
theorem paired_all {α β : Type} {P : β → Prop} {xs : List α} {ys : List β} (h : PySem.Paired (fun _ y => P y) xs ys) : ∀ y ∈ ys, P y := by
  induction h with
  | nil =>
    intro y hy
    cases hy
  | cons r _ ih =>
    intro y hy
    rcases List.mem_cons.mp hy with e | e
    · rw [e]
      exact r
    · exact ih y e
theorem sub_signs {zs : List Str} {l : List Nat} (h : zs.Sublist (l.map fun c => S [c])) : ∃ x : List Nat, x.Sublist l ∧ zs = x.map fun c => S [c] := by
  obtain ⟨x, h1, h2⟩ := List.sublist_map_iff.mp h
  exact ⟨x, h1, h2⟩
theorem sif_no {Γ S ρ : Type} [EnvR Γ] {c : Γ → Option Bool} {f : Γ → Option (Fl Γ S ρ)} {γ : Γ} (h : c γ = some false) : sif c f (snil wid) γ = some (.nx γ) := by
  unfold sif
  rw [h]
  rfl
theorem Ev.out {β : Type} {X : Option β} {v : β} (h : Ev X fun y => y = v) : X = Option.some v := by
  obtain ⟨y, e, rfl⟩ := h
  exact e
theorem wrong_rule_S {l : List Nat} (h : Lets l) {B : List (Nat × Nat)} (b : Bok l B) : m_wrong_rule (S l, bk l B, ()) = some none := by
  show runF _ _ = _
  simp only [runF, runU, sseq, Fl.bnd, sret, sset, sif, sex, snever, sfor, snewD, sdput, fkeys, dz, ds, pdz, pds, f1, f2, fv, fc, fif, fand, foor, fnot, fcons, fnil, fch, lcons, lnil, flc, gz, gs, pz, ps, ic, ia, i0, snil, wid, wn, wk, wa, Option.bind_some, Option.map_some, Option.map_map, Function.comp_def, fyes, Option.bind_assoc]
  have hb := b.n
  refine forL_then (fun xs γ => ∃ (p r : List (T2 Str Str)), p ++ r = (bk l B).l ∧ xs = enumF p.length r ∧ γ = (S l, bk l B, (⟨⟩ : Any), (⟨⟩ : Any), ())) ⟨[], (bk l B).l, rfl, rfl, rfl⟩ ?_ ?_
  · rintro x xs γ ⟨p, r, h1, h2, rfl⟩
    cases r with
    | nil => cases h2
    | cons q r =>
      cases h2
      refine ⟨_, ?_, p ++ [q], r, by simpa using h1, by simp, rfl⟩
      have hq : q ∈ (bk l B).l := by rw [← h1]; simp
      obtain ⟨t, ht, rfl⟩ := List.mem_map.mp hq
      have hl : p.length < 200 := by
        have := congrArg List.length h1
        rw [List.length_append, List.length_cons] at this
        simp only [bk, List.length_map] at this
        omega
      simp only [iGe, is_rule_S h, Option.bind_some, Option.map_some]
      rw [decide_eq_false (by omega)]
      rfl
  · rintro γ' ⟨p, r, h1, h2, rfl⟩
    rfl
theorem chk_book_S {l : List Nat} (h : Lets l) {B : List (Nat × Nat)} (b : Bok l B) : m_check_book (S l, bk l B, ()) = some () := by
  show runU _ _ = _
  simp only [runF, runU, sseq, Fl.bnd, sret, sset, sif, sex, snever, sfor, snewD, sdput, fkeys, dz, ds, pdz, pds, f1, f2, fv, fc, fif, fand, foor, fnot, fcons, fnil, fch, lcons, lnil, flc, gz, gs, pz, ps, ic, ia, i0, snil, wid, wn, wk, wa, Option.bind_some, Option.map_some, Option.map_map, Function.comp_def, fyes, Option.bind_assoc]
  simp only [Bool.not_true, Bool.false_eq_true, if_false, Option.bind_some, wrong_rule_S h b]
  rfl
theorem rng_nat (n : Nat) : rng 0 (n : Int) = Z (List.range n) := by
  unfold rng
  simp [Z]
theorem kp_cons (p : Nat × Nat) (B : List (Nat × Nat)) (k : Nat) : kp (p :: B) k = ((!decide (p.1 &&& k = p.1) || decide (p.2 &&& k = p.2)) && kp B k) := List.all_cons
theorem by_rules_S {l E : List Nat} (h : Lets l) (A : All l E) {B : List (Nat × Nat)} (b : Bok l B) : m_by_rules (S l, bk l B, ()) = some (clo l (E.filter (kp B))) := by
  have N7 := p7 h
  show runF _ _ = _
  simp only [runF, runU, sseq, Fl.bnd, sret, sset, sif, sex, snever, sfor, snewD, sdput, fkeys, dz, ds, pdz, pds, f1, f2, fv, fc, fif, fand, foor, fnot, fcons, fnil, fch, lcons, lnil, flc, gz, gs, pz, ps, ic, ia, i0, snil, wid, wn, wk, wa, Option.bind_some, Option.map_some, Option.map_map, Function.comp_def, fyes, Option.bind_assoc]
  simp only [chk_things_S l h.w h.n h.p, chk_book_S h b, number_by_lot_S h, lots_S h, lenL, List.length_map, List.length_range, lrng, Option.bind_some, Option.map_some]
  have N0 : (0 : Int) ≤ ((2 ^ l.length : Nat) : Int) := Int.natCast_nonneg _
  rw [if_pos (by omega), rng_nat]
  simp only [Option.bind_some, Option.map_some, Option.bind_assoc]
  refine forL_then (fun xs γ => ∃ (r : List (Nat × Nat)) (K : List Nat), xs = r.map (fun p => rul l p.1 p.2) ∧ (∀ p ∈ r, p ∈ B) ∧ γ = (S l, bk l B, (⟨numD l⟩ : Dct Int), Z K, (⟨⟩ : Any), (⟨⟩ : Any), (⟨⟩ : Any), (⟨⟩ : Any), (⟨⟩ : Any), ()) ∧ K.filter (kp r) = (List.range (2 ^ l.length)).filter (kp B) ∧ K.Sublist (List.range (2 ^ l.length))) ⟨B, List.range (2 ^ l.length), rfl, fun _ h => h, rfl, rfl, List.Sublist.refl _⟩ ?_ ?_
  · rintro x xs γ ⟨r, K, h1, h2, rfl, h3, h4⟩
    cases r with
    | nil => cases h1
    | cons p r =>
      cases h1
      obtain ⟨p1, p2⟩ := b.lt p (h2 p List.mem_cons_self)
      have lK := h4.length_le
      rw [List.length_range] at lK
      refine ⟨_, ?_, r, K.filter (fun k => !decide (p.1 &&& k = p.1) || decide (p.2 &&& k = p.2)), rfl, fun q hq => h2 q (List.mem_cons_of_mem _ hq), rfl, ?_, List.filter_sublist.trans h4⟩
      · have d1 : dget (⟨numD l⟩ : Dct Int) (S (sel l p.1)) = some (p.1 : Int) := valD h p1
        have d2 : dget (⟨numD l⟩ : Dct Int) (S (sel l p.2)) = some (p.2 : Int) := valD h p2
        simp only [sunp, f1, f2, fv, fcons, fnil, rul, d1, d2, pairT, Option.bind_some, Option.map_some]
        rw [if_pos (show (Z K).length ≤ 100000 by simp [Z]; omega)]
        rw [lcGo_Z (P := fun k => !decide (p.1 &&& k = p.1) || decide (p.2 &&& k = p.2)) (E := fun k => (k : Int)) K ?_ (fun _ _ _ => rfl)]
        · rfl
        · intro k _
          simp only [iAnd, band, Option.bind_some, sNe, sEq]
          have e1 : decide (((k &&& p.1 : Nat) : Int) = (p.1 : Int)) = decide (p.1 &&& k = p.1) := by
            refine decide_eq_decide.mpr ?_
            rw [Nat.and_comm]
            omega
          have e2 : decide (((k &&& p.2 : Nat) : Int) = (p.2 : Int)) = decide (p.2 &&& k = p.2) := by
            refine decide_eq_decide.mpr ?_
            rw [Nat.and_comm]
            omega
          rw [e1, e2]
          cases decide (p.1 &&& k = p.1) <;> simp
      · rw [← h3, List.filter_filter]
        apply List.filter_congr
        intro k _
        rw [kp_cons, Bool.and_comm]
  · rintro γ' ⟨r, K, h1, h2, rfl, h3, h4⟩
    have : r = [] := by
      cases r with
      | nil => rfl
      | cons => cases h1
    subst this
    have hK : K = (List.range (2 ^ l.length)).filter (kp B) := by
      rw [← h3]
      exact (List.filter_eq_self.mpr fun k _ => rfl).symm
    have lK := h4.length_le
    rw [List.length_range] at lK
    have gK : Good (2 ^ l.length) K := ⟨List.nodup_range.sublist h4, fun k hk => List.mem_range.mp (h4.subset hk)⟩
    have sy := kept_sys h A b
    have es : srt (T l K) = T l (E.filter (kp B)) := by
      rw [T_ext h gK (fam_good sy.toFam) (fun k => by rw [hK, List.mem_filter, List.mem_filter, List.mem_range, A.m]), fam_srt sy.toFam]
    simp only [Option.bind_some]
    rw [family_of_S h K gK.lt (by omega), Option.bind_some, es, make_S h sy]
    rfl
def fb (k : Nat) : List (Nat × Nat) → Nat → Option Nat
  | [], _ => none
  | p :: B, n => if (!decide (p.1 &&& k = p.1) || decide (p.2 &&& k = p.2)) = true then fb k B (n + 1) else some n
theorem fb_none {k : Nat} : ∀ {B : List (Nat × Nat)} {n : Nat}, fb k B n = none ↔ kp B k = true
  | [], n => by simp [fb, kp]
  | p :: B, n => by
    rw [kp_cons]
    unfold fb
    split
    · rename_i h
      rw [fb_none, h]
      simp
    · rename_i h
      simp [h]
theorem Ev.forLr {τ Γ S ρ : Type} {step : τ → Γ → Option (Fl Γ S ρ)} {P : Fl Γ S ρ → Prop} (I : List τ → Γ → Prop) : ∀ {xs : List τ} {γ : Γ}, I xs γ → (∀ x xs γ, I (x :: xs) γ → Ev (step x γ) fun r => (∃ γ', r = .nx γ' ∧ I xs γ') ∨ ∃ v s, r = .rt v s ∧ P (.rt v s)) → (∀ γ, I [] γ → P (.nx γ)) → Ev (Vx.forL step xs γ) P
  | [], γ, h0, _, hk => ⟨_, rfl, hk γ h0⟩
  | x :: xs, γ, h0, hs, hk => by
    obtain ⟨r, e, h⟩ := hs x xs γ h0
    rcases h with ⟨γ', e2, h1⟩ | ⟨v, s, e2, h1⟩
    · subst e2
      obtain ⟨y, e3, p⟩ := Ev.forLr I h1 hs hk
      refine ⟨y, ?_, p⟩
      unfold Vx.forL
      rw [e, Option.bind_some]
      exact e3
    · subst e2
      refine ⟨_, ?_, h1⟩
      unfold Vx.forL
      rw [e, Option.bind_some]
      rfl
theorem T_inj {l : List Nat} (h : Lets l) : ∀ {F G : List Nat}, (∀ k ∈ F, k < 2 ^ l.length) → (∀ k ∈ G, k < 2 ^ l.length) → T l F = T l G → F = G
  | [], [], _, _, _ => rfl
  | [], _ :: _, _, _, e => by cases e
  | _ :: _, [], _, _, e => by cases e
  | a :: F, b :: G, hF, hG, e => by
    unfold T at e
    rw [List.map_cons, List.map_cons] at e
    injection e with e1 e2
    rw [sel_inj h.nd (hF a List.mem_cons_self) (hG b List.mem_cons_self) (S_inj.mp e1), T_inj h (fun k hk => hF k (List.mem_cons_of_mem _ hk)) (fun k hk => hG k (List.mem_cons_of_mem _ hk)) e2]
theorem T_eq {l : List Nat} (h : Lets l) {i j : Nat} (hi : i < 2 ^ l.length) (hj : j < 2 ^ l.length) : decide (S (sel l i) = S (sel l j)) = decide (i = j) :=
  decide_eq_decide.mpr ⟨fun e => sel_inj h.nd hi hj (S_inj.mp e), fun e => by rw [e]⟩
def full (l : List Nat) : Nat := 2 ^ l.length - 1
theorem full_lt (l : List Nat) : full l < 2 ^ l.length := by
  have : 0 < 2 ^ l.length := Nat.two_pow_pos _
  unfold full
  omega
def un (l : List Nat) (c : Nat) : Nat := ((List.range (2 ^ l.length)).find? fun k => decide (sel l k = [c])).getD 0
theorem fam_sub {l F G : List Nat} (f : Fam l F) (s : G.Sublist F) : Fam l G := ⟨fun k hk => f.lt k (s.subset hk), f.asc.sublist (s.map _), Nat.le_trans s.length_le f.n⟩
theorem full_up {l : List Nat} {k : Nat} (hk : k < 2 ^ l.length) : k &&& full l = k := and_full hk
theorem fam_len {l : List Nat} (h5 : l.length ≤ 5) {F : List Nat} (g : Good (2 ^ l.length) F) : F.length ≤ 32 := Nat.le_trans g.len (Nat.pow_le_pow_right (by decide) h5)
theorem clo_eq {l C D : List Nat} (h : Lets l) (hC : ∀ k ∈ C, k < 2 ^ l.length) (hD : ∀ k ∈ D, k < 2 ^ l.length) : decide ((⟨T l C⟩ : Tup Str) = ⟨T l D⟩) = decide (C = D) := decide_eq_decide.mpr ⟨fun e => T_inj h hC hD (congrArg Tup.l e), fun e => by rw [e]⟩
theorem eq_S {l C D : List Nat} (h : Lets l) (hC : ∀ k ∈ C, k < 2 ^ l.length) (hD : ∀ k ∈ D, k < 2 ^ l.length) : m_Closer___eq__ (clo l C, clo l D, ()) = some (decide (C = D)) := by
  show runF _ _ = _
  simp only [runF, runU, sseq, Fl.bnd, sret, sset, sif, sex, snever, sfor, snewD, sdput, fkeys, dz, ds, pdz, pds, f1, f2, fv, fc, fif, fand, foor, fnot, fcons, fnil, fch, lcons, lnil, flc, gz, gs, pz, ps, ic, ia, i0, snil, wid, wn, wk, wa, Option.bind_some, Option.map_some, Option.map_map, Function.comp_def, fyes, Option.bind_assoc]
  have e1 : sEq (clo l C).things (clo l D).things = some true := by
    show sEq (S l) (S l) = _
    unfold sEq
    rw [decide_eq_true rfl]
  have e2 : dEq (clo l C).closed (clo l D).closed = some (decide (C = D)) := congrArg some (clo_eq h hC hD)
  simp only [if_true, e1, e2, Option.bind_some, Option.map_some]
def gLen {α : Type} (n : Nat) (x : Option α) : Option α := if n < 100000 then x else none
theorem gLen_ok {α : Type} {n : Nat} {x : Option α} (h : n < 100000) : gLen n x = x := if_pos h
theorem sapp_eq {i : Nat} {Γ Γd S ρ α : Type} [EnvR Γ] [Rep α] [EnvR Γd] (o : Own i Γ α Γd) (f : Γ → Option (α × Γ)) (γ : Γ) : sapp (S := S) (ρ := ρ) o f γ = (f γ).bind fun p => gLen (o.get p.2).length (some (.nx (o.set p.2 (o.get p.2 ++ [p.1])))) := rfl
def cd (l x : List Nat) : Nat := ((List.range (2 ^ l.length)).find? fun k => decide (sel l k = x)).getD 0
theorem sort_set {l : List Nat} (h : Lets l) {F : List Nat} (hF : ∀ k ∈ F, k < 2 ^ l.length) : ∃ A, srt (ded [] (T l F)) = T l A ∧ Fam l A ∧ ∀ k, k ∈ A ↔ k ∈ F := by
  let F2 := (List.range (2 ^ l.length)).filter fun k => decide (k ∈ F)
  have m2 : ∀ k, k ∈ F2 ↔ k ∈ F := fun k => by
    simp only [F2, List.mem_filter, List.mem_range, decide_eq_true_eq]
    exact ⟨fun h => h.2, fun h => ⟨hF k h, h⟩⟩
  have g : Good (2 ^ l.length) F2 := ⟨List.nodup_range.filter _, fun k hk => hF k ((m2 k).mp hk)⟩
  obtain ⟨A, e, f, _, m⟩ := T_srt h g
  refine ⟨A, ?_, f, fun k => (m k).trans (m2 k)⟩
  rw [← e]
  refine srt_eq ?_
  refine (List.perm_ext_iff_of_nodup (ded_nd _ _ List.nodup_nil) ?_).mpr fun s => ?_
  · exact nodup_map g.nd fun a ha b hb e => sel_inj h.nd (g.lt a ha) (g.lt b hb) (S_inj.mp e)
  · rw [mem_T, mem_ded, mem_T]
    constructor
    · rintro (q | ⟨k, hk, rfl⟩)
      · cases q
      · exact ⟨k, (m2 k).mpr hk, rfl⟩
    · rintro ⟨k, hk, rfl⟩
      exact .inr ⟨k, (m2 k).mp hk, rfl⟩
theorem lt_of_not {x y : Str} (h : ¬ y.cps.toList < x.cps.toList) (n : ¬ x = y) : x.cps.toList < y.cps.toList := by
  by_cases q : x.cps.toList < y.cps.toList
  · exact q
  · exact absurd (leS_anti _ _ (decide_eq_true (List.not_lt.mp h)) (decide_eq_true (List.not_lt.mp q))) n
theorem lt_irr (x : Str) : ¬ x.cps.toList < x.cps.toList := List.lt_irrefl _
def ltP (a b : T2 Str Str) : Prop := a.a.cps.toList < b.a.cps.toList ∨ (a.a = b.a ∧ a.b.cps.toList < b.b.cps.toList)
theorem dat_pair (a : T2 Str Str) : Dat.d a = PyData.tuple [.str a.a, .str a.b] := rfl
theorem le_pair (a b : T2 Str Str) : PySem.W.dataLe false (Dat.d : T2 Str Str → PyData) a b = true ↔ (a = b ∨ ltP a b) := by
  rw [PySem.W.dataLe_eq]
  show (!PySem.W.dataLt (Dat.d b) (Dat.d a)) = true ↔ _
  rw [dat_pair, dat_pair, PySem.W.dataLt_pair (by simp [PySem.W.alike]) (by simp [PySem.W.alike]), PySem.W.dataLt_str, PySem.W.dataLt_str]
  simp only [PyData.eqv, beq_iff_eq]
  obtain ⟨a1, a2⟩ := a
  obtain ⟨b1, b2⟩ := b
  simp only [ltP, T2.mk.injEq]
  by_cases h1 : b1 = a1
  · subst h1
    simp only [if_true]
    by_cases h2 : b2 = a2
    · subst h2
      simp
    · simp only [h2, if_false, Bool.not_eq_true', decide_eq_false_iff_not]
      constructor
      · intro q
        exact .inr (.inr ⟨by first | rfl | trivial, lt_of_not q (fun z => h2 z.symm)⟩)
      · rintro (⟨_, rfl⟩ | q | ⟨_, q⟩)
        · exact absurd rfl h2
        · exact absurd q (lt_irr _)
        · exact fun z => List.lt_irrefl _ (List.lt_trans q z)
  · have h1' : ¬ a1 = b1 := fun z => h1 z.symm
    simp only [h1, if_false, Bool.not_eq_true', decide_eq_false_iff_not]
    constructor
    · intro q
      exact .inr (.inl (lt_of_not q h1'))
    · rintro (⟨q, _⟩ | q | ⟨q, _⟩)
      · exact absurd q h1'
      · exact fun z => List.lt_irrefl _ (List.lt_trans q z)
      · exact absurd q h1'
theorem ltP_irr (a : T2 Str Str) : ¬ ltP a a := fun h => h.elim (lt_irr _) fun q => lt_irr _ q.2
theorem ltP_trans {a b c : T2 Str Str} (h : ltP a b) (k : ltP b c) : ltP a c := by
  rcases h with h | ⟨h, h'⟩ <;> rcases k with k | ⟨k, k'⟩
  · exact .inl (List.lt_trans h k)
  · exact .inl (by rw [← k]; exact h)
  · exact .inl (by rw [h]; exact k)
  · exact .inr ⟨h.trans k, List.lt_trans h' k'⟩
theorem ltP_tri (a b : T2 Str Str) : a = b ∨ ltP a b ∨ ltP b a := by
  by_cases h : a = b
  · exact .inl h
  · by_cases h1 : a.a = b.a
    · have h2 : ¬ a.b = b.b := fun z => h (by cases a; cases b; simp_all)
      by_cases q : a.b.cps.toList < b.b.cps.toList
      · exact .inr (.inl (.inr ⟨h1, q⟩))
      · exact .inr (.inr (.inr ⟨h1.symm, lt_of_not q (fun z => h2 z.symm)⟩))
    · by_cases q : a.a.cps.toList < b.a.cps.toList
      · exact .inr (.inl (.inl q))
      · exact .inr (.inr (.inl (lt_of_not q (fun z => h1 z.symm))))
theorem srt_pairs {xs ys : List (T2 Str Str)} (p : xs.Perm ys) (hs : ys.Pairwise ltP) : srtP xs = ys := by
  have s1 : (srtP xs).Pairwise (fun a b => PySem.W.dataLe false (Dat.d : T2 Str Str → PyData) a b = true) := by
    unfold srtP
    refine List.pairwise_mergeSort (fun a b c h1 h2 => ?_) (fun a b => ?_) xs
    · rw [le_pair] at h1 h2 ⊢
      rcases h1 with rfl | h1
      · exact h2
      · rcases h2 with rfl | h2
        · exact .inr h1
        · exact .inr (ltP_trans h1 h2)
    · rw [Bool.or_eq_true, le_pair, le_pair]
      rcases ltP_tri a b with h | h | h
      · exact .inl (.inl h)
      · exact .inl (.inr h)
      · exact .inr (.inr h)
  refine ((srtP_perm xs).trans p).eq_of_pairwise (le := fun a b => PySem.W.dataLe false (Dat.d : T2 Str Str → PyData) a b = true) (fun a b _ _ h1 h2 => ?_) s1 (hs.imp fun h => (le_pair _ _).mpr (.inr h))
  rw [le_pair] at h1 h2
  rcases h1 with h | h1
  · exact h
  · rcases h2 with h | h2
    · exact h.symm
    · exact absurd (ltP_trans h1 h2) (ltP_irr _)
def okR (C l : List Nat) (P : List Nat) (k : Nat) : Bool := P.all fun q => !decide (q &&& k = q) || decide (ar l C q &&& k = ar l C q)
def stL (l C : List Nat) : Nat → List Nat
  | 0 => []
  | n + 1 => if !decide (ar l C n = n) && okR C l (stL l C n) n then stL l C n ++ [n] else stL l C n
def sto (l C : List Nat) : List Nat := stL l C (2 ^ l.length)
theorem stL_lt (l C : List Nat) : ∀ (n k : Nat), k ∈ stL l C n → k < n
  | 0, k, h => by cases h
  | n + 1, k, h => by
    unfold stL at h
    split at h
    · rcases List.mem_append.mp h with q | q
      · have := stL_lt l C n k q
        omega
      · rw [List.mem_singleton.mp q]
        omega
    · have := stL_lt l C n k h
      omega
theorem stL_asc (l C : List Nat) : ∀ n, (stL l C n).Pairwise (· < ·)
  | 0 => .nil
  | n + 1 => by
    unfold stL
    split
    · exact List.pairwise_append.mpr ⟨stL_asc l C n, List.pairwise_singleton _ _, fun a ha b hb => by
        rw [List.mem_singleton.mp hb]
        exact stL_lt l C n a ha⟩
    · exact stL_asc l C n
theorem stL_mono (l C : List Nat) {n m : Nat} (h : n ≤ m) {k : Nat} (hk : k < n) : k ∈ stL l C m ↔ k ∈ stL l C n := by
  induction m with
  | zero => omega
  | succ m ih =>
    by_cases e : n = m + 1
    · rw [e]
    · rw [← ih (by omega)]
      conv => lhs; unfold stL
      split
      · rw [List.mem_append, List.mem_singleton]
        constructor
        · rintro (q | q)
          · exact q
          · omega
        · exact .inl
      · rfl
theorem stL_at (l C : List Nat) (n : Nat) : n ∈ stL l C (n + 1) ↔ ¬ ar l C n = n ∧ okR C l (stL l C n) n = true := by
  have e : stL l C (n + 1) = if (!decide (ar l C n = n) && okR C l (stL l C n) n) = true then stL l C n ++ [n] else stL l C n := rfl
  rw [e]
  constructor
  · intro h
    split at h
    · rename_i q
      simpa using q
    · exact absurd (stL_lt l C n n h) (Nat.lt_irrefl _)
  · rintro ⟨h1, h2⟩
    rw [if_pos (by simp [h1, h2])]
    exact List.mem_append_right _ (List.mem_singleton.mpr rfl)
theorem le_num {a b : Nat} (h : a &&& b = a) : a ≤ b := by
  rw [← h]
  exact Nat.and_le_right
theorem mem_sto {l C : List Nat} {k : Nat} : k ∈ sto l C ↔ k < 2 ^ l.length ∧ ¬ ar l C k = k ∧ ∀ q ∈ sto l C, q ≠ k → q &&& k = q → ar l C q &&& k = ar l C q := by
  constructor
  · intro h
    have hk := stL_lt l C _ k h
    have h2 := (stL_mono l C (n := k + 1) hk (Nat.lt_succ_self k)).mp h
    obtain ⟨h3, h4⟩ := (stL_at l C k).mp h2
    refine ⟨hk, h3, fun q hq hne hle => ?_⟩
    have hql : q < k := Nat.lt_of_le_of_ne (le_num hle) hne
    have hq2 := (stL_mono l C (n := k) (by omega) hql).mp hq
    have := List.all_eq_true.mp h4 q hq2
    simpa [hle] using this
  · rintro ⟨hk, h3, h4⟩
    refine (stL_mono l C (n := k + 1) hk (Nat.lt_succ_self k)).mpr ((stL_at l C k).mpr ⟨h3, List.all_eq_true.mpr fun q hq => ?_⟩)
    have hql := stL_lt l C _ q hq
    by_cases hle : q &&& k = q
    · have := h4 q ((stL_mono l C (n := k) (by omega) hql).mpr hq) (by omega) hle
      simp [this]
    · simp [hle]
theorem sto_good (l C : List Nat) : Good (2 ^ l.length) (sto l C) := ⟨(stL_asc l C _).imp fun h => Nat.ne_of_lt h, fun k hk => stL_lt l C _ k hk⟩
theorem closed_T {l C : List Nat} (h : Lets l) (s : Sys l C) {k : Nat} (hk : k < 2 ^ l.length) : m_Closer_is_closed (clo l C, S (sel l k), ()) = some (decide (ar l C k = k)) := by
  have n7 := h.n
  show runF _ _ = _
  simp only [runF, runU, runM, im, sseq, Fl.bnd, sret, sretm, sset, ssetm, sif, sifm, sex, sexm, snever, sfor, sform, sset1, sdm, spar, fown, snewD, sdput, fkeys, up, m1, m2, mcons, mdr, mif, mand, moor, mnot, Vx.oz, Vx.os, f1, f2, fv, fc, fif, fand, foor, fnot, fcons, fnil, fch, lcons, lnil, flc, gz, gs, pz, ps, ic, ia, i0, snil, wid, wn, wk, wa, Option.bind_some, Option.map_some, Option.map_map, Function.comp_def, fyes, Option.bind_assoc, snewm, snew, sapp, sunp, sreto, sfrz, mlcons, pos', poz, fz, fs, short, shortT, pairT, List.length_cons, List.length_nil, Nat.reduceAdd, Nat.reduceLeDiff, if_true]
  have e1 : dget (⟨(clo l C).around⟩ : Dct Str) (S (sel l k)) = some (S (sel l (ar l C k))) := val_arD h hk
  have e2 : m_check_lot ((clo l C).things, S (sel l k), ()) = some () := chk_lot_S l _ (sel_word h k) (sel_in l k) (show (sel l k).length ≤ 1000 by have := sel_len l k; omega)
  have e3 : sEq (S (sel l (ar l C k))) (S (sel l k)) = some (decide (ar l C k = k)) := by
    exact congrArg some (T_eq h (ar_lt s k) hk)
  simp only [e1, e2, e3, Option.bind_some, Option.map_some]
theorem first_brokenL_S {l : List Nat} (h : Lets l) {B : List (Nat × Nat)} (b : Bok l B) (k : Nat) : m_first_brokenL ((bk l B).l, S (sel l k), ()) = some ((fb k B 0).map fun (i : Nat) => (i : Int)) := by
  apply Ev.out
  show Ev (runF _ _) _
  unfold runF
  refine Ev.bind ?_
  unfold sseq
  refine Ev.bind ?_
  unfold sfor
  refine Ev.bind (Ev.of rfl ?_)
  refine Ev.forLr (fun xs γ => ∃ (n : Nat) (r : List (Nat × Nat)), xs = enumF n (r.map fun p => rul l p.1 p.2) ∧ (∀ p ∈ r, p ∈ B) ∧ fb k r n = fb k B 0 ∧ γ = ((bk l B).l, S (sel l k), (⟨⟩ : Any), (⟨⟩ : Any), ())) ⟨0, B, rfl, fun _ h => h, rfl, rfl⟩ ?_ ?_
  · rintro x xs γ ⟨n, r, h1, h2, h3, rfl⟩
    cases r with
    | nil => cases h1
    | cons p r =>
      cases h1
      obtain ⟨p1, p2⟩ := b.lt p (h2 p List.mem_cons_self)
      refine Ev.bind ?_
      rw [show fb k (p :: r) n = (if (!decide (p.1 &&& k = p.1) || decide (p.2 &&& k = p.2)) = true then fb k r (n + 1) else some n) from rfl] at h3
      cases hc : (!decide (p.1 &&& k = p.1) || decide (p.2 &&& k = p.2)) with
      | true =>
        rw [hc, if_pos rfl] at h3
        refine Ev.of (y := Fl.nx ((bk l B).l, S (sel l k), (n : Int), rul l p.1 p.2, ())) ?_ (Ev.of rfl (.inl ⟨_, rfl, n + 1, r, rfl, fun q hq => h2 q (List.mem_cons_of_mem _ hq), h3, rfl⟩))
        unfold sif
        have e : (fnot (f1 m_keeps (fcons (fv (gs gz)) (fcons (fv (gs (gs (gs gz)))) fnil)))) ((bk l B).l, S (sel l k), (n : Int), rul l p.1 p.2, ()) = some false := by
          show Option.map _ (m_keeps (S (sel l k), rul l p.1 p.2, ())) = _
          rw [keeps_S h k p1 p2, hc]
          rfl
        exact (congrArg (fun z => Option.bind z _) e).trans rfl
      | false =>
        rw [hc, if_neg (by simp)] at h3
        refine Ev.of (y := Fl.rt (some (n : Int)) ()) ?_ (Ev.of rfl (.inr ⟨_, _, rfl, Ev.of rfl (Ev.of rfl (by rw [← h3]; rfl))⟩))
        unfold sif
        have e : (fnot (f1 m_keeps (fcons (fv (gs gz)) (fcons (fv (gs (gs (gs gz)))) fnil)))) ((bk l B).l, S (sel l k), (n : Int), rul l p.1 p.2, ()) = some true := by
          show Option.map _ (m_keeps (S (sel l k), rul l p.1 p.2, ())) = _
          rw [keeps_S h k p1 p2, hc]
          rfl
        exact (congrArg (fun z => Option.bind z _) e).trans rfl
  · rintro γ ⟨n, r, h1, h2, h3, rfl⟩
    cases r with
    | cons => cases h1
    | nil => exact Ev.of rfl (Ev.of rfl (by rw [← h3]; rfl))
theorem stL_len (l C : List Nat) : ∀ m, (stL l C m).length ≤ m := fun m => by
  induction m with
  | zero => simp [stL]
  | succ m ih =>
    have e : stL l C (m + 1) = if (!decide (ar l C m = m) && okR C l (stL l C m) m) = true then stL l C m ++ [m] else stL l C m := rfl
    rw [e]
    split
    · simp; omega
    · omega
theorem stem_of_S {l C A : List Nat} (h : Lets l) (h6 : l.length ≤ 6) (s : Sys l C) (eA : srt (T l (sto l C)) = T l A) (fA : Fam l A) (mA : ∀ k, k ∈ A ↔ k ∈ sto l C) : m_stem_of (clo l C, ()) = some (bk l (A.map fun k => (k, ar l C k))) := by
  apply Ev.out
  show Ev (runF _ _) _
  unfold runF
  refine Ev.bind ?_
  simp only [runF, runU, runM, im, sseq, Fl.bnd, sret, sretm, sset, ssetm, sif, sifm, sex, sexm, snever, sfor, sform, sset1, sdm, spar, fown, snewD, sdput, fkeys, up, m1, m2, mcons, mdr, mif, mand, moor, mnot, Vx.oz, Vx.os, f1, f2, fv, fc, fif, fand, foor, fnot, fcons, fnil, fch, lcons, lnil, flc, gz, gs, pz, ps, ic, ia, i0, snil, wid, wn, wk, wa, Option.bind_some, Option.map_some, Option.map_map, Function.comp_def, fyes, Option.bind_assoc, snewm, snew, sapp_eq, sunp, sreto, sfrz, mlcons, pos', poz, fz, fs, short, shortT, pairT, List.length_cons, List.length_nil, Nat.reduceAdd, Nat.reduceLeDiff, if_true]
  have n7 := h.n
  have p7' : 2 ^ l.length ≤ 2 ^ 6 := Nat.pow_le_pow_right (by omega) h6
  simp only [things_S, lots_S h, Option.bind_some]
  refine Ev.bind ?_
  refine Ev.forL (fun xs γ => ∃ n, n ≤ 2 ^ l.length ∧ xs = ((List.range (2 ^ l.length)).drop n).map (fun k => S (sel l k)) ∧ γ = (clo l C, (⟨(bk l ((stL l C n).map fun k => (k, ar l C k))).l⟩ : OL (T2 Str Str)), (⟨⟩ : Any), ())) ⟨0, Nat.zero_le _, rfl, rfl⟩ ?_ ?_
  · rintro x xs γ ⟨n, hn, h1, rfl⟩
    by_cases hlt : n < 2 ^ l.length
    · have hd : (List.range (2 ^ l.length)).drop n = n :: (List.range (2 ^ l.length)).drop (n + 1) := by
        rw [List.drop_eq_getElem_cons (by rw [List.length_range]; exact hlt)]
        simp
      rw [hd, List.map_cons] at h1
      injection h1 with h1 h2
      subst h1
      have hB : ∀ p ∈ ((stL l C n).map fun k => (k, ar l C k)), p.1 < 2 ^ l.length ∧ p.2 < 2 ^ l.length := fun p hp => by
        obtain ⟨q, hq, rfl⟩ := List.mem_map.mp hp
        exact ⟨Nat.lt_trans (stL_lt l C n q hq) hlt, ar_lt s q⟩
      have len : ∀ m, (stL l C m).length ≤ m := fun m => by
        induction m with
        | zero => simp [stL]
        | succ m ih =>
          have e : stL l C (m + 1) = if (!decide (ar l C m = m) && okR C l (stL l C m) m) = true then stL l C m ++ [m] else stL l C m := rfl
          rw [e]
          split
          · simp; omega
          · omega
      have ln := len n
      have b : Bok l ((stL l C n).map fun k => (k, ar l C k)) := ⟨hB, by rw [List.length_map]; omega⟩
      have ef : (fb n ((stL l C n).map fun k => (k, ar l C k)) 0).isNone = okR C l (stL l C n) n := by
        rw [Bool.eq_iff_iff, Option.isNone_iff_eq_none, fb_none]
        unfold kp okR
        rw [List.all_map]
        rfl
      have et : isN ((fb n ((stL l C n).map fun k => (k, ar l C k)) 0).map fun (i : Nat) => (i : Int)) () = some (okR C l (stL l C n) n) := by
        rw [← ef]
        cases fb n ((stL l C n).map fun k => (k, ar l C k)) 0 <;> rfl
      have e4 : ∀ {β : Type} (f : Bool → Option β), ((Option.map (fun x => !x) (m_Closer_is_closed (clo l C, S (sel l n), ()))).bind fun y => (if y = true then (m_first_brokenL ((bk l ((stL l C n).map fun k => (k, ar l C k))).l, S (sel l n), ())).bind fun x => isN x () else some false).bind f) = f (!decide (ar l C n = n) && okR C l (stL l C n) n) := by
        intro β f
        rw [closed_T h s hlt, first_brokenL_S h b n]
        simp only [Option.map_some, Option.bind_some, et]
        cases decide (ar l C n = n) <;> simp
      have e : stL l C (n + 1) = if (!decide (ar l C n = n) && okR C l (stL l C n) n) = true then stL l C n ++ [n] else stL l C n := rfl
      simp only [e4]
      cases hc : (!decide (ar l C n = n) && okR C l (stL l C n) n) with
      | true =>
        have lb : ((bk l ((stL l C n).map fun k => (k, ar l C k))).l).length < 100000 := by simp [bk]; omega
        simp only [if_true, around_S h hlt, Option.bind_some, Option.map_some, gLen_ok lb]
        refine Ev.of rfl ⟨_, rfl, n + 1, hlt, h2, ?_⟩
        rw [e, hc, if_pos rfl]
        simp [bk, rul]
      | false =>
        simp only [Bool.false_eq_true, if_false, Option.bind_some]
        refine Ev.of rfl ⟨_, rfl, n + 1, hlt, h2, ?_⟩
        rw [e, hc]
        simp
    · rw [List.drop_eq_nil_of_le (by rw [List.length_range]; omega)] at h1
      cases h1
  · rintro γ ⟨n, hn, h1, rfl⟩
    have hn2 : n = 2 ^ l.length := by
      by_cases hlt : n < 2 ^ l.length
      · rw [List.drop_eq_getElem_cons (by rw [List.length_range]; exact hlt)] at h1
        cases h1
      · omega
    subst hn2
    have es : srtLP ((bk l ((stL l C (2 ^ l.length)).map fun k => (k, ar l C k))).l, ()) = some (bk l (A.map fun k => (k, ar l C k))).l := by
      unfold srtLP
      have ln : (stL l C (2 ^ l.length)).length ≤ 64 := by
        have := stL_len l C (2 ^ l.length)
        omega
      rw [if_pos (by simp [bk]; omega)]
      refine congrArg some (srt_pairs ?_ ?_)
      · simp only [bk, List.map_map]
        refine List.Perm.map _ ((List.perm_ext_iff_of_nodup (sto_good l C).nd (fam_good fA).nd).mpr fun k => ?_)
        rw [mA]
      · simp only [bk, List.map_map]
        refine List.pairwise_map.mpr ?_
        have := fA.asc
        unfold Asc T at this
        rw [List.pairwise_map] at this
        exact this.imp fun h => .inl h
    simp only [es, tupL, Option.bind_some, Option.map_some]
    exact Ev.of rfl (Ev.of rfl rfl)
structure Stp (l C A : List Nat) : Prop where
  e : srt (T l (sto l C)) = T l A
  f : Fam l A
  m : ∀ k, k ∈ A ↔ k ∈ sto l C
theorem stp_ex {l C : List Nat} (h : Lets l) : ∃ A, Stp l C A := by
  obtain ⟨A, eA, fA, gA, mA⟩ := T_srt h (sto_good l C)
  exact ⟨A, eA, fA, mA⟩
def lor (l C A : List Nat) : List (Nat × Nat) := A.map fun k => (k, ar l C k)
theorem stp_lt {l C A : List Nat} (t : Stp l C A) {k : Nat} (hk : k ∈ A) : k < 2 ^ l.length := t.f.lt k hk
theorem stp_len {l C A : List Nat} (h5 : l.length ≤ 5) (t : Stp l C A) : A.length ≤ 32 := fam_len h5 (fam_good t.f)
theorem lor_ok {l C A : List Nat} (h5 : l.length ≤ 5) (s : Sys l C) (t : Stp l C A) : Bok l (lor l C A) := ⟨fun p hp => by
  obtain ⟨k, hk, rfl⟩ := List.mem_map.mp hp
  exact ⟨stp_lt t hk, ar_lt s k⟩, by
  have := stp_len h5 t
  unfold lor
  rw [List.length_map]
  omega⟩
theorem fam_eq {l F G : List Nat} (h : Lets l) (f : Fam l F) (g : Fam l G) (m : ∀ k, k ∈ F ↔ k ∈ G) : F = G := T_inj h f.lt g.lt (by
  rw [← fam_srt f, ← fam_srt g]
  exact T_ext h (fam_good f) (fam_good g) m)
theorem own {l C A : List Nat} (t : Stp l C A) {a q : Nat} (ha : a ∈ A) (hq : q ∈ A) : (!decide (q &&& a = q) || decide (ar l C q &&& a = ar l C q)) = !decide (q = a) := by
  obtain ⟨h1, h2, h3⟩ := mem_sto.mp ((t.m a).mp ha)
  by_cases e : q = a
  · subst e
    have h4 : ¬ ar l C q &&& q = ar l C q := fun z => h2 (le_anti z (ar_up h1))
    simp [h4]
  · have := h3 q ((t.m q).mp hq) e
    by_cases hl : q &&& a = q
    · simp [hl, this hl, e]
    · simp [hl, e]
theorem kp_lor {l C A : List Nat} (k : Nat) : kp (lor l C A) k = A.all fun q => !decide (q &&& k = q) || decide (ar l C q &&& k = ar l C q) := by
  unfold kp lor
  rw [List.all_map]
  rfl
theorem kept_lor {l C A : List Nat} (s : Sys l C) (t : Stp l C A) {k : Nat} (hk : k < 2 ^ l.length) : kp (lor l C A) k = true ↔ k ∈ C := by
  rw [kp_lor, List.all_eq_true]
  constructor
  · intro h
    by_cases q : ar l C k = k
    · exact (ar_fix s hk).mp q
    · have hs : k ∈ sto l C := mem_sto.mpr ⟨hk, q, fun p hp _ hle => by
        have := h p ((t.m p).mpr hp)
        simpa [hle] using this⟩
      have := h k ((t.m k).mpr hs)
      simp at this
      exact absurd (le_anti this (ar_up hk)) q
  · intro hC q hq
    by_cases hle : q &&& k = q
    · simp [hle, ar_le hC hle]
    · simp [hle]
theorem filt_lor {l C A E : List Nat} (h : Lets l) (a : All l E) (s : Sys l C) (t : Stp l C A) : E.filter (kp (lor l C A)) = C := by
  refine fam_eq h (fam_sub a.f List.filter_sublist) s.toFam fun k => ?_
  rw [List.mem_filter, a.m]
  constructor
  · rintro ⟨h1, h2⟩
    exact (kept_lor s t h1).mp h2
  · intro hC
    exact ⟨s.lt k hC, (kept_lor s t (s.lt k hC)).mpr hC⟩
theorem stem_S {l C A : List Nat} (h : Lets l) (h5 : l.length ≤ 5) (s : Sys l C) (t : Stp l C A) : m_stem (clo l C, ()) = some (bk l (lor l C A)) := by
  show runF _ _ = _
  simp only [runF, runU, runM, im, sseq, Fl.bnd, sret, sretm, sset, ssetm, sif, sifm, sex, sexm, snever, sfor, sform, sset1, sdm, spar, fown, snewD, sdput, fkeys, up, m1, m2, mcons, mdr, mif, mand, moor, mnot, Vx.oz, Vx.os, f1, f2, fv, fc, fif, fand, foor, fnot, fcons, fnil, fch, lcons, lnil, flc, gz, gs, pz, ps, ic, ia, i0, snil, wid, wn, wk, wa, Option.bind_some, Option.map_some, Option.map_map, Function.comp_def, fyes, Option.bind_assoc, snewm, snew, sapp, sunp, sreto, sfrz, mlcons, pos', poz, fz, fs, short, shortT, pairT, List.length_cons, List.length_nil, Nat.reduceAdd, Nat.reduceLeDiff, if_true]
  simp only [chk_closer_S, Option.bind_some, Option.map_some, stem_of_S h (show l.length ≤ 6 by omega) s t.e t.f t.m]
  rfl
theorem fold_sw : (fun z n : Nat => n &&& z) = fun z m => z &&& m := by
  funext z n
  exact Nat.and_comm n z
def wl (l F : List Nat) : List Nat := F.foldl (step (· &&& ·)) [full l]
theorem wl_mem {l F : List Nat} (hF : ∀ k ∈ F, k < 2 ^ l.length) {g : Nat} (hg : g ∈ F) : g ∈ wl l F := by
  refine mem_walk F [full l] |>.mpr ⟨full l, by simp, [g], List.singleton_sublist.mpr hg, ?_⟩
  show g = g &&& full l
  exact (full_up (hF g hg)).symm
theorem wl_full (l F : List Nat) : full l ∈ wl l F := walk_mem F [full l] (by simp)
theorem wl_shut (l F : List Nat) : Shut (wl l F) := shut_walk F [full l] fun x hx y hy => by
  rw [List.mem_singleton.mp hx, List.mem_singleton.mp hy, Nat.and_self]
  simp
theorem wl_iff {l F : List Nat} (hF : ∀ k ∈ F, k < 2 ^ l.length) (x : Nat) : x ∈ wl l F ↔ ∃ G : List Nat, (∀ g ∈ G, g ∈ F) ∧ x = G.foldl (fun z m => z &&& m) (full l) := by
  constructor
  · intro h
    obtain ⟨a, ha, G, hG, e⟩ := (mem_walk F [full l]).mp h
    rw [List.mem_singleton.mp ha, fold_sw] at e
    exact ⟨G, fun g hg => hG.subset hg, e⟩
  · rintro ⟨G, hG, rfl⟩
    exact fold_mem (wl_shut l F) G (full l) (wl_full l F) fun m hm => wl_mem hF (hG m hm)
theorem wl_good {l F : List Nat} (hF : ∀ k ∈ F, k < 2 ^ l.length) : Good (2 ^ l.length) (wl l F) := walk_good (fun n o _ ho => Nat.and_lt_two_pow _ ho) F [full l] hF ⟨by simp, fun k hk => by
  rw [List.mem_singleton.mp hk]
  exact full_lt l⟩
structure Mt (l F C : List Nat) : Prop where
  lt : ∀ k ∈ F, k < 2 ^ l.length
  e : srt (T l (wl l F)) = T l C
  s : Sys l C
  m : ∀ k, k ∈ C ↔ k ∈ wl l F
theorem mt_ex {l F : List Nat} (h : Lets l) (hF : ∀ k ∈ F, k < 2 ^ l.length) : ∃ C, Mt l F C := by
  obtain ⟨C, e, f, g, m⟩ := T_srt h (wl_good hF)
  exact ⟨C, hF, e, ⟨f, (m _).mpr (wl_full l F), fun x hx y hy => (m _).mpr (wl_shut l F x ((m x).mp hx) y ((m y).mp hy))⟩, m⟩
theorem mt_eq {l F C D : List Nat} (h : Lets l) (t : Mt l F C) (s : Sys l D) (m : ∀ k, k ∈ D ↔ k ∈ wl l F) : C = D := fam_eq h t.s.toFam s.toFam fun k => (t.m k).trans (m k).symm
theorem chk_rows_S {l F : List Nat} (h : Lets l) (hF : ∀ k ∈ F, k < 2 ^ l.length) (hn : F.length ≤ 60) : m_check_rows (S l, ⟨T l F⟩, ()) = some () := by
  have : Ev (m_check_rows (S l, ⟨T l F⟩, ())) fun y => y = () := by
    show Ev (runU _ _) _
    unfold runU
    refine Ev.bind ?_
    simp only [runF, runU, runM, im, sseq, Fl.bnd, sret, sretm, sset, ssetm, sif, sifm, sex, sexm, snever, sfor, sform, sset1, sdm, spar, fown, snewD, sdput, fkeys, up, m1, m2, mcons, mdr, mif, mand, moor, mnot, Vx.oz, Vx.os, f1, f2, fv, fc, fif, fand, foor, fnot, fcons, fnil, fch, lcons, lnil, flc, gz, gs, pz, ps, ic, ia, i0, snil, wid, wn, wk, wa, Option.bind_some, Option.map_some, Option.map_map, Function.comp_def, fyes, Option.bind_assoc, snewm, snew, sapp_eq, sunp, sreto, sfrz, mlcons, pos', poz, fz, fs, short, shortT, pairT, List.length_cons, List.length_nil, Nat.reduceAdd, Nat.reduceLeDiff, if_true]
    simp only [Bool.not_true, Bool.false_eq_true, if_false, Option.bind_some]
    refine Ev.bind ?_
    refine Ev.forL (fun xs γ => ∃ (n : Nat) (r : List Nat), xs = enumF n (r.map fun k => S (sel l k)) ∧ n + r.length = F.length ∧ (∀ k ∈ r, k < 2 ^ l.length) ∧ γ = (S l, (⟨T l F⟩ : Tup Str), (⟨⟩ : Any), (⟨⟩ : Any), ())) ⟨0, F, rfl, by simp, hF, rfl⟩ ?_ ?_
    · rintro x xs γ ⟨n, r, h1, h2, h3, rfl⟩
      cases r with
      | nil => cases h1
      | cons k r =>
        cases h1
        rw [List.length_cons] at h2
        have e1 : m_is_lot (S l, S (sel l k), ()) = some true := is_lot_S l _ (sel_word h k) (sel_in l k) (by have := sel_len l k; have := h.n; omega)
        have e2 : iGe (n : Int) 60 = some false := by
          unfold iGe
          rw [decide_eq_false (by omega)]
        simp only [e1, e2, Option.bind_some, Option.map_some, Bool.not_true, Bool.false_eq_true, if_false]
        exact Ev.of rfl ⟨_, rfl, n + 1, r, rfl, by omega, fun j hj => h3 j (List.mem_cons_of_mem _ hj), rfl⟩
    · rintro γ ⟨n, r, h1, h2, h3, rfl⟩
      exact Ev.of rfl (Ev.of rfl (by first | trivial | rfl))
  obtain ⟨y, e, rfl⟩ := this
  exact e
theorem by_rows_S {l F C : List Nat} (h : Lets l) (hn : F.length ≤ 60) (t : Mt l F C) : m_by_rows (S l, ⟨T l F⟩, ()) = some (clo l C) := by
  show runF _ _ = _
  simp only [runF, runU, runM, im, sseq, Fl.bnd, sret, sretm, sset, ssetm, sif, sifm, sex, sexm, snever, sfor, sform, sset1, sdm, spar, fown, snewD, sdput, fkeys, up, m1, m2, mcons, mdr, mif, mand, moor, mnot, Vx.oz, Vx.os, f1, f2, fv, fc, fif, fand, foor, fnot, fcons, fnil, fch, lcons, lnil, flc, gz, gs, pz, ps, ic, ia, i0, snil, wid, wn, wk, wa, Option.bind_some, Option.map_some, Option.map_map, Function.comp_def, fyes, Option.bind_assoc, snewm, snew, sapp_eq, sunp, sreto, sfrz, mlcons, pos', poz, fz, fs, short, shortT, pairT, List.length_cons, List.length_nil, Nat.reduceAdd, Nat.reduceLeDiff, if_true]
  have e1 : m_check_things (S l, ()) = some () := chk_things_S l h.w h.n h.p
  have e2 : m_meets_of (S l, ⟨T l F⟩, ()) = some ⟨T l C⟩ := by rw [meets_of_S h F t.lt (by omega)]; exact congrArg (fun z => some (⟨z⟩ : Tup Str)) t.e
  simp only [e1, chk_rows_S h t.lt hn, e2, make_S h t.s, Option.bind_some, Option.map_some]
def oth (C : List Nat) (k : Nat) : List Nat := C.filter fun m => !decide (m = k)
def crn (l C : List Nat) : List Nat := C.filter fun k => !decide (ar l (oth C k) k = k)
theorem mem_oth {C : List Nat} {k m : Nat} : m ∈ oth C k ↔ m ∈ C ∧ m ≠ k := by
  unfold oth
  rw [List.mem_filter]
  simp
theorem ar_oth_le {l C : List Nat} {k m : Nat} (hm : m ∈ C) (hne : m ≠ k) (h : k &&& m = k) : ar l (oth C k) k &&& m = ar l (oth C k) k := ar_le (mem_oth.mpr ⟨hm, hne⟩) h
theorem crn_iff {l C : List Nat} (s : Sys l C) {k : Nat} : k ∈ crn l C ↔ k ∈ C ∧ ¬ ar l (oth C k) k = k := by
  unfold crn
  rw [List.mem_filter]
  simp
theorem fold_le {z : Nat} : ∀ (G : List Nat), G.foldl (fun z m => z &&& m) z &&& z = G.foldl (fun z m => z &&& m) z := fun G => le_bits.mpr fun i hi => by
  rw [fold_bit, Bool.and_eq_true] at hi
  exact hi.1
theorem fold_each {z : Nat} {G : List Nat} {g : Nat} (hg : g ∈ G) : G.foldl (fun z m => z &&& m) z &&& g = G.foldl (fun z m => z &&& m) z := le_bits.mpr fun i hi => by
  rw [fold_bit, Bool.and_eq_true] at hi
  exact List.all_eq_true.mp hi.2 g hg
theorem le_fold {l G : List Nat} {x : Nat} (hx : x < 2 ^ l.length) (h : ∀ g ∈ G, x &&& g = x) : x &&& G.foldl (fun z m => z &&& m) (full l) = x := le_bits.mpr fun i hi => by
  rw [fold_bit, Bool.and_eq_true, List.all_eq_true]
  exact ⟨le_bits.mp (full_up hx) i hi, fun g hg => le_bits.mp (h g hg) i hi⟩
theorem crn_no {l C G : List Nat} (s : Sys l C) {k : Nat} (hk : k ∈ crn l C) (hG : ∀ g ∈ G, g ∈ C ∧ g ≠ k) : ¬ k = G.foldl (fun z m => z &&& m) (full l) := by
  intro e
  obtain ⟨h1, h2⟩ := (crn_iff s).mp hk
  have hkl := s.lt k h1
  have up := ar_up (C := oth C k) hkl
  have lt : ar l (oth C k) k < 2 ^ l.length := by
    have : ar l (oth C k) k &&& full l = ar l (oth C k) k := fold_le _
    rw [← this]
    exact Nat.and_lt_two_pow _ (full_lt l)
  refine h2 (le_anti ?_ up)
  have := le_fold (l := l) (G := G) lt fun g hg => by
    obtain ⟨g1, g2⟩ := hG g hg
    exact ar_oth_le g1 g2 (by rw [e]; exact fold_each hg)
  rwa [← e] at this
theorem crn_wl {l C : List Nat} (s : Sys l C) (k : Nat) : k ∈ C ↔ k ∈ wl l (crn l C) := by
  have hK : ∀ k ∈ crn l C, k < 2 ^ l.length := fun k hk => s.lt k ((crn_iff s).mp hk).1
  constructor
  · have gen : ∀ (n k : Nat), full l - k ≤ n → k ∈ C → k ∈ wl l (crn l C) := by
      intro n
      induction n with
      | zero =>
        intro k hk hC
        have h1 := s.lt k hC
        have : k = full l := by
          have : 0 < 2 ^ l.length := Nat.two_pow_pos _
          unfold full at hk ⊢
          omega
        rw [this]
        exact wl_full _ _
      | succ n ih =>
        intro k hk hC
        by_cases q : ar l (oth C k) k = k
        · rw [← q]
          refine fold_mem (wl_shut _ _) _ (full l) (wl_full _ _) fun m hm => ?_
          obtain ⟨m1, m2⟩ := List.mem_filter.mp hm
          have m2 := of_decide_eq_true m2
          obtain ⟨m3, m4⟩ := mem_oth.mp m1
          refine ih m ?_ m3
          have : k ≤ m := by
            rw [← m2]
            exact Nat.and_le_right
          have := s.lt m m3
          unfold full at hk ⊢
          omega
        · exact wl_mem hK ((crn_iff s).mpr ⟨hC, q⟩)
    exact gen _ k (Nat.le_refl _)
  · intro h
    obtain ⟨G, hG, e⟩ := (wl_iff hK k).mp h
    rw [e]
    exact fold_mem s.shut G (full l) s.full fun m hm => ((crn_iff s).mp (hG m hm)).1
theorem crn_sub {l F C : List Nat} (t : Mt l F C) : ∀ k ∈ crn l C, k ∈ F := fun k hk => by
  have hC := ((crn_iff t.s).mp hk).1
  obtain ⟨G, hG, e⟩ := (wl_iff t.lt k).mp ((t.m k).mp hC)
  by_cases q : k ∈ F
  · exact q
  · exact absurd e (crn_no t.s hk fun g hg => ⟨(t.m g).mpr (wl_mem t.lt (hG g hg)), fun z => q (z ▸ hG g hg)⟩)
theorem sNe_nat (a b : Nat) : sNe (a : Int) (b : Int) = some (!decide (a = b)) := by
  unfold sNe
  exact congrArg some (congrArg _ (decide_eq_decide.mpr (by omega)))
theorem sEq_nat (a b : Nat) : sEq (a : Int) (b : Int) = some (decide (a = b)) := by
  unfold sEq
  exact congrArg some (decide_eq_decide.mpr (by omega))
theorem iAnd_nat (a b : Nat) : iAnd (a : Int) (b : Int) = some ((a &&& b : Nat) : Int) := congrArg some (band a b)
theorem max_Z {l C : List Nat} (s : Sys l C) : maxI (Z C, ()) = some ((full l : Nat) : Int) := by
  have hf := s.full
  have hn := s.n
  have key : ∀ (xs : List Nat) (x : Nat), (Z xs).foldl max (x : Int) = ((xs.foldl max x : Nat) : Int) := fun xs => by
    induction xs with
    | nil => intro x; rfl
    | cons y xs ih =>
      intro x
      show (Z xs).foldl max (max (x : Int) (y : Int)) = _
      rw [show max (x : Int) (y : Int) = ((max x y : Nat) : Int) by omega, ih]
      rfl
  have le : ∀ (xs : List Nat) (x : Nat), (∀ y ∈ x :: xs, y ≤ full l) → full l ∈ x :: xs → xs.foldl max x = full l := fun xs => by
    induction xs with
    | nil =>
      intro x h1 h2
      exact (List.mem_singleton.mp h2).symm
    | cons y xs ih =>
      intro x h1 h2
      show xs.foldl max (max x y) = _
      have hx := h1 x (by simp)
      have hy := h1 y (by simp)
      refine ih (max x y) (fun z hz => ?_) ?_
      · rcases List.mem_cons.mp hz with rfl | hz
        · omega
        · exact h1 z (by simp [hz])
      · rcases List.mem_cons.mp h2 with e | h2
        · rw [show max x y = full l by omega]
          simp
        · rcases List.mem_cons.mp h2 with e | h2
          · rw [show max x y = full l by omega]
            simp
          · simp [h2]
  cases C with
  | nil => cases hf
  | cons x xs =>
    unfold maxI
    show (if (Z xs).length ≤ 100000 then some ((Z xs).foldl max (x : Int)) else none) = _
    rw [List.length_cons] at hn
    rw [if_pos (by unfold Z; rw [List.length_map]; omega), key, le xs x (fun y hy => ?_) hf]
    have := s.lt y hy
    unfold full
    omega
theorem meet_above_S {l C : List Nat} (s : Sys l C) {k : Nat} (hk : k ∈ C) : m_meet_above (Z C, (k : Int), ()) = some ((ar l (oth C k) k : Nat) : Int) := by
  apply Ev.out
  show Ev (runF _ _) _
  unfold runF
  refine Ev.bind ?_
  simp only [runF, runU, runM, im, sseq, Fl.bnd, sret, sretm, sset, ssetm, sif, sifm, sex, sexm, snever, sfor, sform, sset1, sdm, spar, fown, snewD, sdput, fkeys, up, m1, m2, mcons, mdr, mif, mand, moor, mnot, Vx.oz, Vx.os, f1, f2, fv, fc, fif, fand, foor, fnot, fcons, fnil, fch, lcons, lnil, flc, gz, gs, pz, ps, ic, ia, i0, snil, wid, wn, wk, wa, Option.bind_some, Option.map_some, Option.map_map, Function.comp_def, fyes, Option.bind_assoc, snewm, snew, sapp_eq, sunp, sreto, sfrz, mlcons, pos', poz, fz, fs, short, shortT, pairT, List.length_cons, List.length_nil, Nat.reduceAdd, Nat.reduceLeDiff, if_true]
  simp only [max_Z s, Option.bind_some, Option.map_some]
  refine Ev.bind ?_
  refine Ev.forL (fun xs γ => ∃ (C1 C2 : List Nat), C = C1 ++ C2 ∧ xs = Z C2 ∧ γ = (Z C, (k : Int), ((((oth C1 k).filter fun m => decide (k &&& m = k)).foldl (fun z m => z &&& m) (full l) : Nat) : Int), (⟨⟩ : Any), ())) ⟨[], C, rfl, rfl, rfl⟩ ?_ ?_
  · rintro x xs γ ⟨C1, C2, h1, h2, rfl⟩
    cases C2 with
    | nil => cases h2
    | cons m C2 =>
      cases h2
      simp only [sNe_nat, iAnd_nat, sEq_nat, Option.bind_some, Option.map_some]
      have base : oth (C1 ++ [m]) k = oth C1 k ++ oth [m] k := by
        unfold oth
        rw [List.filter_append]
      by_cases e : m = k
      · have em : oth [m] k = [] := by
          unfold oth
          rw [List.filter_cons_of_neg (by simpa using e)]
          rfl
        simp only [e, decide_true, Bool.not_true, Bool.false_eq_true, if_false, Option.bind_some]
        refine Ev.of rfl ⟨_, rfl, C1 ++ [m], C2, by rw [h1]; simp, rfl, ?_⟩
        rw [base, em, List.append_nil]
      · have em : oth [m] k = [m] := by
          unfold oth
          rw [List.filter_cons_of_pos (by simpa using e)]
          rfl
        simp only [e, decide_false, Bool.not_false, if_true, Option.bind_some]
        by_cases c : m &&& k = k
        · have c' : k &&& m = k := by rw [Nat.and_comm]; exact c
          simp only [c, decide_true, if_true, Option.bind_some, Option.map_some]
          refine Ev.of rfl ⟨_, rfl, C1 ++ [m], C2, by rw [h1]; simp, rfl, ?_⟩
          rw [base, em, List.filter_append, List.filter_cons_of_pos (by simpa using c'), List.foldl_append]
          rfl
        · have c' : ¬ k &&& m = k := by rw [Nat.and_comm]; exact c
          simp only [c, decide_false, Bool.false_eq_true, if_false, Option.bind_some]
          refine Ev.of rfl ⟨_, rfl, C1 ++ [m], C2, by rw [h1]; simp, rfl, ?_⟩
          rw [base, em, List.filter_append, List.filter_cons_of_neg (by simpa using c'), List.filter_nil, List.append_nil]
  · rintro γ ⟨C1, C2, h1, h2, rfl⟩
    cases C2 with
    | cons => cases h2
    | nil =>
      rw [List.append_nil] at h1
      subst h1
      exact Ev.of rfl (Ev.of rfl rfl)
theorem crn_sl (l C : List Nat) : (crn l C).Sublist C := List.filter_sublist
theorem corners_S {l C : List Nat} (h : Lets l) (s : Sys l C) : m_corners (clo l C, ()) = some ⟨T l (crn l C)⟩ := by
  show runF _ _ = _
  simp only [runF, runU, runM, im, sseq, Fl.bnd, sret, sretm, sset, ssetm, sif, sifm, sex, sexm, snever, sfor, sform, sset1, sdm, spar, fown, snewD, sdput, fkeys, up, m1, m2, mcons, mdr, mif, mand, moor, mnot, Vx.oz, Vx.os, f1, f2, fv, fc, fif, fand, foor, fnot, fcons, fnil, fch, lcons, lnil, flc, gz, gs, pz, ps, ic, ia, i0, snil, wid, wn, wk, wa, Option.bind_some, Option.map_some, Option.map_map, Function.comp_def, fyes, Option.bind_assoc, snewm, snew, sapp_eq, sunp, sreto, sfrz, mlcons, pos', poz, fz, fs, short, shortT, pairT, List.length_cons, List.length_nil, Nat.reduceAdd, Nat.reduceLeDiff, if_true]
  have hn := s.n
  have e1 : lcGo (fun x => (m_meet_above (Z C, x, ())).bind fun x_1 => sNe x_1 x) (fun x => some x) (Z C) = some (Z (crn l C)) := by
    rw [lcGo_Z (P := fun k => !decide (ar l (oth C k) k = k)) (E := fun k => (k : Int)) C (fun k hk => by rw [meet_above_S s hk, Option.bind_some, sNe_nat]) fun _ _ _ => rfl]
    rfl
  have e2 : (Z C).length ≤ 100000 := by unfold Z; rw [List.length_map]; omega
  have fs := fam_sub s.toFam (crn_sl l C)
  simp only [chk_closer_S, things_S, closed_S, numbers_of_S h C s.lt hn, Option.bind_some, Option.map_some, e2, if_true, e1, family_of_S h (crn l C) fs.lt fs.n, fam_srt fs]
theorem ar_any_lt {l F : List Nat} (k : Nat) : ar l F k < 2 ^ l.length := by
  have : ar l F k &&& full l = ar l F k := fold_le _
  rw [← this]
  exact Nat.and_lt_two_pow _ (full_lt l)
theorem mt_of {l F C : List Nat} (h : Lets l) (hF : ∀ k ∈ F, k < 2 ^ l.length) (s : Sys l C) (m : ∀ k, k ∈ C ↔ k ∈ wl l F) : Mt l F C := ⟨hF, (T_ext h (wl_good hF) (fam_good s.toFam) fun k => (m k).symm).trans (fam_srt s.toFam), s, m⟩
theorem ev_nx {Γ Γ' S ρ : Type} {X : Option (Fl Γ S ρ)} {k : Γ → Option (Fl Γ' S ρ)} {P : Fl Γ' S ρ → Prop} {γ : Γ} (e : X = some (.nx γ)) (h : Ev (k γ) P) : Ev (X.bind fun x => x.bnd k) P := by
  rw [e]
  exact h
theorem cutS_to {x : List Nat} (h : x.length ≤ 1000) (k : Nat) : cutSt none (some (k : Int)) (S x) = some (S (x.take k)) := by
  unfold cutSt
  rw [len_S, if_pos (by omega)]
  unfold cutS
  rw [len_S, HT.sIx_nat, show (S x).cps.toList = x from rfl]
  simp only [HT.sIx, List.drop_zero, Nat.sub_zero]
  refine congrArg (fun z => some (S z)) ?_
  by_cases q : k ≤ x.length
  · rw [Nat.min_eq_left q]
  · rw [Nat.min_eq_right (by omega), List.take_of_length_le (Nat.le_refl _), List.take_of_length_le (by omega)]
theorem three {s : List Int} (h : s.length = 3) : ∃ a b c, s = [a, b, c] := by
  match s, h with
  | [a, b, c], _ => exact ⟨a, b, c, rfl⟩
theorem spill_S {s : List Int} (hs : s.length = 3) (size : Int) (h : 0 < size) (h2 : size < 1073741824) : ∃ r s', m__law_spill s (size, ()) = some (r, s') ∧ 0 ≤ r ∧ r < size ∧ s'.length = 3 := by
  obtain ⟨a, b, c, rfl⟩ := three hs
  have i0 : ∀ x y z : Int, lIx [x, y, z] 0 = some x := fun _ _ _ => rfl
  have i1 : ∀ x y z : Int, lIx [x, y, z] 1 = some y := fun _ _ _ => rfl
  have i2 : ∀ x y z : Int, lIx [x, y, z] 2 = some z := fun _ _ _ => rfl
  have x0 : ∀ x y z : Int, ixN [x, y, z].length 0 = some 0 := fun _ _ _ => rfl
  have x1 : ∀ x y z : Int, ixN [x, y, z].length 1 = some 1 := fun _ _ _ => rfl
  have x2 : ∀ x y z : Int, ixN [x, y, z].length 2 = some 2 := fun _ _ _ => rfl
  have u0 : ∀ x y z v : Int, [x, y, z].set 0 v = [v, y, z] := fun _ _ _ _ => rfl
  have u1 : ∀ x y z v : Int, [x, y, z].set 1 v = [x, v, z] := fun _ _ _ _ => rfl
  have u2 : ∀ x y z v : Int, [x, y, z].set 2 v = [x, y, v] := fun _ _ _ _ => rfl
  have m1' : ∀ y : Int, iMul y 56081 = some (y * 56081) := fun y => if_pos (.inr (by decide))
  have m2' : ∀ y : Int, iMul y 70019 = some (y * 70019) := fun y => if_pos (.inr (by decide))
  have m3' : ∀ y : Int, iMul y 101 = some (y * 101) := fun y => if_pos (.inr (by decide))
  have d1 : ∀ y : Int, iMod y 1999999333 = some (y % 1999999333) := fun y => if_pos (by decide)
  have d2 : ∀ y : Int, iDiv y 17011 = some (y / 17011) := fun y => if_pos (by decide)
  have d4 : ∀ y : Int, iDiv y 409 = some (y / 409) := fun y => if_pos (by decide)
  have d3 : ∀ y : Int, iMod y size = some (y % size) := fun y => if_pos h
  have hp : ∀ y : Int, 0 ≤ y % size := fun y => Int.emod_nonneg y (show size ≠ 0 by omega)
  have hl : ∀ y : Int, y % size < size := fun y => Int.emod_lt_of_pos y h
  by_cases ha : 0 < c
  · refine ⟨c % size, [a, b + 5, c / size], ?_, hp _, hl _, rfl⟩
    show runM _ _ = _
    simp only [runF, runU, runM, im, sseq, Fl.bnd, sret, sretm, sset, ssetm, sif, sifm, sex, sexm, snever, sfor, sform, sset1, sdm, spar, fown, snewD, sdput, fkeys, up, m1, m2, mcons, mdr, mif, mand, moor, mnot, Vx.oz, Vx.os, f1, f2, fv, fc, fif, fand, foor, fnot, fcons, fnil, fch, lcons, lnil, flc, gz, gs, pz, ps, ic, ia, i0, snil, wid, wn, wk, wa, Option.bind_some, Option.map_some, Option.map_map, Function.comp_def, fyes, Option.bind_assoc]
    simp only [i0, i1, i2, iAdd, x1, x2, u1, u2, iGt, ha, decide_true, if_true, h, h2, and_self, intI, Option.bind_some, Option.map_some]
    try rfl
  · refine ⟨(a * 56081 + (b + 5) * 70019 + a / 17011 * 101) % 1999999333 / 409 % size, [(a * 56081 + (b + 5) * 70019 + a / 17011 * 101) % 1999999333, b + 5, c], ?_, hp _, hl _, rfl⟩
    show runM _ _ = _
    simp only [runF, runU, runM, im, sseq, Fl.bnd, sret, sretm, sset, ssetm, sif, sifm, sex, sexm, snever, sfor, sform, sset1, sdm, spar, fown, snewD, sdput, fkeys, up, m1, m2, mcons, mdr, mif, mand, moor, mnot, Vx.oz, Vx.os, f1, f2, fv, fc, fif, fand, foor, fnot, fcons, fnil, fch, lcons, lnil, flc, gz, gs, pz, ps, ic, ia, i0, snil, wid, wn, wk, wa, Option.bind_some, Option.map_some, Option.map_map, Function.comp_def, fyes, Option.bind_assoc]
    simp only [i0, i1, i2, x0, x1, x2, u0, u1, u2, iGt, ha, decide_false, Bool.false_eq_true, if_false, Option.bind_some, Option.map_some, iAdd, m1', m2', m3', d1, d2, d3, d4, intI]
    try rfl
theorem hopper_S (zs : List Int) (k : Nat) : ∃ s, m__law_hopper (⟨zs⟩, (k : Int), ()) = some s ∧ s.length = 3 := by
  have mA : ∀ y : Int, iMul 97 y = some (97 * y) := fun y => if_pos (.inl (by decide))
  have mB : ∀ y : Int, iMul y 53077 = some (y * 53077) := fun y => if_pos (.inr (by decide))
  have mC : ∀ y : Int, iMul y 73 = some (y * 73) := fun y => if_pos (.inr (by decide))
  have mD : ∀ y : Int, iMul 2617 y = some (2617 * y) := fun y => if_pos (.inl (by decide))
  have d1 : ∀ y : Int, iMod y 1999999333 = some (y % 1999999333) := fun y => if_pos (by decide)
  have pw : iPow 10 14 = some (10 ^ 14) := if_pos (by decide)
  have own : ∃ o : Int, ((lenC (⟨zs⟩, ())).bind fun y => (iLt (↑k) y).bind fun b => if b = true then (cIx ⟨zs⟩ ↑k).bind fun y => some y else some (97 * (k : Int) + 41)) = some o := by
    simp only [lenC, Option.bind_some, iLt]
    by_cases q : k < zs.length
    · refine ⟨zs[k], ?_⟩
      rw [decide_eq_true (by omega), if_pos rfl]
      have : cIx ⟨zs⟩ (k : Int) = some zs[k] := atI_nat (List.getElem?_eq_getElem q)
      rw [this]
      rfl
    · refine ⟨97 * (k : Int) + 41, ?_⟩
      rw [decide_eq_false (by omega), if_neg (by simp)]
  obtain ⟨o, eo⟩ := own
  have step : ∀ (xs : List Int) (st : Int), ∃ st' : Int, forL (S := Unit) (ρ := List Int) (fun x (γ : Scr × Int × Int × Int × Any × Unit) =>
      some (Fl.nx (γ.fst, γ.snd.fst, γ.snd.snd.fst, (γ.snd.snd.snd.fst * 53077 + x % 1999999333) % 1999999333, (⟨⟩ : Any), γ.snd.snd.snd.snd.snd))) xs (⟨zs⟩, (k : Int), o, st, ⟨⟩, ()) = some (.nx (⟨zs⟩, (k : Int), o, st', ⟨⟩, ())) := by
    intro xs
    induction xs with
    | nil => exact fun st => ⟨st, rfl⟩
    | cons x xs ih =>
      intro st
      obtain ⟨st', e⟩ := ih ((st * 53077 + x % 1999999333) % 1999999333)
      exact ⟨st', by unfold forL; exact e⟩
  obtain ⟨st', es⟩ := step (cutA none (some 12) zs) (140053 + 2617 * (k : Int))
  refine ⟨[(st' * 73 + o % 1999999333) % 1999999333, 11, if (decide (o < 0) || decide ((10 : Int) ^ 14 ≤ o)) = true then (if o < 0 then -o else o) else 0], ?_, rfl⟩
  show runF _ _ = _
  simp only [runF, runU, runM, im, sseq, Fl.bnd, sret, sretm, sset, ssetm, sif, sifm, sex, sexm, snever, sfor, sform, sset1, sdm, spar, fown, snewD, sdput, fkeys, up, m1, m2, mcons, mdr, mif, mand, moor, mnot, Vx.oz, Vx.os, f1, f2, fv, fc, fif, fand, foor, fnot, fcons, fnil, fch, lcons, lnil, flc, gz, gs, pz, ps, ic, ia, i0, snil, wid, wn, wk, wa, Option.bind_some, Option.map_some, Option.map_map, Function.comp_def, fyes, Option.bind_assoc]
  simp only [mA, iAdd, Option.bind_some, Option.map_some, mB, mC, mD, d1, intI, cutC, eo]
  rw [es]
  simp only [Option.bind_some, Option.map_some, iLt, pw, iGe, absI]
  by_cases q1 : o < 0
  · simp only [q1, decide_true, if_true, Bool.true_or, Option.bind_some, Option.map_some]
    rfl
  · simp only [q1, decide_false, Bool.false_eq_true, if_false, Bool.false_or, Option.bind_some]
    by_cases q2 : (10 : Int) ^ 14 ≤ o
    · simp only [q2, decide_true, if_true, Option.bind_some, Option.map_some]
      rfl
    · simp only [q2, decide_false, Bool.false_eq_true, if_false, Option.bind_some, Option.map_some]
      rfl
theorem out_ofL_S {s : List Int} (hs : s.length = 3) {x : List Str} (h0 : x ≠ []) (hx : x.length ≤ 100) : Ev (m__law_out_ofL s (x, ())) fun r => r.1 ∈ x ∧ r.2.length = 3 := by
  have l0 : 0 < x.length := List.length_pos_iff.mpr h0
  obtain ⟨r, s1, e1, r0, r1, h1⟩ := spill_S hs (x.length : Int) (by omega) (by omega)
  obtain ⟨i, rfl⟩ : ∃ i : Nat, r = (i : Int) := ⟨r.toNat, by omega⟩
  have hi : i < x.length := by omega
  have el : lenL (x, ()) = some ((x.length : Nat) : Int) := rfl
  have ei : lIx x (i : Int) = some x[i] := atI_nat (List.getElem?_eq_getElem hi)
  show Ev (runM _ _) _
  unfold runM
  refine Ev.bind ?_
  unfold sseq
  refine Ev.of (y := Fl.rt x[i] s1) ?_ (Ev.of rfl ⟨List.getElem_mem hi, h1⟩)
  simp only [sretm, m2, up, f1, fcons, fv, fnil, gs, gz, im, ic, i0, mdr, Option.bind_some, Option.map_some, el, e1, ei, Fl.bnd]
  rfl
def tA : List Nat := [97, 98, 99, 100]
def tB : List Nat := [97, 99, 102, 122]
def tC : List Nat := [98, 103, 109, 113]
theorem tags_S {s : List Int} (hs : s.length = 3) : Ev (m__law_tags s (4, ())) fun r => ∃ l, r.1 = S l ∧ Lets l ∧ l.length ≤ 4 ∧ r.2.length = 3 := by
  obtain ⟨r, s1, e1, r0, r1, h1⟩ := spill_S hs 4 (by omega) (by omega)
  obtain ⟨j, rfl⟩ : ∃ j : Nat, r = (j : Int) := ⟨r.toNat, by omega⟩
  obtain ⟨⟨t, s2⟩, e2, ht, h2⟩ := out_ofL_S h1 (x := [S tA, S tB, S tC]) (by simp) (by simp)
  have ht : t ∈ [S tA, S tB, S tC] := ht
  obtain ⟨x, rfl, hx⟩ : ∃ x : List Nat, t = S x ∧ (x = tA ∨ x = tB ∨ x = tC) := by
    simp only [List.mem_cons, List.not_mem_nil, or_false] at ht
    rcases ht with rfl | rfl | rfl
    · exact ⟨_, rfl, .inl rfl⟩
    · exact ⟨_, rfl, .inr (.inl rfl)⟩
    · exact ⟨_, rfl, .inr (.inr rfl)⟩
  have hw : Word x ∧ x.length = 4 := by
    rcases hx with rfl | rfl | rfl
    · exact ⟨⟨by decide, by decide⟩, rfl⟩
    · exact ⟨⟨by decide, by decide⟩, rfl⟩
    · exact ⟨⟨by decide, by decide⟩, rfl⟩
  have ea : iAdd 1 (j : Int) = some ((1 + j : Nat) : Int) := congrArg some (by omega)
  have ec := cutS_to (x := x) (by omega) (1 + j)
  have lt : (x.take (1 + j)).length = 1 + j := by rw [List.length_take]; omega
  have sh : short [Str.ofString "abcd", Str.ofString "acfz", Str.ofString "bgmq"] = some [S tA, S tB, S tC] := rfl
  show Ev (runM _ _) _
  unfold runM
  refine Ev.bind ?_
  unfold sseq
  refine ev_nx (by simp only [ssetm, m2, mdr, up, fcons, fv, fc, fnil, gs, gz, ps, pz, im, ic, ia, i0, Option.bind_some, Option.map_some, e1, ea]; rfl) ?_
  refine Ev.of (y := Fl.rt (S (x.take (1 + j))) s2) ?_ (Ev.of rfl ⟨_, rfl, ⟨⟨hw.1.asc.sublist (List.take_sublist _ _), fun c hc => hw.1.let_ c (List.mem_of_mem_take hc)⟩, by omega, fun z => by rw [z] at lt; simp at lt; omega⟩, by omega, h2⟩)
  simp only [sretm, m2, up, f1, f2, fcons, fv, fc, fnil, lcons, lnil, gs, gz, mdr, Option.bind_some, Option.map_some, sh, e2, ec, Fl.bnd]
  rfl
theorem lcGo_sub {τ α : Type} {t : τ → Option Bool} {e : τ → Option α} : ∀ {xs : List α} {ys : List τ}, PySem.Paired (fun x y => (∃ b, t y = some b) ∧ e y = some x) xs ys → ∃ zs, lcGo t e ys = some zs ∧ zs.Sublist xs
  | _, _, .nil => ⟨[], rfl, List.Sublist.refl _⟩
  | x :: xs, y :: ys, .cons ⟨⟨b, hb⟩, he⟩ r => by
    obtain ⟨zs, e1, s1⟩ := lcGo_sub r
    cases b with
    | true =>
      refine ⟨x :: zs, ?_, s1.cons₂ x⟩
      unfold lcGo
      rw [hb, Option.bind_some, if_pos rfl, he, Option.bind_some, e1]
      rfl
    | false =>
      refine ⟨zs, ?_, s1.cons x⟩
      unfold lcGo
      rw [hb, Option.bind_some, if_neg (by simp), e1]
theorem bag_S {s : List Int} (hs : s.length = 3) {l : List Nat} (h : Lets l) : Ev (m__law_bag s (S l, ())) fun r => ∃ k, r.1 = S (sel l k) ∧ k < 2 ^ l.length ∧ r.2.length = 3 := by
  have n7 := h.n
  show Ev (runM _ _) _
  unfold runM
  refine Ev.bind ?_
  unfold sseq
  refine Ev.bind ?_
  unfold sretm
  refine Ev.map ?_
  unfold m2
  refine Ev.bind (Ev.of rfl ?_)
  refine Ev.bind ?_
  unfold flcpm
  refine Ev.bind ?_
  refine Ev.mlcA (fun i γ => ∃ g : List Int, γ = ((⟨g⟩ : OL Int), S l, (⟨⟩ : Any), (⟨⟩ : Any), ()) ∧ g.length = 3) (fun x y => ∃ b : Int, y = (⟨x, b⟩ : T2 Str Int)) ?_
  refine Ev.of (y := (l.map (fun c => S [c]), ((⟨s⟩ : OL Int), S l, (⟨⟩ : Any), (⟨⟩ : Any), ()))) (by show some (Vx.signs (S l), _) = _; rw [signs_S]; rfl) ⟨?_, ⟨s, rfl, hs⟩, ?_, ?_⟩
  · rw [List.length_map]
    omega
  · rintro z i _ hi ⟨g4, rfl, hg4⟩ hz
    refine Ev.of rfl ⟨rfl, ?_⟩
    obtain ⟨r5, s5, e5, _, _, h5⟩ := spill_S hg4 2 (by omega) (by omega)
    refine Ev.of (y := ((⟨z, r5⟩ : T2 Str Int), ((⟨s5⟩ : OL Int), S l, z, (⟨⟩ : Any), ()))) ?_ ⟨⟨r5, rfl⟩, s5, rfl, h5⟩
    simp only [m1, mcons, m2, up, mdr, fc, fcons, fnil, fv, gs, gz, Option.bind_some, Option.map_some, wid, cs, cz, bs, bz, ps, pz]
    rw [show m__law_spill g4 (2, ()) = some (r5, s5) from e5]
    rfl
  · rintro ys _ hp ⟨g6, rfl, hg6⟩
    have hp' : PySem.Paired (fun (x : Str) (y : T2 Str Int) => (∃ b, sEq y.b 1 = some b) ∧ some y.a = some x) (l.map fun c => S [c]) ys := PySem.Paired.mono (fun x y ⟨b, e⟩ => by
      subst e
      exact ⟨⟨_, rfl⟩, rfl⟩) hp
    obtain ⟨zs, ez, hsub⟩ := lcGo_sub hp'
    have hl : ys.length ≤ 100000 := by
      have := Vx.paired_len hp
      rw [List.length_map] at this
      omega
    obtain ⟨x6, hx6, rfl⟩ := sub_signs hsub
    obtain ⟨k6, lk6, ek6⟩ := sub_sel hx6 h.nd
    have l6 := sel_len l k6
    subst ek6
    refine Ev.of (y := ((sel l k6).map fun c => S [c], ((⟨g6⟩ : OL Int), S l, (⟨⟩ : Any), (⟨⟩ : Any), ()))) ?_ ?_
    · show (if ys.length ≤ 100000 then (lcGo (fun y : T2 Str Int => sEq y.b 1) (fun y : T2 Str Int => some y.a) ys).map _ else none) = _
      rw [if_pos hl, ez]
      rfl
    · refine Ev.map (Ev.of (jn_S _ (by omega)) ?_)
      exact Ev.of rfl (Ev.of rfl ⟨k6, rfl, lk6, hg6⟩)
theorem both_T {l : List Nat} (h : Lets l) (i j : Nat) : m__law_both (S (sel l i), S (sel l j), ()) = some (S (sel l (i &&& j))) := by
  have n7 := h.n
  have := sel_len l i
  rw [both_S _ _ (by omega), sel_and]
theorem mt_of' {l F C : List Nat} (h : Lets l) (hF : ∀ k ∈ F, k < 2 ^ l.length) (f : Fam l C) (m : ∀ k, k ∈ C ↔ k ∈ wl l F) : Mt l F C := by
  obtain ⟨D, t⟩ := mt_ex h hF
  have : C = D := fam_eq h f t.s.toFam fun k => by rw [m, t.m]
  rw [this]
  exact t
theorem all_B (bs : List Bool) : Vx.allB (bs, ()) = some (bs.all id) := rfl
theorem ev_no {Γ Γ' S ρ : Type} [EnvR Γ] {c : Γ → Option Bool} {f : Γ → Option (Fl Γ S ρ)} {γ : Γ} {k : Γ → Option (Fl Γ' S ρ)} {P : Fl Γ' S ρ → Prop} (h : c γ = some false) (q : Ev (k γ) P) : Ev ((sif c f (snil wid) γ).bind fun x => x.bnd k) P := by
  rw [sif_no h]
  exact q
theorem metT_S' {l F : List Nat} (h : Lets l) (hF : ∀ k ∈ F, k < 2 ^ l.length) (nF : F.length ≤ 300) : Ev (m__law_metT (S l, (⟨T l F⟩ : Tup Str), ())) fun r => ∃ C, r = ⟨T l C⟩ ∧ Mt l F C := by
  have eW : S l = S (sel l (full l)) := congrArg S (sel_full l).symm
  have p := p7 h
  show Ev (runF _ _) _
  unfold runF
  refine Ev.bind ?_
  unfold sseq
  refine ev_nx (γ := (S l, (⟨T l F⟩ : Tup Str), T l [full l], (⟨⟩ : Any), (⟨⟩ : Any), ())) ?_ ?_
  · show some (Fl.nx (S l, (⟨T l F⟩ : Tup Str), [S l], (⟨⟩ : Any), (⟨⟩ : Any), ())) = _
    rw [show T l [full l] = [S (sel l (full l))] from rfl, ← eW]
  unfold sfor
  refine Ev.bind ?_
  refine Ev.bind ?_
  refine Ev.of (y := T l F) rfl ?_
  have f0 : Fam l [full l] := ⟨fun k hk => by rw [List.mem_singleton.mp hk]; exact full_lt l, List.pairwise_singleton _ _, by simp⟩
  refine Ev.forL (fun xs γ => ∃ F1 F2 A : List Nat, F = F1 ++ F2 ∧ xs = T l F2 ∧ Fam l A ∧ (∀ k, k ∈ A ↔ k ∈ wl l F1) ∧ γ = (S l, (⟨T l F⟩ : Tup Str), T l A, (⟨⟩ : Any), (⟨⟩ : Any), ())) ⟨[], F, [full l], rfl, rfl, f0, fun k => Iff.rfl, rfl⟩ ?_ ?_
  · rintro x xs γ ⟨F1, F2, A, q1, q2, fA, mA, rfl⟩
    cases F2 with
    | nil => cases q2
    | cons j F2 =>
      cases q2
      have hj : j < 2 ^ l.length := hF j (by rw [q1]; exact List.mem_append_right _ List.mem_cons_self)
      have nA := (fam_good fA).len
      have hX : ∀ k ∈ A ++ A.map (fun a => j &&& a), k < 2 ^ l.length := fun k hk => by
        rcases List.mem_append.mp hk with z | z
        · exact fA.lt k z
        · obtain ⟨a, ha, rfl⟩ := List.mem_map.mp z
          exact Nat.and_lt_two_pow _ (fA.lt a ha)
      obtain ⟨A', eA', fA', mA'⟩ := sort_set h hX
      have lT : (T l A).length ≤ 100000 := by rw [T_len]; omega
      have elc : lcGo (fun x => some true) (fun x => m__law_both (S (sel l j), x, ())) (T l A) = some (T l (A.map fun a => j &&& a)) := by
        rw [lcGo_T h (P := fun _ => true) (E := fun a => S (sel l (j &&& a))) (fun _ _ => rfl) (fun a _ _ => both_T h j a), filt_true]
        simp [T, Function.comp_def]
      have ecat : lCat (T l A) (T l (A.map fun a => j &&& a)) = some (T l (A ++ A.map fun a => j &&& a)) := by
        unfold lCat
        rw [if_pos (by rw [T_len, T_len, List.length_map]; omega)]
        simp [T]
      have es : ss (T l (A ++ A.map fun a => j &&& a)) = some (T l A') := by
        unfold ss
        rw [if_pos (by rw [T_len, List.length_append, List.length_map]; omega), eA']
      refine ev_nx (by simp only [sset, f1, f2, flc, fyes, fcons, fv, fnil, gs, gz, ps, pz, Option.bind_some, Option.map_some, lT, if_true, elc, ecat, es]; rfl) ?_
      refine Ev.of rfl ⟨_, rfl, F1 ++ [j], F2, A', by rw [q1]; simp, rfl, fA', fun k => ?_, rfl⟩
      rw [mA', List.mem_append, List.mem_map, mA]
      unfold wl
      rw [List.foldl_append]
      show _ ↔ k ∈ step (· &&& ·) (F1.foldl (step (· &&& ·)) [full l]) j
      rw [mem_step]
      refine or_congr Iff.rfl ⟨fun ⟨a, ha, e⟩ => ⟨a, (mA a).mp ha, e.symm⟩, fun ⟨a, ha, e⟩ => ⟨a, (mA a).mpr ha, e.symm⟩⟩
  · rintro γ ⟨F1, F2, A, q1, q2, fA, mA, rfl⟩
    cases F2 with
    | cons => cases q2
    | nil =>
      rw [List.append_nil] at q1
      subst q1
      exact Ev.of rfl (Ev.of rfl ⟨A, rfl, mt_of' h hF fA mA⟩)
def dl (l : List Nat) (k c : Nat) : Nat := k &&& cm l (un l c)
def en (l C : List Nat) (k : Nat) : List Nat := (sel l k).filter fun c => !decide (c ∈ sel l (ar l C (dl l k c)))
theorem chk_lot_T {l : List Nat} (h : Lets l) (k : Nat) : m_check_lot (S l, S (sel l k), ()) = some () := chk_lot_S l (sel l k) (sel_word h k) (fun c hc => (mem_sel.mp hc).1) (by have := sel_len l k; have := h.n; omega)
end K73
namespace K73
open Vx.Rep (rep)
open Vx.EnvR (er)
open PySem PySem.Spec PyProof.Rows L2 Vx
def tb (l R : List Nat) : Tbl := ⟨S l, ⟨T l R⟩⟩
/-- the rows that have all of a lot, by their numbers -/
def ownR (R : List Nat) (k : Nat) : List Nat := (List.range R.length).filter fun i => decide (k &&& R.getD i 0 = k)
def shr (l R N : List Nat) : Nat := N.foldl (fun z i => z &&& R.getD i 0) (full l)
section
variable {l R C : List Nat}
theorem tinit_S (h : Lets l) (hR : ∀ k ∈ R, k < 2 ^ l.length) (n : R.length ≤ 60) : m_Table___init__ (S l, ⟨T l R⟩, ()) = some (tb l R) := by
  have c1 := chk_things_S l h.w h.n h.p
  have c2 := chk_rows_S h hR n
  show runT _ _ = _
  unfold runT
  simp only [sseq, sex, st1, st2, snil, Fl.bnd, f1, fcons, fnil, fv, gs, gz, ic, i0, wid, Option.bind_some, Option.map_some, c1, c2]
  rfl
theorem tthings (l R : List Nat) : m_Table_things (tb l R, ()) = some (S l) := rfl
theorem trows (l R : List Nat) : m_Table_rows (tb l R, ()) = some ⟨T l R⟩ := rfl
theorem chk_tb (l R : List Nat) : m_check_table (tb l R, ()) = some () := rfl
theorem tIx_T {F : List Nat} {i : Nat} (hi : i < F.length) : tIx (⟨T l F⟩ : Tup Str) (i : Int) = some (S (sel l (F.getD i 0))) := by
  refine atI_nat (xs := T l F) ?_
  unfold T
  rw [List.getElem?_map, List.getElem?_eq_getElem hi, List.getD_eq_getElem?_getD, List.getElem?_eq_getElem hi]
  rfl
theorem lcGo_Zl {α : Type} {t : Int → Option Bool} {e : Int → Option α} {P : Nat → Bool} {E : Nat → α} : ∀ {F : List Nat}, (∀ k ∈ F, t (k : Int) = some (P k)) → (∀ k ∈ F, P k = true → e (k : Int) = some (E k)) → lcGo t e (Z F) = some ((F.filter P).map E)
  | [], _, _ => rfl
  | c :: F, h1, h2 => by
    show lcGo t e ((c : Int) :: Z F) = _
    unfold lcGo
    rw [h1 c List.mem_cons_self, Option.bind_some, lcGo_Zl (fun d hd => h1 d (List.mem_cons_of_mem _ hd)) (fun d hd => h2 d (List.mem_cons_of_mem _ hd))]
    cases hP : P c with
    | true => simp [hP, h2 c List.mem_cons_self hP]
    | false => simp [hP]
theorem own_lt {k i : Nat} (hi : i ∈ ownR R k) : i < R.length := List.mem_range.mp (List.mem_filter.mp hi).1
theorem law_own_S (h : Lets l) (n : R.length ≤ 60) {k : Nat} (hk : k < 2 ^ l.length) : m__law_own (⟨T l R⟩, S (sel l k), ()) = some (⟨Z (ownR R k)⟩ : Tup Int) := by
  have rg := rng_n R.length (by omega)
  have ll : lenT ((⟨T l R⟩ : Tup Str), ()) = some ((R.length : Nat) : Int) := by
    show some (((T l R).length : Nat) : Int) = _
    rw [T_len]
  have lz : (Z (List.range R.length)).length ≤ 100000 := by simp [Z]; omega
  have e1 : lcGo (fun i => (tIx (⟨T l R⟩ : Tup Str) i).bind fun y => m__law_in (S (sel l k), y, ())) (fun i => some i) (Z (List.range R.length)) = some (Z (ownR R k)) := by
    rw [lcGo_Zl (P := fun i => decide (k &&& R.getD i 0 = k)) (E := fun i => (i : Int)) (fun i hi => ?_) fun _ _ _ => rfl]
    · rfl
    · rw [tIx_T (List.mem_range.mp hi), Option.bind_some, law_inside_T h hk]
  apply Ev.out
  show Ev (runF _ _) _
  generalize rangeOf1 = RG at rg ⊢
  unfold runF
  refine Ev.bind ?_
  unfold sseq
  refine Ev.of (y := Fl.rt (⟨Z (ownR R k)⟩ : Tup Int) ()) ?_ (Ev.of rfl rfl)
  simp only [sret, f1, f2, flc, fcons, fnil, fv, gs, gz, ps, pz, ic, ia, i0, Option.bind_some, Option.bind_assoc, Option.map_some, ll, rg, lz, if_true, e1, tupL, Fl.bnd]
theorem own_enum (h : Lets l) {k : Nat} (hk : k < 2 ^ l.length) : ∀ (R : List Nat) (n : Nat), lcGo (fun x : T2 Int Str => m_has_all (x.b, S (sel l k), ())) (fun x : T2 Int Str => some x.a) (enumF n (T l R)) = some (Z ((List.range' n R.length).filter fun i => decide (k &&& R.getD (i - n) 0 = k)))
  | [], n => rfl
  | r :: R, n => by
    show lcGo _ _ ((⟨(n : Int), S (sel l r)⟩ : T2 Int Str) :: enumF (n + 1) (T l R)) = _
    unfold lcGo
    rw [own_enum h hk R (n + 1)]
    have e0 : (List.range' n (R.length + 1)).filter (fun i => decide (k &&& (r :: R).getD (i - n) 0 = k)) = (if k &&& r = k then [n] else []) ++ (List.range' (n + 1) R.length).filter fun i => decide (k &&& R.getD (i - (n + 1)) 0 = k) := by
      rw [List.range'_succ, List.filter_cons]
      have e1 : (List.range' (n + 1) R.length).filter (fun i => decide (k &&& (r :: R).getD (i - n) 0 = k)) = (List.range' (n + 1) R.length).filter fun i => decide (k &&& R.getD (i - (n + 1)) 0 = k) := List.filter_congr fun i hi => by
        have := (List.mem_range'_1.mp hi).1
        obtain ⟨d, rfl⟩ : ∃ d, i = n + 1 + d := ⟨i - (n + 1), by omega⟩
        rw [show n + 1 + d - n = d + 1 by omega, show n + 1 + d - (n + 1) = d by omega]
        rfl
      rw [e1, Nat.sub_self]
      by_cases q : k &&& r = k
      · simp [q]
      · simp [q]
    show ((m_has_all (S (sel l r), S (sel l k), ())).bind _) = _
    rw [has_all_T h r hk, Option.bind_some, List.length_cons, e0]
    by_cases q : k &&& r = k
    · simp [q, Z]
    · simp [q, Z]
theorem owners_of_S (h : Lets l) (n : R.length ≤ 60) {k : Nat} (hk : k < 2 ^ l.length) : m_owners_of (tb l R, S (sel l k), ()) = some (⟨Z (ownR R k)⟩ : Tup Int) := by
  have e1 := own_enum h hk R 0
  have e2 : (List.range' 0 R.length).filter (fun i => decide (k &&& R.getD (i - 0) 0 = k)) = ownR R k := by
    unfold ownR
    rw [List.range_eq_range']
    rfl
  rw [e2] at e1
  have lz : (enumF 0 (T l R)).length ≤ 100000 := by
    have : ∀ (xs : List Str) (n : Nat), (enumF n xs).length = xs.length := by
      intro xs
      induction xs with
      | nil => exact fun _ => rfl
      | cons x xs ih => exact fun n => congrArg Nat.succ (ih (n + 1))
    rw [this, T_len]
    omega
  apply Ev.out
  show Ev (runF _ _) _
  unfold runF
  refine Ev.bind ?_
  unfold sseq
  refine Ev.of (y := Fl.rt (⟨Z (ownR R k)⟩ : Tup Int) ()) ?_ (Ev.of rfl rfl)
  simp only [sret, f1, f2, flcp, fcons, fnil, fv, gs, gz, ps, pz, ic, ia, i0, Option.bind_some, Option.map_some, trows, lz, if_true, e1, tupL, Fl.bnd]
theorem law_shared_S (h : Lets l) {N : List Nat} (hN : ∀ i ∈ N, i < R.length) : m__law_shared (S l, ⟨T l R⟩, (⟨Z N⟩ : Tup Int), ()) = some (S (sel l (shr l R N))) := by
  have sf : sel l (full l) = l := sel_full l
  apply Ev.out
  show Ev (runF _ _) _
  unfold runF
  refine Ev.bind ?_
  unfold sseq
  refine ev_nx (γ := (S l, (⟨T l R⟩ : Tup Str), (⟨Z N⟩ : Tup Int), S (sel l (full l)), (⟨⟩ : Any), ())) (by rw [sf]; rfl) ?_
  unfold sfor
  refine Ev.bind ?_
  refine Ev.bind ?_
  refine Ev.of (y := Z N) rfl ?_
  refine Ev.forL (fun xs γ => ∃ N1 N2 : List Nat, N = N1 ++ N2 ∧ xs = Z N2 ∧ γ = (S l, (⟨T l R⟩ : Tup Str), (⟨Z N⟩ : Tup Int), S (sel l (shr l R N1)), (⟨⟩ : Any), ())) ⟨[], N, rfl, rfl, rfl⟩ ?_ ?_
  · rintro x xs γ ⟨N1, N2, r1, r2, rfl⟩
    cases N2 with
    | nil => cases r2
    | cons i N2 =>
      cases r2
      have hi := hN i (by rw [r1]; exact List.mem_append_right _ List.mem_cons_self)
      have e1 : shr l R (N1 ++ [i]) = shr l R N1 &&& R.getD i 0 := by
        unfold shr
        rw [List.foldl_append]
        rfl
      have e2 := law_both_T h (shr l R N1) (R.getD i 0)
      have e3 := tIx_T (l := l) hi
      refine ev_nx (γ := (S l, (⟨T l R⟩ : Tup Str), (⟨Z N⟩ : Tup Int), S (sel l (shr l R (N1 ++ [i]))), (i : Int), ())) (by simp only [sset, f1, f2, fcons, fnil, fv, gs, gz, ps, pz, Option.bind_some, Option.map_some, e3, e2, e1]) ?_
      exact Ev.of rfl ⟨_, rfl, N1 ++ [i], N2, by rw [r1]; simp, rfl, rfl⟩
  · rintro γ ⟨N1, N2, r1, r2, rfl⟩
    cases N2 with
    | cons => cases r2
    | nil =>
      rw [List.append_nil] at r1
      subst r1
      exact Ev.of rfl (Ev.of rfl rfl)
theorem shared_by_S (h : Lets l) {N : List Nat} (hN : ∀ i ∈ N, i < R.length) : m_shared_by (tb l R, (⟨Z N⟩ : Tup Int), ()) = some (S (sel l (shr l R N))) := by
  have sf : sel l (full l) = l := sel_full l
  have n7 := h.n
  apply Ev.out
  show Ev (runF _ _) _
  unfold runF
  refine Ev.bind ?_
  unfold sseq
  refine ev_nx (γ := (tb l R, (⟨Z N⟩ : Tup Int), S (sel l (full l)), (⟨⟩ : Any), ())) (by rw [sf]; rfl) ?_
  unfold sfor
  refine Ev.bind ?_
  refine Ev.bind ?_
  refine Ev.of (y := Z N) rfl ?_
  refine Ev.forL (fun xs γ => ∃ N1 N2 : List Nat, N = N1 ++ N2 ∧ xs = Z N2 ∧ γ = (tb l R, (⟨Z N⟩ : Tup Int), S (sel l (shr l R N1)), (⟨⟩ : Any), ())) ⟨[], N, rfl, rfl, rfl⟩ ?_ ?_
  · rintro x xs γ ⟨N1, N2, r1, r2, rfl⟩
    cases N2 with
    | nil => cases r2
    | cons i N2 =>
      cases r2
      have hi := hN i (by rw [r1]; exact List.mem_append_right _ List.mem_cons_self)
      have e1 : shr l R (N1 ++ [i]) = shr l R N1 &&& R.getD i 0 := by
        unfold shr
        rw [List.foldl_append]
        rfl
      have e2 := in_both_S (sel l (shr l R N1)) (sel l (R.getD i 0)) (by have := sel_len l (shr l R N1); omega)
      rw [sel_and] at e2
      have e3 := tIx_T (l := l) hi
      refine ev_nx (γ := (tb l R, (⟨Z N⟩ : Tup Int), S (sel l (shr l R (N1 ++ [i]))), (i : Int), ())) (by simp only [sset, f1, f2, fcons, fnil, fv, gs, gz, ps, pz, Option.bind_some, Option.map_some, trows, e3, e2, e1]) ?_
      exact Ev.of rfl ⟨_, rfl, N1 ++ [i], N2, by rw [r1]; simp, rfl, rfl⟩
  · rintro γ ⟨N1, N2, r1, r2, rfl⟩
    cases N2 with
    | cons => cases r2
    | nil =>
      rw [List.append_nil] at r1
      subst r1
      exact Ev.of rfl (Ev.of rfl rfl)
/-- what the owners share -/
theorem shr_own (k : Nat) : shr l R (ownR R k) = ar l R k := by
  have e1 : (List.range R.length).map (fun i => R.getD i 0) = R := by
    refine List.ext_getElem (by rw [List.length_map, List.length_range]) fun i h1 h2 => ?_
    rw [List.getElem_map, List.getElem_range, List.getD_eq_getElem?_getD, List.getElem?_eq_getElem h2]
    rfl
  have e2 : (ownR R k).map (fun i => R.getD i 0) = R.filter fun m => decide (k &&& m = k) := by
    have := List.filter_map (f := fun i => R.getD i 0) (p := fun m => decide (k &&& m = k)) (l := List.range R.length)
    rw [e1] at this
    rw [this]
    rfl
  unfold shr ar
  rw [← e2, List.foldl_map]
  rfl
theorem rows_ar (h : Lets l) (t : Mt l R C) {k : Nat} (hk : k < 2 ^ l.length) : ar l C k = ar l R k := by
  have m1 : ar l R k ∈ C := (t.m _).mpr ((wl_iff t.lt _).mpr ⟨R.filter fun m => decide (k &&& m = k), fun g hg => (List.mem_filter.mp hg).1, rfl⟩)
  refine le_anti (ar_le m1 (ar_up hk)) ?_
  obtain ⟨G, hG, e⟩ := (wl_iff t.lt _).mp ((t.m _).mp (ar_mem t.s k))
  have gk : ∀ g ∈ G, ar l R k &&& g = ar l R k := fun g hg => by
    refine ar_le (hG g hg) (le_trans' (ar_up (C := C) hk) ?_)
    rw [e]
    exact le_bits.mpr fun i hi => by
      rw [fold_bit, Bool.and_eq_true] at hi
      exact List.all_eq_true.mp hi.2 g hg
  rw [e]
  refine le_bits.mpr fun i hi => ?_
  rw [fold_bit, Bool.and_eq_true]
  exact ⟨le_bits.mp (and_full (ar_any_lt k)) i hi, List.all_eq_true.mpr fun g hg => le_bits.mp (gk g hg) i hi⟩
theorem is_number_S {i n : Nat} (hi : i < n) : m_is_number ((i : Int), ((n : Nat) : Int) - 1, ()) = some true := by
  have c1 : iLe 0 (i : Int) = some true := congrArg some (decide_eq_true (by omega))
  have c2 : iLe (i : Int) (((n : Nat) : Int) - 1) = some true := congrArg some (decide_eq_true (by omega))
  apply Ev.out
  delta m_is_number P_is_number
  dsimp only
  unfold runF
  refine Ev.bind ?_
  unfold sseq
  refine Ev.of (y := Fl.rt true ()) ?_ (Ev.of rfl rfl)
  simp only [sret, fand, fnot, fch, f1, f2, fcons, fnil, fv, fc, gs, gz, ic, i0, Option.bind_some, Option.map_some, Bool.not_false, if_true, c1, c2, Fl.bnd]
theorem chk_numbers_S {N : List Nat} (hN : ∀ i ∈ N, i < R.length) (asc : N.Pairwise (· < ·)) : m_check_numbers (tb l R, (⟨Z N⟩ : Tup Int), ()) = some () := by
  have ll : lenT ((⟨T l R⟩ : Tup Str), ()) = some ((R.length : Nat) : Int) := by
    show some (((T l R).length : Nat) : Int) = _
    rw [T_len]
  have nm : ∀ i ∈ N, m_is_number ((i : Int), ((R.length : Nat) : Int) - 1, ()) = some true := fun i hi => is_number_S (hN i hi)
  apply Ev.out
  show Ev (runU _ _) _
  generalize m_is_number = IN at nm ⊢
  unfold runU
  refine Ev.bind ?_
  unfold sseq
  refine ev_no rfl ?_
  unfold sfor
  refine Ev.bind ?_
  refine Ev.bind ?_
  refine Ev.of (y := enumF 0 (Z N)) rfl ?_
  refine Ev.forL (fun xs γ => ∃ N1 N2 : List Nat, N = N1 ++ N2 ∧ xs = enumF N1.length (Z N2) ∧ γ = (tb l R, (⟨Z N⟩ : Tup Int), (⟨⟩ : Any), (⟨⟩ : Any), ())) ⟨[], N, rfl, rfl, rfl⟩ ?_ ?_
  · rintro x xs γ ⟨N1, N2, r1, r2, rfl⟩
    cases N2 with
    | nil => cases r2
    | cons i N2 =>
      cases r2
      have hi : i ∈ N := by rw [r1]; exact List.mem_append_right _ List.mem_cons_self
      have ec : (fand (f2 iGt (fv (gs (gs gz))) (fc 0)) (f2 iLe (fv (gs (gs (gs gz)))) (f2 tIx (fv (gs gz)) (f2 iSub (fv (gs (gs gz))) (fc 1))))) (tb l R, (⟨Z N⟩ : Tup Int), ((N1.length : Nat) : Int), (i : Int), ()) = some false := by
        simp only [fand, f2, fv, fc, gs, gz, Option.bind_some]
        unfold iGt iSub
        rw [Option.bind_some]
        by_cases z : N1.length = 0
        · rw [decide_eq_false (by omega)]
          rfl
        · rw [decide_eq_true (by omega), if_pos rfl, Option.bind_some]
          have hlt : N1.length - 1 < N1.length := by omega
          have et : tIx (⟨Z N⟩ : Tup Int) (((N1.length : Nat) : Int) - 1) = some ((N1[N1.length - 1] : Nat) : Int) := by
            have e1 : (((N1.length : Nat) : Int) - 1) = ((N1.length - 1 : Nat) : Int) := by omega
            rw [e1]
            refine atI_nat (xs := Z N) ?_
            unfold Z
            rw [List.getElem?_map, r1, List.getElem?_append_left hlt, List.getElem?_eq_getElem hlt]
            rfl
          rw [et, Option.bind_some]
          have lt : N1[N1.length - 1] < i := by
            rw [r1] at asc
            exact (List.pairwise_append.mp asc).2.2 _ (List.getElem_mem hlt) i List.mem_cons_self
          exact congrArg some (decide_eq_false (by omega))
      refine ev_no (γ := (tb l R, (⟨Z N⟩ : Tup Int), ((N1.length : Nat) : Int), (i : Int), ())) ?_ (Ev.of rfl ⟨_, rfl, N1 ++ [i], N2, by rw [r1]; simp, by rw [List.length_append, List.length_singleton]; rfl, rfl⟩)
      unfold foor
      have e1 : (fnot (f1 IN (fcons (fv (gs (gs (gs gz)))) (fcons (f2 iSub (f1 lenT (fcons (f1 (fun c => m_Table_rows (c, ())) (fv gz)) fnil)) (fc 1)) fnil)))) (tb l R, (⟨Z N⟩ : Tup Int), ((N1.length : Nat) : Int), (i : Int), ()) = some false := by
        simp only [fnot, f1, f2, fcons, fv, fc, fnil, gs, gz, Option.bind_some, Option.map_some, trows, ll, iSub, nm i hi, Bool.not_true]
      refine (congrArg (fun z => Option.bind z _) e1).trans ?_
      simp only [Option.bind_some, Bool.false_eq_true, if_false]
      exact ec
  · rintro γ ⟨N1, N2, r1, r2, rfl⟩
    exact Ev.of rfl (Ev.of rfl (by first | trivial | rfl))
theorem own_asc (k : Nat) : (ownR R k).Pairwise (· < ·) := List.Pairwise.filter _ List.pairwise_lt_range
theorem shared_S (h : Lets l) {k : Nat} : m_shared_marks (tb l R, (⟨Z (ownR R k)⟩ : Tup Int), ()) = some (S (sel l (ar l R k))) := by
  have c2 := chk_numbers_S (l := l) (fun i hi => own_lt hi) (own_asc (R := R) k)
  have sb := shared_by_S h (N := ownR R k) (R := R) fun i hi => own_lt hi
  rw [shr_own] at sb
  show runF _ _ = _
  simp only [runF, runU, runM, im, sseq, Fl.bnd, sret, sretm, sset, ssetm, sif, sifm, sex, sexm, snever, sfor, sform, sset1, sdm, spar, fown, snewD, sdput, fkeys, up, m1, m2, mcons, mdr, mif, mand, moor, mnot, Vx.oz, Vx.os, f1, f2, fv, fc, fif, fand, foor, fnot, fcons, fnil, fch, lcons, lnil, flc, gz, gs, pz, ps, ic, ia, i0, snil, wid, wn, wk, wa, Option.bind_some, Option.map_some, Option.map_map, Function.comp_def, fyes, Option.bind_assoc, snewm, snew, sapp_eq, sunp, sreto, sfrz, mlcons, pos', poz, fz, fs, short, shortT, pairT, List.length_cons, List.length_nil, Nat.reduceAdd, Nat.reduceLeDiff, if_true]
  simp only [chk_tb, c2, sb, Option.bind_some, Option.map_some]
theorem owners_S (h : Lets l) (n : R.length ≤ 60) {k : Nat} (hk : k < 2 ^ l.length) : m_owners (tb l R, S (sel l k), ()) = some (⟨Z (ownR R k)⟩ : Tup Int) := by
  have ow := owners_of_S h n hk (R := R)
  show runF _ _ = _
  simp only [runF, runU, runM, im, sseq, Fl.bnd, sret, sretm, sset, ssetm, sif, sifm, sex, sexm, snever, sfor, sform, sset1, sdm, spar, fown, snewD, sdput, fkeys, up, m1, m2, mcons, mdr, mif, mand, moor, mnot, Vx.oz, Vx.os, f1, f2, fv, fc, fif, fand, foor, fnot, fcons, fnil, fch, lcons, lnil, flc, gz, gs, pz, ps, ic, ia, i0, snil, wid, wn, wk, wa, Option.bind_some, Option.map_some, Option.map_map, Function.comp_def, fyes, Option.bind_assoc, snewm, snew, sapp_eq, sunp, sreto, sfrz, mlcons, pos', poz, fz, fs, short, shortT, pairT, List.length_cons, List.length_nil, Nat.reduceAdd, Nat.reduceLeDiff, if_true]
  simp only [chk_tb, tthings, chk_lot_T h, ow, Option.bind_some, Option.map_some]
theorem closer_of_S (h : Lets l) (n : R.length ≤ 60) (t : Mt l R C) : m_closer_of (tb l R, ()) = some (clo l C) := by
  have br := by_rows_S h n t
  show runF _ _ = _
  simp only [runF, runU, runM, im, sseq, Fl.bnd, sret, sretm, sset, ssetm, sif, sifm, sex, sexm, snever, sfor, sform, sset1, sdm, spar, fown, snewD, sdput, fkeys, up, m1, m2, mcons, mdr, mif, mand, moor, mnot, Vx.oz, Vx.os, f1, f2, fv, fc, fif, fand, foor, fnot, fcons, fnil, fch, lcons, lnil, flc, gz, gs, pz, ps, ic, ia, i0, snil, wid, wn, wk, wa, Option.bind_some, Option.map_some, Option.map_map, Function.comp_def, fyes, Option.bind_assoc, snewm, snew, sapp_eq, sunp, sreto, sfrz, mlcons, pos', poz, fz, fs, short, shortT, pairT, List.length_cons, List.length_nil, Nat.reduceAdd, Nat.reduceLeDiff, if_true]
  simp only [chk_tb, tthings, trows, br, Option.bind_some, Option.map_some]
theorem least_S (h : Lets l) (h4 : l.length ≤ 4) (s : Sys l C) : m_least_table (clo l C, ()) = some (tb l (crn l C)) := by
  have nC := (fam_good s.toFam).len
  have p : 2 ^ l.length ≤ 16 := Nat.pow_le_pow_right (by omega) h4
  have lc := (crn_sl l C).length_le
  have ti := tinit_S h (R := crn l C) (fun k hk => s.lt k ((crn_sl l C).subset hk)) (by omega)
  have co := corners_S h s
  show runF _ _ = _
  simp only [runF, runU, runM, im, sseq, Fl.bnd, sret, sretm, sset, ssetm, sif, sifm, sex, sexm, snever, sfor, sform, sset1, sdm, spar, fown, snewD, sdput, fkeys, up, m1, m2, mcons, mdr, mif, mand, moor, mnot, Vx.oz, Vx.os, f1, f2, fv, fc, fif, fand, foor, fnot, fcons, fnil, fch, lcons, lnil, flc, gz, gs, pz, ps, ic, ia, i0, snil, wid, wn, wk, wa, Option.bind_some, Option.map_some, Option.map_map, Function.comp_def, fyes, Option.bind_assoc, snewm, snew, sapp_eq, sunp, sreto, sfrz, mlcons, pos', poz, fz, fs, short, shortT, pairT, List.length_cons, List.length_nil, Nat.reduceAdd, Nat.reduceLeDiff, if_true]
  simp only [chk_closer_S, things_S, co, ti, Option.bind_some, Option.map_some]
/-- the corners are rows of a table of the closer -/
theorem crn_mt (h : Lets l) (s : Sys l C) : Mt l (crn l C) C := mt_of h (fun k hk => s.lt k ((crn_sl l C).subset hk)) s fun k => crn_wl s k
def cpt (l R : List Nat) (k : Nat) : T2 (Tup Int) Str := ⟨⟨Z (ownR R k)⟩, S (sel l k)⟩
theorem concepts_S (h : Lets l) (n : R.length ≤ 60) (t : Mt l R C) : m_concepts (tb l R, ()) = some ⟨C.map (cpt l R)⟩ := by
  have br := by_rows_S h n t
  have p := p7 h
  have nC := (fam_good t.s.toFam).len
  have lC : (T l C).length ≤ 100000 := by rw [T_len]; omega
  have e1 : lcGo (fun _ => some true) (fun x => (m_owners_of (tb l R, x, ())).bind fun y => pairT (y, x, ())) (T l C) = some (C.map (cpt l R)) := by
    rw [lcGo_T h (P := fun _ => true) (E := cpt l R) (fun _ _ => rfl) (fun k hk _ => ?_), filt_true]
    rw [owners_of_S h n (t.s.lt k hk)]
    rfl
  apply Ev.out
  show Ev (runF _ _) _
  unfold runF
  refine Ev.bind ?_
  unfold sseq
  refine ev_nx (γ := (tb l R, (⟨⟩ : Any), ())) (by simp only [sex, f1, fcons, fv, fnil, gs, gz, ic, ia, i0, Option.bind_some, Option.map_some, chk_tb]) ?_
  refine Ev.of (y := Fl.rt (⟨C.map (cpt l R)⟩ : Tup (T2 (Tup Int) Str)) ()) ?_ (Ev.of rfl rfl)
  simp only [sret, f1, flc, fyes, fcons, fnil, fv, gs, gz, ps, pz, Option.bind_some, Option.map_some, Option.bind_assoc, tthings, trows, br, closed_S, lC, if_true, e1, tupL, Fl.bnd]
end
end K73
namespace K73
open Vx.Rep (rep)
open Vx.EnvR (er)
open PySem PySem.Spec PyProof.Rows L2 Vx
section
variable {l R C : List Nat}
def due (R : List Nat) (i j : Nat) : List Nat := R.filter fun r => decide (i &&& r = i) && !decide (j &&& r = j)
theorem due_nil (h : Lets l) (t : Mt l R C) {i j : Nat} (hi : i < 2 ^ l.length) (hj : j < 2 ^ l.length) : due R i j = [] ↔ j &&& ar l C i = j := by
  rw [rows_ar h t hi]
  constructor
  · intro q
    have g : ∀ g ∈ R.filter (fun m => decide (i &&& m = i)), j &&& g = j := fun g hg => by
      obtain ⟨g1, g2⟩ := List.mem_filter.mp hg
      refine Classical.byContradiction fun w => ?_
      have : g ∈ due R i j := List.mem_filter.mpr ⟨g1, by rw [g2, Bool.true_and, decide_eq_false w]; rfl⟩
      rw [q] at this
      cases this
    refine le_bits.mpr fun b hb => ?_
    unfold ar
    rw [fold_bit, Bool.and_eq_true]
    exact ⟨le_bits.mp (and_full hj) b hb, List.all_eq_true.mpr fun m hm => le_bits.mp (g m hm) b hb⟩
  · intro q
    refine List.filter_eq_nil_iff.mpr fun r hr w => ?_
    rw [Bool.and_eq_true] at w
    have w1 := of_decide_eq_true w.1
    have w2 := le_trans' q (ar_le (l := l) hr w1)
    rw [decide_eq_true w2] at w
    exact absurd w.2 (by decide)
theorem dEq_of {Γ α : Type} [DecidableEq α] {f g : Γ → Option α} {γ : Γ} {x y : α} (ef : f γ = some x) (eg : g γ = some y) : f2 dEq f g γ = some (decide (x = y)) := by
  simp only [f2, ef, eg, Option.bind_some, dEq]
theorem dNe_of {Γ α : Type} [DecidableEq α] {f g : Γ → Option α} {γ : Γ} {x : α} (ef : f γ = some x) (eg : g γ = some x) : f2 dNe f g γ = some false := by
  simp only [f2, ef, eg, Option.bind_some, dNe, decide_true, Bool.not_true]
theorem foor_no {Γ : Type} [EnvR Γ] {f g : Γ → Option Bool} {γ : Γ} (ef : f γ = some false) (eg : g γ = some false) : foor f g γ = some false := by
  unfold foor
  rw [ef, Option.bind_some, if_neg (by decide), eg]
theorem sNe_of {Γ : Type} {f g : Γ → Option Str} {γ : Γ} {x : Str} (ef : f γ = some x) (eg : g γ = some x) : f2 sNe f g γ = some false := by
  simp only [f2, ef, eg, Option.bind_some, sNe, decide_true, Bool.not_true]
theorem T_nil {l F : List Nat} : T l F = [] ↔ F = [] := by
  unfold T
  exact List.map_eq_nil_iff
theorem dueR_S (h : Lets l) (hR : ∀ k ∈ R, k < 2 ^ l.length) {i j : Nat} (hi : i < 2 ^ l.length) (hj : j < 2 ^ l.length) {t : Str → Option Bool} (ht : ∀ r, t (S (sel l r)) = some (decide (i &&& r = i) && !decide (j &&& r = j))) : lcGo t (fun y => some y) (T l R) = some (T l (due R i j)) := by
  rw [lcGo_T h (P := fun r => decide (i &&& r = i) && !decide (j &&& r = j)) (E := fun r => S (sel l r)) (fun r _ => ht r) (fun _ _ _ => rfl)]
  rfl
theorem rule_right_S (h : Lets l) (n : R.length ≤ 60) (t : Mt l R C) {i j : Nat} (hi : i < 2 ^ l.length) (hj : j < 2 ^ l.length) : m__law_rule_right (clo l C, (⟨T l R⟩ : Tup Str), rul l i j, ()) = some true := by
  have lT : (T l R).length ≤ 100000 := by rw [T_len]; omega
  have ho := holds_S h t.s hi hj
  have br := breaker_S h t.s hi hj
  have i0' : ix0 (rul l i j) 0 = some (S (sel l i)) := rfl
  have i1' : ix1 (rul l i j) 1 = some (S (sel l j)) := rfl
  have iw : ∀ r, m__law_in (S (sel l i), S (sel l r), ()) = some (decide (i &&& r = i)) := fun r => law_inside_T h hi r
  have jw : ∀ r, m__law_in (S (sel l j), S (sel l r), ()) = some (decide (j &&& r = j)) := fun r => law_inside_T h hj r
  have up := ar_up (C := C) hi
  have inC : tIn (S (sel l (ar l C i))) (⟨T l C⟩ : Tup Str) = some true := congrArg some (decide_eq_true (List.mem_map.mpr ⟨_, ar_mem t.s i, rfl⟩))
  apply Ev.out
  show Ev (runF _ _) _
  unfold runF
  refine Ev.bind ?_
  unfold sseq
  refine ev_nx (γ := (clo l C, (⟨T l R⟩ : Tup Str), rul l i j, decide (j &&& ar l C i = j), (⟨⟩ : Any), (⟨⟩ : Any), ())) ?_ ?_
  · unfold sset
    have e1 : (f2 dEq
            (flc (ps (ps (ps (ps (ps pz))))) (f1 (fun t => some t.l) (fv (gs gz)))
              (fand
                (f1 m__law_in (fcons (f2 ix0 (fv (gs (gs gz))) (fc 0)) (fcons (fv (gs (gs (gs (gs (gs gz)))))) fnil)))
                (fnot
                  (f1 m__law_in
                    (fcons (f2 ix1 (fv (gs (gs gz))) (fc 1)) (fcons (fv (gs (gs (gs (gs (gs gz)))))) fnil)))))
              (fv (gs (gs (gs (gs (gs gz)))))))
            (f1 short lnil)) (clo l C, (⟨T l R⟩ : Tup Str), rul l i j, (⟨⟩ : Any), (⟨⟩ : Any), (⟨⟩ : Any), ()) = some (decide (j &&& ar l C i = j)) := by
      have el := dueR_S (t := fun y => (fand
                (f1 m__law_in (fcons (f2 ix0 (fv (gs (gs gz))) (fc 0)) (fcons (fv (gs (gs (gs (gs (gs gz)))))) fnil)))
                (fnot
                  (f1 m__law_in
                    (fcons (f2 ix1 (fv (gs (gs gz))) (fc 1)) (fcons (fv (gs (gs (gs (gs (gs gz)))))) fnil))))) (clo l C, (⟨T l R⟩ : Tup Str), rul l i j, (⟨⟩ : Any), (⟨⟩ : Any), y, ())) h t.lt hi hj fun r => by
        simp only [fand, fnot, f1, f2, fcons, fnil, fv, fc, gs, gz, Option.bind_some, Option.map_some, i0', i1', iw, jw]
        cases decide (i &&& r = i) <;> simp
      refine (dEq_of (x := T l (due R i j)) (y := []) (g := f1 short lnil) ?_ rfl).trans ?_
      · unfold flc
        show (if (T l R).length ≤ 100000 then _ else none) = _
        rw [if_pos lT]
        exact el
      · congr 1
        rw [Bool.eq_iff_iff, decide_eq_true_iff, decide_eq_true_iff, T_nil, due_nil h t hi hj]
    refine (congrArg (fun z => Option.map _ z) e1).trans rfl
  refine ev_nx (γ := (clo l C, (⟨T l R⟩ : Tup Str), rul l i j, decide (j &&& ar l C i = j), (if j &&& ar l C i = j then none else some (S (sel l (ar l C i)))), (⟨⟩ : Any), ())) (by simp only [sset, f1, fcons, fnil, fv, gs, gz, ps, pz, Option.bind_some, Option.map_some, br]) ?_
  by_cases q : j &&& ar l C i = j
  · rw [if_pos q, decide_eq_true q]
    rw [decide_eq_true q] at ho
    refine ev_no (by simp only [foor, f1, f2, fcons, fnil, fv, fc, gs, gz, Option.bind_some, ho]; rfl) ?_
    exact Ev.of (y := Fl.rt true ()) rfl (Ev.of rfl rfl)
  · rw [if_neg q, decide_eq_false q]
    rw [decide_eq_false q] at ho
    refine ev_no (by simp only [foor, f1, f2, fcons, fnil, fv, fc, gs, gz, Option.bind_some, ho]; rfl) ?_
    refine Ev.of (y := Fl.rt true ()) ?_ (Ev.of rfl rfl)
    have jf := jw (ar l C i)
    have it := iw (ar l C i)
    rw [decide_eq_false q] at jf
    rw [decide_eq_true up] at it
    simp only [sret, foor, fand, fnot, f1, f2, fcons, fnil, fv, fc, gs, gz, Option.bind_some, Option.map_some, closed_S, inC, i0', i1', it, jf, if_true, Bool.false_eq_true, if_false, Bool.not_false]
    rfl
end
theorem right_S {s : List Int} (hs : s.length = 3) : Ev (m__law_right s ()) fun r => r.1 = true := by
  obtain ⟨⟨_, s1⟩, e1, l, el, h, h4, k1⟩ := tags_S hs
  have el : _ = S l := el
  subst el
  have k1 : s1.length = 3 := k1
  obtain ⟨j, s2, e2, j0, j7, k2⟩ := spill_S k1 7 (by omega) (by omega)
  obtain ⟨nr, rfl⟩ : ∃ w : Nat, j = (w : Int) := ⟨j.toNat, by omega⟩
  have e2 : m__law_spill s1 (7, ()) = some ((nr : Int), s2) := e2
  have er := rng_n nr (by omega)
  have er4 : rangeOf1 4 = some (Z (List.range 4)) := rng_n 4 (by omega)
  obtain ⟨E, eE, aE⟩ := all_ex h
  have n7 := h.n
  have p := p7 h
  delta m__law_right P__law_right
  dsimp only
  generalize rangeOf1 = RG at er er4 ⊢
  unfold runM
  refine Ev.bind ?_
  unfold sseq
  refine ev_nx (γ := ((⟨s1⟩ : OL Int), S l, (⟨⟩ : Any), (⟨⟩ : Any), (⟨⟩ : Any), (⟨⟩ : Any), (⟨⟩ : Any), (⟨⟩ : Any), (⟨⟩ : Any), (⟨⟩ : Any), (⟨⟩ : Any), (⟨⟩ : Any), (⟨⟩ : Any), ())) (by simp only [ssetm, mdr, up, fcons, fc, fnil, im, ia, i0, ps, pz, Option.bind_some, Option.map_some, e1]) ?_
  refine Ev.bind ?_
  unfold ssetm
  refine Ev.map ?_
  unfold m1
  refine Ev.bind ?_
  unfold mcons
  refine Ev.bind ?_
  refine Ev.mlcA (fun i γ => ∃ g : List Int, γ = ((⟨g⟩ : OL Int), S l, (⟨⟩ : Any), (⟨⟩ : Any), (⟨⟩ : Any), (⟨⟩ : Any), (⟨⟩ : Any), (⟨⟩ : Any), (⟨⟩ : Any), (⟨⟩ : Any), (⟨⟩ : Any), (⟨⟩ : Any), (⟨⟩ : Any), ()) ∧ g.length = 3) (fun (x : Int) (y : Str) => ∃ k, k < 2 ^ l.length ∧ S (sel l k) = y) ?_
  refine Ev.of (y := (Z (List.range nr), ((⟨s2⟩ : OL Int), S l, (⟨⟩ : Any), (⟨⟩ : Any), (⟨⟩ : Any), (⟨⟩ : Any), (⟨⟩ : Any), (⟨⟩ : Any), (⟨⟩ : Any), (⟨⟩ : Any), (⟨⟩ : Any), (⟨⟩ : Any), (⟨⟩ : Any), ()))) (by simp only [mdr, up, fcons, fc, fnil, Option.bind_some, Option.map_some, e2, er]) ⟨?_, ⟨s2, rfl, k2⟩, ?_, ?_⟩
  · simp [Z]
    omega
  · rintro z i _ hi ⟨g, rfl, hg⟩ hz
    refine Ev.of rfl ⟨rfl, ?_⟩
    refine Ev.bind (Ev.of rfl (Ev.map ?_))
    refine (bag_S hg h).mono ?_
    rintro ⟨_, g1⟩ ⟨k, hk, lk, hg1⟩
    exact ⟨⟨k, lk, hk.symm⟩, g1, rfl, hg1⟩
  · rintro ys _ hp ⟨g, rfl, hg⟩
    have hlen := paired_len' hp
    rw [show (Z (List.range nr)).length = nr by simp [Z]] at hlen
    obtain ⟨R, rfl, lR⟩ := T_back (l := l) (ys := ys) (paired_all hp)
    rw [T_len] at hlen
    have n60 : R.length ≤ 60 := by omega
    obtain ⟨C, t⟩ := mt_ex h lR
    have sC := t.s
    have ti := tinit_S h lR n60
    have co := closer_of_S h n60 t
    have ls := least_S h h4 sC
    have nE := (fam_good aE.f).len
    have nC := (fam_good sC.toFam).len
    obtain ⟨A, eA⟩ := stp_ex (l := l) (C := C) h
    have ste := stem_S h (show l.length ≤ 5 by omega) sC eA
    have lok := lor_ok (show l.length ≤ 5 by omega) sC eA
    have byr := by_rules_S h aE lok
    rw [filt_lor h aE sC eA] at byr
    refine Ev.of rfl (Ev.of rfl ?_)
    have eq0 := eq_S h sC.lt sC.lt
    rw [decide_eq_true rfl] at eq0
    have cl := (crn_sl l C).length_le
    have crl : (crn l C).length ≤ 60 := by
      have : 2 ^ l.length ≤ 2 ^ 4 := Nat.pow_le_pow_right (by omega) h4
      omega
    have co2 := closer_of_S h crl (crn_mt h sC)
    have cor := corners_S h sC
    have con := concepts_S h n60 t
    obtain ⟨r9, em, C9, rfl, t9⟩ := metT_S' h lR (by omega)
    have c9 : C9 = C := mt_eq h t9 sC fun k => t.m k
    subst c9
    have lC : (T l C9).length ≤ 100000 := by rw [T_len]; omega
    have lK : (T l (crn l C9)).length ≤ 100000 := by rw [T_len]; omega
    refine ev_nx (γ := ((⟨g⟩ : OL Int), S l, (⟨T l R⟩ : Tup Str), tb l R, (⟨⟩ : Any), (⟨⟩ : Any), (⟨⟩ : Any), (⟨⟩ : Any), (⟨⟩ : Any), (⟨⟩ : Any), (⟨⟩ : Any), (⟨⟩ : Any), (⟨⟩ : Any), ())) (by show sset _ _ ((⟨g⟩ : OL Int), S l, (⟨T l R⟩ : Tup Str), (⟨⟩ : Any), (⟨⟩ : Any), (⟨⟩ : Any), (⟨⟩ : Any), (⟨⟩ : Any), (⟨⟩ : Any), (⟨⟩ : Any), (⟨⟩ : Any), (⟨⟩ : Any), (⟨⟩ : Any), ()) = _; simp only [sset, f1, fcons, fnil, fv, gs, gz, ps, pz, Option.bind_some, Option.map_some, ti]) ?_
    refine ev_nx (γ := ((⟨g⟩ : OL Int), S l, (⟨T l R⟩ : Tup Str), tb l R, (⟨⟩ : Any), (⟨⟩ : Any), clo l C9, tb l (crn l C9), (⟨⟩ : Any), (⟨⟩ : Any), (⟨⟩ : Any), (⟨⟩ : Any), (⟨⟩ : Any), ())) (by simp only [sunp, f1, fcons, fnil, fv, gs, gz, pairT, ps, pz, Option.bind_some, Option.map_some, co, ls]) ?_
    unfold sfor
    refine Ev.bind ?_
    refine Ev.bind ?_
    refine Ev.of (y := T l E) (by simp only [f1, fcons, fnil, fv, gs, gz, Option.bind_some, eE]) ?_
    refine Ev.forL (fun xs γ => (∀ X ∈ xs, ∃ k, k < 2 ^ l.length ∧ X = S (sel l k)) ∧ γ = ((⟨g⟩ : OL Int), S l, (⟨T l R⟩ : Tup Str), tb l R, (⟨⟩ : Any), (⟨⟩ : Any), clo l C9, tb l (crn l C9), (⟨⟩ : Any), (⟨⟩ : Any), (⟨⟩ : Any), (⟨⟩ : Any), (⟨⟩ : Any), ())) ⟨fun X hX => ?_, rfl⟩ ?_ ?_
    · obtain ⟨k, hk, rfl⟩ := List.mem_map.mp hX
      exact ⟨k, (aE.m k).mp hk, rfl⟩
    · rintro X xs γ ⟨hX, rfl⟩
      obtain ⟨k, hk, rfl⟩ := hX X List.mem_cons_self
      have lo := law_own_S h n60 hk
      have sh := law_shared_S h (N := ownR R k) (R := R) fun i hi => own_lt hi
      rw [shr_own] at sh
      have ow := owners_S h n60 hk
      have sm := shared_S h (R := R) (k := k)
      have ar0 := around_S (C := C9) h hk
      rw [rows_ar h t hk] at ar0
      refine ev_nx (γ := ((⟨g⟩ : OL Int), S l, (⟨T l R⟩ : Tup Str), tb l R, S (sel l k), (⟨⟩ : Any), clo l C9, tb l (crn l C9), (⟨Z (ownR R k)⟩ : Tup Int), (⟨⟩ : Any), (⟨⟩ : Any), (⟨⟩ : Any), (⟨⟩ : Any), ())) (by simp only [sset, f1, fcons, fnil, fv, gs, gz, ps, pz, Option.bind_some, Option.map_some, lo]) ?_
      refine ev_nx (γ := ((⟨g⟩ : OL Int), S l, (⟨T l R⟩ : Tup Str), tb l R, S (sel l k), (⟨⟩ : Any), clo l C9, tb l (crn l C9), (⟨Z (ownR R k)⟩ : Tup Int), S (sel l (ar l R k)), (⟨⟩ : Any), (⟨⟩ : Any), (⟨⟩ : Any), ())) (by simp only [sset, f1, fcons, fnil, fv, gs, gz, ps, pz, Option.bind_some, Option.map_some, sh]) ?_
      refine ev_no ?_ (Ev.of rfl ⟨_, rfl, fun Y hY => hX Y (List.mem_cons_of_mem _ hY), rfl⟩)
      refine foor_no (dNe_of (x := (⟨Z (ownR R k)⟩ : Tup Int)) (by simp only [f1, fcons, fnil, fv, gs, gz, Option.bind_some, ow]) rfl) (foor_no (sNe_of (x := S (sel l (ar l R k))) (by simp only [f1, fcons, fnil, fv, gs, gz, Option.bind_some, sm]) rfl) (sNe_of (x := S (sel l (ar l R k))) (by simp only [f1, fcons, fnil, fv, gs, gz, Option.bind_some, ar0]) rfl))
    · rintro γ ⟨_, rfl⟩
      refine ev_no (dNe_of (x := (⟨C9.map (cpt l R)⟩ : Tup (T2 (Tup Int) Str))) (by simp only [f1, fcons, fnil, fv, gs, gz, Option.bind_some, con]) ?_) ?_
      · have e1 : lcGo (fun _ => some true) (fun x => (m__law_own (⟨T l R⟩, x, ())).bind fun y => pairT (y, x, ())) (T l C9) = some (C9.map (cpt l R)) := by
          rw [lcGo_T h (P := fun _ => true) (E := cpt l R) (fun _ _ => rfl) (fun k hk _ => ?_), filt_true]
          rw [law_own_S h n60 (sC.lt k hk)]
          rfl
        simp only [f1, flc, fyes, fcons, fnil, fv, gs, gz, ps, pz, Option.bind_some, Option.map_some, Option.bind_assoc, closed_S, lC, if_true, e1, tupL]
      refine ev_no (foor_no (dNe_of (x := (⟨T l C9⟩ : Tup Str)) (by simp only [f1, fv, gs, gz, Option.bind_some, closed_S]) (by simp only [f1, fcons, fnil, fv, gs, gz, Option.bind_some, em])) (foor_no (dNe_of (x := (⟨T l (crn l C9)⟩ : Tup Str)) (by simp only [f1, fv, gs, gz, Option.bind_some, trows]) (by simp only [f1, fcons, fnil, fv, gs, gz, Option.bind_some, cor])) (by simp only [f1, f2, fcons, fnil, fv, gs, gz, Option.bind_some, Option.map_some, co2, eq0, Bool.not_true]))) ?_
      have e2 : lcGo (fun y => tNotIn y (⟨T l R⟩ : Tup Str)) (fun y => some y) (T l (crn l C9)) = some [] := by
        rw [lcGo_T h (P := fun _ => false) (E := fun k => S (sel l k)) (fun k hk => ?_) (fun _ _ _ => rfl)]
        · simp
        · exact congrArg some (congrArg not (decide_eq_true (List.mem_map.mpr ⟨k, crn_sub t k hk, rfl⟩)))
      refine ev_no (foor_no (dNe_of (x := ([] : List Str)) (by simp only [f1, f2, flc, fcons, fnil, fv, gs, gz, ps, pz, Option.bind_some, cor, lK, if_true, e2]) rfl) (by simp only [f1, f2, fcons, fnil, fv, gs, gz, Option.bind_some, Option.map_some, ste, byr, eq0, Bool.not_true])) ?_
      refine Ev.bind ?_
      refine Ev.map ?_
      unfold m2
      refine Ev.bind ?_
      refine Ev.mlcA (fun i γ => ∃ g : List Int, γ = ((⟨g⟩ : OL Int), S l, (⟨T l R⟩ : Tup Str), tb l R, (⟨⟩ : Any), (⟨⟩ : Any), clo l C9, tb l (crn l C9), (⟨⟩ : Any), (⟨⟩ : Any), (⟨⟩ : Any), (⟨⟩ : Any), (⟨⟩ : Any), ()) ∧ g.length = 3) (fun (x : Int) (y : T2 Str Str) => ∃ i j, i < 2 ^ l.length ∧ j < 2 ^ l.length ∧ y = rul l i j) ?_
      refine Ev.of (y := (Z (List.range 4), ((⟨g⟩ : OL Int), S l, (⟨T l R⟩ : Tup Str), tb l R, (⟨⟩ : Any), (⟨⟩ : Any), clo l C9, tb l (crn l C9), (⟨⟩ : Any), (⟨⟩ : Any), (⟨⟩ : Any), (⟨⟩ : Any), (⟨⟩ : Any), ()))) (by simp only [up, f1, fcons, fc, fnil, Option.bind_some, Option.map_some, er4]) ⟨by show (4:Nat) ≤ _; decide, ⟨g, rfl, hg⟩, ?_, ?_⟩
      · rintro z i _ hi ⟨g, rfl, hg⟩ hz
        refine Ev.of rfl ⟨rfl, ?_⟩
        obtain ⟨⟨_, g1⟩, b1, i1, ei, l1, hg1⟩ := bag_S hg h
        obtain ⟨⟨_, g2⟩, b2, i2, ej, l2, hg2⟩ := bag_S hg1 h
        have ei : _ = S (sel l i1) := ei
        have ej : _ = S (sel l i2) := ej
        subst ei
        subst ej
        have hg2 : g2.length = 3 := hg2
        refine Ev.of (y := (rul l i1 i2, ((⟨g2⟩ : OL Int), S l, (⟨T l R⟩ : Tup Str), tb l R, (⟨⟩ : Any), (⟨⟩ : Any), clo l C9, tb l (crn l C9), (⟨⟩ : Any), (⟨⟩ : Any), z, (⟨⟩ : Any), (⟨⟩ : Any), ()))) ?_ ⟨⟨i1, i2, l1, l2, rfl⟩, g2, rfl, hg2⟩
        simp only [m1, mcons, mdr, up, fcons, fv, fc, fnil, gs, gz, wid, cs, cz, bs, bz, ps, pz, Option.bind_some, Option.map_some, b1]
        rw [show m__law_bag g1 (S l, ()) = some (S (sel l i2), g2) from b2]
        rfl
      · rintro ys _ hp ⟨g, rfl, hg⟩
        have h4' := paired_len' hp
        rw [show (Z (List.range 4)).length = 4 from rfl] at h4'
        have hy := paired_all hp
        have ln := lok.n
        refine Ev.bind ?_
        refine Ev.of (y := ((bk l (lor l C9 A)).l, ((⟨g⟩ : OL Int), S l, (⟨T l R⟩ : Tup Str), tb l R, (⟨⟩ : Any), (⟨⟩ : Any), clo l C9, tb l (crn l C9), (⟨⟩ : Any), (⟨⟩ : Any), (⟨⟩ : Any), (⟨⟩ : Any), (⟨⟩ : Any), ()))) (by simp only [up, f1, fcons, fnil, fv, gs, gz, Option.bind_some, Option.map_some, ste, lstT]) ?_
        have lL : (bk l (lor l C9 A)).l.length ≤ 100 := by simpa [bk] using ln
        have ec : lCat ys (bk l (lor l C9 A)).l = some (ys ++ (bk l (lor l C9 A)).l) := if_pos (by omega)
        refine Ev.map (Ev.of ec ?_)
        have all : ∀ y ∈ ys ++ (bk l (lor l C9 A)).l, m__law_rule_right (clo l C9, (⟨T l R⟩ : Tup Str), y, ()) = some true := fun y hy9 => by
          rcases List.mem_append.mp hy9 with q | q
          · obtain ⟨i, j, hi, hj, rfl⟩ := hy y q
            exact rule_right_S h n60 t hi hj
          · obtain ⟨p, hp, rfl⟩ := List.mem_map.mp q
            exact rule_right_S h n60 t (lok.lt p hp).1 (lok.lt p hp).2
        have ea : lcGo (fun _ => some true) (fun y => m__law_rule_right (clo l C9, (⟨T l R⟩ : Tup Str), y, ())) (ys ++ (bk l (lor l C9 A)).l) = some ((ys ++ (bk l (lor l C9 A)).l).map fun _ => true) := by
          rw [lcGo_of (T := fun _ => true) (E := fun _ => true) (fun _ _ => rfl) (fun y hy _ => all y hy), filt_true]
        have lz : (ys ++ (bk l (lor l C9 A)).l).length ≤ 100000 := by rw [List.length_append]; omega
        have eb : Vx.allB ((ys ++ (bk l (lor l C9 A)).l).map (fun _ => true), ()) = some true := by
          rw [all_B]
          congr 1
          rw [List.all_map]
          exact List.all_eq_true.mpr fun _ _ => rfl
        refine Ev.of (y := Fl.rt true g) ?_ (Ev.of rfl rfl)
        show (sret _ ((⟨g⟩ : OL Int), S l, (⟨T l R⟩ : Tup Str), tb l R, (⟨⟩ : Any), (ys ++ (bk l (lor l C9 A)).l : List (T2 Str Str)), clo l C9, tb l (crn l C9), (⟨⟩ : Any), (⟨⟩ : Any), (⟨⟩ : Any), (⟨⟩ : Any), (⟨⟩ : Any), ())).bind _ = _
        simp only [sret, f1, flc, fyes, fcons, fnil, fv, gs, gz, ps, pz, Option.bind_some, Option.map_some, lz, if_true, ea, eb]
        rfl
end K73
namespace K73
open Vx.Rep (rep)
open Vx.EnvR (er)
open PySem PySem.Spec PyProof.Rows L2 Vx
theorem right_E {s : List Int} (hs : s.length = 3) : ∃ s', m__law_right s () = some (true, s') := by
  obtain ⟨⟨b1, s1⟩, e1, h1⟩ := right_S hs
  have h1 : b1 = true := h1
  subst h1
  exact ⟨s1, e1⟩
theorem law_S (zs : List Int) : m_law (⟨zs⟩, ()) = some true := by
  obtain ⟨m, em, hm⟩ : ∃ m : Nat, ((min2 ((zs.length : Int), 3, ())).bind fun y => max2 (2, y, ())) = some (m : Int) ∧ m ≤ 3 := by
    unfold min2 max2
    simp only [Option.bind_some]
    refine ⟨(if (if (3 : Int) < zs.length then (3 : Int) else zs.length) > 2 then (if (3 : Int) < zs.length then (3 : Int) else zs.length) else 2).toNat, ?_, ?_⟩
    · congr 1
      split <;> split <;> omega
    · split <;> split <;> omega
  have e0 : ((lenC (⟨zs⟩, ())).bind fun y => (min2 (y, 3, ())).bind fun y => (max2 (2, y, ())).bind fun y => rangeOf1 y) = some (Z (List.range m)) := by
    have : ((min2 ((zs.length : Int), 3, ())).bind fun y => (max2 (2, y, ())).bind fun y => rangeOf1 y) = (((min2 ((zs.length : Int), 3, ())).bind fun y => max2 (2, y, ())).bind fun y => rangeOf1 y) := by rw [Option.bind_assoc]
    show ((min2 ((zs.length : Int), 3, ())).bind fun y => (max2 (2, y, ())).bind fun y => rangeOf1 y) = _
    rw [this, em, Option.bind_some, rng_n m (by omega)]
  have e1 : lcGo (fun x => some true) (fun x => (m__law_hopper (⟨zs⟩, x, ())).bind fun s => Option.map (fun x => x.fst) (m__law_right s ())) (Z (List.range m)) = some ((List.range m).map fun _ => true) := by
    rw [lcGo_Z (P := fun _ => true) (E := fun _ => true) (List.range m) (fun _ _ => rfl), filt_true]
    intro k hk _
    have := List.mem_range.mp hk
    obtain ⟨s, es, hs⟩ := hopper_S zs k
    obtain ⟨s', er⟩ := right_E hs
    rw [es, Option.bind_some, er]
    rfl
  have e2 : Vx.allB ((List.range m).map fun _ => true, ()) = some true := by
    unfold Vx.allB
    congr 1
    rw [List.all_map]
    simp
  show runF _ _ = _
  simp only [runF, runU, runM, im, sseq, Fl.bnd, sret, sretm, sset, ssetm, sif, sifm, sex, sexm, snever, sfor, sform, sset1, sdm, spar, fown, snewD, sdput, fkeys, up, m1, m2, mcons, mdr, mif, mand, moor, mnot, Vx.oz, Vx.os, f1, f2, fv, fc, fif, fand, foor, fnot, fcons, fnil, fch, lcons, lnil, flc, gz, gs, pz, ps, ic, ia, i0, snil, wid, wn, wk, wa, Option.bind_some, Option.map_some, Option.map_map, Function.comp_def, fyes, Option.bind_assoc]
  have e3 : ∀ {β : Type} (k : List Int → Option β), ((lenC (⟨zs⟩, ())).bind fun y => (min2 (y, 3, ())).bind fun y => (max2 (2, y, ())).bind fun y => (rangeOf1 y).bind k) = k (Z (List.range m)) := by
    intro β k
    have := congrArg (fun z => Option.bind z k) e0
    simp only [Option.bind_assoc, Option.bind_some] at this
    exact this
  rw [e3]
  rw [if_pos (by simp [Z]; omega), e1]
  simp only [Option.bind_some, e2, Option.map_some]
  try rfl
theorem ans (zs : List Int) (h : zs.length ≤ 63) : m_law (⟨zs⟩, ()) = some true := law_S zs
end K73
namespace K73
open Vx.Rep (rep)
open Vx.EnvR (er)
open PySem PySem.Spec PyProof.Rows L2 Vx
def FnIn (K : PySem.W.Frag) (x : Str) (st : Stmt) : Prop := ∃ (f : Addr) (oc : Value) (od : Option Addr) (kV dc pm : Value) (an : Option Addr) (cd ct : Value) (sl : Array (Option Value)),
  PySem.W.nsIn K mainGlobals x = some (some (.ref f)) ∧ K.lookup f = some ⟨oc, od, .func (PySem.W.fnOf x x (defArgs st) (defBody st) (defScope st) .none kV dc pm an cd ct), sl⟩ ∧ PySem.W.codeIn K cd x = true ∧ PySem.W.keepIn K (.ref f) = true
def MtIn (K : PySem.W.Frag) (C : Addr) (x qual : Str) (st : Stmt) : Prop := ∃ (f : Addr) (oc : Value) (od : Option Addr) (kV dc pm : Value) (an : Option Addr) (cd ct : Value) (sl : Array (Option Value)),
  PySem.W.findIn K (.ref C) x = some (some (.ref f)) ∧ PySem.W.isFn K (.ref f) = true ∧ K.lookup f = some ⟨oc, od, .func (PySem.W.fnOf x qual (defArgs st) (defBody st) (defScope st) .none kV dc pm an cd ct), sl⟩ ∧ PySem.W.codeIn K cd qual = true ∧ PySem.W.keepIn K (.ref f) = true
def PrIn (K : PySem.W.Frag) (C : Addr) (x qual : Str) (st : Stmt) : Prop := ∃ (p f : Addr) (rest : List Value) (oc : Value) (od : Option Addr) (kV dc pm : Value) (an : Option Addr) (cd ct : Value) (sl : Array (Option Value)),
  PySem.W.findIn K (.ref C) x = some (some (.ref p)) ∧ PySem.W.specialIn K (.ref p) "__get__" = some (some (.builtin "property.__get__")) ∧ PySem.W.takesIn K (.ref p) = some true ∧ PySem.W.recIn K p "property" = some (.ref f :: rest) ∧ K.lookup f = some ⟨oc, od, .func (PySem.W.fnOf x qual (defArgs st) (defBody st) (defScope st) .none kV dc pm an cd ct), sl⟩ ∧ PySem.W.codeIn K cd qual = true ∧ PySem.W.keepIn K (.ref f) = true
theorem tf_of {K : PySem.W.Frag} {h : Heap} {mg : Str → Option Value} {x : Str} {st : Stmt} {ps : List Str} (X : K.In h) (G : h.Ns mainGlobals mg) (I : FnIn K x st)
    (b : ∀ (kV doc pm : Value) (an : Option Addr) (cdv ct : Value) (us : List Value), us.length = ps.length → bindArgs (PySem.W.fnOf x x (defArgs st) (defBody st) (defScope st) .none kV doc pm an cdv ct) ⟨us, []⟩ = pure (ps.zip us)) : Tf K mg x st ps := by
  obtain ⟨f, oc, od, kV, dc, pm, an, cd, ct, sl, h1, h2, h3, h4⟩ := I
  have F := fun_mk (st := st) h2 h3 h4
  exact ⟨f, _, F, PySem.W.mg_of X G h1, F.binds b⟩
theorem ti_of {K : PySem.W.Frag} {h : Heap} {mg : Str → Option Value} {C : Addr} {qual : Str} {st : Stmt} {ps : List Str} (X : K.In h) (G : h.Ns mainGlobals mg) (at_ : ClsAt K C) (mk : PySem.W.makesIn K C = true) (kc : PySem.W.keepIn K (.ref C) = true) (I : MtIn K C "__init__" qual st)
    (b : ∀ (kV doc pm : Value) (an : Option Addr) (cdv ct : Value) (us : List Value), us.length = ps.length → bindArgs (PySem.W.fnOf "__init__" qual (defArgs st) (defBody st) (defScope st) .none kV doc pm an cdv ct) ⟨us, []⟩ = pure (ps.zip us)) : TmI K mg qual st ps := by
  obtain ⟨f, oc, od, kV, dc, pm, an, cd, ct, sl, h1, h2, h3, h4, h5⟩ := I
  have F := fun_mk (st := st) h3 h4 h5
  exact ⟨C, f, _, at_, ⟨mk, h1, h2, kc⟩, PySem.W.mg_of X G at_, F, F.binds b⟩
theorem tm_of {K : PySem.W.Frag} {C : Addr} {x qual : Str} {st : Stmt} {ps : List Str} (at_ : ClsAt K C) (cl : Cls K C) (I : MtIn K C x qual st)
    (b : ∀ (kV doc pm : Value) (an : Option Addr) (cdv ct : Value) (us : List Value), us.length = ps.length → bindArgs (PySem.W.fnOf x qual (defArgs st) (defBody st) (defScope st) .none kV doc pm an cdv ct) ⟨us, []⟩ = pure (ps.zip us)) : TmM K x qual st ps := by
  obtain ⟨f, oc, od, kV, dc, pm, an, cd, ct, sl, h1, h2, h3, h4, h5⟩ := I
  have F := fun_mk (st := st) h3 h4 h5
  exact ⟨C, f, _, at_, cl, ⟨h1, h2, h5⟩, F, F.binds b⟩
theorem tp_of {K : PySem.W.Frag} {C : Addr} {x qual : Str} {st : Stmt} {ps : List Str} (at_ : ClsAt K C) (cl : Cls K C) (I : PrIn K C x qual st)
    (b : ∀ (kV doc pm : Value) (an : Option Addr) (cdv ct : Value) (us : List Value), us.length = ps.length → bindArgs (PySem.W.fnOf x qual (defArgs st) (defBody st) (defScope st) .none kV doc pm an cdv ct) ⟨us, []⟩ = pure (ps.zip us)) : TmP K x qual st ps := by
  obtain ⟨p, f, rest, oc, od, kV, dc, pm, an, cd, ct, sl, h1, h2, h3, h4, h5, h6, h7⟩ := I
  have F := fun_mk (st := st) h5 h6 h7
  exact ⟨C, p, f, _, at_, cl, ⟨h1, h2, h3, ⟨rest, h4⟩⟩, F, F.binds b⟩
theorem tti_of {K : PySem.W.Frag} {h : Heap} {mg : Str → Option Value} {C : Addr} {qual : Str} {st : Stmt} {ps : List Str} (X : K.In h) (G : h.Ns mainGlobals mg) (at_ : TbAt K C) (mk : PySem.W.makesIn K C = true) (kc : PySem.W.keepIn K (.ref C) = true) (I : MtIn K C "__init__" qual st)
    (b : ∀ (kV doc pm : Value) (an : Option Addr) (cdv ct : Value) (us : List Value), us.length = ps.length → bindArgs (PySem.W.fnOf "__init__" qual (defArgs st) (defBody st) (defScope st) .none kV doc pm an cdv ct) ⟨us, []⟩ = pure (ps.zip us)) : TtI K mg qual st ps := by
  obtain ⟨f, oc, od, kV, dc, pm, an, cd, ct, sl, h1, h2, h3, h4, h5⟩ := I
  have F := fun_mk (st := st) h3 h4 h5
  exact ⟨C, f, _, at_, ⟨mk, h1, h2, kc⟩, PySem.W.mg_of X G at_, F, F.binds b⟩
theorem ttp_of {K : PySem.W.Frag} {C : Addr} {x qual : Str} {st : Stmt} {ps : List Str} (at_ : TbAt K C) (cl : Cls K C) (I : PrIn K C x qual st)
    (b : ∀ (kV doc pm : Value) (an : Option Addr) (cdv ct : Value) (us : List Value), us.length = ps.length → bindArgs (PySem.W.fnOf x qual (defArgs st) (defBody st) (defScope st) .none kV doc pm an cdv ct) ⟨us, []⟩ = pure (ps.zip us)) : TtP K x qual st ps := by
  obtain ⟨p, f, rest, oc, od, kV, dc, pm, an, cd, ct, sl, h1, h2, h3, h4, h5, h6, h7⟩ := I
  have F := fun_mk (st := st) h5 h6 h7
  exact ⟨C, p, f, _, at_, cl, ⟨h1, h2, h3, ⟨rest, h4⟩⟩, F, F.binds b⟩
theorem fd_one {K : PySem.W.Frag} {x : Str} {st : Stmt} {f : Addr} {fd fd' : FuncData} (F : Fun K x x st f fd) (F' : Fun K x x st f fd') : fd = fd' := by
  obtain ⟨_, _, _, _, _, _, _, _, _, _, h, _⟩ := F.ex
  obtain ⟨_, _, _, _, _, _, _, _, _, _, h', _⟩ := F'.ex
  rw [h] at h'
  have := Option.some.inj h'
  injection this with _ _ h3 _
  injection h3
theorem law_df {P : Program} {w : World} {K : PySem.W.Frag} {mg : Str → Option Value} {fa : Addr} (T : Top K mg) (hm : mg "law" = some (.ref fa)) :
    ∃ fd : FuncData, (∀ (s : Shared) (v : Value), BindsTo s fd ⟨[v], []⟩ [("_law_script", v)]) ∧ ∀ base : Heap, GnOk P w K mg base 12 fa fd ["_law_script"] (spF K m_law) := by
  obtain ⟨f, fd, F, hf, hb⟩ := T.f_law
  have e : f = fa := by
    have := hf.symm.trans hm
    cases this
    rfl
  subst e
  refine ⟨fd, fun s v => ?_, fun base => ?_⟩
  · obtain ⟨_, _, _, _, _, _, _, _, _, e, _, _⟩ := F.ex
    subst e
    exact .of_eq rfl
  · obtain ⟨f', fd', F', hf', _, Gn⟩ := d_law (P := P) (w := w) (base := base) T
    have e := hf.symm.trans hf'
    cases e
    rw [fd_one F F']
    exact Gn
theorem top_mk {K : PySem.W.Frag} {h : Heap} {mg : Str → Option Value} {C D : Addr} (X : K.In h) (G : h.Ns mainGlobals mg)
    (aC : ClsAt K C) (pg : PySem.W.plainGet K C Str.empty = true) (hd : PySem.W.hasDictIn K C = true) (po : PySem.W.plainOver K C = true) (sa : PySem.W.findIn K (.ref C) "__setattr__" = some (some (.builtin "object.__setattr__"))) (mk : PySem.W.makesIn K C = true) (kc : PySem.W.keepIn K (.ref C) = true) (n1 : PySem.W.findIn K (.ref C) "_things" = some none) (n2 : PySem.W.findIn K (.ref C) "_closed" = some none) (n3 : PySem.W.findIn K (.ref C) "_around" = some none) (i1 : PySem.W.findIn K (.ref C) "__class__" = some (some (.builtin "object.__class__"))) (i2 : PySem.W.specialIn K (.builtin "object.__class__") "__get__" = some (some (.builtin "getset_descriptor.__get__"))) (i3 : PySem.W.takesIn K (.builtin "object.__class__") = some true) (i4 : PySem.W.mroIn K C (.type "object") = some true) (aC2 : TbAt K D) (pg2 : PySem.W.plainGet K D Str.empty = true) (hd2 : PySem.W.hasDictIn K D = true) (po2 : PySem.W.plainOver K D = true) (sa2 : PySem.W.findIn K (.ref D) "__setattr__" = some (some (.builtin "object.__setattr__"))) (mk2 : PySem.W.makesIn K D = true) (kc2 : PySem.W.keepIn K (.ref D) = true) (q1 : PySem.W.findIn K (.ref D) "_things" = some none) (q2 : PySem.W.findIn K (.ref D) "_rows" = some none) (j1 : PySem.W.findIn K (.ref D) "__class__" = some (some (.builtin "object.__class__"))) (j4 : PySem.W.mroIn K D (.type "object") = some true) (kiIB : PySem.W.kitOne K (.type "int") (.type "bool") = some false) (ne : PySem.W.findIn K (.ref C) "__ne__" = some (some (.builtin "object.__ne__")))
    (a16 : FnIn K "is_letter" (topS 16))
    (a17 : FnIn K "is_word" (topS 17))
    (a18 : FnIn K "is_any_lot" (topS 18))
    (a19 : FnIn K "is_things" (topS 19))
    (a25 : FnIn K "has_all" (topS 25))
    (a20 : FnIn K "is_lot" (topS 20))
    (a22 : FnIn K "check_things" (topS 22))
    (a23 : FnIn K "check_lot" (topS 23))
    (a24 : FnIn K "first_wrong" (topS 24))
    (a27 : FnIn K "lots_by_number" (topS 27))
    (a28 : FnIn K "number_by_lot" (topS 28))
    (a29 : FnIn K "numbers_of" (topS 29))
    (a30 : FnIn K "family_of" (topS 30))
    (a31 : FnIn K "meets_of" (topS 31))
    (a36 : FnIn K "is_system" (topS 36))
    (a34 : FnIn K "check_closed" (topS 34))
    (a38 : FnIn K "first_around" (topS 38))
    (a37 : FnIn K "lots_around" (topS 37))
    (ac33_0 : MtIn K C "__init__" "Closer.__init__" (topC 33 0))
    (ac33_2 : PrIn K C "things" "Closer.things" (topC 33 2))
    (ac33_3 : PrIn K C "closed" "Closer.closed" (topC 33 3))
    (ac33_7 : MtIn K C "around" "Closer.around" (topC 33 7))
    (ac33_6 : MtIn K C "__eq__" "Closer.__eq__" (topC 33 6))
    (a35 : FnIn K "check_closer" (topS 35))
    (a42 : FnIn K "is_rule" (topS 42))
    (a43 : FnIn K "wrong_rule" (topS 43))
    (a44 : FnIn K "check_book" (topS 44))
    (a45 : FnIn K "check_rows" (topS 45))
    (a46 : FnIn K "by_rules" (topS 46))
    (a47 : FnIn K "by_rows" (topS 47))
    (a49 : FnIn K "meet_above" (topS 49))
    (a48 : FnIn K "corners" (topS 48))
    (a26 : FnIn K "in_both" (topS 26))
    (a62 : FnIn K "check_rule" (topS 62))
    (a63 : FnIn K "keeps" (topS 63))
    (a65 : FnIn K "holds" (topS 65))
    (a64 : FnIn K "first_broken" (topS 64))
    (ac33_8 : MtIn K C "is_closed" "Closer.is_closed" (topC 33 8))
    (a68 : FnIn K "stem_of" (topS 68))
    (a69 : FnIn K "stem" (topS 69))
    (ac33_5 : MtIn K C "__len__" "Closer.__len__" (topC 33 5))
    (a71 : FnIn K "_law_hopper" (topS 71))
    (a72 : FnIn K "_law_spill" (topS 72))
    (a73 : FnIn K "_law_out_of" (topS 73))
    (a74 : FnIn K "_law_tags" (topS 74))
    (a75 : FnIn K "_law_bag" (topS 75))
    (a76 : FnIn K "_law_bags" (topS 76))
    (a77 : FnIn K "_law_in" (topS 77))
    (a78 : FnIn K "_law_both" (topS 78))
    (a79 : FnIn K "_law_met" (topS 79))
    (a21 : FnIn K "is_number" (topS 21))
    (ac51_0 : MtIn K D "__init__" "Table.__init__" (topC 51 0))
    (ac51_1 : PrIn K D "things" "Table.things" (topC 51 1))
    (ac51_2 : PrIn K D "rows" "Table.rows" (topC 51 2))
    (a52 : FnIn K "check_table" (topS 52))
    (a53 : FnIn K "check_numbers" (topS 53))
    (a54 : FnIn K "shared_by" (topS 54))
    (a55 : FnIn K "owners_of" (topS 55))
    (a56 : FnIn K "shared_marks" (topS 56))
    (a57 : FnIn K "owners" (topS 57))
    (a58 : FnIn K "concepts" (topS 58))
    (a59 : FnIn K "closer_of" (topS 59))
    (a60 : FnIn K "least_table" (topS 60))
    (a66 : FnIn K "breaker" (topS 66))
    (a80 : FnIn K "_law_own" (topS 80))
    (a81 : FnIn K "_law_shared" (topS 81))
    (a82 : FnIn K "_law_rule_right" (topS 82))
    (a83 : FnIn K "_law_right" (topS 83))
    (a84 : FnIn K "law" (topS 84))
    (z_len : PySem.W.nsIn K mainGlobals "len" = some none)
    (z_all : PySem.W.nsIn K mainGlobals "all" = some none)
    (z_any : PySem.W.nsIn K mainGlobals "any" = some none)
    (z_abs : PySem.W.nsIn K mainGlobals "abs" = some none)
    (z_int : PySem.W.nsIn K mainGlobals "int" = some none)
    (z_min : PySem.W.nsIn K mainGlobals "min" = some none)
    (z_max : PySem.W.nsIn K mainGlobals "max" = some none)
    (z_tuple : PySem.W.nsIn K mainGlobals "tuple" = some none)
    (z_repr : PySem.W.nsIn K mainGlobals "repr" = some none)
    (z_isinstance : PySem.W.nsIn K mainGlobals "isinstance" = some none)
    (z_str : PySem.W.nsIn K mainGlobals "str" = some none)
    (z_range : PySem.W.nsIn K mainGlobals "range" = some none)
    (z_enumerate : PySem.W.nsIn K mainGlobals "enumerate" = some none)
    (z_sorted : PySem.W.nsIn K mainGlobals "sorted" = some none)
    (z_set : PySem.W.nsIn K mainGlobals "set" = some none)
    (z_list : PySem.W.nsIn K mainGlobals "list" = some none)
    (z_divmod : PySem.W.nsIn K mainGlobals "divmod" = some none)
    (z_dict : PySem.W.nsIn K mainGlobals "dict" = some none)
    (z_bool : PySem.W.nsIn K mainGlobals "bool" = some none)
    {tk_MOST_THINGS : Tok} (c_MOST_THINGS : PySem.W.nsIn K mainGlobals "MOST_THINGS" = some (some (.int 7 tk_MOST_THINGS)))
    {tk_MOST_ROWS : Tok} (c_MOST_ROWS : PySem.W.nsIn K mainGlobals "MOST_ROWS" = some (some (.int 60 tk_MOST_ROWS)))
    {tk_MOST_RULES : Tok} (c_MOST_RULES : PySem.W.nsIn K mainGlobals "MOST_RULES" = some (some (.int 200 tk_MOST_RULES)))
    : Top K mg :=
  ⟨tf_of X G a16 fun _ _ _ _ _ _ us hl => match us, hl with | [_], _ => rfl,
   tf_of X G a17 fun _ _ _ _ _ _ us hl => match us, hl with | [_], _ => rfl,
   tf_of X G a18 fun _ _ _ _ _ _ us hl => match us, hl with | [_], _ => rfl,
   tf_of X G a19 fun _ _ _ _ _ _ us hl => match us, hl with | [_], _ => rfl,
   tf_of X G a25 fun _ _ _ _ _ _ us hl => match us, hl with | [_, _], _ => rfl,
   tf_of X G a20 fun _ _ _ _ _ _ us hl => match us, hl with | [_, _], _ => rfl,
   tf_of X G a22 fun _ _ _ _ _ _ us hl => match us, hl with | [_], _ => rfl,
   tf_of X G a23 fun _ _ _ _ _ _ us hl => match us, hl with | [_, _], _ => rfl,
   tf_of X G a24 fun _ _ _ _ _ _ us hl => match us, hl with | [_, _], _ => rfl,
   tf_of X G a27 fun _ _ _ _ _ _ us hl => match us, hl with | [_], _ => rfl,
   tf_of X G a28 fun _ _ _ _ _ _ us hl => match us, hl with | [_], _ => rfl,
   tf_of X G a29 fun _ _ _ _ _ _ us hl => match us, hl with | [_, _], _ => rfl,
   tf_of X G a30 fun _ _ _ _ _ _ us hl => match us, hl with | [_, _], _ => rfl,
   tf_of X G a31 fun _ _ _ _ _ _ us hl => match us, hl with | [_, _], _ => rfl,
   tf_of X G a36 fun _ _ _ _ _ _ us hl => match us, hl with | [_, _], _ => rfl,
   tf_of X G a34 fun _ _ _ _ _ _ us hl => match us, hl with | [_, _], _ => rfl,
   tf_of X G a38 fun _ _ _ _ _ _ us hl => match us, hl with | [_, _], _ => rfl,
   tf_of X G a37 fun _ _ _ _ _ _ us hl => match us, hl with | [_, _], _ => rfl,
   ti_of X G aC mk kc ac33_0 fun _ _ _ _ _ _ us hl => match us, hl with | [_, _, _], _ => rfl,
   tp_of aC ⟨pg, hd, po, sa⟩ ac33_2 fun _ _ _ _ _ _ us hl => match us, hl with | [_], _ => rfl,
   tp_of aC ⟨pg, hd, po, sa⟩ ac33_3 fun _ _ _ _ _ _ us hl => match us, hl with | [_], _ => rfl,
   tm_of aC ⟨pg, hd, po, sa⟩ ac33_7 fun _ _ _ _ _ _ us hl => match us, hl with | [_, _], _ => rfl,
   tm_of aC ⟨pg, hd, po, sa⟩ ac33_6 fun _ _ _ _ _ _ us hl => match us, hl with | [_, _], _ => rfl,
   tf_of X G a35 fun _ _ _ _ _ _ us hl => match us, hl with | [_], _ => rfl,
   tf_of X G a42 fun _ _ _ _ _ _ us hl => match us, hl with | [_, _], _ => rfl,
   tf_of X G a43 fun _ _ _ _ _ _ us hl => match us, hl with | [_, _], _ => rfl,
   tf_of X G a44 fun _ _ _ _ _ _ us hl => match us, hl with | [_, _], _ => rfl,
   tf_of X G a45 fun _ _ _ _ _ _ us hl => match us, hl with | [_, _], _ => rfl,
   tf_of X G a46 fun _ _ _ _ _ _ us hl => match us, hl with | [_, _], _ => rfl,
   tf_of X G a47 fun _ _ _ _ _ _ us hl => match us, hl with | [_, _], _ => rfl,
   tf_of X G a49 fun _ _ _ _ _ _ us hl => match us, hl with | [_, _], _ => rfl,
   tf_of X G a48 fun _ _ _ _ _ _ us hl => match us, hl with | [_], _ => rfl,
   tf_of X G a26 fun _ _ _ _ _ _ us hl => match us, hl with | [_, _], _ => rfl,
   tf_of X G a62 fun _ _ _ _ _ _ us hl => match us, hl with | [_, _], _ => rfl,
   tf_of X G a63 fun _ _ _ _ _ _ us hl => match us, hl with | [_, _], _ => rfl,
   tf_of X G a65 fun _ _ _ _ _ _ us hl => match us, hl with | [_, _], _ => rfl,
   tf_of X G a64 fun _ _ _ _ _ _ us hl => match us, hl with | [_, _], _ => rfl,
   tm_of aC ⟨pg, hd, po, sa⟩ ac33_8 fun _ _ _ _ _ _ us hl => match us, hl with | [_, _], _ => rfl,
   tf_of X G a68 fun _ _ _ _ _ _ us hl => match us, hl with | [_], _ => rfl,
   tf_of X G a69 fun _ _ _ _ _ _ us hl => match us, hl with | [_], _ => rfl,
   tm_of aC ⟨pg, hd, po, sa⟩ ac33_5 fun _ _ _ _ _ _ us hl => match us, hl with | [_], _ => rfl,
   tf_of X G a71 fun _ _ _ _ _ _ us hl => match us, hl with | [_, _], _ => rfl,
   tf_of X G a72 fun _ _ _ _ _ _ us hl => match us, hl with | [_, _], _ => rfl,
   tf_of X G a73 fun _ _ _ _ _ _ us hl => match us, hl with | [_, _], _ => rfl,
   tf_of X G a74 fun _ _ _ _ _ _ us hl => match us, hl with | [_, _], _ => rfl,
   tf_of X G a75 fun _ _ _ _ _ _ us hl => match us, hl with | [_, _], _ => rfl,
   tf_of X G a76 fun _ _ _ _ _ _ us hl => match us, hl with | [_], _ => rfl,
   tf_of X G a77 fun _ _ _ _ _ _ us hl => match us, hl with | [_, _], _ => rfl,
   tf_of X G a78 fun _ _ _ _ _ _ us hl => match us, hl with | [_, _], _ => rfl,
   tf_of X G a79 fun _ _ _ _ _ _ us hl => match us, hl with | [_, _], _ => rfl,
   tf_of X G a21 fun _ _ _ _ _ _ us hl => match us, hl with | [_, _], _ => rfl,
   tti_of X G aC2 mk2 kc2 ac51_0 fun _ _ _ _ _ _ us hl => match us, hl with | [_, _, _], _ => rfl,
   ttp_of aC2 ⟨pg2, hd2, po2, sa2⟩ ac51_1 fun _ _ _ _ _ _ us hl => match us, hl with | [_], _ => rfl,
   ttp_of aC2 ⟨pg2, hd2, po2, sa2⟩ ac51_2 fun _ _ _ _ _ _ us hl => match us, hl with | [_], _ => rfl,
   tf_of X G a52 fun _ _ _ _ _ _ us hl => match us, hl with | [_], _ => rfl,
   tf_of X G a53 fun _ _ _ _ _ _ us hl => match us, hl with | [_, _], _ => rfl,
   tf_of X G a54 fun _ _ _ _ _ _ us hl => match us, hl with | [_, _], _ => rfl,
   tf_of X G a55 fun _ _ _ _ _ _ us hl => match us, hl with | [_, _], _ => rfl,
   tf_of X G a56 fun _ _ _ _ _ _ us hl => match us, hl with | [_, _], _ => rfl,
   tf_of X G a57 fun _ _ _ _ _ _ us hl => match us, hl with | [_, _], _ => rfl,
   tf_of X G a58 fun _ _ _ _ _ _ us hl => match us, hl with | [_], _ => rfl,
   tf_of X G a59 fun _ _ _ _ _ _ us hl => match us, hl with | [_], _ => rfl,
   tf_of X G a60 fun _ _ _ _ _ _ us hl => match us, hl with | [_], _ => rfl,
   tf_of X G a66 fun _ _ _ _ _ _ us hl => match us, hl with | [_, _], _ => rfl,
   tf_of X G a80 fun _ _ _ _ _ _ us hl => match us, hl with | [_, _], _ => rfl,
   tf_of X G a81 fun _ _ _ _ _ _ us hl => match us, hl with | [_, _, _], _ => rfl,
   tf_of X G a82 fun _ _ _ _ _ _ us hl => match us, hl with | [_, _, _], _ => rfl,
   tf_of X G a83 fun _ _ _ _ _ _ us hl => match us, hl with | [_], _ => rfl,
   tf_of X G a84 fun _ _ _ _ _ _ us hl => match us, hl with | [_], _ => rfl,
   PySem.W.mg_none_of X G z_len,
   PySem.W.mg_none_of X G z_all,
   PySem.W.mg_none_of X G z_any,
   PySem.W.mg_none_of X G z_abs,
   PySem.W.mg_none_of X G z_int,
   PySem.W.mg_none_of X G z_min,
   PySem.W.mg_none_of X G z_max,
   PySem.W.mg_none_of X G z_tuple,
   PySem.W.mg_none_of X G z_repr,
   PySem.W.mg_none_of X G z_isinstance,
   PySem.W.mg_none_of X G z_str,
   PySem.W.mg_none_of X G z_range,
   PySem.W.mg_none_of X G z_enumerate,
   PySem.W.mg_none_of X G z_sorted,
   PySem.W.mg_none_of X G z_set,
   PySem.W.mg_none_of X G z_list,
   PySem.W.mg_none_of X G z_divmod,
   PySem.W.mg_none_of X G z_dict,
   PySem.W.mg_none_of X G z_bool,
   ⟨tk_MOST_THINGS, PySem.W.mg_of X G c_MOST_THINGS⟩,
   ⟨tk_MOST_ROWS, PySem.W.mg_of X G c_MOST_ROWS⟩,
   ⟨tk_MOST_RULES, PySem.W.mg_of X G c_MOST_RULES⟩,
   kiIB,
   ⟨D, aC2, ⟨pg2, hd2, po2, sa2⟩, q1, q2⟩,
   ⟨D, aC2, ⟨⟨pg2, hd2, po2, sa2⟩, j1, i2, i3, j4, by unfold PySem.W.kitOne; rw [if_pos (beq_self_eq_true _)]⟩, PySem.W.mg_of X G aC2⟩,
   ⟨C, aC, ⟨pg, hd, po, sa⟩, n1, n2, n3⟩,
   ⟨C, aC, ⟨⟨pg, hd, po, sa⟩, i1, i2, i3, i4, by unfold PySem.W.kitOne; rw [if_pos (beq_self_eq_true _)]⟩, PySem.W.mg_of X G aC⟩,
   ⟨C, aC, ne, i4⟩⟩
theorem law_top {P : Program} {w : World} {K : PySem.W.Frag} {h : Heap} {mg : Str → Option Value} {fa C D : Addr} (X : K.In h) (G : h.Ns mainGlobals mg) (hm : mg "law" = some (.ref fa))
    (aC : ClsAt K C) (pg : PySem.W.plainGet K C Str.empty = true) (hd : PySem.W.hasDictIn K C = true) (po : PySem.W.plainOver K C = true) (sa : PySem.W.findIn K (.ref C) "__setattr__" = some (some (.builtin "object.__setattr__"))) (mk : PySem.W.makesIn K C = true) (kc : PySem.W.keepIn K (.ref C) = true) (n1 : PySem.W.findIn K (.ref C) "_things" = some none) (n2 : PySem.W.findIn K (.ref C) "_closed" = some none) (n3 : PySem.W.findIn K (.ref C) "_around" = some none) (i1 : PySem.W.findIn K (.ref C) "__class__" = some (some (.builtin "object.__class__"))) (i2 : PySem.W.specialIn K (.builtin "object.__class__") "__get__" = some (some (.builtin "getset_descriptor.__get__"))) (i3 : PySem.W.takesIn K (.builtin "object.__class__") = some true) (i4 : PySem.W.mroIn K C (.type "object") = some true) (aC2 : TbAt K D) (pg2 : PySem.W.plainGet K D Str.empty = true) (hd2 : PySem.W.hasDictIn K D = true) (po2 : PySem.W.plainOver K D = true) (sa2 : PySem.W.findIn K (.ref D) "__setattr__" = some (some (.builtin "object.__setattr__"))) (mk2 : PySem.W.makesIn K D = true) (kc2 : PySem.W.keepIn K (.ref D) = true) (q1 : PySem.W.findIn K (.ref D) "_things" = some none) (q2 : PySem.W.findIn K (.ref D) "_rows" = some none) (j1 : PySem.W.findIn K (.ref D) "__class__" = some (some (.builtin "object.__class__"))) (j4 : PySem.W.mroIn K D (.type "object") = some true) (kiIB : PySem.W.kitOne K (.type "int") (.type "bool") = some false) (ne : PySem.W.findIn K (.ref C) "__ne__" = some (some (.builtin "object.__ne__")))
    {f16 : Addr} {oc16 kV16 dc16 pm16 cd16 ct16 : Value} {od16 an16 : Option Addr} {sl16 : Array (Option Value)}
    (a16 : PySem.W.nsIn K mainGlobals "is_letter" = some (some (.ref f16))) (l16 : K.lookup f16 = some ⟨oc16, od16, .func (PySem.W.fnOf "is_letter" "is_letter" (defArgs (topS 16)) (defBody (topS 16)) (defScope (topS 16)) .none kV16 dc16 pm16 an16 cd16 ct16), sl16⟩) (c16 : PySem.W.codeIn K cd16 "is_letter" = true) (k16 : PySem.W.keepIn K (.ref f16) = true)
    {f17 : Addr} {oc17 kV17 dc17 pm17 cd17 ct17 : Value} {od17 an17 : Option Addr} {sl17 : Array (Option Value)}
    (a17 : PySem.W.nsIn K mainGlobals "is_word" = some (some (.ref f17))) (l17 : K.lookup f17 = some ⟨oc17, od17, .func (PySem.W.fnOf "is_word" "is_word" (defArgs (topS 17)) (defBody (topS 17)) (defScope (topS 17)) .none kV17 dc17 pm17 an17 cd17 ct17), sl17⟩) (c17 : PySem.W.codeIn K cd17 "is_word" = true) (k17 : PySem.W.keepIn K (.ref f17) = true)
    {f18 : Addr} {oc18 kV18 dc18 pm18 cd18 ct18 : Value} {od18 an18 : Option Addr} {sl18 : Array (Option Value)}
    (a18 : PySem.W.nsIn K mainGlobals "is_any_lot" = some (some (.ref f18))) (l18 : K.lookup f18 = some ⟨oc18, od18, .func (PySem.W.fnOf "is_any_lot" "is_any_lot" (defArgs (topS 18)) (defBody (topS 18)) (defScope (topS 18)) .none kV18 dc18 pm18 an18 cd18 ct18), sl18⟩) (c18 : PySem.W.codeIn K cd18 "is_any_lot" = true) (k18 : PySem.W.keepIn K (.ref f18) = true)
    {f19 : Addr} {oc19 kV19 dc19 pm19 cd19 ct19 : Value} {od19 an19 : Option Addr} {sl19 : Array (Option Value)}
    (a19 : PySem.W.nsIn K mainGlobals "is_things" = some (some (.ref f19))) (l19 : K.lookup f19 = some ⟨oc19, od19, .func (PySem.W.fnOf "is_things" "is_things" (defArgs (topS 19)) (defBody (topS 19)) (defScope (topS 19)) .none kV19 dc19 pm19 an19 cd19 ct19), sl19⟩) (c19 : PySem.W.codeIn K cd19 "is_things" = true) (k19 : PySem.W.keepIn K (.ref f19) = true)
    {f25 : Addr} {oc25 kV25 dc25 pm25 cd25 ct25 : Value} {od25 an25 : Option Addr} {sl25 : Array (Option Value)}
    (a25 : PySem.W.nsIn K mainGlobals "has_all" = some (some (.ref f25))) (l25 : K.lookup f25 = some ⟨oc25, od25, .func (PySem.W.fnOf "has_all" "has_all" (defArgs (topS 25)) (defBody (topS 25)) (defScope (topS 25)) .none kV25 dc25 pm25 an25 cd25 ct25), sl25⟩) (c25 : PySem.W.codeIn K cd25 "has_all" = true) (k25 : PySem.W.keepIn K (.ref f25) = true)
    {f20 : Addr} {oc20 kV20 dc20 pm20 cd20 ct20 : Value} {od20 an20 : Option Addr} {sl20 : Array (Option Value)}
    (a20 : PySem.W.nsIn K mainGlobals "is_lot" = some (some (.ref f20))) (l20 : K.lookup f20 = some ⟨oc20, od20, .func (PySem.W.fnOf "is_lot" "is_lot" (defArgs (topS 20)) (defBody (topS 20)) (defScope (topS 20)) .none kV20 dc20 pm20 an20 cd20 ct20), sl20⟩) (c20 : PySem.W.codeIn K cd20 "is_lot" = true) (k20 : PySem.W.keepIn K (.ref f20) = true)
    {f22 : Addr} {oc22 kV22 dc22 pm22 cd22 ct22 : Value} {od22 an22 : Option Addr} {sl22 : Array (Option Value)}
    (a22 : PySem.W.nsIn K mainGlobals "check_things" = some (some (.ref f22))) (l22 : K.lookup f22 = some ⟨oc22, od22, .func (PySem.W.fnOf "check_things" "check_things" (defArgs (topS 22)) (defBody (topS 22)) (defScope (topS 22)) .none kV22 dc22 pm22 an22 cd22 ct22), sl22⟩) (c22 : PySem.W.codeIn K cd22 "check_things" = true) (k22 : PySem.W.keepIn K (.ref f22) = true)
    {f23 : Addr} {oc23 kV23 dc23 pm23 cd23 ct23 : Value} {od23 an23 : Option Addr} {sl23 : Array (Option Value)}
    (a23 : PySem.W.nsIn K mainGlobals "check_lot" = some (some (.ref f23))) (l23 : K.lookup f23 = some ⟨oc23, od23, .func (PySem.W.fnOf "check_lot" "check_lot" (defArgs (topS 23)) (defBody (topS 23)) (defScope (topS 23)) .none kV23 dc23 pm23 an23 cd23 ct23), sl23⟩) (c23 : PySem.W.codeIn K cd23 "check_lot" = true) (k23 : PySem.W.keepIn K (.ref f23) = true)
    {f24 : Addr} {oc24 kV24 dc24 pm24 cd24 ct24 : Value} {od24 an24 : Option Addr} {sl24 : Array (Option Value)}
    (a24 : PySem.W.nsIn K mainGlobals "first_wrong" = some (some (.ref f24))) (l24 : K.lookup f24 = some ⟨oc24, od24, .func (PySem.W.fnOf "first_wrong" "first_wrong" (defArgs (topS 24)) (defBody (topS 24)) (defScope (topS 24)) .none kV24 dc24 pm24 an24 cd24 ct24), sl24⟩) (c24 : PySem.W.codeIn K cd24 "first_wrong" = true) (k24 : PySem.W.keepIn K (.ref f24) = true)
    {f27 : Addr} {oc27 kV27 dc27 pm27 cd27 ct27 : Value} {od27 an27 : Option Addr} {sl27 : Array (Option Value)}
    (a27 : PySem.W.nsIn K mainGlobals "lots_by_number" = some (some (.ref f27))) (l27 : K.lookup f27 = some ⟨oc27, od27, .func (PySem.W.fnOf "lots_by_number" "lots_by_number" (defArgs (topS 27)) (defBody (topS 27)) (defScope (topS 27)) .none kV27 dc27 pm27 an27 cd27 ct27), sl27⟩) (c27 : PySem.W.codeIn K cd27 "lots_by_number" = true) (k27 : PySem.W.keepIn K (.ref f27) = true)
    {f28 : Addr} {oc28 kV28 dc28 pm28 cd28 ct28 : Value} {od28 an28 : Option Addr} {sl28 : Array (Option Value)}
    (a28 : PySem.W.nsIn K mainGlobals "number_by_lot" = some (some (.ref f28))) (l28 : K.lookup f28 = some ⟨oc28, od28, .func (PySem.W.fnOf "number_by_lot" "number_by_lot" (defArgs (topS 28)) (defBody (topS 28)) (defScope (topS 28)) .none kV28 dc28 pm28 an28 cd28 ct28), sl28⟩) (c28 : PySem.W.codeIn K cd28 "number_by_lot" = true) (k28 : PySem.W.keepIn K (.ref f28) = true)
    {f29 : Addr} {oc29 kV29 dc29 pm29 cd29 ct29 : Value} {od29 an29 : Option Addr} {sl29 : Array (Option Value)}
    (a29 : PySem.W.nsIn K mainGlobals "numbers_of" = some (some (.ref f29))) (l29 : K.lookup f29 = some ⟨oc29, od29, .func (PySem.W.fnOf "numbers_of" "numbers_of" (defArgs (topS 29)) (defBody (topS 29)) (defScope (topS 29)) .none kV29 dc29 pm29 an29 cd29 ct29), sl29⟩) (c29 : PySem.W.codeIn K cd29 "numbers_of" = true) (k29 : PySem.W.keepIn K (.ref f29) = true)
    {f30 : Addr} {oc30 kV30 dc30 pm30 cd30 ct30 : Value} {od30 an30 : Option Addr} {sl30 : Array (Option Value)}
    (a30 : PySem.W.nsIn K mainGlobals "family_of" = some (some (.ref f30))) (l30 : K.lookup f30 = some ⟨oc30, od30, .func (PySem.W.fnOf "family_of" "family_of" (defArgs (topS 30)) (defBody (topS 30)) (defScope (topS 30)) .none kV30 dc30 pm30 an30 cd30 ct30), sl30⟩) (c30 : PySem.W.codeIn K cd30 "family_of" = true) (k30 : PySem.W.keepIn K (.ref f30) = true)
    {f31 : Addr} {oc31 kV31 dc31 pm31 cd31 ct31 : Value} {od31 an31 : Option Addr} {sl31 : Array (Option Value)}
    (a31 : PySem.W.nsIn K mainGlobals "meets_of" = some (some (.ref f31))) (l31 : K.lookup f31 = some ⟨oc31, od31, .func (PySem.W.fnOf "meets_of" "meets_of" (defArgs (topS 31)) (defBody (topS 31)) (defScope (topS 31)) .none kV31 dc31 pm31 an31 cd31 ct31), sl31⟩) (c31 : PySem.W.codeIn K cd31 "meets_of" = true) (k31 : PySem.W.keepIn K (.ref f31) = true)
    {f36 : Addr} {oc36 kV36 dc36 pm36 cd36 ct36 : Value} {od36 an36 : Option Addr} {sl36 : Array (Option Value)}
    (a36 : PySem.W.nsIn K mainGlobals "is_system" = some (some (.ref f36))) (l36 : K.lookup f36 = some ⟨oc36, od36, .func (PySem.W.fnOf "is_system" "is_system" (defArgs (topS 36)) (defBody (topS 36)) (defScope (topS 36)) .none kV36 dc36 pm36 an36 cd36 ct36), sl36⟩) (c36 : PySem.W.codeIn K cd36 "is_system" = true) (k36 : PySem.W.keepIn K (.ref f36) = true)
    {f34 : Addr} {oc34 kV34 dc34 pm34 cd34 ct34 : Value} {od34 an34 : Option Addr} {sl34 : Array (Option Value)}
    (a34 : PySem.W.nsIn K mainGlobals "check_closed" = some (some (.ref f34))) (l34 : K.lookup f34 = some ⟨oc34, od34, .func (PySem.W.fnOf "check_closed" "check_closed" (defArgs (topS 34)) (defBody (topS 34)) (defScope (topS 34)) .none kV34 dc34 pm34 an34 cd34 ct34), sl34⟩) (c34 : PySem.W.codeIn K cd34 "check_closed" = true) (k34 : PySem.W.keepIn K (.ref f34) = true)
    {f38 : Addr} {oc38 kV38 dc38 pm38 cd38 ct38 : Value} {od38 an38 : Option Addr} {sl38 : Array (Option Value)}
    (a38 : PySem.W.nsIn K mainGlobals "first_around" = some (some (.ref f38))) (l38 : K.lookup f38 = some ⟨oc38, od38, .func (PySem.W.fnOf "first_around" "first_around" (defArgs (topS 38)) (defBody (topS 38)) (defScope (topS 38)) .none kV38 dc38 pm38 an38 cd38 ct38), sl38⟩) (c38 : PySem.W.codeIn K cd38 "first_around" = true) (k38 : PySem.W.keepIn K (.ref f38) = true)
    {f37 : Addr} {oc37 kV37 dc37 pm37 cd37 ct37 : Value} {od37 an37 : Option Addr} {sl37 : Array (Option Value)}
    (a37 : PySem.W.nsIn K mainGlobals "lots_around" = some (some (.ref f37))) (l37 : K.lookup f37 = some ⟨oc37, od37, .func (PySem.W.fnOf "lots_around" "lots_around" (defArgs (topS 37)) (defBody (topS 37)) (defScope (topS 37)) .none kV37 dc37 pm37 an37 cd37 ct37), sl37⟩) (c37 : PySem.W.codeIn K cd37 "lots_around" = true) (k37 : PySem.W.keepIn K (.ref f37) = true)
    {fc33_0 : Addr} {occ33_0 kVc33_0 dcc33_0 pmc33_0 cdc33_0 ctc33_0 : Value} {odc33_0 anc33_0 : Option Addr} {slc33_0 : Array (Option Value)}
    (ac33_0 : PySem.W.findIn K (.ref C) "__init__" = some (some (.ref fc33_0))) (bc33_0 : PySem.W.isFn K (.ref fc33_0) = true) (lc33_0 : K.lookup fc33_0 = some ⟨occ33_0, odc33_0, .func (PySem.W.fnOf "__init__" "Closer.__init__" (defArgs (topC 33 0)) (defBody (topC 33 0)) (defScope (topC 33 0)) .none kVc33_0 dcc33_0 pmc33_0 anc33_0 cdc33_0 ctc33_0), slc33_0⟩) (cc33_0 : PySem.W.codeIn K cdc33_0 "Closer.__init__" = true) (kc33_0 : PySem.W.keepIn K (.ref fc33_0) = true)
    {fc33_2 : Addr} {occ33_2 kVc33_2 dcc33_2 pmc33_2 cdc33_2 ctc33_2 : Value} {odc33_2 anc33_2 : Option Addr} {slc33_2 : Array (Option Value)}
    {pc33_2 : Addr} {restc33_2 : List Value} (ac33_2 : PySem.W.findIn K (.ref C) "things" = some (some (.ref pc33_2))) (bc33_2 : PySem.W.specialIn K (.ref pc33_2) "__get__" = some (some (.builtin "property.__get__"))) (tc33_2 : PySem.W.takesIn K (.ref pc33_2) = some true) (rc33_2 : PySem.W.recIn K pc33_2 "property" = some (.ref fc33_2 :: restc33_2)) (lc33_2 : K.lookup fc33_2 = some ⟨occ33_2, odc33_2, .func (PySem.W.fnOf "things" "Closer.things" (defArgs (topC 33 2)) (defBody (topC 33 2)) (defScope (topC 33 2)) .none kVc33_2 dcc33_2 pmc33_2 anc33_2 cdc33_2 ctc33_2), slc33_2⟩) (cc33_2 : PySem.W.codeIn K cdc33_2 "Closer.things" = true) (kc33_2 : PySem.W.keepIn K (.ref fc33_2) = true)
    {fc33_3 : Addr} {occ33_3 kVc33_3 dcc33_3 pmc33_3 cdc33_3 ctc33_3 : Value} {odc33_3 anc33_3 : Option Addr} {slc33_3 : Array (Option Value)}
    {pc33_3 : Addr} {restc33_3 : List Value} (ac33_3 : PySem.W.findIn K (.ref C) "closed" = some (some (.ref pc33_3))) (bc33_3 : PySem.W.specialIn K (.ref pc33_3) "__get__" = some (some (.builtin "property.__get__"))) (tc33_3 : PySem.W.takesIn K (.ref pc33_3) = some true) (rc33_3 : PySem.W.recIn K pc33_3 "property" = some (.ref fc33_3 :: restc33_3)) (lc33_3 : K.lookup fc33_3 = some ⟨occ33_3, odc33_3, .func (PySem.W.fnOf "closed" "Closer.closed" (defArgs (topC 33 3)) (defBody (topC 33 3)) (defScope (topC 33 3)) .none kVc33_3 dcc33_3 pmc33_3 anc33_3 cdc33_3 ctc33_3), slc33_3⟩) (cc33_3 : PySem.W.codeIn K cdc33_3 "Closer.closed" = true) (kc33_3 : PySem.W.keepIn K (.ref fc33_3) = true)
    {fc33_7 : Addr} {occ33_7 kVc33_7 dcc33_7 pmc33_7 cdc33_7 ctc33_7 : Value} {odc33_7 anc33_7 : Option Addr} {slc33_7 : Array (Option Value)}
    (ac33_7 : PySem.W.findIn K (.ref C) "around" = some (some (.ref fc33_7))) (bc33_7 : PySem.W.isFn K (.ref fc33_7) = true) (lc33_7 : K.lookup fc33_7 = some ⟨occ33_7, odc33_7, .func (PySem.W.fnOf "around" "Closer.around" (defArgs (topC 33 7)) (defBody (topC 33 7)) (defScope (topC 33 7)) .none kVc33_7 dcc33_7 pmc33_7 anc33_7 cdc33_7 ctc33_7), slc33_7⟩) (cc33_7 : PySem.W.codeIn K cdc33_7 "Closer.around" = true) (kc33_7 : PySem.W.keepIn K (.ref fc33_7) = true)
    {fc33_6 : Addr} {occ33_6 kVc33_6 dcc33_6 pmc33_6 cdc33_6 ctc33_6 : Value} {odc33_6 anc33_6 : Option Addr} {slc33_6 : Array (Option Value)}
    (ac33_6 : PySem.W.findIn K (.ref C) "__eq__" = some (some (.ref fc33_6))) (bc33_6 : PySem.W.isFn K (.ref fc33_6) = true) (lc33_6 : K.lookup fc33_6 = some ⟨occ33_6, odc33_6, .func (PySem.W.fnOf "__eq__" "Closer.__eq__" (defArgs (topC 33 6)) (defBody (topC 33 6)) (defScope (topC 33 6)) .none kVc33_6 dcc33_6 pmc33_6 anc33_6 cdc33_6 ctc33_6), slc33_6⟩) (cc33_6 : PySem.W.codeIn K cdc33_6 "Closer.__eq__" = true) (kc33_6 : PySem.W.keepIn K (.ref fc33_6) = true)
    {f35 : Addr} {oc35 kV35 dc35 pm35 cd35 ct35 : Value} {od35 an35 : Option Addr} {sl35 : Array (Option Value)}
    (a35 : PySem.W.nsIn K mainGlobals "check_closer" = some (some (.ref f35))) (l35 : K.lookup f35 = some ⟨oc35, od35, .func (PySem.W.fnOf "check_closer" "check_closer" (defArgs (topS 35)) (defBody (topS 35)) (defScope (topS 35)) .none kV35 dc35 pm35 an35 cd35 ct35), sl35⟩) (c35 : PySem.W.codeIn K cd35 "check_closer" = true) (k35 : PySem.W.keepIn K (.ref f35) = true)
    {f42 : Addr} {oc42 kV42 dc42 pm42 cd42 ct42 : Value} {od42 an42 : Option Addr} {sl42 : Array (Option Value)}
    (a42 : PySem.W.nsIn K mainGlobals "is_rule" = some (some (.ref f42))) (l42 : K.lookup f42 = some ⟨oc42, od42, .func (PySem.W.fnOf "is_rule" "is_rule" (defArgs (topS 42)) (defBody (topS 42)) (defScope (topS 42)) .none kV42 dc42 pm42 an42 cd42 ct42), sl42⟩) (c42 : PySem.W.codeIn K cd42 "is_rule" = true) (k42 : PySem.W.keepIn K (.ref f42) = true)
    {f43 : Addr} {oc43 kV43 dc43 pm43 cd43 ct43 : Value} {od43 an43 : Option Addr} {sl43 : Array (Option Value)}
    (a43 : PySem.W.nsIn K mainGlobals "wrong_rule" = some (some (.ref f43))) (l43 : K.lookup f43 = some ⟨oc43, od43, .func (PySem.W.fnOf "wrong_rule" "wrong_rule" (defArgs (topS 43)) (defBody (topS 43)) (defScope (topS 43)) .none kV43 dc43 pm43 an43 cd43 ct43), sl43⟩) (c43 : PySem.W.codeIn K cd43 "wrong_rule" = true) (k43 : PySem.W.keepIn K (.ref f43) = true)
    {f44 : Addr} {oc44 kV44 dc44 pm44 cd44 ct44 : Value} {od44 an44 : Option Addr} {sl44 : Array (Option Value)}
    (a44 : PySem.W.nsIn K mainGlobals "check_book" = some (some (.ref f44))) (l44 : K.lookup f44 = some ⟨oc44, od44, .func (PySem.W.fnOf "check_book" "check_book" (defArgs (topS 44)) (defBody (topS 44)) (defScope (topS 44)) .none kV44 dc44 pm44 an44 cd44 ct44), sl44⟩) (c44 : PySem.W.codeIn K cd44 "check_book" = true) (k44 : PySem.W.keepIn K (.ref f44) = true)
    {f45 : Addr} {oc45 kV45 dc45 pm45 cd45 ct45 : Value} {od45 an45 : Option Addr} {sl45 : Array (Option Value)}
    (a45 : PySem.W.nsIn K mainGlobals "check_rows" = some (some (.ref f45))) (l45 : K.lookup f45 = some ⟨oc45, od45, .func (PySem.W.fnOf "check_rows" "check_rows" (defArgs (topS 45)) (defBody (topS 45)) (defScope (topS 45)) .none kV45 dc45 pm45 an45 cd45 ct45), sl45⟩) (c45 : PySem.W.codeIn K cd45 "check_rows" = true) (k45 : PySem.W.keepIn K (.ref f45) = true)
    {f46 : Addr} {oc46 kV46 dc46 pm46 cd46 ct46 : Value} {od46 an46 : Option Addr} {sl46 : Array (Option Value)}
    (a46 : PySem.W.nsIn K mainGlobals "by_rules" = some (some (.ref f46))) (l46 : K.lookup f46 = some ⟨oc46, od46, .func (PySem.W.fnOf "by_rules" "by_rules" (defArgs (topS 46)) (defBody (topS 46)) (defScope (topS 46)) .none kV46 dc46 pm46 an46 cd46 ct46), sl46⟩) (c46 : PySem.W.codeIn K cd46 "by_rules" = true) (k46 : PySem.W.keepIn K (.ref f46) = true)
    {f47 : Addr} {oc47 kV47 dc47 pm47 cd47 ct47 : Value} {od47 an47 : Option Addr} {sl47 : Array (Option Value)}
    (a47 : PySem.W.nsIn K mainGlobals "by_rows" = some (some (.ref f47))) (l47 : K.lookup f47 = some ⟨oc47, od47, .func (PySem.W.fnOf "by_rows" "by_rows" (defArgs (topS 47)) (defBody (topS 47)) (defScope (topS 47)) .none kV47 dc47 pm47 an47 cd47 ct47), sl47⟩) (c47 : PySem.W.codeIn K cd47 "by_rows" = true) (k47 : PySem.W.keepIn K (.ref f47) = true)
    {f49 : Addr} {oc49 kV49 dc49 pm49 cd49 ct49 : Value} {od49 an49 : Option Addr} {sl49 : Array (Option Value)}
    (a49 : PySem.W.nsIn K mainGlobals "meet_above" = some (some (.ref f49))) (l49 : K.lookup f49 = some ⟨oc49, od49, .func (PySem.W.fnOf "meet_above" "meet_above" (defArgs (topS 49)) (defBody (topS 49)) (defScope (topS 49)) .none kV49 dc49 pm49 an49 cd49 ct49), sl49⟩) (c49 : PySem.W.codeIn K cd49 "meet_above" = true) (k49 : PySem.W.keepIn K (.ref f49) = true)
    {f48 : Addr} {oc48 kV48 dc48 pm48 cd48 ct48 : Value} {od48 an48 : Option Addr} {sl48 : Array (Option Value)}
    (a48 : PySem.W.nsIn K mainGlobals "corners" = some (some (.ref f48))) (l48 : K.lookup f48 = some ⟨oc48, od48, .func (PySem.W.fnOf "corners" "corners" (defArgs (topS 48)) (defBody (topS 48)) (defScope (topS 48)) .none kV48 dc48 pm48 an48 cd48 ct48), sl48⟩) (c48 : PySem.W.codeIn K cd48 "corners" = true) (k48 : PySem.W.keepIn K (.ref f48) = true)
    {f26 : Addr} {oc26 kV26 dc26 pm26 cd26 ct26 : Value} {od26 an26 : Option Addr} {sl26 : Array (Option Value)}
    (a26 : PySem.W.nsIn K mainGlobals "in_both" = some (some (.ref f26))) (l26 : K.lookup f26 = some ⟨oc26, od26, .func (PySem.W.fnOf "in_both" "in_both" (defArgs (topS 26)) (defBody (topS 26)) (defScope (topS 26)) .none kV26 dc26 pm26 an26 cd26 ct26), sl26⟩) (c26 : PySem.W.codeIn K cd26 "in_both" = true) (k26 : PySem.W.keepIn K (.ref f26) = true)
    {f62 : Addr} {oc62 kV62 dc62 pm62 cd62 ct62 : Value} {od62 an62 : Option Addr} {sl62 : Array (Option Value)}
    (a62 : PySem.W.nsIn K mainGlobals "check_rule" = some (some (.ref f62))) (l62 : K.lookup f62 = some ⟨oc62, od62, .func (PySem.W.fnOf "check_rule" "check_rule" (defArgs (topS 62)) (defBody (topS 62)) (defScope (topS 62)) .none kV62 dc62 pm62 an62 cd62 ct62), sl62⟩) (c62 : PySem.W.codeIn K cd62 "check_rule" = true) (k62 : PySem.W.keepIn K (.ref f62) = true)
    {f63 : Addr} {oc63 kV63 dc63 pm63 cd63 ct63 : Value} {od63 an63 : Option Addr} {sl63 : Array (Option Value)}
    (a63 : PySem.W.nsIn K mainGlobals "keeps" = some (some (.ref f63))) (l63 : K.lookup f63 = some ⟨oc63, od63, .func (PySem.W.fnOf "keeps" "keeps" (defArgs (topS 63)) (defBody (topS 63)) (defScope (topS 63)) .none kV63 dc63 pm63 an63 cd63 ct63), sl63⟩) (c63 : PySem.W.codeIn K cd63 "keeps" = true) (k63 : PySem.W.keepIn K (.ref f63) = true)
    {f65 : Addr} {oc65 kV65 dc65 pm65 cd65 ct65 : Value} {od65 an65 : Option Addr} {sl65 : Array (Option Value)}
    (a65 : PySem.W.nsIn K mainGlobals "holds" = some (some (.ref f65))) (l65 : K.lookup f65 = some ⟨oc65, od65, .func (PySem.W.fnOf "holds" "holds" (defArgs (topS 65)) (defBody (topS 65)) (defScope (topS 65)) .none kV65 dc65 pm65 an65 cd65 ct65), sl65⟩) (c65 : PySem.W.codeIn K cd65 "holds" = true) (k65 : PySem.W.keepIn K (.ref f65) = true)
    {f64 : Addr} {oc64 kV64 dc64 pm64 cd64 ct64 : Value} {od64 an64 : Option Addr} {sl64 : Array (Option Value)}
    (a64 : PySem.W.nsIn K mainGlobals "first_broken" = some (some (.ref f64))) (l64 : K.lookup f64 = some ⟨oc64, od64, .func (PySem.W.fnOf "first_broken" "first_broken" (defArgs (topS 64)) (defBody (topS 64)) (defScope (topS 64)) .none kV64 dc64 pm64 an64 cd64 ct64), sl64⟩) (c64 : PySem.W.codeIn K cd64 "first_broken" = true) (k64 : PySem.W.keepIn K (.ref f64) = true)
    {fc33_8 : Addr} {occ33_8 kVc33_8 dcc33_8 pmc33_8 cdc33_8 ctc33_8 : Value} {odc33_8 anc33_8 : Option Addr} {slc33_8 : Array (Option Value)}
    (ac33_8 : PySem.W.findIn K (.ref C) "is_closed" = some (some (.ref fc33_8))) (bc33_8 : PySem.W.isFn K (.ref fc33_8) = true) (lc33_8 : K.lookup fc33_8 = some ⟨occ33_8, odc33_8, .func (PySem.W.fnOf "is_closed" "Closer.is_closed" (defArgs (topC 33 8)) (defBody (topC 33 8)) (defScope (topC 33 8)) .none kVc33_8 dcc33_8 pmc33_8 anc33_8 cdc33_8 ctc33_8), slc33_8⟩) (cc33_8 : PySem.W.codeIn K cdc33_8 "Closer.is_closed" = true) (kc33_8 : PySem.W.keepIn K (.ref fc33_8) = true)
    {f68 : Addr} {oc68 kV68 dc68 pm68 cd68 ct68 : Value} {od68 an68 : Option Addr} {sl68 : Array (Option Value)}
    (a68 : PySem.W.nsIn K mainGlobals "stem_of" = some (some (.ref f68))) (l68 : K.lookup f68 = some ⟨oc68, od68, .func (PySem.W.fnOf "stem_of" "stem_of" (defArgs (topS 68)) (defBody (topS 68)) (defScope (topS 68)) .none kV68 dc68 pm68 an68 cd68 ct68), sl68⟩) (c68 : PySem.W.codeIn K cd68 "stem_of" = true) (k68 : PySem.W.keepIn K (.ref f68) = true)
    {f69 : Addr} {oc69 kV69 dc69 pm69 cd69 ct69 : Value} {od69 an69 : Option Addr} {sl69 : Array (Option Value)}
    (a69 : PySem.W.nsIn K mainGlobals "stem" = some (some (.ref f69))) (l69 : K.lookup f69 = some ⟨oc69, od69, .func (PySem.W.fnOf "stem" "stem" (defArgs (topS 69)) (defBody (topS 69)) (defScope (topS 69)) .none kV69 dc69 pm69 an69 cd69 ct69), sl69⟩) (c69 : PySem.W.codeIn K cd69 "stem" = true) (k69 : PySem.W.keepIn K (.ref f69) = true)
    {fc33_5 : Addr} {occ33_5 kVc33_5 dcc33_5 pmc33_5 cdc33_5 ctc33_5 : Value} {odc33_5 anc33_5 : Option Addr} {slc33_5 : Array (Option Value)}
    (ac33_5 : PySem.W.findIn K (.ref C) "__len__" = some (some (.ref fc33_5))) (bc33_5 : PySem.W.isFn K (.ref fc33_5) = true) (lc33_5 : K.lookup fc33_5 = some ⟨occ33_5, odc33_5, .func (PySem.W.fnOf "__len__" "Closer.__len__" (defArgs (topC 33 5)) (defBody (topC 33 5)) (defScope (topC 33 5)) .none kVc33_5 dcc33_5 pmc33_5 anc33_5 cdc33_5 ctc33_5), slc33_5⟩) (cc33_5 : PySem.W.codeIn K cdc33_5 "Closer.__len__" = true) (kc33_5 : PySem.W.keepIn K (.ref fc33_5) = true)
    {f71 : Addr} {oc71 kV71 dc71 pm71 cd71 ct71 : Value} {od71 an71 : Option Addr} {sl71 : Array (Option Value)}
    (a71 : PySem.W.nsIn K mainGlobals "_law_hopper" = some (some (.ref f71))) (l71 : K.lookup f71 = some ⟨oc71, od71, .func (PySem.W.fnOf "_law_hopper" "_law_hopper" (defArgs (topS 71)) (defBody (topS 71)) (defScope (topS 71)) .none kV71 dc71 pm71 an71 cd71 ct71), sl71⟩) (c71 : PySem.W.codeIn K cd71 "_law_hopper" = true) (k71 : PySem.W.keepIn K (.ref f71) = true)
    {f72 : Addr} {oc72 kV72 dc72 pm72 cd72 ct72 : Value} {od72 an72 : Option Addr} {sl72 : Array (Option Value)}
    (a72 : PySem.W.nsIn K mainGlobals "_law_spill" = some (some (.ref f72))) (l72 : K.lookup f72 = some ⟨oc72, od72, .func (PySem.W.fnOf "_law_spill" "_law_spill" (defArgs (topS 72)) (defBody (topS 72)) (defScope (topS 72)) .none kV72 dc72 pm72 an72 cd72 ct72), sl72⟩) (c72 : PySem.W.codeIn K cd72 "_law_spill" = true) (k72 : PySem.W.keepIn K (.ref f72) = true)
    {f73 : Addr} {oc73 kV73 dc73 pm73 cd73 ct73 : Value} {od73 an73 : Option Addr} {sl73 : Array (Option Value)}
    (a73 : PySem.W.nsIn K mainGlobals "_law_out_of" = some (some (.ref f73))) (l73 : K.lookup f73 = some ⟨oc73, od73, .func (PySem.W.fnOf "_law_out_of" "_law_out_of" (defArgs (topS 73)) (defBody (topS 73)) (defScope (topS 73)) .none kV73 dc73 pm73 an73 cd73 ct73), sl73⟩) (c73 : PySem.W.codeIn K cd73 "_law_out_of" = true) (k73 : PySem.W.keepIn K (.ref f73) = true)
    {f74 : Addr} {oc74 kV74 dc74 pm74 cd74 ct74 : Value} {od74 an74 : Option Addr} {sl74 : Array (Option Value)}
    (a74 : PySem.W.nsIn K mainGlobals "_law_tags" = some (some (.ref f74))) (l74 : K.lookup f74 = some ⟨oc74, od74, .func (PySem.W.fnOf "_law_tags" "_law_tags" (defArgs (topS 74)) (defBody (topS 74)) (defScope (topS 74)) .none kV74 dc74 pm74 an74 cd74 ct74), sl74⟩) (c74 : PySem.W.codeIn K cd74 "_law_tags" = true) (k74 : PySem.W.keepIn K (.ref f74) = true)
    {f75 : Addr} {oc75 kV75 dc75 pm75 cd75 ct75 : Value} {od75 an75 : Option Addr} {sl75 : Array (Option Value)}
    (a75 : PySem.W.nsIn K mainGlobals "_law_bag" = some (some (.ref f75))) (l75 : K.lookup f75 = some ⟨oc75, od75, .func (PySem.W.fnOf "_law_bag" "_law_bag" (defArgs (topS 75)) (defBody (topS 75)) (defScope (topS 75)) .none kV75 dc75 pm75 an75 cd75 ct75), sl75⟩) (c75 : PySem.W.codeIn K cd75 "_law_bag" = true) (k75 : PySem.W.keepIn K (.ref f75) = true)
    {f76 : Addr} {oc76 kV76 dc76 pm76 cd76 ct76 : Value} {od76 an76 : Option Addr} {sl76 : Array (Option Value)}
    (a76 : PySem.W.nsIn K mainGlobals "_law_bags" = some (some (.ref f76))) (l76 : K.lookup f76 = some ⟨oc76, od76, .func (PySem.W.fnOf "_law_bags" "_law_bags" (defArgs (topS 76)) (defBody (topS 76)) (defScope (topS 76)) .none kV76 dc76 pm76 an76 cd76 ct76), sl76⟩) (c76 : PySem.W.codeIn K cd76 "_law_bags" = true) (k76 : PySem.W.keepIn K (.ref f76) = true)
    {f77 : Addr} {oc77 kV77 dc77 pm77 cd77 ct77 : Value} {od77 an77 : Option Addr} {sl77 : Array (Option Value)}
    (a77 : PySem.W.nsIn K mainGlobals "_law_in" = some (some (.ref f77))) (l77 : K.lookup f77 = some ⟨oc77, od77, .func (PySem.W.fnOf "_law_in" "_law_in" (defArgs (topS 77)) (defBody (topS 77)) (defScope (topS 77)) .none kV77 dc77 pm77 an77 cd77 ct77), sl77⟩) (c77 : PySem.W.codeIn K cd77 "_law_in" = true) (k77 : PySem.W.keepIn K (.ref f77) = true)
    {f78 : Addr} {oc78 kV78 dc78 pm78 cd78 ct78 : Value} {od78 an78 : Option Addr} {sl78 : Array (Option Value)}
    (a78 : PySem.W.nsIn K mainGlobals "_law_both" = some (some (.ref f78))) (l78 : K.lookup f78 = some ⟨oc78, od78, .func (PySem.W.fnOf "_law_both" "_law_both" (defArgs (topS 78)) (defBody (topS 78)) (defScope (topS 78)) .none kV78 dc78 pm78 an78 cd78 ct78), sl78⟩) (c78 : PySem.W.codeIn K cd78 "_law_both" = true) (k78 : PySem.W.keepIn K (.ref f78) = true)
    {f79 : Addr} {oc79 kV79 dc79 pm79 cd79 ct79 : Value} {od79 an79 : Option Addr} {sl79 : Array (Option Value)}
    (a79 : PySem.W.nsIn K mainGlobals "_law_met" = some (some (.ref f79))) (l79 : K.lookup f79 = some ⟨oc79, od79, .func (PySem.W.fnOf "_law_met" "_law_met" (defArgs (topS 79)) (defBody (topS 79)) (defScope (topS 79)) .none kV79 dc79 pm79 an79 cd79 ct79), sl79⟩) (c79 : PySem.W.codeIn K cd79 "_law_met" = true) (k79 : PySem.W.keepIn K (.ref f79) = true)
    {f21 : Addr} {oc21 kV21 dc21 pm21 cd21 ct21 : Value} {od21 an21 : Option Addr} {sl21 : Array (Option Value)}
    (a21 : PySem.W.nsIn K mainGlobals "is_number" = some (some (.ref f21))) (l21 : K.lookup f21 = some ⟨oc21, od21, .func (PySem.W.fnOf "is_number" "is_number" (defArgs (topS 21)) (defBody (topS 21)) (defScope (topS 21)) .none kV21 dc21 pm21 an21 cd21 ct21), sl21⟩) (c21 : PySem.W.codeIn K cd21 "is_number" = true) (k21 : PySem.W.keepIn K (.ref f21) = true)
    {fc51_0 : Addr} {occ51_0 kVc51_0 dcc51_0 pmc51_0 cdc51_0 ctc51_0 : Value} {odc51_0 anc51_0 : Option Addr} {slc51_0 : Array (Option Value)}
    (ac51_0 : PySem.W.findIn K (.ref D) "__init__" = some (some (.ref fc51_0))) (bc51_0 : PySem.W.isFn K (.ref fc51_0) = true) (lc51_0 : K.lookup fc51_0 = some ⟨occ51_0, odc51_0, .func (PySem.W.fnOf "__init__" "Table.__init__" (defArgs (topC 51 0)) (defBody (topC 51 0)) (defScope (topC 51 0)) .none kVc51_0 dcc51_0 pmc51_0 anc51_0 cdc51_0 ctc51_0), slc51_0⟩) (cc51_0 : PySem.W.codeIn K cdc51_0 "Table.__init__" = true) (kc51_0 : PySem.W.keepIn K (.ref fc51_0) = true)
    {fc51_1 : Addr} {occ51_1 kVc51_1 dcc51_1 pmc51_1 cdc51_1 ctc51_1 : Value} {odc51_1 anc51_1 : Option Addr} {slc51_1 : Array (Option Value)}
    {pc51_1 : Addr} {restc51_1 : List Value} (ac51_1 : PySem.W.findIn K (.ref D) "things" = some (some (.ref pc51_1))) (bc51_1 : PySem.W.specialIn K (.ref pc51_1) "__get__" = some (some (.builtin "property.__get__"))) (tc51_1 : PySem.W.takesIn K (.ref pc51_1) = some true) (rc51_1 : PySem.W.recIn K pc51_1 "property" = some (.ref fc51_1 :: restc51_1)) (lc51_1 : K.lookup fc51_1 = some ⟨occ51_1, odc51_1, .func (PySem.W.fnOf "things" "Table.things" (defArgs (topC 51 1)) (defBody (topC 51 1)) (defScope (topC 51 1)) .none kVc51_1 dcc51_1 pmc51_1 anc51_1 cdc51_1 ctc51_1), slc51_1⟩) (cc51_1 : PySem.W.codeIn K cdc51_1 "Table.things" = true) (kc51_1 : PySem.W.keepIn K (.ref fc51_1) = true)
    {fc51_2 : Addr} {occ51_2 kVc51_2 dcc51_2 pmc51_2 cdc51_2 ctc51_2 : Value} {odc51_2 anc51_2 : Option Addr} {slc51_2 : Array (Option Value)}
    {pc51_2 : Addr} {restc51_2 : List Value} (ac51_2 : PySem.W.findIn K (.ref D) "rows" = some (some (.ref pc51_2))) (bc51_2 : PySem.W.specialIn K (.ref pc51_2) "__get__" = some (some (.builtin "property.__get__"))) (tc51_2 : PySem.W.takesIn K (.ref pc51_2) = some true) (rc51_2 : PySem.W.recIn K pc51_2 "property" = some (.ref fc51_2 :: restc51_2)) (lc51_2 : K.lookup fc51_2 = some ⟨occ51_2, odc51_2, .func (PySem.W.fnOf "rows" "Table.rows" (defArgs (topC 51 2)) (defBody (topC 51 2)) (defScope (topC 51 2)) .none kVc51_2 dcc51_2 pmc51_2 anc51_2 cdc51_2 ctc51_2), slc51_2⟩) (cc51_2 : PySem.W.codeIn K cdc51_2 "Table.rows" = true) (kc51_2 : PySem.W.keepIn K (.ref fc51_2) = true)
    {f52 : Addr} {oc52 kV52 dc52 pm52 cd52 ct52 : Value} {od52 an52 : Option Addr} {sl52 : Array (Option Value)}
    (a52 : PySem.W.nsIn K mainGlobals "check_table" = some (some (.ref f52))) (l52 : K.lookup f52 = some ⟨oc52, od52, .func (PySem.W.fnOf "check_table" "check_table" (defArgs (topS 52)) (defBody (topS 52)) (defScope (topS 52)) .none kV52 dc52 pm52 an52 cd52 ct52), sl52⟩) (c52 : PySem.W.codeIn K cd52 "check_table" = true) (k52 : PySem.W.keepIn K (.ref f52) = true)
    {f53 : Addr} {oc53 kV53 dc53 pm53 cd53 ct53 : Value} {od53 an53 : Option Addr} {sl53 : Array (Option Value)}
    (a53 : PySem.W.nsIn K mainGlobals "check_numbers" = some (some (.ref f53))) (l53 : K.lookup f53 = some ⟨oc53, od53, .func (PySem.W.fnOf "check_numbers" "check_numbers" (defArgs (topS 53)) (defBody (topS 53)) (defScope (topS 53)) .none kV53 dc53 pm53 an53 cd53 ct53), sl53⟩) (c53 : PySem.W.codeIn K cd53 "check_numbers" = true) (k53 : PySem.W.keepIn K (.ref f53) = true)
    {f54 : Addr} {oc54 kV54 dc54 pm54 cd54 ct54 : Value} {od54 an54 : Option Addr} {sl54 : Array (Option Value)}
    (a54 : PySem.W.nsIn K mainGlobals "shared_by" = some (some (.ref f54))) (l54 : K.lookup f54 = some ⟨oc54, od54, .func (PySem.W.fnOf "shared_by" "shared_by" (defArgs (topS 54)) (defBody (topS 54)) (defScope (topS 54)) .none kV54 dc54 pm54 an54 cd54 ct54), sl54⟩) (c54 : PySem.W.codeIn K cd54 "shared_by" = true) (k54 : PySem.W.keepIn K (.ref f54) = true)
    {f55 : Addr} {oc55 kV55 dc55 pm55 cd55 ct55 : Value} {od55 an55 : Option Addr} {sl55 : Array (Option Value)}
    (a55 : PySem.W.nsIn K mainGlobals "owners_of" = some (some (.ref f55))) (l55 : K.lookup f55 = some ⟨oc55, od55, .func (PySem.W.fnOf "owners_of" "owners_of" (defArgs (topS 55)) (defBody (topS 55)) (defScope (topS 55)) .none kV55 dc55 pm55 an55 cd55 ct55), sl55⟩) (c55 : PySem.W.codeIn K cd55 "owners_of" = true) (k55 : PySem.W.keepIn K (.ref f55) = true)
    {f56 : Addr} {oc56 kV56 dc56 pm56 cd56 ct56 : Value} {od56 an56 : Option Addr} {sl56 : Array (Option Value)}
    (a56 : PySem.W.nsIn K mainGlobals "shared_marks" = some (some (.ref f56))) (l56 : K.lookup f56 = some ⟨oc56, od56, .func (PySem.W.fnOf "shared_marks" "shared_marks" (defArgs (topS 56)) (defBody (topS 56)) (defScope (topS 56)) .none kV56 dc56 pm56 an56 cd56 ct56), sl56⟩) (c56 : PySem.W.codeIn K cd56 "shared_marks" = true) (k56 : PySem.W.keepIn K (.ref f56) = true)
    {f57 : Addr} {oc57 kV57 dc57 pm57 cd57 ct57 : Value} {od57 an57 : Option Addr} {sl57 : Array (Option Value)}
    (a57 : PySem.W.nsIn K mainGlobals "owners" = some (some (.ref f57))) (l57 : K.lookup f57 = some ⟨oc57, od57, .func (PySem.W.fnOf "owners" "owners" (defArgs (topS 57)) (defBody (topS 57)) (defScope (topS 57)) .none kV57 dc57 pm57 an57 cd57 ct57), sl57⟩) (c57 : PySem.W.codeIn K cd57 "owners" = true) (k57 : PySem.W.keepIn K (.ref f57) = true)
    {f58 : Addr} {oc58 kV58 dc58 pm58 cd58 ct58 : Value} {od58 an58 : Option Addr} {sl58 : Array (Option Value)}
    (a58 : PySem.W.nsIn K mainGlobals "concepts" = some (some (.ref f58))) (l58 : K.lookup f58 = some ⟨oc58, od58, .func (PySem.W.fnOf "concepts" "concepts" (defArgs (topS 58)) (defBody (topS 58)) (defScope (topS 58)) .none kV58 dc58 pm58 an58 cd58 ct58), sl58⟩) (c58 : PySem.W.codeIn K cd58 "concepts" = true) (k58 : PySem.W.keepIn K (.ref f58) = true)
    {f59 : Addr} {oc59 kV59 dc59 pm59 cd59 ct59 : Value} {od59 an59 : Option Addr} {sl59 : Array (Option Value)}
    (a59 : PySem.W.nsIn K mainGlobals "closer_of" = some (some (.ref f59))) (l59 : K.lookup f59 = some ⟨oc59, od59, .func (PySem.W.fnOf "closer_of" "closer_of" (defArgs (topS 59)) (defBody (topS 59)) (defScope (topS 59)) .none kV59 dc59 pm59 an59 cd59 ct59), sl59⟩) (c59 : PySem.W.codeIn K cd59 "closer_of" = true) (k59 : PySem.W.keepIn K (.ref f59) = true)
    {f60 : Addr} {oc60 kV60 dc60 pm60 cd60 ct60 : Value} {od60 an60 : Option Addr} {sl60 : Array (Option Value)}
    (a60 : PySem.W.nsIn K mainGlobals "least_table" = some (some (.ref f60))) (l60 : K.lookup f60 = some ⟨oc60, od60, .func (PySem.W.fnOf "least_table" "least_table" (defArgs (topS 60)) (defBody (topS 60)) (defScope (topS 60)) .none kV60 dc60 pm60 an60 cd60 ct60), sl60⟩) (c60 : PySem.W.codeIn K cd60 "least_table" = true) (k60 : PySem.W.keepIn K (.ref f60) = true)
    {f66 : Addr} {oc66 kV66 dc66 pm66 cd66 ct66 : Value} {od66 an66 : Option Addr} {sl66 : Array (Option Value)}
    (a66 : PySem.W.nsIn K mainGlobals "breaker" = some (some (.ref f66))) (l66 : K.lookup f66 = some ⟨oc66, od66, .func (PySem.W.fnOf "breaker" "breaker" (defArgs (topS 66)) (defBody (topS 66)) (defScope (topS 66)) .none kV66 dc66 pm66 an66 cd66 ct66), sl66⟩) (c66 : PySem.W.codeIn K cd66 "breaker" = true) (k66 : PySem.W.keepIn K (.ref f66) = true)
    {f80 : Addr} {oc80 kV80 dc80 pm80 cd80 ct80 : Value} {od80 an80 : Option Addr} {sl80 : Array (Option Value)}
    (a80 : PySem.W.nsIn K mainGlobals "_law_own" = some (some (.ref f80))) (l80 : K.lookup f80 = some ⟨oc80, od80, .func (PySem.W.fnOf "_law_own" "_law_own" (defArgs (topS 80)) (defBody (topS 80)) (defScope (topS 80)) .none kV80 dc80 pm80 an80 cd80 ct80), sl80⟩) (c80 : PySem.W.codeIn K cd80 "_law_own" = true) (k80 : PySem.W.keepIn K (.ref f80) = true)
    {f81 : Addr} {oc81 kV81 dc81 pm81 cd81 ct81 : Value} {od81 an81 : Option Addr} {sl81 : Array (Option Value)}
    (a81 : PySem.W.nsIn K mainGlobals "_law_shared" = some (some (.ref f81))) (l81 : K.lookup f81 = some ⟨oc81, od81, .func (PySem.W.fnOf "_law_shared" "_law_shared" (defArgs (topS 81)) (defBody (topS 81)) (defScope (topS 81)) .none kV81 dc81 pm81 an81 cd81 ct81), sl81⟩) (c81 : PySem.W.codeIn K cd81 "_law_shared" = true) (k81 : PySem.W.keepIn K (.ref f81) = true)
    {f82 : Addr} {oc82 kV82 dc82 pm82 cd82 ct82 : Value} {od82 an82 : Option Addr} {sl82 : Array (Option Value)}
    (a82 : PySem.W.nsIn K mainGlobals "_law_rule_right" = some (some (.ref f82))) (l82 : K.lookup f82 = some ⟨oc82, od82, .func (PySem.W.fnOf "_law_rule_right" "_law_rule_right" (defArgs (topS 82)) (defBody (topS 82)) (defScope (topS 82)) .none kV82 dc82 pm82 an82 cd82 ct82), sl82⟩) (c82 : PySem.W.codeIn K cd82 "_law_rule_right" = true) (k82 : PySem.W.keepIn K (.ref f82) = true)
    {f83 : Addr} {oc83 kV83 dc83 pm83 cd83 ct83 : Value} {od83 an83 : Option Addr} {sl83 : Array (Option Value)}
    (a83 : PySem.W.nsIn K mainGlobals "_law_right" = some (some (.ref f83))) (l83 : K.lookup f83 = some ⟨oc83, od83, .func (PySem.W.fnOf "_law_right" "_law_right" (defArgs (topS 83)) (defBody (topS 83)) (defScope (topS 83)) .none kV83 dc83 pm83 an83 cd83 ct83), sl83⟩) (c83 : PySem.W.codeIn K cd83 "_law_right" = true) (k83 : PySem.W.keepIn K (.ref f83) = true)
    {f84 : Addr} {oc84 kV84 dc84 pm84 cd84 ct84 : Value} {od84 an84 : Option Addr} {sl84 : Array (Option Value)}
    (a84 : PySem.W.nsIn K mainGlobals "law" = some (some (.ref f84))) (l84 : K.lookup f84 = some ⟨oc84, od84, .func (PySem.W.fnOf "law" "law" (defArgs (topS 84)) (defBody (topS 84)) (defScope (topS 84)) .none kV84 dc84 pm84 an84 cd84 ct84), sl84⟩) (c84 : PySem.W.codeIn K cd84 "law" = true) (k84 : PySem.W.keepIn K (.ref f84) = true)
    (z_len : PySem.W.nsIn K mainGlobals "len" = some none)
    (z_all : PySem.W.nsIn K mainGlobals "all" = some none)
    (z_any : PySem.W.nsIn K mainGlobals "any" = some none)
    (z_abs : PySem.W.nsIn K mainGlobals "abs" = some none)
    (z_int : PySem.W.nsIn K mainGlobals "int" = some none)
    (z_min : PySem.W.nsIn K mainGlobals "min" = some none)
    (z_max : PySem.W.nsIn K mainGlobals "max" = some none)
    (z_tuple : PySem.W.nsIn K mainGlobals "tuple" = some none)
    (z_repr : PySem.W.nsIn K mainGlobals "repr" = some none)
    (z_isinstance : PySem.W.nsIn K mainGlobals "isinstance" = some none)
    (z_str : PySem.W.nsIn K mainGlobals "str" = some none)
    (z_range : PySem.W.nsIn K mainGlobals "range" = some none)
    (z_enumerate : PySem.W.nsIn K mainGlobals "enumerate" = some none)
    (z_sorted : PySem.W.nsIn K mainGlobals "sorted" = some none)
    (z_set : PySem.W.nsIn K mainGlobals "set" = some none)
    (z_list : PySem.W.nsIn K mainGlobals "list" = some none)
    (z_divmod : PySem.W.nsIn K mainGlobals "divmod" = some none)
    (z_dict : PySem.W.nsIn K mainGlobals "dict" = some none)
    (z_bool : PySem.W.nsIn K mainGlobals "bool" = some none)
    {tk_MOST_THINGS : Tok} (c_MOST_THINGS : PySem.W.nsIn K mainGlobals "MOST_THINGS" = some (some (.int 7 tk_MOST_THINGS)))
    {tk_MOST_ROWS : Tok} (c_MOST_ROWS : PySem.W.nsIn K mainGlobals "MOST_ROWS" = some (some (.int 60 tk_MOST_ROWS)))
    {tk_MOST_RULES : Tok} (c_MOST_RULES : PySem.W.nsIn K mainGlobals "MOST_RULES" = some (some (.int 200 tk_MOST_RULES)))
    : ∃ fd : FuncData, (∀ (s : Shared) (v : Value), BindsTo s fd ⟨[v], []⟩ [("_law_script", v)]) ∧ ∀ b : Heap, K.In b → b.Ns mainGlobals mg → GnOk P w K mg b 12 fa fd ["_law_script"] (spF K m_law) := by
  obtain ⟨fd, h1, h2⟩ := law_df (P := P) (w := w) (top_mk X G aC pg hd po sa mk kc n1 n2 n3 i1 i2 i3 i4 aC2 pg2 hd2 po2 sa2 mk2 kc2 q1 q2 j1 j4 kiIB ne ⟨_, _, _, _, _, _, _, _, _, _, a16, l16, c16, k16⟩ ⟨_, _, _, _, _, _, _, _, _, _, a17, l17, c17, k17⟩ ⟨_, _, _, _, _, _, _, _, _, _, a18, l18, c18, k18⟩ ⟨_, _, _, _, _, _, _, _, _, _, a19, l19, c19, k19⟩ ⟨_, _, _, _, _, _, _, _, _, _, a25, l25, c25, k25⟩ ⟨_, _, _, _, _, _, _, _, _, _, a20, l20, c20, k20⟩ ⟨_, _, _, _, _, _, _, _, _, _, a22, l22, c22, k22⟩ ⟨_, _, _, _, _, _, _, _, _, _, a23, l23, c23, k23⟩ ⟨_, _, _, _, _, _, _, _, _, _, a24, l24, c24, k24⟩ ⟨_, _, _, _, _, _, _, _, _, _, a27, l27, c27, k27⟩ ⟨_, _, _, _, _, _, _, _, _, _, a28, l28, c28, k28⟩ ⟨_, _, _, _, _, _, _, _, _, _, a29, l29, c29, k29⟩ ⟨_, _, _, _, _, _, _, _, _, _, a30, l30, c30, k30⟩ ⟨_, _, _, _, _, _, _, _, _, _, a31, l31, c31, k31⟩ ⟨_, _, _, _, _, _, _, _, _, _, a36, l36, c36, k36⟩ ⟨_, _, _, _, _, _, _, _, _, _, a34, l34, c34, k34⟩ ⟨_, _, _, _, _, _, _, _, _, _, a38, l38, c38, k38⟩ ⟨_, _, _, _, _, _, _, _, _, _, a37, l37, c37, k37⟩ ⟨_, _, _, _, _, _, _, _, _, _, ac33_0, bc33_0, lc33_0, cc33_0, kc33_0⟩ ⟨_, _, _, _, _, _, _, _, _, _, _, _, ac33_2, bc33_2, tc33_2, rc33_2, lc33_2, cc33_2, kc33_2⟩ ⟨_, _, _, _, _, _, _, _, _, _, _, _, ac33_3, bc33_3, tc33_3, rc33_3, lc33_3, cc33_3, kc33_3⟩ ⟨_, _, _, _, _, _, _, _, _, _, ac33_7, bc33_7, lc33_7, cc33_7, kc33_7⟩ ⟨_, _, _, _, _, _, _, _, _, _, ac33_6, bc33_6, lc33_6, cc33_6, kc33_6⟩ ⟨_, _, _, _, _, _, _, _, _, _, a35, l35, c35, k35⟩ ⟨_, _, _, _, _, _, _, _, _, _, a42, l42, c42, k42⟩ ⟨_, _, _, _, _, _, _, _, _, _, a43, l43, c43, k43⟩ ⟨_, _, _, _, _, _, _, _, _, _, a44, l44, c44, k44⟩ ⟨_, _, _, _, _, _, _, _, _, _, a45, l45, c45, k45⟩ ⟨_, _, _, _, _, _, _, _, _, _, a46, l46, c46, k46⟩ ⟨_, _, _, _, _, _, _, _, _, _, a47, l47, c47, k47⟩ ⟨_, _, _, _, _, _, _, _, _, _, a49, l49, c49, k49⟩ ⟨_, _, _, _, _, _, _, _, _, _, a48, l48, c48, k48⟩ ⟨_, _, _, _, _, _, _, _, _, _, a26, l26, c26, k26⟩ ⟨_, _, _, _, _, _, _, _, _, _, a62, l62, c62, k62⟩ ⟨_, _, _, _, _, _, _, _, _, _, a63, l63, c63, k63⟩ ⟨_, _, _, _, _, _, _, _, _, _, a65, l65, c65, k65⟩ ⟨_, _, _, _, _, _, _, _, _, _, a64, l64, c64, k64⟩ ⟨_, _, _, _, _, _, _, _, _, _, ac33_8, bc33_8, lc33_8, cc33_8, kc33_8⟩ ⟨_, _, _, _, _, _, _, _, _, _, a68, l68, c68, k68⟩ ⟨_, _, _, _, _, _, _, _, _, _, a69, l69, c69, k69⟩ ⟨_, _, _, _, _, _, _, _, _, _, ac33_5, bc33_5, lc33_5, cc33_5, kc33_5⟩ ⟨_, _, _, _, _, _, _, _, _, _, a71, l71, c71, k71⟩ ⟨_, _, _, _, _, _, _, _, _, _, a72, l72, c72, k72⟩ ⟨_, _, _, _, _, _, _, _, _, _, a73, l73, c73, k73⟩ ⟨_, _, _, _, _, _, _, _, _, _, a74, l74, c74, k74⟩ ⟨_, _, _, _, _, _, _, _, _, _, a75, l75, c75, k75⟩ ⟨_, _, _, _, _, _, _, _, _, _, a76, l76, c76, k76⟩ ⟨_, _, _, _, _, _, _, _, _, _, a77, l77, c77, k77⟩ ⟨_, _, _, _, _, _, _, _, _, _, a78, l78, c78, k78⟩ ⟨_, _, _, _, _, _, _, _, _, _, a79, l79, c79, k79⟩ ⟨_, _, _, _, _, _, _, _, _, _, a21, l21, c21, k21⟩ ⟨_, _, _, _, _, _, _, _, _, _, ac51_0, bc51_0, lc51_0, cc51_0, kc51_0⟩ ⟨_, _, _, _, _, _, _, _, _, _, _, _, ac51_1, bc51_1, tc51_1, rc51_1, lc51_1, cc51_1, kc51_1⟩ ⟨_, _, _, _, _, _, _, _, _, _, _, _, ac51_2, bc51_2, tc51_2, rc51_2, lc51_2, cc51_2, kc51_2⟩ ⟨_, _, _, _, _, _, _, _, _, _, a52, l52, c52, k52⟩ ⟨_, _, _, _, _, _, _, _, _, _, a53, l53, c53, k53⟩ ⟨_, _, _, _, _, _, _, _, _, _, a54, l54, c54, k54⟩ ⟨_, _, _, _, _, _, _, _, _, _, a55, l55, c55, k55⟩ ⟨_, _, _, _, _, _, _, _, _, _, a56, l56, c56, k56⟩ ⟨_, _, _, _, _, _, _, _, _, _, a57, l57, c57, k57⟩ ⟨_, _, _, _, _, _, _, _, _, _, a58, l58, c58, k58⟩ ⟨_, _, _, _, _, _, _, _, _, _, a59, l59, c59, k59⟩ ⟨_, _, _, _, _, _, _, _, _, _, a60, l60, c60, k60⟩ ⟨_, _, _, _, _, _, _, _, _, _, a66, l66, c66, k66⟩ ⟨_, _, _, _, _, _, _, _, _, _, a80, l80, c80, k80⟩ ⟨_, _, _, _, _, _, _, _, _, _, a81, l81, c81, k81⟩ ⟨_, _, _, _, _, _, _, _, _, _, a82, l82, c82, k82⟩ ⟨_, _, _, _, _, _, _, _, _, _, a83, l83, c83, k83⟩ ⟨_, _, _, _, _, _, _, _, _, _, a84, l84, c84, k84⟩ z_len z_all z_any z_abs z_int z_min z_max z_tuple z_repr z_isinstance z_str z_range z_enumerate z_sorted z_set z_list z_divmod z_dict z_bool c_MOST_THINGS c_MOST_ROWS c_MOST_RULES) hm
  exact ⟨fd, h1, fun b _ _ => h2 b⟩
end K73
open PySem PySem.W PyProof.Rows
set_option maxHeartbeats 0 in
theorem PySem.Challenge.cw_closerworks_k73_whole_rules_in_tables_holds : PySem.Challenge.rw_closerworks_k73_whole_rules_in_tables.Holds := by
  w_on; o_law; k_head; (case hw => w_witness2)
  k_fill
  refine Vx.vwalk (l := PySem.Challenge.rw_closerworks_k73_whole_rules_in_tables) (n := 63) (k := 12) (x := "_law_script") (m := K73.m_law) rfl (by decide) rfl ⟨rfl, by decide, by decide⟩ (fun w h Y => PySem.W.kIn_of Y) ?F K73.ans
  case F =>
    intro w mg fa h KX G hmg
    refine' K73.law_top KX G hmg ?aC ?pg ?hd ?po ?sa ?mk ?kc ?n1 ?n2 ?n3 ?i1 ?i2 ?i3 ?i4 ?aC2 ?pg2 ?hd2 ?po2 ?sa2 ?mk2 ?kc2 ?q1 ?q2 ?j1 ?j4 ?kiIB ?ne ?a16 ?l16 ?c16 ?k16 ?a17 ?l17 ?c17 ?k17 ?a18 ?l18 ?c18 ?k18 ?a19 ?l19 ?c19 ?k19 ?a25 ?l25 ?c25 ?k25 ?a20 ?l20 ?c20 ?k20 ?a22 ?l22 ?c22 ?k22 ?a23 ?l23 ?c23 ?k23 ?a24 ?l24 ?c24 ?k24 ?a27 ?l27 ?c27 ?k27 ?a28 ?l28 ?c28 ?k28 ?a29 ?l29 ?c29 ?k29 ?a30 ?l30 ?c30 ?k30 ?a31 ?l31 ?c31 ?k31 ?a36 ?l36 ?c36 ?k36 ?a34 ?l34 ?c34 ?k34 ?a38 ?l38 ?c38 ?k38 ?a37 ?l37 ?c37 ?k37 ?ac33_0 ?bc33_0 ?lc33_0 ?cc33_0 ?kc33_0 ?ac33_2 ?bc33_2 ?tc33_2 ?rc33_2 ?lc33_2 ?cc33_2 ?kc33_2 ?ac33_3 ?bc33_3 ?tc33_3 ?rc33_3 ?lc33_3 ?cc33_3 ?kc33_3 ?ac33_7 ?bc33_7 ?lc33_7 ?cc33_7 ?kc33_7 ?ac33_6 ?bc33_6 ?lc33_6 ?cc33_6 ?kc33_6 ?a35 ?l35 ?c35 ?k35 ?a42 ?l42 ?c42 ?k42 ?a43 ?l43 ?c43 ?k43 ?a44 ?l44 ?c44 ?k44 ?a45 ?l45 ?c45 ?k45 ?a46 ?l46 ?c46 ?k46 ?a47 ?l47 ?c47 ?k47 ?a49 ?l49 ?c49 ?k49 ?a48 ?l48 ?c48 ?k48 ?a26 ?l26 ?c26 ?k26 ?a62 ?l62 ?c62 ?k62 ?a63 ?l63 ?c63 ?k63 ?a65 ?l65 ?c65 ?k65 ?a64 ?l64 ?c64 ?k64 ?ac33_8 ?bc33_8 ?lc33_8 ?cc33_8 ?kc33_8 ?a68 ?l68 ?c68 ?k68 ?a69 ?l69 ?c69 ?k69 ?ac33_5 ?bc33_5 ?lc33_5 ?cc33_5 ?kc33_5 ?a71 ?l71 ?c71 ?k71 ?a72 ?l72 ?c72 ?k72 ?a73 ?l73 ?c73 ?k73 ?a74 ?l74 ?c74 ?k74 ?a75 ?l75 ?c75 ?k75 ?a76 ?l76 ?c76 ?k76 ?a77 ?l77 ?c77 ?k77 ?a78 ?l78 ?c78 ?k78 ?a79 ?l79 ?c79 ?k79 ?a21 ?l21 ?c21 ?k21 ?ac51_0 ?bc51_0 ?lc51_0 ?cc51_0 ?kc51_0 ?ac51_1 ?bc51_1 ?tc51_1 ?rc51_1 ?lc51_1 ?cc51_1 ?kc51_1 ?ac51_2 ?bc51_2 ?tc51_2 ?rc51_2 ?lc51_2 ?cc51_2 ?kc51_2 ?a52 ?l52 ?c52 ?k52 ?a53 ?l53 ?c53 ?k53 ?a54 ?l54 ?c54 ?k54 ?a55 ?l55 ?c55 ?k55 ?a56 ?l56 ?c56 ?k56 ?a57 ?l57 ?c57 ?k57 ?a58 ?l58 ?c58 ?k58 ?a59 ?l59 ?c59 ?k59 ?a60 ?l60 ?c60 ?k60 ?a66 ?l66 ?c66 ?k66 ?a80 ?l80 ?c80 ?k80 ?a81 ?l81 ?c81 ?k81 ?a82 ?l82 ?c82 ?k82 ?a83 ?l83 ?c83 ?k83 ?a84 ?l84 ?c84 ?k84 ?z_len ?z_all ?z_any ?z_abs ?z_int ?z_min ?z_max ?z_tuple ?z_repr ?z_isinstance ?z_str ?z_range ?z_enumerate ?z_sorted ?z_set ?z_list ?z_divmod ?z_dict ?z_bool ?c_MOST_THINGS ?c_MOST_ROWS ?c_MOST_RULES
    (case aC => show PySem.W.nsIn _ _ _ = _; k_is)
    (case pg => k_is)
    (case hd => k_is)
    (case po => k_is)
    (case sa => k_is)
    (case mk => k_is)
    (case kc => k_is)
    (case n1 => k_is)
    (case n2 => k_is)
    (case n3 => k_is)
    (case i1 => k_is)
    (case i2 => k_is)
    (case i3 => k_is)
    (case i4 => k_is)
    (case aC2 => show PySem.W.nsIn _ _ _ = _; k_is)
    (case pg2 => k_is)
    (case hd2 => k_is)
    (case po2 => k_is)
    (case sa2 => k_is)
    (case mk2 => k_is)
    (case kc2 => k_is)
    (case q1 => k_is)
    (case q2 => k_is)
    (case j1 => k_is)
    (case j4 => k_is)
    (case kiIB => kit_is)
    (case ne => k_is)
    (case a16 => k_is)
    (case l16 => k_is)
    (case c16 => k_is)
    (case k16 => k_is)
    (case a17 => k_is)
    (case l17 => k_is)
    (case c17 => k_is)
    (case k17 => k_is)
    (case a18 => k_is)
    (case l18 => k_is)
    (case c18 => k_is)
    (case k18 => k_is)
    (case a19 => k_is)
    (case l19 => k_is)
    (case c19 => k_is)
    (case k19 => k_is)
    (case a25 => k_is)
    (case l25 => k_is)
    (case c25 => k_is)
    (case k25 => k_is)
    (case a20 => k_is)
    (case l20 => k_is)
    (case c20 => k_is)
    (case k20 => k_is)
    (case a22 => k_is)
    (case l22 => k_is)
    (case c22 => k_is)
    (case k22 => k_is)
    (case a23 => k_is)
    (case l23 => k_is)
    (case c23 => k_is)
    (case k23 => k_is)
    (case a24 => k_is)
    (case l24 => k_is)
    (case c24 => k_is)
    (case k24 => k_is)
    (case a27 => k_is)
    (case l27 => k_is)
    (case c27 => k_is)
    (case k27 => k_is)
    (case a28 => k_is)
    (case l28 => k_is)
    (case c28 => k_is)
    (case k28 => k_is)
    (case a29 => k_is)
    (case l29 => k_is)
    (case c29 => k_is)
    (case k29 => k_is)
    (case a30 => k_is)
    (case l30 => k_is)
    (case c30 => k_is)
    (case k30 => k_is)
    (case a31 => k_is)
    (case l31 => k_is)
    (case c31 => k_is)
    (case k31 => k_is)
    (case a36 => k_is)
    (case l36 => k_is)
    (case c36 => k_is)
    (case k36 => k_is)
    (case a34 => k_is)
    (case l34 => k_is)
    (case c34 => k_is)
    (case k34 => k_is)
    (case a38 => k_is)
    (case l38 => k_is)
    (case c38 => k_is)
    (case k38 => k_is)
    (case a37 => k_is)
    (case l37 => k_is)
    (case c37 => k_is)
    (case k37 => k_is)
    (case ac33_0 => k_is)
    (case bc33_0 => k_is)
    (case lc33_0 => k_is)
    (case cc33_0 => k_is)
    (case kc33_0 => k_is)
    (case ac33_2 => k_is)
    (case bc33_2 => k_is)
    (case tc33_2 => k_is)
    (case rc33_2 => k_is)
    (case lc33_2 => k_is)
    (case cc33_2 => k_is)
    (case kc33_2 => k_is)
    (case ac33_3 => k_is)
    (case bc33_3 => k_is)
    (case tc33_3 => k_is)
    (case rc33_3 => k_is)
    (case lc33_3 => k_is)
    (case cc33_3 => k_is)
    (case kc33_3 => k_is)
    (case ac33_7 => k_is)
    (case bc33_7 => k_is)
    (case lc33_7 => k_is)
    (case cc33_7 => k_is)
    (case kc33_7 => k_is)
    (case ac33_6 => k_is)
    (case bc33_6 => k_is)
    (case lc33_6 => k_is)
    (case cc33_6 => k_is)
    (case kc33_6 => k_is)
    (case a35 => k_is)
    (case l35 => k_is)
    (case c35 => k_is)
    (case k35 => k_is)
    (case a42 => k_is)
    (case l42 => k_is)
    (case c42 => k_is)
    (case k42 => k_is)
    (case a43 => k_is)
    (case l43 => k_is)
    (case c43 => k_is)
    (case k43 => k_is)
    (case a44 => k_is)
    (case l44 => k_is)
    (case c44 => k_is)
    (case k44 => k_is)
    (case a45 => k_is)
    (case l45 => k_is)
    (case c45 => k_is)
    (case k45 => k_is)
    (case a46 => k_is)
    (case l46 => k_is)
    (case c46 => k_is)
    (case k46 => k_is)
    (case a47 => k_is)
    (case l47 => k_is)
    (case c47 => k_is)
    (case k47 => k_is)
    (case a49 => k_is)
    (case l49 => k_is)
    (case c49 => k_is)
    (case k49 => k_is)
    (case a48 => k_is)
    (case l48 => k_is)
    (case c48 => k_is)
    (case k48 => k_is)
    (case a26 => k_is)
    (case l26 => k_is)
    (case c26 => k_is)
    (case k26 => k_is)
    (case a62 => k_is)
    (case l62 => k_is)
    (case c62 => k_is)
    (case k62 => k_is)
    (case a63 => k_is)
    (case l63 => k_is)
    (case c63 => k_is)
    (case k63 => k_is)
    (case a65 => k_is)
    (case l65 => k_is)
    (case c65 => k_is)
    (case k65 => k_is)
    (case a64 => k_is)
    (case l64 => k_is)
    (case c64 => k_is)
    (case k64 => k_is)
    (case ac33_8 => k_is)
    (case bc33_8 => k_is)
    (case lc33_8 => k_is)
    (case cc33_8 => k_is)
    (case kc33_8 => k_is)
    (case a68 => k_is)
    (case l68 => k_is)
    (case c68 => k_is)
    (case k68 => k_is)
    (case a69 => k_is)
    (case l69 => k_is)
    (case c69 => k_is)
    (case k69 => k_is)
    (case ac33_5 => k_is)
    (case bc33_5 => k_is)
    (case lc33_5 => k_is)
    (case cc33_5 => k_is)
    (case kc33_5 => k_is)
    (case a71 => k_is)
    (case l71 => k_is)
    (case c71 => k_is)
    (case k71 => k_is)
    (case a72 => k_is)
    (case l72 => k_is)
    (case c72 => k_is)
    (case k72 => k_is)
    (case a73 => k_is)
    (case l73 => k_is)
    (case c73 => k_is)
    (case k73 => k_is)
    (case a74 => k_is)
    (case l74 => k_is)
    (case c74 => k_is)
    (case k74 => k_is)
    (case a75 => k_is)
    (case l75 => k_is)
    (case c75 => k_is)
    (case k75 => k_is)
    (case a76 => k_is)
    (case l76 => k_is)
    (case c76 => k_is)
    (case k76 => k_is)
    (case a77 => k_is)
    (case l77 => k_is)
    (case c77 => k_is)
    (case k77 => k_is)
    (case a78 => k_is)
    (case l78 => k_is)
    (case c78 => k_is)
    (case k78 => k_is)
    (case a79 => k_is)
    (case l79 => k_is)
    (case c79 => k_is)
    (case k79 => k_is)
    (case a21 => k_is)
    (case l21 => k_is)
    (case c21 => k_is)
    (case k21 => k_is)
    (case ac51_0 => k_is)
    (case bc51_0 => k_is)
    (case lc51_0 => k_is)
    (case cc51_0 => k_is)
    (case kc51_0 => k_is)
    (case ac51_1 => k_is)
    (case bc51_1 => k_is)
    (case tc51_1 => k_is)
    (case rc51_1 => k_is)
    (case lc51_1 => k_is)
    (case cc51_1 => k_is)
    (case kc51_1 => k_is)
    (case ac51_2 => k_is)
    (case bc51_2 => k_is)
    (case tc51_2 => k_is)
    (case rc51_2 => k_is)
    (case lc51_2 => k_is)
    (case cc51_2 => k_is)
    (case kc51_2 => k_is)
    (case a52 => k_is)
    (case l52 => k_is)
    (case c52 => k_is)
    (case k52 => k_is)
    (case a53 => k_is)
    (case l53 => k_is)
    (case c53 => k_is)
    (case k53 => k_is)
    (case a54 => k_is)
    (case l54 => k_is)
    (case c54 => k_is)
    (case k54 => k_is)
    (case a55 => k_is)
    (case l55 => k_is)
    (case c55 => k_is)
    (case k55 => k_is)
    (case a56 => k_is)
    (case l56 => k_is)
    (case c56 => k_is)
    (case k56 => k_is)
    (case a57 => k_is)
    (case l57 => k_is)
    (case c57 => k_is)
    (case k57 => k_is)
    (case a58 => k_is)
    (case l58 => k_is)
    (case c58 => k_is)
    (case k58 => k_is)
    (case a59 => k_is)
    (case l59 => k_is)
    (case c59 => k_is)
    (case k59 => k_is)
    (case a60 => k_is)
    (case l60 => k_is)
    (case c60 => k_is)
    (case k60 => k_is)
    (case a66 => k_is)
    (case l66 => k_is)
    (case c66 => k_is)
    (case k66 => k_is)
    (case a80 => k_is)
    (case l80 => k_is)
    (case c80 => k_is)
    (case k80 => k_is)
    (case a81 => k_is)
    (case l81 => k_is)
    (case c81 => k_is)
    (case k81 => k_is)
    (case a82 => k_is)
    (case l82 => k_is)
    (case c82 => k_is)
    (case k82 => k_is)
    (case a83 => k_is)
    (case l83 => k_is)
    (case c83 => k_is)
    (case k83 => k_is)
    (case a84 => k_is)
    (case l84 => k_is)
    (case c84 => k_is)
    (case k84 => k_is)
    (case z_len => k_is)
    (case z_all => k_is)
    (case z_any => k_is)
    (case z_abs => k_is)
    (case z_int => k_is)
    (case z_min => k_is)
    (case z_max => k_is)
    (case z_tuple => k_is)
    (case z_repr => k_is)
    (case z_isinstance => k_is)
    (case z_str => k_is)
    (case z_range => k_is)
    (case z_enumerate => k_is)
    (case z_sorted => k_is)
    (case z_set => k_is)
    (case z_list => k_is)
    (case z_divmod => k_is)
    (case z_dict => k_is)
    (case z_bool => k_is)
    (case c_MOST_THINGS => k_is)
    (case c_MOST_ROWS => k_is)
    (case c_MOST_RULES => k_is)
