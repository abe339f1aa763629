import PyProof.Rows.All
import Wide.All
import OpenK.AllK
import Wide.FinOn
import HandS.Base
import HandS.Call
import HandS.List
import HandS.Comp
import HandS.Words
import HandS.Dict
import HandS.Iter
import HandS.Text
import HandS.Wide
import HandS.WideBits
import HandS.Conv
import HandS.Ends
import HandS.Set
import HandS.SetFor
import HandS.Strs
import KE.SortData
import HandS.Style
import HandS.IsInst
import HandS.DictComp
import HandS.More
import PyProof.ReprRoads
import KE.DataEq
import PyProof.ReprLen
import PyProof.FitsInt
import KE.GoesMore
import KE.GoesEnum
import HandS.Zip
import HandS.Property
import HandS.RevTup
import HandS.TupAny
import KE.SortKeyHeap
import KE.KSortKey
import HandS.SortKw
import HandS.Codes
import PyProof.ListStr
import HandS.NoneIn
import HandS.SlotsOwn
import HandS.Replace
import PyProof.InstNe
import KE.DataMinMax
import KE.GoesNew
import HandS.ExcOwn
import HandS.ExcValue
import HandS.Evl
import PySem.Challenge.RW_closerworks_k67_whole_books_by_one_look
set_option Elab.async false
set_option linter.all false
set_option maxRecDepth 100000
set_option maxHeartbeats 8000000
namespace Vx
open PySem L2
/-! ### heaps: G what never changes, F what is owned (by this def or its callers), H all -/
abbrev Ex := Evl.Ex
theorem Ex.refl (H : Hp) : Ex H H := Evl.Ex.refl H
theorem Ex.trans {H H1 H2 : Hp} (a : Ex H H1) (b : Ex H1 H2) : Ex H H2 := Evl.Ex.trans a b
structure W (F G H : Hp) : Prop where
  g : Ex G H
  f : Ex F H
  d : ∀ a o, F a = some o → G a = none
theorem W.fresh {F G H : Hp} {p : Addr} (w : W F G H) (h : H p = none) : G p = none ∧ F p = none := by
  constructor
  · cases e : G p with
    | none => rfl
    | some o => rw [w.g p o e] at h; cases h
  · cases e : F p with
    | none => rfl
    | some o => rw [w.f p o e] at h; cases h
theorem Ex.upd {H : Hp} {p : Addr} {o : HO} (h : H p = none) : Ex H (upd H p o) := fun a u e => by
  rw [upd_ne (ne_of_none e h)]
  exact e
theorem Ex.upd2 {G H : Hp} {p : Addr} {o : HO} (e : Ex G H) : Ex (L2.upd G p o) (L2.upd H p o) := fun a u q => by
  by_cases h : a = p
  · subst h
    rw [upd_same] at q ⊢
    exact q
  · rw [upd_ne h] at q ⊢
    exact e a u q
/-- a new object that never changes -/
theorem W.new {F G H : Hp} {p : Addr} {o : HO} (w : W F G H) (h : H p = none) : W F (L2.upd G p o) (L2.upd H p o) :=
  ⟨w.g.upd2, w.f.trans (Ex.upd h), fun a u q => by rw [upd_ne (ne_of_none (w.f a u q) h)]; exact w.d a u q⟩
/-- a new object that is owned -/
theorem W.own {F G H : Hp} {p : Addr} {o : HO} (w : W F G H) (h : H p = none) : W (L2.upd F p o) G (L2.upd H p o) :=
  ⟨w.g.trans (Ex.upd h), w.f.upd2, fun a u q => by
    by_cases e : a = p
    · subst e
      exact (w.fresh h).1
    · rw [upd_ne e] at q
      exact w.d a u q⟩
/-- an owned object changes -/
theorem W.set {F G H : Hp} {p : Addr} {o u : HO} (w : W F G H) (h : F p = some o) : W (L2.upd F p u) G (L2.upd H p u) :=
  ⟨fun a v q => by
    have n : a ≠ p := fun e => by
      subst e
      rw [w.d _ _ h] at q
      cases q
    rw [upd_ne n]
    exact w.g a v q, w.f.upd2, fun a v q => by
    by_cases e : a = p
    · subst e
      exact w.d _ _ h
    · rw [upd_ne e] at q
      exact w.d a v q⟩
/-- an owned object is let go: it never changes from now on -/
def del (F : Hp) (p : Addr) : Hp := fun a => if a = p then none else F a
theorem del_ne {F : Hp} {a p : Addr} (h : a ≠ p) : del F p a = F a := if_neg h
theorem del_same {F : Hp} {p : Addr} : del F p p = none := if_pos rfl
theorem W.free {F G H : Hp} {p : Addr} {o : HO} (w : W F G H) (h : F p = some o) : W (del F p) (L2.upd G p o) H :=
  ⟨fun a v q => by
    by_cases e : a = p
    · subst e
      rw [upd_same] at q
      cases q
      exact w.f _ _ h
    · rw [upd_ne e] at q
      exact w.g a v q, fun a v q => by
    by_cases e : a = p
    · subst e
      rw [del_same] at q
      cases q
    · rw [del_ne e] at q
      exact w.f a v q, fun a v q => by
    by_cases e : a = p
    · subst e
      rw [del_same] at q
      cases q
    · rw [del_ne e] at q
      rw [upd_ne e]
      exact w.d a v q⟩
theorem W.less {F F' G H : Hp} (w : W F G H) (e : Ex F' F) : W F' G H := ⟨w.g, e.trans w.f, fun a o h => w.d a o (e a o h)⟩
/-! ### what a value stands for -/
class Rep (α : Type) where
  rep : PySem.W.Frag → Hp → α → V → Prop
  mono : ∀ {K : PySem.W.Frag} {G G' : Hp} {a : α} {v : V}, Ex G G' → rep K G a v → rep K G' a v
open Rep (rep)
theorem Paired.mono {α β : Type} {R S : α → β → Prop} (h : ∀ a b, R a b → S a b) : ∀ {xs : List α} {ys : List β}, PySem.Paired R xs ys → PySem.Paired S xs ys
  | _, _, .nil => .nil
  | _, _, .cons r t => .cons (h _ _ r) (Paired.mono h t)
instance : Rep Int := ⟨fun _ _ i v => v = .int i, fun _ h => h⟩
instance : Rep Bool := ⟨fun _ _ b v => v = .bl b, fun _ h => h⟩
instance : Rep Str := ⟨fun _ _ s v => v = .str s, fun _ h => h⟩
instance : Rep Unit := ⟨fun _ _ _ v => v = .non, fun _ h => h⟩
instance {α : Type} [Rep α] : Rep (Option α) := ⟨fun K G a v => match a with | none => v = .non | some x => rep K G x v, fun {K G G' a v} e h => by
  cases a with
  | none => exact h
  | some x => exact Rep.mono e h⟩
instance {α : Type} [Rep α] : Rep (List α) := ⟨fun K G xs v => ∃ p vs, v = .ref p ∧ G p = some (.lst vs) ∧ PySem.Paired (rep K G) xs vs,
  fun e ⟨p, vs, h1, h2, h3⟩ => ⟨p, vs, h1, e _ _ h2, Paired.mono (fun _ _ r => Rep.mono e r) h3⟩⟩
/-- a tuple of things of one kind -/
structure Tup (α : Type) where
  l : List α
  deriving DecidableEq
instance {α : Type} [Rep α] : Rep (Tup α) := ⟨fun K G xs v => ∃ p vs, v = .ref p ∧ G p = some (.tup vs) ∧ PySem.Paired (rep K G) xs.l vs,
  fun e ⟨p, vs, h1, h2, h3⟩ => ⟨p, vs, h1, e _ _ h2, Paired.mono (fun _ _ r => Rep.mono e r) h3⟩⟩
/-- a pair, a triple -/
structure T2 (α β : Type) where
  a : α
  b : β
  deriving DecidableEq
structure T3 (α β γ : Type) where
  a : α
  b : β
  c : γ
  deriving DecidableEq
instance {α β : Type} [Rep α] [Rep β] : Rep (T2 α β) := ⟨fun K G x v => ∃ p va vb, v = .ref p ∧ G p = some (.tup [va, vb]) ∧ rep K G x.a va ∧ rep K G x.b vb,
  fun e ⟨p, va, vb, h1, h2, h3, h4⟩ => ⟨p, va, vb, h1, e _ _ h2, Rep.mono e h3, Rep.mono e h4⟩⟩
instance {α β γ : Type} [Rep α] [Rep β] [Rep γ] : Rep (T3 α β γ) := ⟨fun K G x v => ∃ p va vb vc, v = .ref p ∧ G p = some (.tup [va, vb, vc]) ∧ rep K G x.a va ∧ rep K G x.b vb ∧ rep K G x.c vc,
  fun e ⟨p, va, vb, vc, h1, h2, h3, h4, h5⟩ => ⟨p, va, vb, vc, h1, e _ _ h2, Rep.mono e h3, Rep.mono e h4, Rep.mono e h5⟩⟩
/-- a list of the world's (the script) -/
structure Scr where
  l : List Int
instance : Rep Scr := ⟨fun K G x v => ∃ p, v = .ref p ∧ SqL K G p (x.l.map V.int), fun e ⟨p, h1, h2⟩ => ⟨p, h1, by
  rcases h2 with (h | ⟨o, h⟩) | h
  · exact .inl (.inl (e _ _ h))
  · exact .inl (.inr ⟨o, e _ _ h⟩)
  · exact .inr h⟩⟩
/-- a dict, read -/
structure Dct (β : Type) where
  l : List (Key × β)
instance {β : Type} [Rep β] : Rep (Dct β) := ⟨fun K G x v => ∃ p kvs, v = .ref p ∧ G p = some (.dK kvs) ∧ PySem.Paired (fun (q : Key × β) (r : Key × V) => q.1 = r.1 ∧ rep K G q.2 r.2) x.l kvs,
  fun e ⟨p, kvs, h1, h2, h3⟩ => ⟨p, kvs, h1, e _ _ h2, Paired.mono (fun _ _ ⟨r1, r2⟩ => ⟨r1, Rep.mono e r2⟩) h3⟩⟩
/-! ### slots and environments -/
class Slot (τ : Type) where
  sr : PySem.W.Frag → Hp → Hp → List Addr → Option V → τ → Prop
  mono : ∀ {K : PySem.W.Frag} {G G' F : Hp} {L : List Addr} {o : Option V} {t : τ}, Ex G G' → sr K G F L o t → sr K G' F L o t
  /-- it leans on its own cells alone -/
  keep : ∀ {K : PySem.W.Frag} {G F F' : Hp} {L : List Addr} {o : Option V} {t : τ}, (∀ q ∈ L, F' q = F q) → sr K G F L o t → sr K G F' L o t
  there : ∀ {K : PySem.W.Frag} {G F : Hp} {L : List Addr} {o : Option V} {t : τ}, sr K G F L o t → ∀ q ∈ L, F q ≠ none
structure Any where
instance (priority := low) {α : Type} [Rep α] : Slot α := ⟨fun K G _ L o t => L = [] ∧ ∃ v, o = some v ∧ rep K G t v, fun e ⟨h1, v, h2, h3⟩ => ⟨h1, v, h2, Rep.mono e h3⟩, fun _ h => h, fun h q hq => by
  rw [h.1] at hq
  cases hq⟩
instance : Slot Any := ⟨fun _ _ _ L _ _ => L = [], fun _ h => h, fun _ h => h, fun h q hq => by
  rw [h] at hq
  cases hq⟩
/-- a list of one's own: it may be changed -/
structure OL (α : Type) where
  l : List α
instance {α : Type} [Rep α] : Slot (OL α) := ⟨fun K G F L o t => ∃ q vs, L = [q] ∧ o = some (.ref q) ∧ F q = some (.lst vs) ∧ PySem.Paired (rep K G) t.l vs,
  fun e ⟨q, vs, h1, h2, h3, h4⟩ => ⟨q, vs, h1, h2, h3, Paired.mono (fun _ _ r => Rep.mono e r) h4⟩,
  fun k ⟨q, vs, h1, h2, h3, h4⟩ => ⟨q, vs, h1, h2, by rw [k q (by rw [h1]; exact List.mem_singleton.mpr rfl)]; exact h3, h4⟩, fun ⟨q, vs, h1, h2, h3, h4⟩ b hb => by
    rw [h1] at hb
    rw [List.mem_singleton.mp hb, h3]
    exact fun z => by cases z⟩
/-- a dict of one's own -/
structure OD (β : Type) where
  l : List (Key × β)
instance {β : Type} [Rep β] : Slot (OD β) := ⟨fun K G F L o t => ∃ q kvs, L = [q] ∧ o = some (.ref q) ∧ F q = some (.dK kvs) ∧ PySem.Paired (fun (q : Key × β) (r : Key × V) => q.1 = r.1 ∧ rep K G q.2 r.2) t.l kvs,
  fun e ⟨q, vs, h1, h2, h3, h4⟩ => ⟨q, vs, h1, h2, h3, Paired.mono (fun _ _ ⟨r1, r2⟩ => ⟨r1, Rep.mono e r2⟩) h4⟩,
  fun k ⟨q, vs, h1, h2, h3, h4⟩ => ⟨q, vs, h1, h2, by rw [k q (by rw [h1]; exact List.mem_singleton.mpr rfl)]; exact h3, h4⟩, fun ⟨q, vs, h1, h2, h3, h4⟩ b hb => by
    rw [h1] at hb
    rw [List.mem_singleton.mp hb, h3]
    exact fun z => by cases z⟩
/-- the kinds that own nothing -/
class VSlot (τ : Type) [Slot τ] : Prop where
  nil : ∀ {K : PySem.W.Frag} {G F : Hp} {L : List Addr} {o : Option V} {t : τ}, Slot.sr K G F L o t → L = []
instance (priority := low) {α : Type} [Rep α] : VSlot α := ⟨fun {K G F L o t} h => (show L = [] ∧ _ from h).1⟩
instance : VSlot Any := ⟨fun h => h⟩
class EnvR (Γ : Type) where
  er : PySem.W.Frag → Hp → Hp → List Addr → St → Γ → Prop
  mono : ∀ {K : PySem.W.Frag} {G G' F : Hp} {L : List Addr} {σ : St} {γ : Γ}, Ex G G' → er K G F L σ γ → er K G' F L σ γ
  keep : ∀ {K : PySem.W.Frag} {G F F' : Hp} {L : List Addr} {σ : St} {γ : Γ}, (∀ q ∈ L, F' q = F q) → er K G F L σ γ → er K G F' L σ γ
  there : ∀ {K : PySem.W.Frag} {G F : Hp} {L : List Addr} {σ : St} {γ : Γ}, er K G F L σ γ → ∀ q ∈ L, F q ≠ none
open EnvR (er)
instance : EnvR Unit := ⟨fun _ _ _ L σ _ => L = [] ∧ σ = [], fun _ h => h, fun _ h => h, fun h q hq => by
  rw [h.1] at hq
  cases hq⟩
instance {τ Γ : Type} [Slot τ] [EnvR Γ] : EnvR (τ × Γ) := ⟨fun K G F L σ γ => ∃ L1 L2 o σ', L = L1 ++ L2 ∧ σ = o :: σ' ∧ Slot.sr K G F L1 o γ.1 ∧ er K G F L2 σ' γ.2 ∧ ∀ q ∈ L1, q ∉ L2,
  fun e ⟨L1, L2, o, σ', h1, h2, h3, h4, h5⟩ => ⟨L1, L2, o, σ', h1, h2, Slot.mono e h3, EnvR.mono e h4, h5⟩,
  fun k ⟨L1, L2, o, σ', h1, h2, h3, h4, h5⟩ => ⟨L1, L2, o, σ', h1, h2, Slot.keep (fun q hq => k q (by rw [h1]; exact List.mem_append_left _ hq)) h3, EnvR.keep (fun q hq => k q (by rw [h1]; exact List.mem_append_right _ hq)) h4, h5⟩,
  fun ⟨L1, L2, o, σ', h1, h2, h3, h4, h5⟩ q hq => by
    rw [h1] at hq
    rcases List.mem_append.mp hq with h | h
    · exact Slot.there h3 q h
    · exact EnvR.there h4 q h⟩
/-- the value of the i-th slot -/
structure Get (i : Nat) (Γ α : Type) [EnvR Γ] [Rep α] where
  get : Γ → α
  ok : ∀ {K : PySem.W.Frag} {G F : Hp} {L : List Addr} {σ : St} {γ : Γ}, er K G F L σ γ → ∃ v, σ[i]? = some (some v) ∧ rep K G (get γ) v
def gz {Γ α : Type} [EnvR Γ] [Rep α] : Get 0 (α × Γ) α := ⟨fun γ => γ.1, fun ⟨L1, L2, o, σ', h1, h2, h3, h4, h5⟩ => by
  obtain ⟨_, v, e, r⟩ := h3
  subst h2
  exact ⟨v, by rw [e]; rfl, r⟩⟩
def gs {i : Nat} {τ Γ α : Type} [Slot τ] [EnvR Γ] [Rep α] (g : Get i Γ α) : Get (i + 1) (τ × Γ) α := ⟨fun γ => g.get γ.2, fun ⟨L1, L2, o, σ', h1, h2, h3, h4, h5⟩ => by
  obtain ⟨v, e, r⟩ := g.ok h4
  subst h2
  exact ⟨v, e, r⟩⟩
/-- the i-th slot, that owns nothing, is given a value -/
structure Put (i : Nat) (Γ τ Γ' : Type) [EnvR Γ] [Rep τ] [EnvR Γ'] where
  put : Γ → τ → Γ'
  ok : ∀ {K : PySem.W.Frag} {G F : Hp} {L : List Addr} {σ : St} {γ : Γ} {t : τ} {v : V}, er K G F L σ γ → rep K G t v → er K G F L (σ.set i (some v)) (put γ t)
def pz {τ₀ Γ τ : Type} [Slot τ₀] [VSlot τ₀] [EnvR Γ] [Rep τ] : Put 0 (τ₀ × Γ) τ (τ × Γ) := ⟨fun γ t => (t, γ.2), fun ⟨L1, L2, o, σ', h1, h2, h3, h4, h5⟩ r => by
  subst h2
  have e := VSlot.nil h3
  exact ⟨[], L2, _, σ', by rw [h1, e], rfl, ⟨rfl, _, rfl, r⟩, h4, fun q hq => by cases hq⟩⟩
def ps {i : Nat} {τ₀ Γ τ Γ' : Type} [Slot τ₀] [EnvR Γ] [Rep τ] [EnvR Γ'] (p : Put i Γ τ Γ') : Put (i + 1) (τ₀ × Γ) τ (τ₀ × Γ') := ⟨fun γ t => (γ.1, p.put γ.2 t), fun ⟨L1, L2, o, σ', h1, h2, h3, h4, h5⟩ r => by
  subst h2
  exact ⟨L1, L2, o, _, h1, rfl, h3, p.ok h4 r, h5⟩⟩
/-- some slots are forgotten -/
structure Wk (Γ Γ' : Type) [EnvR Γ] [EnvR Γ'] where
  wk : Γ → Γ'
  ok : ∀ {K : PySem.W.Frag} {G F : Hp} {L : List Addr} {σ : St} {γ : Γ}, er K G F L σ γ → ∃ L', L'.Sublist L ∧ er K G F L' σ (wk γ)
def wid {Γ : Type} [EnvR Γ] : Wk Γ Γ := ⟨fun γ => γ, fun h => ⟨_, List.Sublist.refl _, h⟩⟩
def wn : Wk Unit Unit := wid
def wk {τ Γ Γ' : Type} [Slot τ] [EnvR Γ] [EnvR Γ'] (w : Wk Γ Γ') : Wk (τ × Γ) (τ × Γ') := ⟨fun γ => (γ.1, w.wk γ.2), fun ⟨L1, L2, o, σ', h1, h2, h3, h4, h5⟩ => by
  obtain ⟨L', s, e⟩ := w.ok h4
  subst h2
  exact ⟨L1 ++ L', by rw [h1]; exact List.Sublist.append (List.Sublist.refl _) s, L1, L', o, σ', rfl, rfl, h3, e, fun q hq z => h5 q hq (s.subset z)⟩⟩
def wa {τ Γ Γ' : Type} [Slot τ] [EnvR Γ] [EnvR Γ'] (w : Wk Γ Γ') : Wk (τ × Γ) (Any × Γ') := ⟨fun γ => (⟨⟩, w.wk γ.2), fun ⟨L1, L2, o, σ', h1, h2, h3, h4, h5⟩ => by
  obtain ⟨L', s, e⟩ := w.ok h4
  subst h2
  exact ⟨L', by rw [h1]; exact List.Sublist.trans s (List.sublist_append_right _ _), [], L', o, σ', rfl, rfl, rfl, e, fun q hq => by cases hq⟩⟩
end Vx
namespace Vx
open Rep (rep)
open EnvR (er)
open PySem L2
theorem PE.le {X : Cx} {e : Expr} {t t' : TE} (h : PE X e t) (k : ∀ σ H Q, t' σ H Q → t σ H Q) : PE X e t' := ⟨fun pins s σ H Q I q => h.run pins s σ H Q I (k σ H Q q)⟩
theorem PT.le {X : Cx} {e : Expr} {t t' : TT} (h : PT X e t) (k : ∀ σ H Q, t' σ H Q → t σ H Q) : PT X e t' := ⟨fun pins s σ H Q I q => h.run pins s σ H Q I (k σ H Q q)⟩
theorem PA.le {X : Cx} {e : List Expr} {t t' : TA} (h : PA X e t) (k : ∀ σ H Q, t' σ H Q → t σ H Q) : PA X e t' := ⟨fun pos pins s σ H Q I q => h.run pos pins s σ H Q I (k σ H Q q)⟩
theorem PS.le {X : Cx} {st : Stmt} {t t' : TS} (h : PS X st t) (k : ∀ D σ H, t' D σ H → t D σ H) : PS X st t' := ⟨fun pins s σ H D I q => h.run pins s σ H D I (k D σ H q)⟩
theorem PSs.le {X : Cx} {st : List Stmt} {t t' : TS} (h : PSs X st t) (k : ∀ D σ H, t' D σ H → t D σ H) : PSs X st t' := ⟨fun pins s σ H D I q => h.run pins s σ H D I (k D σ H q)⟩
/-- how an operand is told: F, G, H -/
abbrev RR (α : Type) := Hp → Hp → Hp → α → V → Prop
abbrev RE (K : PySem.W.Frag) {α : Type} [Rep α] : RR α := fun _ G _ a v => rep K G a v
/-- a list to be read (one's own, or one that never changes) -/
def RL (K : PySem.W.Frag) {α : Type} [Rep α] : RR (List α) := fun F G _ xs v => ∃ p vs, v = .ref p ∧ (G p = some (.lst vs) ∨ F p = some (.lst vs)) ∧ PySem.Paired (rep K G) xs vs
def RMono {α : Type} (R : RR α) : Prop := ∀ {F G H G2 H2 : Hp} {a : α} {v : V}, Ex G G2 → W F G2 H2 → R F G H a v → R F G2 H2 a v
theorem re_mono {K : PySem.W.Frag} {α : Type} [Rep α] : RMono (RE K (α := α)) := fun e _ h => Rep.mono e h
theorem rl_mono {K : PySem.W.Frag} {α : Type} [Rep α] : RMono (RL K (α := α)) := fun e _ ⟨p, vs, h1, h2, h3⟩ => ⟨p, vs, h1, h2.imp (e _ _) id, Paired.mono (fun _ _ r => Rep.mono e r) h3⟩
theorem rl_of {K : PySem.W.Frag} {α : Type} [Rep α] {F G H : Hp} {xs : List α} {v : V} (h : rep K G xs v) : RL K F G H xs v := let ⟨p, vs, h1, h2, h3⟩ := h; ⟨p, vs, h1, .inl h2, h3⟩
/-- an own list, just made -/
def RF (K : PySem.W.Frag) {α : Type} [Rep α] : RR (List α) := fun F G H xs v => ∃ p vs, v = .ref p ∧ F p = none ∧ G p = none ∧ H p = some (.lst vs) ∧ PySem.Paired (rep K G) xs vs
section
variable {Γ : Type} [EnvR Γ] {α β δ : Type}
/-- what an expression is worth -/
def tev (K : PySem.W.Frag) (R : RR α) (f : Γ → Option α) : TE := fun σ H Q => ∃ F G L γ a, W F G H ∧ er K G F L σ γ ∧ f γ = some a ∧ ∀ v G2 H2, Ex G G2 → W F G2 H2 → R F G2 H2 a v → Q v H2
def tet (K : PySem.W.Frag) (f : Γ → Option Bool) : TT := fun σ H Q => ∃ F G L γ a, W F G H ∧ er K G F L σ γ ∧ f γ = some a ∧ ∀ G2 H2, Ex G G2 → W F G2 H2 → Q a H2
abbrev VO (X : Cx) (e : Expr) (R : RR α) (f : Γ → Option α) : Prop := PE X e (tev X.K R f)
abbrev VE [Rep α] (X : Cx) (e : Expr) (f : Γ → Option α) : Prop := PE X e (tev X.K (RE X.K) f)
abbrev VL [Rep α] (X : Cx) (e : Expr) (f : Γ → Option (List α)) : Prop := PE X e (tev X.K (RL X.K) f)
abbrev VF [Rep α] (X : Cx) (e : Expr) (f : Γ → Option (List α)) : Prop := PE X e (tev X.K (RF X.K) f)
abbrev VT (X : Cx) (e : Expr) (f : Γ → Option Bool) : Prop := PT X e (tet X.K f)
/-! ### the shapes of mirrors -/
def fv {i : Nat} [Rep α] (g : Get i Γ α) : Γ → Option α := fun γ => some (g.get γ)
def fc (c : α) : Γ → Option α := fun _ => some c
def f1 (φ : α → Option β) (f : Γ → Option α) : Γ → Option β := fun γ => (f γ).bind φ
def f2 (φ : α → β → Option δ) (f : Γ → Option α) (g : Γ → Option β) : Γ → Option δ := fun γ => (f γ).bind fun x => (g γ).bind fun y => φ x y
def fif (c : Γ → Option Bool) (f g : Γ → Option α) : Γ → Option α := fun γ => (c γ).bind fun b => if b then f γ else g γ
def fand (f g : Γ → Option Bool) : Γ → Option Bool := fun γ => (f γ).bind fun b => if b then g γ else some false
def foor (f g : Γ → Option Bool) : Γ → Option Bool := fun γ => (f γ).bind fun b => if b then some true else g γ
def fnot (f : Γ → Option Bool) : Γ → Option Bool := fun γ => (f γ).map (!·)
variable {X : Cx} {e a b c : Expr} {pos : Pos}
theorem ve_var {i : Nat} [Rep α] (g : Get i Γ α) {x : Str} (hN : X.N[i]? = some x := by rfl) (hv : Vis X.env.scope x := by first | exact Or.inl rfl | exact Or.inr (Or.inl rfl) | exact Or.inr (Or.inr rfl)) (hd : (x == ("__debug__" : Str)) = false := by decide)
    (hcd : (x == ("__classdict__" : Str)) = false := by decide) : VE X (.Name x pos) (fv g) := PE.le (pe_var hN hv hd hcd) fun σ H Q ⟨F, G, L, γ, a, w, h, ea, q⟩ => by
  obtain ⟨v, hi, r⟩ := g.ok h
  cases ea
  exact ⟨v, hi, q v G H (Ex.refl G) w r⟩
theorem ve_int {i : Int} {j} : VE X (.Constant (.int i) j pos) (fc (Γ := Γ) i) := PE.le pe_int fun σ H Q ⟨F, G, L, γ, a, w, h, ea, q⟩ => by
  cases ea
  exact q _ G H (Ex.refl G) w rfl
theorem ve_str {x : Str} {j} : VE X (.Constant (.str x) j pos) (fc (Γ := Γ) x) := PE.le pe_str fun σ H Q ⟨F, G, L, γ, a, w, h, ea, q⟩ => by
  cases ea
  exact q _ G H (Ex.refl G) w rfl
theorem ve_bl {x : Bool} {j} : VE X (.Constant (.bool x) j pos) (fc (Γ := Γ) x) := PE.le pe_bl fun σ H Q ⟨F, G, L, γ, a, w, h, ea, q⟩ => by
  cases ea
  exact q _ G H (Ex.refl G) w rfl
theorem ve_non {j} : VE X (.Constant .none j pos) (fc (Γ := Γ) ()) := PE.le pe_non fun σ H Q ⟨F, G, L, γ, a, w, h, ea, q⟩ => by
  cases ea
  exact q _ G H (Ex.refl G) w rfl
/-- None where something else may stand -/
theorem ve_nonO [Rep α] {j} : VE X (.Constant .none j pos) (fc (Γ := Γ) (none : Option α)) := PE.le pe_non fun σ H Q ⟨F, G, L, γ, a, w, h, ea, q⟩ => by
  cases ea
  exact q _ G H (Ex.refl G) w rfl
theorem ve_glob [Rep α] {x : Str} {y : α} {v : V} {u : Value} (hg : Gl X x) (hm : X.mg x = some u) (r : RelV v u) (h : ∀ G, rep X.K G y v) (hd : (x == ("__debug__" : Str)) = false := by decide) : VE X (.Name x pos) (fc (Γ := Γ) y) := PE.le (pe_glob hg hm r hd) fun σ H Q ⟨F, G, L, γ, a, w, _, ea, q⟩ => by
  cases ea
  exact q _ G H (Ex.refl G) w (h G)
theorem VE.some [Rep α] {f : Γ → Option α} (h : VE X e f) : VE X e (f1 (fun x => some (some x)) f) := PE.le h fun σ H Q ⟨F, G, L, γ, a, w, he, ea, q⟩ => by
  unfold f1 at ea
  cases e1 : f γ with
  | none => rw [e1] at ea; cases ea
  | some x =>
    rw [e1] at ea
    cases ea
    exact ⟨F, G, L, γ, x, w, he, e1, fun v G2 H2 e2 w2 r => q v G2 H2 e2 w2 r⟩
theorem VE.l [Rep α] {f : Γ → Option (List α)} (h : VE X e f) : VL X e f := PE.le h fun σ H Q ⟨F, G, L, γ, a, w, he, ea, q⟩ =>
  ⟨F, G, L, γ, a, w, he, ea, fun v G2 H2 e2 w2 r => q v G2 H2 e2 w2 (rl_of r)⟩
/-- a list just made never changes if nobody owns it -/
theorem VF.up [Rep α] {f : Γ → Option (List α)} (h : VF X e f) : VE X e f := PE.le h fun σ H Q ⟨F, G, L, γ, a, w, he, ea, q⟩ =>
  ⟨F, G, L, γ, a, w, he, ea, fun v G2 H2 e2 w2 ⟨p, vs, h1, h2, h3, h4, h5⟩ => by
    have ex : Ex G2 (upd G2 p (.lst vs)) := Ex.upd h3
    refine q v (upd G2 p (.lst vs)) H2 (e2.trans ex) ⟨fun a o z => ?_, w2.f, fun a o z => ?_⟩ ⟨p, vs, h1, upd_same, Paired.mono (fun _ _ r => Rep.mono ex r) h5⟩
    · by_cases hap : a = p
      · subst hap
        rw [upd_same] at z
        rw [← z]
        exact h4
      · rw [upd_ne hap] at z
        exact w2.g a o z
    · have hap : a ≠ p := fun y => by
        rw [y, h2] at z
        cases z
      rw [upd_ne hap]
      exact w2.d a o z⟩
/-! ### operators by values -/
def Op2 (r : L2.R2) (R1 : RR α) (R2 : RR β) (R3 : RR δ) (φ : α → β → Option δ) : Prop := ∀ F G H x y z vx vy Q, W F G H → R1 F G H x vx → R2 F G H y vy → φ x y = some z → (∀ v G2 H2, Ex G G2 → W F G2 H2 → R3 F G2 H2 z v → Q v H2) → r vx vy H Q
theorem tev2 {K : PySem.W.Frag} {r : L2.R2} {R1 : RR α} {R2 : RR β} {R3 : RR δ} {φ : α → β → Option δ} {f : Γ → Option α} {g : Γ → Option β} (o : Op2 r R1 R2 R3 φ) (mo : RMono R1) {σ : L2.St} {H : Hp} {Q : VK} (h : tev K R3 (f2 φ f g) σ H Q) :
    tev K R1 f σ H fun x H1 => tev K R2 g σ H1 fun y H2 => r x y H2 Q := by
  obtain ⟨F, G, L, γ, a, w, he, ea, q⟩ := h
  unfold f2 at ea
  cases e1 : f γ with
  | none => rw [e1] at ea; cases ea
  | some x =>
    rw [e1] at ea
    cases e2 : g γ with
    | none => simp only [Option.bind_some] at ea; rw [e2] at ea; cases ea
    | some y =>
      simp only [Option.bind_some] at ea
      rw [e2] at ea
      exact ⟨F, G, L, γ, x, w, he, e1, fun v G2 H2 x2 w2 r2 => ⟨F, G2, L, γ, y, w2, EnvR.mono x2 he, e2, fun v' G3 H3 x3 w3 r3 =>
        o F G3 H3 x y a v v' Q w3 (mo x3 w3 r2) r3 ea fun v4 G4 H4 x4 w4 r4 => q v4 G4 H4 ((x2.trans x3).trans x4) w4 r4⟩⟩
variable {f : Γ → Option α} {g : Γ → Option β}
theorem vo_op {op : Operator} {r : L2.R2} {R1 : RR α} {R2 : RR β} {R3 : RR δ} {φ : α → β → Option δ} (ho : OpR X (binaryOp op) r) (o : Op2 r R1 R2 R3 φ) (mo : RMono R1) (ha : VO X a R1 f) (hb : VO X b R2 g) : VO X (.BinOp a op b pos) R3 (f2 φ f g) :=
  PE.le (pe_op ho ha hb) fun σ H Q h => tev2 o mo h
theorem vo_cmp {op : CmpOp} {r : L2.R2} {R1 : RR α} {R2 : RR β} {φ : α → β → Option Bool} (ho : OpR X (compareOp op) r) (o : Op2 r R1 R2 (RE X.K) φ) (mo : RMono R1) (ha : VO X a R1 f) (hb : VO X b R2 g) (hm : behindInMarks op b = false) : VE X (.Compare a [op] [b] pos) (f2 φ f g) :=
  PE.le (pe_cmpR ho ha hb hm) fun σ H Q h => tev2 o mo h
theorem tet_of {K : PySem.W.Frag} {f : Γ → Option Bool} {t : TE} {σ : L2.St} {H : Hp} {Q : Bool → Hp → Prop} (k : ∀ Q : VK, tev K (RE K) f σ H Q → t σ H Q) (h : tet K f σ H Q) : tTest t σ H Q := by
  obtain ⟨F, G, L, γ, a, w, he, ea, q⟩ := h
  exact k _ ⟨F, G, L, γ, a, w, he, ea, fun v G2 H2 e2 w2 r => ⟨a, r, q G2 H2 e2 w2⟩⟩
theorem vt_cmp {op : CmpOp} {r : L2.R2} {R1 : RR α} {R2 : RR β} {φ : α → β → Option Bool} (ho : OpR X (compareOp op) r) (o : Op2 r R1 R2 (RE X.K) φ) (mo : RMono R1) (ha : VO X a R1 f) (hb : VO X b R2 g) (hm : behindInMarks op b = false) : VT X (.Compare a [op] [b] pos) (f2 φ f g) :=
  PT.le (pt_cmpR ho ha hb hm) fun σ H Q h => tet_of (fun Q h => tev2 o mo h) h
/-- any expression that gives a truth value, as a test -/
theorem vt_val {f : Γ → Option Bool} (h : VE X e f) (he : ∀ whole, isTrue e X.env whole = (do let v ← whole; standAt e.pos; holding [v] (truthy v)) := by intro _; rfl) : VT X e f :=
  PT.le (pt_val h he) fun σ H Q h => tet_of (t := tev X.K (RE X.K) f) (fun Q h => h) h
theorem line_ge : 100000 ≤ sizeLine := by decide
/-! ### and, or, not, if .. else -/
theorem vt_and2 {f g : Γ → Option Bool} {t u : TT} {K : PySem.W.Frag} (ht : ∀ σ H Q, tet K f σ H Q → t σ H Q) (hu : ∀ σ H Q, tet K g σ H Q → u σ H Q) {σ : L2.St} {H : Hp} {Q} (h : tet K (fand f g) σ H Q) : tAnd t u σ H Q := by
  obtain ⟨F, G, L, γ, a, w, he, ea, q⟩ := h
  unfold fand at ea
  cases e1 : f γ with
  | none => rw [e1] at ea; cases ea
  | some x =>
    rw [e1] at ea
    refine ht _ _ _ ⟨F, G, L, γ, x, w, he, e1, fun G2 H2 e2 w2 => ?_⟩
    cases x with
    | true => exact hu _ _ _ ⟨F, G2, L, γ, a, w2, EnvR.mono e2 he, ea, fun G3 H3 e3 w3 => q G3 H3 (e2.trans e3) w3⟩
    | false =>
      cases ea
      exact q G2 H2 e2 w2
theorem vt_or2 {f g : Γ → Option Bool} {t u : TT} {K : PySem.W.Frag} (ht : ∀ σ H Q, tet K f σ H Q → t σ H Q) (hu : ∀ σ H Q, tet K g σ H Q → u σ H Q) {σ : L2.St} {H : Hp} {Q} (h : tet K (foor f g) σ H Q) : tOr t u σ H Q := by
  obtain ⟨F, G, L, γ, a, w, he, ea, q⟩ := h
  unfold foor at ea
  cases e1 : f γ with
  | none => rw [e1] at ea; cases ea
  | some x =>
    rw [e1] at ea
    refine ht _ _ _ ⟨F, G, L, γ, x, w, he, e1, fun G2 H2 e2 w2 => ?_⟩
    cases x with
    | true =>
      cases ea
      exact q G2 H2 e2 w2
    | false => exact hu _ _ _ ⟨F, G2, L, γ, a, w2, EnvR.mono e2 he, ea, fun G3 H3 e3 w3 => q G3 H3 (e2.trans e3) w3⟩
abbrev VW (X : Cx) (e : Expr) (f : Γ → Option Bool) : Prop := PW X e (tet X.K f)
theorem PW.le {X : Cx} {e : Expr} {t t' : TT} (h : PW X e t) (k : ∀ σ H Q, t' σ H Q → t σ H Q) : PW X e t' := ⟨fun wh pins s σ H Q I q => h.run wh pins s σ H Q I (k σ H Q q)⟩
variable {rest : List Expr} {p q : Γ → Option Bool}
theorem vw_and1 (h : VT X a p) : VW X (.BoolOp .And [a] pos) p := pw_and1 h
theorem vw_or1 (h : VT X a p) : VW X (.BoolOp .Or [a] pos) p := pw_or1 h
theorem vw_and (h : VT X a p) (k : VW X (.BoolOp .And (b :: rest) pos) q) : VW X (.BoolOp .And (a :: b :: rest) pos) (fand p q) := PW.le (pw_and h k) fun _ _ _ z => vt_and2 (fun _ _ _ z => z) (fun _ _ _ z => z) z
theorem vw_or (h : VT X a p) (k : VW X (.BoolOp .Or (b :: rest) pos) q) : VW X (.BoolOp .Or (a :: b :: rest) pos) (foor p q) := PW.le (pw_or h k) fun _ _ _ z => vt_or2 (fun _ _ _ z => z) (fun _ _ _ z => z) z
theorem vw_t (h : VW X e p) : VT X e p := PW.pt h
theorem vt_not (h : VT X a p) : VT X (.UnaryOp .Not a pos) (fnot p) := PT.le (pt_not h) fun σ H Q ⟨F, G, L, γ, x, w, he, ea, k⟩ => by
  unfold fnot at ea
  cases e1 : p γ with
  | none => rw [e1] at ea; cases ea
  | some y =>
    rw [e1] at ea
    cases ea
    exact ⟨F, G, L, γ, y, w, he, e1, fun G2 H2 e2 w2 => k G2 H2 e2 w2⟩
theorem ve_one {op} (h : VE X a p) : VE X (.BoolOp op [a] pos) p := pe_one h
theorem ve_and (h : VE X a p) (k : VE X (.BoolOp .And (b :: rest) pos) q) : VE X (.BoolOp .And (a :: b :: rest) pos) (fand p q) := PE.le (pe_and h k) fun σ H Q ⟨F, G, L, γ, z, w, he, ea, kk⟩ => by
  unfold fand at ea
  cases e1 : p γ with
  | none => rw [e1] at ea; cases ea
  | some x =>
    rw [e1] at ea
    refine ⟨F, G, L, γ, x, w, he, e1, fun v G2 H2 e2 w2 r => ⟨x, r, ?_⟩⟩
    cases x with
    | true => exact ⟨F, G2, L, γ, z, w2, EnvR.mono e2 he, ea, fun v G3 H3 e3 w3 r => kk v G3 H3 (e2.trans e3) w3 r⟩
    | false =>
      cases ea
      exact kk _ G2 H2 e2 w2 rfl
theorem ve_or (h : VE X a p) (k : VE X (.BoolOp .Or (b :: rest) pos) q) : VE X (.BoolOp .Or (a :: b :: rest) pos) (foor p q) := PE.le (pe_or h k) fun σ H Q ⟨F, G, L, γ, z, w, he, ea, kk⟩ => by
  unfold foor at ea
  cases e1 : p γ with
  | none => rw [e1] at ea; cases ea
  | some x =>
    rw [e1] at ea
    refine ⟨F, G, L, γ, x, w, he, e1, fun v G2 H2 e2 w2 r => ⟨x, r, ?_⟩⟩
    cases x with
    | true =>
      cases ea
      exact kk _ G2 H2 e2 w2 rfl
    | false => exact ⟨F, G2, L, γ, z, w2, EnvR.mono e2 he, ea, fun v G3 H3 e3 w3 r => kk v G3 H3 (e2.trans e3) w3 r⟩
theorem ve_not (h : VE X a p) : VE X (.UnaryOp .Not a pos) (fnot p) := PE.le (pe_not h) fun σ H Q ⟨F, G, L, γ, x, w, he, ea, k⟩ => by
  unfold fnot at ea
  cases e1 : p γ with
  | none => rw [e1] at ea; cases ea
  | some y =>
    rw [e1] at ea
    cases ea
    exact ⟨F, G, L, γ, y, w, he, e1, fun v G2 H2 e2 w2 r => ⟨y, r, k _ G2 H2 e2 w2 rfl⟩⟩
theorem vo_if {R : RR α} {f g : Γ → Option α} (hc : VT X c p) (ha : VO X a R f) (hb : VO X b R g) : VO X (.IfExp c a b pos) R (fif p f g) := PE.le (pe_ifExp hc ha hb) fun σ H Q ⟨F, G, L, γ, z, w, he, ea, kk⟩ => by
  unfold fif at ea
  cases e1 : p γ with
  | none => rw [e1] at ea; cases ea
  | some x =>
    rw [e1] at ea
    refine ⟨F, G, L, γ, x, w, he, e1, fun G2 H2 e2 w2 => ?_⟩
    cases x with
    | true => exact ⟨F, G2, L, γ, z, w2, EnvR.mono e2 he, ea, fun v G3 H3 e3 w3 r => kk v G3 H3 (e2.trans e3) w3 r⟩
    | false => exact ⟨F, G2, L, γ, z, w2, EnvR.mono e2 he, ea, fun v G3 H3 e3 w3 r => kk v G3 H3 (e2.trans e3) w3 r⟩
/-! ### argument lists -/
class RepL (A : Type) where
  rl : PySem.W.Frag → Hp → A → List V → Prop
  mono : ∀ {K : PySem.W.Frag} {G G' : Hp} {a : A} {vs : List V}, Ex G G' → rl K G a vs → rl K G' a vs
  n : Nat
  len : ∀ {K : PySem.W.Frag} {G : Hp} {a : A} {vs : List V}, rl K G a vs → vs.length = n
instance : RepL Unit := ⟨fun _ _ _ vs => vs = [], fun _ h => h, 0, fun h => by rw [h]; rfl⟩
instance {α A : Type} [Rep α] [RepL A] : RepL (α × A) := ⟨fun K G a vs => ∃ v r, vs = v :: r ∧ rep K G a.1 v ∧ RepL.rl K G a.2 r, fun e ⟨v, r, h1, h2, h3⟩ => ⟨v, r, h1, Rep.mono e h2, RepL.mono e h3⟩, RepL.n A + 1, fun ⟨v, r, h1, h2, h3⟩ => by rw [h1, List.length_cons, RepL.len h3]⟩
def tea {A : Type} [RepL A] (K : PySem.W.Frag) (f : Γ → Option A) : TA := fun σ H Q => ∃ F G L γ a, W F G H ∧ er K G F L σ γ ∧ f γ = some a ∧ ∀ vs G2 H2, Ex G G2 → W F G2 H2 → RepL.rl K G2 a vs → Q vs H2
abbrev VA {A : Type} [RepL A] (X : Cx) (es : List Expr) (f : Γ → Option A) : Prop := PA X es (tea X.K f)
def fnil : Γ → Option Unit := fun _ => some ()
def fcons {A : Type} (f : Γ → Option α) (g : Γ → Option A) : Γ → Option (α × A) := fun γ => (f γ).bind fun x => (g γ).bind fun y => some (x, y)
theorem va_nil : VA X [] (fnil (Γ := Γ)) := PA.le pa_nil fun σ H Q ⟨F, G, L, γ, a, w, he, ea, q⟩ => by
  cases ea
  exact q [] G H (Ex.refl G) w rfl
theorem va_cons {A : Type} [RepL A] [Rep α] {es : List Expr} {f : Γ → Option α} {g : Γ → Option A} (h : VE X e f) (k : VA X es g) (hs : starEach (e :: es) X.env = (false, eval e X.env) :: starEach es X.env := by rfl) : VA X (e :: es) (fcons f g) :=
  PA.le (pa_cons h k hs) fun σ H Q ⟨F, G, L, γ, a, w, he, ea, q⟩ => by
    unfold fcons at ea
    cases e1 : f γ with
    | none => rw [e1] at ea; cases ea
    | some x =>
      rw [e1] at ea
      cases e2 : g γ with
      | none => simp only [Option.bind_some] at ea; rw [e2] at ea; cases ea
      | some y =>
        simp only [Option.bind_some] at ea
        rw [e2] at ea
        cases ea
        exact ⟨F, G, L, γ, x, w, he, e1, fun v G2 H2 x2 w2 r2 => ⟨F, G2, L, γ, y, w2, EnvR.mono x2 he, e2, fun vs G3 H3 x3 w3 r3 => q (v :: vs) G3 H3 (x2.trans x3) w3 ⟨v, vs, rfl, Rep.mono x3 r2, r3⟩⟩⟩
/-! ### what a def promises, by its mirror -/
/-- a def that changes nothing -/
def spF {A ρ : Type} [RepL A] [Rep ρ] (K : PySem.W.Frag) (m : A → Option ρ) : Sp := fun vs H Q _ => ∃ F G a r, W F G H ∧ RepL.rl K G a vs ∧ m a = some r ∧ ∀ v G2 H2, Ex G G2 → W F G2 H2 → rep K G2 r v → Q v H2
/-- a def that makes a list for its caller -/
def spN {A α : Type} [RepL A] [Rep α] (K : PySem.W.Frag) (m : A → Option (List α)) : Sp := fun vs H Q _ => ∃ F G a r, W F G H ∧ RepL.rl K G a vs ∧ m a = some r ∧ ∀ v G2 H2, Ex G G2 → W F G2 H2 → RF K F G2 H2 r v → Q v H2
/-- a def that changes the list of ints that it is given first -/
def spM {A ρ : Type} [RepL A] [Rep ρ] (K : PySem.W.Frag) (m : List Int → A → Option (ρ × List Int)) : Sp := fun vs H Q _ => ∃ F G p vs' s a r s', vs = .ref p :: vs' ∧ W F G H ∧ F p = some (.lst (s.map V.int)) ∧ RepL.rl K G a vs' ∧ m s a = some (r, s') ∧
  ∀ v F2 G2 H2, Ex G G2 → W F2 G2 H2 → F2 p = some (.lst (s'.map V.int)) → (∀ b, b ≠ p → F2 b = F b) → rep K G2 r v → Q v H2
variable {A ρ : Type} [RepL A] [Rep ρ] {m : A → Option ρ} {k : Nat} {fa : Addr} {fd : FuncData} {psn : List Str} {x : Str} {pp : Pos} {es : List Expr} {g : Γ → Option A}
end
end Vx
namespace Vx
open Rep (rep)
open EnvR (er)
open PySem L2
/-! ### expressions that change the list of ints that stands first (the draw) -/
section
variable {Γ : Type} [EnvR Γ] {α β δ : Type}
/-- an expression that may change the cells of the environment -/
def tem (K : PySem.W.Frag) (R : RR α) (f : Γ → Option (α × Γ)) : TE := fun σ H Q => ∃ F G L γ a γ', W F G H ∧ er K G F L σ γ ∧ f γ = some (a, γ') ∧
  ∀ v F2 G2 H2, Ex G G2 → W F2 G2 H2 → (∀ b, b ∉ L → F2 b = F b) → er K G2 F2 L σ γ' → R F2 G2 H2 a v → Q v H2
def tmt (K : PySem.W.Frag) (f : Γ → Option (Bool × Γ)) : TT := fun σ H Q => ∃ F G L γ a γ', W F G H ∧ er K G F L σ γ ∧ f γ = some (a, γ') ∧
  ∀ F2 G2 H2, Ex G G2 → W F2 G2 H2 → (∀ b, b ∉ L → F2 b = F b) → er K G2 F2 L σ γ' → Q a H2
def tma {A : Type} [RepL A] (K : PySem.W.Frag) (f : Γ → Option (A × Γ)) : TA := fun σ H Q => ∃ F G L γ a γ', W F G H ∧ er K G F L σ γ ∧ f γ = some (a, γ') ∧
  ∀ vs F2 G2 H2, Ex G G2 → W F2 G2 H2 → (∀ b, b ∉ L → F2 b = F b) → er K G2 F2 L σ γ' → RepL.rl K G2 a vs → Q vs H2
abbrev MO (X : Cx) (e : Expr) (R : RR α) (f : Γ → Option (α × Γ)) : Prop := PE X e (tem X.K R f)
abbrev ME [Rep α] (X : Cx) (e : Expr) (f : Γ → Option (α × Γ)) : Prop := PE X e (tem X.K (RE X.K) f)
abbrev MT (X : Cx) (e : Expr) (f : Γ → Option (Bool × Γ)) : Prop := PT X e (tmt X.K f)
abbrev MA {A : Type} [RepL A] (X : Cx) (es : List Expr) (f : Γ → Option (A × Γ)) : Prop := PA X es (tma X.K f)
def up (f : Γ → Option α) : Γ → Option (α × Γ) := fun γ => (f γ).map (·, γ)
def m1 (φ : α → Option β) (f : Γ → Option (α × Γ)) : Γ → Option (β × Γ) := fun γ => (f γ).bind fun (x, γ') => (φ x).map (·, γ')
def m2 (φ : α → β → Option δ) (f : Γ → Option (α × Γ)) (g : Γ → Option (β × Γ)) : Γ → Option (δ × Γ) := fun γ => (f γ).bind fun (x, γ') => (g γ').bind fun (y, γ'') => (φ x y).map (·, γ'')
def mcons {A : Type} (f : Γ → Option (α × Γ)) (g : Γ → Option (A × Γ)) : Γ → Option ((α × A) × Γ) := m2 (fun x y => some (x, y)) f g
variable {X : Cx} {e a b c : Expr} {pos : Pos}
theorem up_some {f : Γ → Option α} {γ γ' : Γ} {x : α} (h : up f γ = some (x, γ')) : f γ = some x ∧ γ' = γ := by
  unfold up at h
  cases e : f γ with
  | none => rw [e] at h; cases h
  | some y =>
    rw [e] at h
    cases h
    exact ⟨rfl, rfl⟩
theorem vo_up {R : RR α} {f : Γ → Option α} (h : VO X e R f) : MO X e R (up f) := PE.le h fun σ H Q ⟨F, G, L, γ, x, γ', w, he, ea, q⟩ => by
  obtain ⟨ex, rfl⟩ := up_some ea
  exact ⟨F, G, L, γ', x, w, he, ex, fun v G2 H2 e2 w2 r => q v F G2 H2 e2 w2 (fun _ _ => rfl) (EnvR.mono e2 he) r⟩
theorem vt_up {f : Γ → Option Bool} (h : VT X e f) : MT X e (up f) := PT.le h fun σ H Q ⟨F, G, L, γ, x, γ', w, he, ea, q⟩ => by
  obtain ⟨ex, rfl⟩ := up_some ea
  exact ⟨F, G, L, γ', x, w, he, ex, fun G2 H2 e2 w2 => q F G2 H2 e2 w2 (fun _ _ => rfl) (EnvR.mono e2 he)⟩
theorem va_up {A : Type} [RepL A] {es : List Expr} {f : Γ → Option A} (h : VA X es f) : MA X es (up f) := PA.le h fun σ H Q ⟨F, G, L, γ, x, γ', w, he, ea, q⟩ => by
  obtain ⟨ex, rfl⟩ := up_some ea
  exact ⟨F, G, L, γ', x, w, he, ex, fun v G2 H2 e2 w2 r => q v F G2 H2 e2 w2 (fun _ _ => rfl) (EnvR.mono e2 he) r⟩
theorem m1_some {φ : α → Option β} {f : Γ → Option (α × Γ)} {γ γ' : Γ} {y : β} (h : m1 φ f γ = some (y, γ')) : ∃ x, f γ = some (x, γ') ∧ φ x = some y := by
  unfold m1 at h
  cases e : f γ with
  | none => rw [e] at h; cases h
  | some p =>
    rw [e] at h
    simp only [Option.bind_some] at h
    cases e2 : φ p.1 with
    | none => rw [e2] at h; cases h
    | some z =>
      rw [e2] at h
      cases h
      exact ⟨p.1, rfl, e2⟩
theorem m2_some {φ : α → β → Option δ} {f : Γ → Option (α × Γ)} {g : Γ → Option (β × Γ)} {γ γ' : Γ} {z : δ} (h : m2 φ f g γ = some (z, γ')) : ∃ x γ1 y, f γ = some (x, γ1) ∧ g γ1 = some (y, γ') ∧ φ x y = some z := by
  unfold m2 at h
  cases e : f γ with
  | none => rw [e] at h; cases h
  | some p =>
    rw [e] at h
    simp only [Option.bind_some] at h
    cases e1 : g p.2 with
    | none => rw [e1] at h; cases h
    | some q =>
      rw [e1] at h
      simp only [Option.bind_some] at h
      cases e2 : φ p.1 q.1 with
      | none => rw [e2] at h; cases h
      | some z =>
        rw [e2] at h
        cases h
        exact ⟨p.1, p.2, q.1, rfl, e1, e2⟩
theorem off_trans {L : List Addr} {F F2 F3 : Hp} (a : ∀ b, b ∉ L → F2 b = F b) (c : ∀ b, b ∉ L → F3 b = F2 b) : ∀ b, b ∉ L → F3 b = F b := fun b h => (c b h).trans (a b h)
/-- what was worth x stays so, whatever the draw does -/
def MMono {α : Type} (R : RR α) : Prop := ∀ {F F2 G H G2 H2 : Hp} {a : α} {v : V}, Ex G G2 → W F2 G2 H2 → R F G H a v → R F2 G2 H2 a v
theorem re_mmono {K : PySem.W.Frag} {α : Type} [Rep α] : MMono (RE K (α := α)) := fun e _ h => Rep.mono e h
theorem tem2 {K : PySem.W.Frag} {r : L2.R2} {R1 : RR α} {R2 : RR β} {R3 : RR δ} {φ : α → β → Option δ} {f : Γ → Option (α × Γ)} {g : Γ → Option (β × Γ)} (o : Op2 r R1 R2 R3 φ) (mo : MMono R1) {σ : L2.St} {H : Hp} {Q : VK} (h : tem K R3 (m2 φ f g) σ H Q) :
    tem K R1 f σ H fun x H1 => tem K R2 g σ H1 fun y H2 => r x y H2 Q := by
  obtain ⟨F, G, L, γ, z, γ', w, he, ea, q⟩ := h
  obtain ⟨x, γ1, y, e1, e2, e3⟩ := m2_some ea
  exact ⟨F, G, L, γ, x, γ1, w, he, e1, fun v F2 G2 H2 x2 w2 of er2 rx => ⟨F2, G2, L, γ1, y, γ', w2, er2, e2, fun v' F3 G3 H3 x3 w3 of3 er3 ry =>
    o F3 G3 H3 x y z v v' Q w3 (mo x3 w3 rx) ry e3 fun v4 G4 H4 x4 w4 r4 => q v4 F3 G4 H4 ((x2.trans x3).trans x4) w4 (off_trans of of3) (EnvR.mono x4 er3) r4⟩⟩
theorem mo_op {op : Operator} {r : L2.R2} {R1 : RR α} {R2 : RR β} {R3 : RR δ} {φ : α → β → Option δ} {f : Γ → Option (α × Γ)} {g : Γ → Option (β × Γ)} (ho : OpR X (binaryOp op) r) (o : Op2 r R1 R2 R3 φ) (mo : MMono R1) (ha : MO X a R1 f) (hb : MO X b R2 g) : MO X (.BinOp a op b pos) R3 (m2 φ f g) :=
  PE.le (pe_op ho ha hb) fun σ H Q h => tem2 o mo h
def mand (f g : Γ → Option (Bool × Γ)) : Γ → Option (Bool × Γ) := fun γ => (f γ).bind fun (b, γ') => if b then g γ' else some (false, γ')
def moor (f g : Γ → Option (Bool × Γ)) : Γ → Option (Bool × Γ) := fun γ => (f γ).bind fun (b, γ') => if b then some (true, γ') else g γ'
def mnot (f : Γ → Option (Bool × Γ)) : Γ → Option (Bool × Γ) := fun γ => (f γ).map fun (b, γ') => (!b, γ')
def mif (c : Γ → Option (Bool × Γ)) (f g : Γ → Option (α × Γ)) : Γ → Option (α × Γ) := fun γ => (c γ).bind fun (b, γ') => if b then f γ' else g γ'
variable {rest : List Expr} {p q : Γ → Option (Bool × Γ)}
theorem mo_if {R : RR α} {f g : Γ → Option (α × Γ)} (hc : MT X c p) (ha : MO X a R f) (hb : MO X b R g) : MO X (.IfExp c a b pos) R (mif p f g) := PE.le (pe_ifExp hc ha hb) fun σ H Q ⟨F, G, L, γ, z, γ', w, he, ea, kk⟩ => by
  unfold mif at ea
  cases e1 : p γ with
  | none => rw [e1] at ea; cases ea
  | some x =>
    rw [e1] at ea
    refine ⟨F, G, L, γ, x.1, x.2, w, he, e1, fun F2 G2 H2 x2 w2 of er2 => ?_⟩
    obtain ⟨x1, γ1⟩ := x
    cases x1 with
    | true => exact ⟨F2, G2, L, γ1, z, γ', w2, er2, ea, fun v F3 G3 H3 x3 w3 of3 er3 r => kk v F3 G3 H3 (x2.trans x3) w3 (off_trans of of3) er3 r⟩
    | false => exact ⟨F2, G2, L, γ1, z, γ', w2, er2, ea, fun v F3 G3 H3 x3 w3 of3 er3 r => kk v F3 G3 H3 (x2.trans x3) w3 (off_trans of of3) er3 r⟩
theorem ma_cons {A : Type} [RepL A] [Rep α] {es : List Expr} {f : Γ → Option (α × Γ)} {g : Γ → Option (A × Γ)} (h : ME X e f) (k : MA X es g) (hs : starEach (e :: es) X.env = (false, eval e X.env) :: starEach es X.env := by rfl) : MA X (e :: es) (mcons f g) :=
  PA.le (pa_cons h k hs) fun σ H Q ⟨F, G, L, γ, z, γ', w, he, ea, q⟩ => by
    obtain ⟨x, γ1, y, e1, e2, e3⟩ := m2_some ea
    cases e3
    exact ⟨F, G, L, γ, x, γ1, w, he, e1, fun v F2 G2 H2 x2 w2 of er2 rx => ⟨F2, G2, L, γ1, y, γ', w2, er2, e2, fun vs F3 G3 H3 x3 w3 of3 er3 ry => q (v :: vs) F3 G3 H3 (x2.trans x3) w3 (off_trans of of3) er3 ⟨v, vs, rfl, Rep.mono x3 rx, ry⟩⟩⟩
end
end Vx
namespace Vx
open Rep (rep)
open EnvR (er)
open PySem L2
/-- a walk yields xs, whatever comes beside -/
def Walks {τ : Type} [Rep τ] (K : PySem.W.Frag) (G : Hp) (J : It) (xs : List τ) : Prop := ∀ F' G' H', Ex G G' → W F' G' H' → ∀ i, (∀ t, xs[i]? = some t → J.go i H' ∧ ∀ x H'', J.yld i H' x H'' → ∃ G'', Ex G' G'' ∧ W F' G'' H'' ∧ rep K G'' t x) ∧ (xs.length ≤ i → J.stop i H')
theorem Walks.mono {τ : Type} [Rep τ] {K : PySem.W.Frag} {G G2 : Hp} {J : It} {xs : List τ} (h : Walks K G J xs) (e : Ex G G2) : Walks K G2 J xs := fun F' G' H' x w => h F' G' H' (e.trans x) w
theorem PI.le {X : Cx} {tg e : Expr} {t t' : TI} (h : PI X tg e t) (k : ∀ σ H Q, t' σ H Q → t σ H Q) : PI X tg e t' := ⟨fun pins s σ H Q I q => h.run pins s σ H Q I (k σ H Q q)⟩
section
variable {Γ : Type} [EnvR Γ] {α β τ : Type} [Rep τ]
def tiv (K : PySem.W.Frag) (g : Γ → Option (List τ)) : TI := fun σ H R => ∃ F G L γ xs, W F G H ∧ er K G F L σ γ ∧ g γ = some xs ∧ ∀ J G2 H2, Ex G G2 → W F G2 H2 → Walks K G2 J xs → R J H2
def tim (K : PySem.W.Frag) (g : Γ → Option (List τ × Γ)) : TI := fun σ H R => ∃ F G L γ xs γ', W F G H ∧ er K G F L σ γ ∧ g γ = some (xs, γ') ∧ ∀ J F2 G2 H2, Ex G G2 → W F2 G2 H2 → (∀ b, b ∉ L → F2 b = F b) → er K G2 F2 L σ γ' → Walks K G2 J xs → R J H2
abbrev VI (X : Cx) (tg e : Expr) (g : Γ → Option (List τ)) : Prop := PI X tg e (tiv X.K g)
abbrev MI (X : Cx) (tg e : Expr) (g : Γ → Option (List τ × Γ)) : Prop := PI X tg e (tim X.K g)
variable {X : Cx} {tg e : Expr} {pos : Pos}
theorem vi_up {g : Γ → Option (List τ)} (h : VI X tg e g) : MI X tg e (up g) := PI.le h fun σ H R ⟨F, G, L, γ, xs, γ', w, he, ea, q⟩ => by
  obtain ⟨ex, rfl⟩ := up_some ea
  exact ⟨F, G, L, γ', xs, w, he, ex, fun J G2 H2 e2 w2 wl => q J F G2 H2 e2 w2 (fun _ _ => rfl) (EnvR.mono e2 he) wl⟩
theorem paired_get {α β : Type} {R : α → β → Prop} : ∀ {xs : List α} {ys : List β} {i : Nat} {x : α}, PySem.Paired R xs ys → xs[i]? = some x → ∃ y, ys[i]? = some y ∧ R x y
  | _, _, _, _, .nil, e => by simp at e
  | _, _, 0, _, .cons r _, e => by simp at e; subst e; exact ⟨_, rfl, r⟩
  | _, _, i + 1, x, .cons _ t, e => by
    obtain ⟨u, h1, h2⟩ := paired_get (i := i) (x := x) t (by simpa using e)
    exact ⟨u, by simpa using h1, h2⟩
theorem paired_len {α β : Type} {R : α → β → Prop} : ∀ {xs : List α} {ys : List β}, PySem.Paired R xs ys → xs.length = ys.length
  | _, _, .nil => rfl
  | _, _, .cons _ t => congrArg (· + 1) (paired_len t)
theorem paired_app {α β : Type} {R : α → β → Prop} : ∀ {xs xs' : List α} {ys ys' : List β}, PySem.Paired R xs ys → PySem.Paired R xs' ys' → PySem.Paired R (xs ++ xs') (ys ++ ys')
  | _, _, _, _, .nil, s => s
  | _, _, _, _, .cons r t, s => .cons r (paired_app t s)
theorem walks_list {K : PySem.W.Frag} {G : Hp} {p : Addr} {vs : List V} {xs : List τ} (h : G p = some (.lst vs)) (r : PySem.Paired (rep K G) xs vs) : Walks K G (Itl K p) xs := fun F' G' H' e w i => by
  have hl : SqL K H' p vs := .inl (.inl (w.g _ _ (e _ _ h)))
  refine ⟨fun t ht => ?_, fun hi => ⟨vs, hl, by rw [← paired_len r]; exact hi⟩⟩
  obtain ⟨v, hv, rv⟩ := paired_get r ht
  refine ⟨⟨vs, v, hl, hv⟩, fun x H'' hy => ?_⟩
  obtain ⟨rfl, f⟩ := hy
  obtain rfl : v = x := Option.some.inj (hv.symm.trans (f _ hl))
  exact ⟨G', Ex.refl _, w, Rep.mono e rv⟩
theorem walks_tup {K : PySem.W.Frag} {G : Hp} {p : Addr} {vs : List V} {xs : List τ} (h : G p = some (.tup vs)) (r : PySem.Paired (rep K G) xs vs) : Walks K G (Itt K p) xs := fun F' G' H' e w i => by
  have hl : SqT K H' p vs := .inl (.inl (w.g _ _ (e _ _ h)))
  refine ⟨fun t ht => ?_, fun hi => ⟨vs, hl, by rw [← paired_len r]; exact hi⟩⟩
  obtain ⟨v, hv, rv⟩ := paired_get r ht
  refine ⟨⟨vs, v, hl, hv⟩, fun x H'' hy => ?_⟩
  obtain ⟨rfl, f⟩ := hy
  obtain rfl : v = x := Option.some.inj (hv.symm.trans (f _ hl))
  exact ⟨G', Ex.refl _, w, Rep.mono e rv⟩
theorem vi_list {f : Γ → Option (List τ)} (h : VE X e f) : VI X tg e f := PI.le (pi_list h) fun σ H R ⟨F, G, L, γ, xs, w, he, ea, q⟩ =>
  ⟨F, G, L, γ, xs, w, he, ea, fun v G2 H2 e2 w2 ⟨p, vs, h1, h2, h3⟩ => ⟨p, h1, ⟨vs, .inl (.inl (w2.g _ _ h2))⟩, q _ G2 H2 e2 w2 (walks_list h2 h3)⟩⟩
theorem vi_tup {f : Γ → Option (Tup τ)} (h : VE X e f) : VI X tg e (f1 (fun t => some t.l) f) := PI.le (pi_tup h) fun σ H R ⟨F, G, L, γ, xs, w, he, ea, q⟩ => by
  unfold f1 at ea
  cases e1 : f γ with
  | none => rw [e1] at ea; cases ea
  | some x =>
    rw [e1] at ea
    cases ea
    exact ⟨F, G, L, γ, x, w, he, e1, fun v G2 H2 e2 w2 ⟨p, vs, h1, h2, h3⟩ => ⟨p, h1, ⟨vs, .inl (.inl (w2.g _ _ h2))⟩, q _ G2 H2 e2 w2 (walks_tup h2 h3)⟩⟩
/-- a text's signs -/
def signs (s : Str) : List Str := s.cps.toList.map fun c => ⟨#[c]⟩
theorem walks_str {K : PySem.W.Frag} {G : Hp} {s : Str} : Walks K G (Its s) (signs s) := fun F' G' H' e w i => by
  refine ⟨fun t ht => ?_, fun hi => (show s.cps.size ≤ i by simpa [signs] using hi)⟩
  have hi : i < s.cps.size := by
    have := (List.getElem?_eq_some_iff.mp ht).1
    simpa [signs] using this
  refine ⟨hi, fun x H'' hy => ?_⟩
  obtain ⟨rfl, c, hc, rfl⟩ := hy
  refine ⟨G', Ex.refl _, w, ?_⟩
  have : (signs s)[i]? = some ⟨#[c]⟩ := by
    unfold signs
    rw [List.getElem?_map, Array.getElem?_toList, hc]
    rfl
  rw [ht] at this
  cases this
  rfl
theorem vi_str {f : Γ → Option Str} (h : VE X e f) : VI X tg e (f1 (fun s => some (signs s)) f) := PI.le (pi_str h) fun σ H R ⟨F, G, L, γ, xs, w, he, ea, q⟩ => by
  unfold f1 at ea
  cases e1 : f γ with
  | none => rw [e1] at ea; cases ea
  | some x =>
    rw [e1] at ea
    cases ea
    exact ⟨F, G, L, γ, x, w, he, e1, fun v G2 H2 e2 w2 r => ⟨x, r, q _ G2 H2 e2 w2 walks_str⟩⟩
/-- range(lo, hi) -/
def rng (lo hi : Int) : List Int := (List.range (hi - lo).toNat).map fun (i : Nat) => lo + (i : Int)
theorem walks_rng {K : PySem.W.Frag} {G : Hp} {lo hi : Int} : Walks K G (Itr lo (hi - lo).toNat) (rng lo hi) := fun F' G' H' e w i => by
  refine ⟨fun t ht => ?_, fun hi' => (show (hi - lo).toNat ≤ i by simpa [rng] using hi')⟩
  have hi1 : i < (hi - lo).toNat := by
    have := (List.getElem?_eq_some_iff.mp ht).1
    simpa [rng] using this
  refine ⟨hi1, fun x H'' hy => ?_⟩
  obtain ⟨rfl, rfl⟩ := hy
  refine ⟨G', Ex.refl _, w, ?_⟩
  unfold rng at ht
  rw [List.getElem?_map, List.getElem?_range hi1] at ht
  cases ht
  rfl
def rangeOf1 (j : Int) : Option (List Int) := if -1000000 ≤ j ∧ j ≤ 1000000 then some (rng 0 j) else none
theorem vi_range1 {a : Expr} {p : Pos} {f : Γ → Option Int} (h : VE X a f) (hm : X.mg "range" = none) (hg : Gl X "range" := by rfl) (hs : starEach [a] X.env = [(false, eval a X.env)] := by rfl) : VI X tg (.Call (.Name "range" p) [a] [] pos) (f1 rangeOf1 f) :=
  PI.le (pi_range1 hg hm (pa_cons h pa_nil hs) hs) fun σ H R ⟨F, G, L, γ, xs, w, he, ea, q⟩ => by
    unfold f1 at ea
    cases e1 : f γ with
    | none => rw [e1] at ea; cases ea
    | some j =>
      rw [e1] at ea
      simp only [Option.bind_some] at ea
      unfold rangeOf1 at ea
      split at ea
      · rename_i hb
        cases ea
        refine ⟨F, G, L, γ, j, w, he, e1, fun v G2 H2 e2 w2 r => ⟨j, by cases r; rfl, by omega, by omega, ?_⟩⟩
        have hz : j.toNat = (j - 0).toNat := by rw [Int.sub_zero]
        rw [hz]
        exact q _ G2 H2 e2 w2 walks_rng
      · cases ea
/-- range of a drawn number -/
theorem mi_range1 {a : Expr} {p : Pos} {f : Γ → Option (Int × Γ)} (h : ME X a f) (hm : X.mg "range" = none) (hg : Gl X "range" := by rfl) (hs : starEach [a] X.env = [(false, eval a X.env)] := by rfl) : MI X tg (.Call (.Name "range" p) [a] [] pos) (m1 rangeOf1 f) :=
  PI.le (pi_range1 hg hm (pa_cons h pa_nil hs) hs) fun σ H R ⟨F, G, L, γ, xs, γ', w, he, ea, q⟩ => by
    obtain ⟨j, e1, e2⟩ := m1_some ea
    unfold rangeOf1 at e2
    split at e2
    · rename_i hb
      cases e2
      refine ⟨F, G, L, γ, j, γ', w, he, e1, fun v F2 G2 H2 e2 w2 of er2 r => ⟨j, by cases r; rfl, by omega, by omega, ?_⟩⟩
      have hz : j.toNat = (j - 0).toNat := by rw [Int.sub_zero]
      rw [hz]
      exact q _ F2 G2 H2 e2 w2 of er2 walks_rng
    · cases e2
/-! ### comprehensions -/
def lcGo (t : τ → Option Bool) (e : τ → Option α) : List τ → Option (List α)
  | [] => some []
  | x :: xs => (t x).bind fun b => if b then (e x).bind fun y => (lcGo t e xs).map (y :: ·) else lcGo t e xs
def lcSt {S : Type} (t : τ → S → Option (Bool × S)) (e : τ → S → Option (α × S)) : List τ → S → Option (List α × S)
  | [], s => some ([], s)
  | x :: xs, s => (t x s).bind fun (b, s1) => if b then (e x s1).bind fun (y, s2) => (lcSt t e xs s2).map fun (ys, s3) => (y :: ys, s3) else lcSt t e xs s1
variable {i : Nat} {Γe : Type} [EnvR Γe]
def flc (p : Put i Γ τ Γe) (g : Γ → Option (List τ)) (t : Γe → Option Bool) (e : Γe → Option α) : Γ → Option (List α) := fun γ => (g γ).bind fun xs => if xs.length ≤ 100000 then lcGo (fun x => t (p.put γ x)) (fun x => e (p.put γ x)) xs else none
/-- the draw goes on behind each turn -/
structure Bk (i : Nat) (Γ τ Γe : Type) [EnvR Γ] [Rep τ] [EnvR Γe] where
  back : Γe → Γ
  ok : ∀ {K : PySem.W.Frag} {G F : Hp} {L : List Addr} {σ : St} {γ : Γe} {o : Option V}, er K G F L (σ.set i o) γ → er K G F L σ (back γ)
def bz {Γ τ : Type} [EnvR Γ] [Rep τ] : Bk 0 (Any × Γ) τ (τ × Γ) := ⟨fun γ => (⟨⟩, γ.2), fun {K G F L σ γ o} ⟨L1, L2, u, σ', h1, h2, h3, h4, h5⟩ => by
  cases σ with
  | nil => cases h2
  | cons x σ0 =>
    have e : σ0 = σ' := (List.cons.inj h2).2
    subst e
    have z : L1 = [] := VSlot.nil h3
    exact ⟨[], L2, x, σ0, by rw [h1, z], rfl, rfl, h4, fun q hq => by cases hq⟩⟩
def bs {i : Nat} {τ₀ Γ τ Γe : Type} [Slot τ₀] [EnvR Γ] [Rep τ] [EnvR Γe] (b : Bk i Γ τ Γe) : Bk (i + 1) (τ₀ × Γ) τ (τ₀ × Γe) := ⟨fun γ => (γ.1, b.back γ.2), fun {K G F L σ γ o} ⟨L1, L2, u, σ', h1, h2, h3, h4, h5⟩ => by
  cases σ with
  | nil => cases h2
  | cons x σ0 =>
    have e1 : x = u := (List.cons.inj h2).1
    have e2 : σ0.set i o = σ' := (List.cons.inj h2).2
    subst e1
    subst e2
    exact ⟨L1, L2, x, σ0, h1, rfl, h3, b.ok h4, h5⟩⟩
def mlc (p : Put i Γ τ Γe) (bk : Bk i Γ τ Γe) (g : Γ → Option (List τ × Γ)) (t : Γe → Option (Bool × Γe)) (e : Γe → Option (α × Γe)) : Γ → Option (List α × Γ) := fun γ => (g γ).bind fun (xs, γ1) => if xs.length ≤ 100000 then
  lcSt (fun x γ => (t (p.put γ x)).map fun (b, γ') => (b, bk.back γ')) (fun x γ => (e (p.put γ x)).map fun (y, γ') => (y, bk.back γ')) xs γ1 else none
abbrev VTs (X : Cx) (ifs : List Expr) (f : Γ → Option Bool) : Prop := PTs X ifs (tet X.K f)
abbrev MTs (X : Cx) (ifs : List Expr) (f : Γ → Option (Bool × Γ)) : Prop := PTs X ifs (tmt X.K f)
theorem PTs.le {X : Cx} {e : List Expr} {t t' : TT} (h : PTs X e t) (k : ∀ σ H Q, t' σ H Q → t σ H Q) : PTs X e t' := ⟨fun pins s σ H Q I q => h.run pins s σ H Q I (k σ H Q q)⟩
def fyes : Γ → Option Bool := fun _ => some true
theorem vts_nil : VTs X [] (fyes (Γ := Γ)) := PTs.le pts_nil fun σ H Q ⟨F, G, L, γ, x, w, he, ea, q⟩ => by
  cases ea
  exact q G H (Ex.refl G) w
theorem vts_one {c : Expr} {f : Γ → Option Bool} (h : VT X c f) : VTs X [c] f := pts_one h
theorem vts_up {ifs : List Expr} {f : Γ → Option Bool} (h : VTs X ifs f) : MTs X ifs (up f) := PTs.le h fun σ H Q ⟨F, G, L, γ, x, γ', w, he, ea, q⟩ => by
  obtain ⟨ex, rfl⟩ := up_some ea
  exact ⟨F, G, L, γ', x, w, he, ex, fun G2 H2 e2 w2 => q F G2 H2 e2 w2 (fun _ _ => rfl) (EnvR.mono e2 he)⟩
theorem set_set' {σ : St} {i : Nat} {a b : Option V} : (σ.set i a).set i b = σ.set i b := List.set_set ..
variable [Rep α]
/-- the turns of a comprehension -/
theorem tlc {K : PySem.W.Frag} {p : Put i Γ τ Γe} {bk : Bk i Γ τ Γe} {g : Γ → Option (List τ × Γ)} {t : Γe → Option (Bool × Γe)} {e : Γe → Option (α × Γe)} {σ : L2.St} {H : Hp} {Q : VK} (h : tem K (RF K) (mlc p bk g t e) σ H Q) :
    tLc (tim K g) (gName i) (tmt K t) (tem K (RE K) e) [i] σ H Q := by
  obtain ⟨F, G, L, γ, zs, γ', w, he, ea, q⟩ := h
  unfold mlc at ea
  cases e0 : g γ with
  | none => rw [e0] at ea; cases ea
  | some r =>
  obtain ⟨xs, γ1⟩ := r
  rw [e0] at ea
  simp only [Option.bind_some] at ea
  split at ea
  case isFalse => cases ea
  rename_i hlen
  refine ⟨F, G, L, γ, xs, γ1, w, he, e0, fun J F1 G1 H1 x1 w1 of1 er1 wl D hD => ?_⟩
  have fd := w1.fresh hD
  have nD : ∀ {F' : Hp} {acc : List V}, (∀ q ∈ L, q ≠ D) := fun {F' acc} q hq z => EnvR.there er1 q hq (by rw [z]; exact fd.2)
  refine ⟨fun j m H' => m = xs.length - j ∧ j ≤ xs.length ∧ ∃ F2 G2 acc ys γ2 rest, Ex G1 G2 ∧ W (upd F2 D (.lst acc)) G2 H' ∧ F2 D = none ∧ (∀ b, b ∉ L → F2 b = F b) ∧ er K G2 F2 L σ γ2 ∧ PySem.Paired (rep K G2) ys acc ∧ acc.length ≤ j ∧
      lcSt (fun x γ => (t (p.put γ x)).map fun (b, γ') => (b, bk.back γ')) (fun x γ => (e (p.put γ x)).map fun (y, γ') => (y, bk.back γ')) (xs.drop j) γ2 = some (rest, γ') ∧ zs = ys ++ rest, ⟨xs.length, by simp, Nat.zero_le _, F1, G1, [], [], γ1, zs, Ex.refl _, w1.own hD, fd.2, of1, er1, .nil, Nat.zero_le _, ea, rfl⟩, ?_⟩
  rintro j m H' ⟨rfl, hj, F2, G2, acc, ys, γ2, rest, x2, w2, fD, of2, er2, r2, hacc, go, rfl⟩
  have wb : W F2 G2 H' := w2.less fun a o z => by
    rw [upd_ne (fun y => by rw [y, fD] at z; cases z)]
    exact z
  have keepE : ∀ {F3 G3 : Hp} {γ3 : Γ} {acc : List V}, er K G3 F3 L σ γ3 → er K G3 (upd F3 D (.lst acc)) L σ γ3 := fun {F3 G3 γ3 acc} z => EnvR.keep (fun q hq => upd_ne (nD (F' := F2) (acc := []) q hq)) z
  by_cases hlt : j < xs.length
  · obtain ⟨x, hx⟩ : ∃ x, xs[j]? = some x := ⟨xs[j], List.getElem?_eq_getElem hlt⟩
    obtain ⟨hgo, hyl⟩ := (wl (upd F2 D (.lst acc)) G2 H' x2 w2 j).1 x hx
    have hdrop : xs.drop j = x :: xs.drop (j + 1) := by
      rw [List.drop_eq_getElem_cons hlt]
      have : xs[j] = x := Option.some.inj ((List.getElem?_eq_getElem hlt).symm.trans hx)
      rw [this]
    rw [hdrop] at go
    unfold lcSt at go
    refine .inr ⟨hgo, fun H3 => ∃ F2 G2 acc ys γ2 rest', Ex G1 G2 ∧ W (upd F2 D (.lst acc)) G2 H3 ∧ F2 D = none ∧ (∀ b, b ∉ L → F2 b = F b) ∧ er K G2 F2 L σ γ2 ∧ PySem.Paired (rep K G2) ys acc ∧ acc.length ≤ j + 1 ∧
      lcSt (fun x γ => (t (p.put γ x)).map fun (b, γ') => (b, bk.back γ')) (fun x γ => (e (p.put γ x)).map fun (y, γ') => (y, bk.back γ')) (xs.drop (j + 1)) γ2 = some (rest', γ') ∧ _ = ys ++ rest', fun H3 z => ⟨xs.length - (j + 1), by omega, rfl, hlt, z⟩, fun xv H3 hy => ?_⟩
    obtain ⟨G3, x3, w3, rx⟩ := hyl xv H3 hy
    have er3 : er K G3 (upd F2 D (.lst acc)) L (σ.set i (some xv)) (p.put γ2 x) := p.ok (keepE (EnvR.mono x3 er2)) rx
    show wipe ((σ.set i none).set i (some xv)) [i] = wipe σ [i] ∧ _
    refine ⟨by show ((σ.set i none).set i (some xv)).set i none = σ.set i none; rw [set_set', set_set'], ?_⟩
    rw [show (wipe σ [i]).set i (some xv) = σ.set i (some xv) from set_set']
    cases et : t (p.put γ2 x) with
    | none =>
      rw [et] at go
      cases go
    | some rb =>
      obtain ⟨b, γb⟩ := rb
      rw [et] at go
      simp only [Option.map_some, Option.bind_some] at go
      refine ⟨_, G3, L, _, b, γb, w3, er3, et, fun F4 G4 H4 x4 w4 of4 er4 => ?_⟩
      have hF4 : F4 D = some (.lst acc) := by
        rw [of4 D (fun z => nD (F' := F2) (acc := []) D z rfl), upd_same]
      have er4' : er K G4 F4 L σ (bk.back γb) := bk.ok er4
      have off4 : ∀ b, b ∉ L → del F4 D b = F b := fun b hb => by
        by_cases hbD : b = D
        · rw [hbD, del_same]
          exact (by rw [← of1 D (fun z => nD (F' := F2) (acc := []) D z rfl)]; exact fd.2.symm)
        · rw [del_ne hbD, of4 b hb, upd_ne hbD]
          exact of2 b hb
      have updel : ∀ {F5 : Hp} {o : HO}, F5 D = some o → upd (del F5 D) D o = F5 := fun {F5 o} z => by
        funext a
        by_cases haD : a = D
        · rw [haD, upd_same, z]
        · rw [upd_ne haD, del_ne haD]
      cases b with
      | false =>
        simp only [Bool.false_eq_true, if_false] at go ⊢
        refine ⟨del F4 D, G4, acc, ys, bk.back γb, rest, (x2.trans x3).trans x4, by rw [updel hF4]; exact w4, del_same, off4, EnvR.keep (fun q hq => del_ne (nD (F' := F2) (acc := []) q hq)) er4', Paired.mono (fun _ _ z => Rep.mono (x3.trans x4) z) r2, by omega, go, rfl⟩
      | true =>
        simp only [if_true] at go ⊢
        cases ee : e (p.put (bk.back γb) x) with
        | none =>
          rw [ee] at go
          cases go
        | some ry =>
          obtain ⟨y, γy⟩ := ry
          rw [ee] at go
          simp only [Option.map_some, Option.bind_some] at go
          cases eg : lcSt (fun x γ => (t (p.put γ x)).map fun (b, γ') => (b, bk.back γ')) (fun x γ => (e (p.put γ x)).map fun (y, γ') => (y, bk.back γ')) (xs.drop (j + 1)) (bk.back γy) with
          | none =>
            rw [eg] at go
            cases go
          | some rr =>
            obtain ⟨rest', γr⟩ := rr
            rw [eg] at go
            simp only [Option.map_some] at go
            cases go
            have er4'' : er K G4 F4 L (σ.set i (some xv)) (p.put (bk.back γb) x) := p.ok er4' (Rep.mono x4 rx)
            refine ⟨F4, G4, L, _, y, γy, w4, er4'', ee, fun yv F5 G5 H5 x5 w5 of5 er5 ry => ?_⟩
            have hF5 : F5 D = some (.lst acc) := by
              rw [of5 D (fun z => nD (F' := F2) (acc := []) D z rfl)]
              exact hF4
            refine ⟨acc, w5.f _ _ hF5, Nat.lt_of_lt_of_le (Nat.lt_of_le_of_lt hacc (Nat.lt_of_lt_of_le hlt hlen)) line_ge, del F5 D, G5, acc ++ [yv], ys ++ [y], bk.back γy, rest', ((x2.trans x3).trans x4).trans x5, ?_, del_same, fun b hb => ?_,
              EnvR.keep (fun q hq => del_ne (nD (F' := F2) (acc := []) q hq)) (bk.ok er5), paired_app (Paired.mono (fun _ _ z => Rep.mono ((x3.trans x4).trans x5) z) r2) (.cons ry .nil), ?_, eg, ?_⟩
            · have : upd (del F5 D) D (.lst (acc ++ [yv])) = upd F5 D (.lst (acc ++ [yv])) := by
                funext a
                by_cases haD : a = D
                · rw [haD, upd_same, upd_same]
                · rw [upd_ne haD, upd_ne haD, del_ne haD]
              rw [this]
              exact w5.set hF5
            · by_cases hbD : b = D
              · rw [hbD, del_same]
                exact (by rw [← of1 D (fun z => nD (F' := F2) (acc := []) D z rfl)]; exact fd.2.symm)
              · rw [del_ne hbD, of5 b hb]
                rw [← off4 b hb, del_ne hbD]
            · rw [List.length_append, List.length_singleton]
              omega
            · rw [List.append_assoc]
              rfl
  · have hj' : j = xs.length := by omega
    subst hj'
    rw [List.drop_length] at go
    unfold lcSt at go
    cases go
    refine .inl ⟨(wl (upd F2 D (.lst acc)) G2 H' x2 w2 xs.length).2 (Nat.le_refl _), ?_⟩
    rw [List.append_nil] at q
    exact q _ F2 G2 H' (x1.trans x2) wb of2 er2 ⟨D, acc, rfl, fD, w2.d D _ upd_same, w2.f _ _ upd_same, r2⟩
end
end Vx
namespace Vx
open Rep (rep)
open EnvR (er)
open PySem L2
/-- a slot that holds nothing known, for a comprehension's own name -/
structure PB (i : Nat) (Γ τ Γe : Type) [EnvR Γ] [Rep τ] [EnvR Γe] where
  p : Put i Γ τ Γe
  b : Bk i Γ τ Γe
  bp : ∀ γ t, b.back (p.put γ t) = γ
def cz {Γ τ : Type} [EnvR Γ] [Rep τ] : PB 0 (Any × Γ) τ (τ × Γ) := ⟨pz, bz, fun γ t => rfl⟩
def cs {i : Nat} {τ₀ Γ τ Γe : Type} [Slot τ₀] [EnvR Γ] [Rep τ] [EnvR Γe] (c : PB i Γ τ Γe) : PB (i + 1) (τ₀ × Γ) τ (τ₀ × Γe) := ⟨ps c.p, bs c.b, fun γ t => by
  show (γ.1, c.b.back (c.p.put γ.2 t)) = γ
  rw [c.bp]⟩
section
variable {Γ : Type} [EnvR Γ] {α β τ : Type} [Rep τ] [Rep α] {i : Nat} {Γe : Type} [EnvR Γe]
/-- the turns of a comprehension that changes nothing -/
theorem tlcp {K : PySem.W.Frag} {p : Put i Γ τ Γe} {g : Γ → Option (List τ)} {t : Γe → Option Bool} {e : Γe → Option α} {σ : L2.St} {H : Hp} {Q : VK} (h : tev K (RF K) (flc p g t e) σ H Q) :
    tLc (tiv K g) (gName i) (tet K t) (tev K (RE K) e) [i] σ H Q := by
  obtain ⟨F, G, L, γ, zs, w, he, ea, q⟩ := h
  unfold flc at ea
  cases e0 : g γ with
  | none => rw [e0] at ea; cases ea
  | some xs =>
  rw [e0] at ea
  simp only [Option.bind_some] at ea
  split at ea
  case isFalse => cases ea
  rename_i hlen
  refine ⟨F, G, L, γ, xs, w, he, e0, fun J G1 H1 x1 w1 wl D hD => ?_⟩
  have fd := w1.fresh hD
  have nD : ∀ q ∈ L, q ≠ D := fun q hq z => EnvR.there he q hq (by rw [z]; exact fd.2)
  refine ⟨fun j m H' => m = xs.length - j ∧ j ≤ xs.length ∧ ∃ G2 acc ys rest, Ex G1 G2 ∧ W (upd F D (.lst acc)) G2 H' ∧ PySem.Paired (rep K G2) ys acc ∧ acc.length ≤ j ∧
      lcGo (fun x => t (p.put γ x)) (fun x => e (p.put γ x)) (xs.drop j) = some rest ∧ zs = ys ++ rest, ⟨xs.length, by simp, Nat.zero_le _, G1, [], [], zs, Ex.refl _, w1.own hD, .nil, Nat.zero_le _, ea, rfl⟩, ?_⟩
  rintro j m H' ⟨rfl, hj, G2, acc, ys, rest, x2, w2, r2, hacc, go, rfl⟩
  have fDx : ∀ acc : List V, Ex F (upd F D (.lst acc)) := fun acc a o z => by
    rw [upd_ne (fun y => by rw [y, fd.2] at z; cases z)]
    exact z
  by_cases hlt : j < xs.length
  · obtain ⟨x, hx⟩ : ∃ x, xs[j]? = some x := ⟨xs[j], List.getElem?_eq_getElem hlt⟩
    obtain ⟨hgo, hyl⟩ := (wl (upd F D (.lst acc)) G2 H' x2 w2 j).1 x hx
    have hdrop : xs.drop j = x :: xs.drop (j + 1) := by
      rw [List.drop_eq_getElem_cons hlt]
      have : xs[j] = x := Option.some.inj ((List.getElem?_eq_getElem hlt).symm.trans hx)
      rw [this]
    rw [hdrop] at go
    unfold lcGo at go
    refine .inr ⟨hgo, fun H3 => ∃ G2 acc ys rest', Ex G1 G2 ∧ W (upd F D (.lst acc)) G2 H3 ∧ PySem.Paired (rep K G2) ys acc ∧ acc.length ≤ j + 1 ∧
      lcGo (fun x => t (p.put γ x)) (fun x => e (p.put γ x)) (xs.drop (j + 1)) = some rest' ∧ _ = ys ++ rest', fun H3 z => ⟨xs.length - (j + 1), by omega, rfl, hlt, z⟩, fun xv H3 hy => ?_⟩
    obtain ⟨G3, x3, w3, rx⟩ := hyl xv H3 hy
    have er3 : er K G3 (upd F D (.lst acc)) L (σ.set i (some xv)) (p.put γ x) := p.ok (EnvR.keep (fun q hq => upd_ne (nD q hq)) (EnvR.mono ((x1.trans x2).trans x3) he)) rx
    show wipe ((σ.set i none).set i (some xv)) [i] = wipe σ [i] ∧ _
    refine ⟨by show ((σ.set i none).set i (some xv)).set i none = σ.set i none; rw [set_set', set_set'], ?_⟩
    rw [show (wipe σ [i]).set i (some xv) = σ.set i (some xv) from set_set']
    cases et : t (p.put γ x) with
    | none =>
      rw [et] at go
      cases go
    | some b =>
      rw [et] at go
      simp only [Option.bind_some] at go
      refine ⟨_, G3, L, _, b, w3, er3, et, fun G4 H4 x4 w4 => ?_⟩
      cases b with
      | false =>
        simp only [Bool.false_eq_true, if_false] at go ⊢
        exact ⟨G4, acc, ys, rest, (x2.trans x3).trans x4, w4, Paired.mono (fun _ _ z => Rep.mono (x3.trans x4) z) r2, by omega, go, rfl⟩
      | true =>
        simp only [if_true] at go ⊢
        cases ee : e (p.put γ x) with
        | none =>
          rw [ee] at go
          cases go
        | some y =>
          rw [ee] at go
          simp only [Option.bind_some] at go
          cases eg : lcGo (fun x => t (p.put γ x)) (fun x => e (p.put γ x)) (xs.drop (j + 1)) with
          | none =>
            rw [eg] at go
            cases go
          | some rest' =>
            rw [eg] at go
            simp only [Option.map_some] at go
            cases go
            refine ⟨_, G4, L, _, y, w4, EnvR.mono x4 er3, ee, fun yv G5 H5 x5 w5 ry => ?_⟩
            refine ⟨acc, w5.f _ _ upd_same, Nat.lt_of_lt_of_le (Nat.lt_of_le_of_lt hacc (Nat.lt_of_lt_of_le hlt hlen)) line_ge, G5, acc ++ [yv], ys ++ [y], rest', ((x2.trans x3).trans x4).trans x5, ?_,
              paired_app (Paired.mono (fun _ _ z => Rep.mono ((x3.trans x4).trans x5) z) r2) (.cons ry .nil), ?_, (by first | exact eg | rfl), ?_⟩
            · have := w5.set (u := .lst (acc ++ [yv])) upd_same
              rw [upd_upd] at this
              exact this
            · rw [List.length_append, List.length_singleton]
              omega
            · rw [List.append_assoc]
              rfl
  · have hj' : j = xs.length := by omega
    subst hj'
    rw [List.drop_length] at go
    unfold lcGo at go
    cases go
    refine .inl ⟨(wl (upd F D (.lst acc)) G2 H' x2 w2 xs.length).2 (Nat.le_refl _), ?_⟩
    rw [List.append_nil] at q
    exact q _ G2 H' (x1.trans x2) (w2.less (fDx acc)) ⟨D, acc, rfl, fd.2, w2.d D _ upd_same, w2.f _ _ upd_same, r2⟩
variable {X : Cx} {elt iter : Expr} {ifs : List Expr} {scope : Scope} {pos tpos : Pos} {x : Str}
/-- [elt for x in iter if ..], x in slot i; the draw goes on -/
theorem mf_lc (c : PB i Γ τ Γe) {g : Γ → Option (List τ × Γ)} {t : Γe → Option (Bool × Γe)} {e : Γe → Option (α × Γe)} (hc : X.calm = true) (hN : X.N.Nodup) (hi : MI X (.Name x tpos) iter g) (ok : blkC X.N X.env.scope scope [(x, i)] = true)
    (hg : ∀ (s : Shared) (H : Hp) (C : Addr) (cl : List (Str × Addr)) (fp : List Addr), PG (X.blk s H scope (compEnvC scope cl C X.env) fp) (.Name x tpos) (gName i))
    (ht : ∀ (s : Shared) (H : Hp) (C : Addr) (cl : List (Str × Addr)) (fp : List Addr), MTs (X.blk s H scope (compEnvC scope cl C X.env) fp) ifs t)
    (he : ∀ (s : Shared) (H : Hp) (C : Addr) (cl : List (Str × Addr)) (fp : List Addr), ME (X.blk s H scope (compEnvC scope cl C X.env) fp) elt e) (hs : ∀ x, foldedSetIterable iter X.env x = pure x := by intro _; rfl) :
    MO X (.ListComp elt [⟨.Name x tpos, iter, ifs, 0⟩] scope pos) (RF X.K) (mlc c.p c.b g t e) :=
  PE.le (pe_lc (own := [(x, i)]) (g := gName i) hc hN hi (blkOk_by ok) hg ht he hs) fun σ H Q h => tlc h
theorem vf_lc (p : Put i Γ τ Γe) {g : Γ → Option (List τ)} {t : Γe → Option Bool} {e : Γe → Option α} (hc : X.calm = true) (hN : X.N.Nodup) (hi : VI X (.Name x tpos) iter g) (ok : blkC X.N X.env.scope scope [(x, i)] = true)
    (hg : ∀ (s : Shared) (H : Hp) (C : Addr) (cl : List (Str × Addr)) (fp : List Addr), PG (X.blk s H scope (compEnvC scope cl C X.env) fp) (.Name x tpos) (gName i))
    (ht : ∀ (s : Shared) (H : Hp) (C : Addr) (cl : List (Str × Addr)) (fp : List Addr), VTs (X.blk s H scope (compEnvC scope cl C X.env) fp) ifs t)
    (he : ∀ (s : Shared) (H : Hp) (C : Addr) (cl : List (Str × Addr)) (fp : List Addr), VE (X.blk s H scope (compEnvC scope cl C X.env) fp) elt e) (hs : ∀ x, foldedSetIterable iter X.env x = pure x := by intro _; rfl) :
    VF X (.ListComp elt [⟨.Name x tpos, iter, ifs, 0⟩] scope pos) (flc p g t e) :=
  PE.le (pe_lc (own := [(x, i)]) (g := gName i) hc hN hi (blkOk_by ok) hg ht he hs) fun σ H Q h => tlcp h
end
end Vx
namespace Vx
open Rep (rep)
open EnvR (er)
open PySem L2
/-! ### what a def must leave of the list that it was given: nothing, or the list of ints in slot 0 -/
class Md (S : Type) where
  own : S → Addr → Hp → Prop
  atp : Addr → L2.St → Prop
  okI : Nat → Bool
  keep : ∀ {p : Addr} {σ : L2.St} {i : Nat} {o : Option V}, okI i = true → atp p σ → atp p (σ.set i o)
instance : Md Unit := ⟨fun _ _ _ => True, fun _ _ => True, fun _ => true, fun _ h => h⟩
instance : Md (List Int) := ⟨fun s p F => F p = some (.lst (s.map V.int)), fun p σ => σ[0]? = some (some (.ref p)), fun i => match i with | 0 => false | _ => true, fun {p σ i o} h k => by
  cases i with
  | zero => cases h
  | succ n =>
    cases σ with
    | nil => cases k
    | cons x r => exact k⟩
class Hd (S : Type) [Md S] (Γ : Type) [EnvR Γ] where
  hd : Γ → S
  ok : ∀ {K : PySem.W.Frag} {G F : Hp} {L : List Addr} {σ : L2.St} {γ : Γ} {p : Addr}, er K G F L σ γ → Md.atp S p σ → Md.own (hd γ) p F
instance {Γ : Type} [EnvR Γ] : Hd Unit Γ := ⟨fun _ => (), fun _ _ => trivial⟩
theorem ints_of {K : PySem.W.Frag} {G : Hp} : ∀ {xs : List Int} {vs : List V}, PySem.Paired (rep K G) xs vs → vs = xs.map V.int
  | _, _, .nil => rfl
  | x :: xs, v :: vs, .cons r t => by
    have e : v = .int x := r
    rw [e, ints_of t]
    rfl
theorem of_ints {K : PySem.W.Frag} {G : Hp} : ∀ {xs : List Int}, PySem.Paired (rep K G) xs (xs.map V.int)
  | [] => .nil
  | _ :: _ => .cons rfl of_ints
instance {Γ : Type} [EnvR Γ] : Hd (List Int) (OL Int × Γ) := ⟨fun γ => γ.1.l, fun {K G F L σ γ p} h k => by
  obtain ⟨L1, L2, o, σ', h1, h2, ⟨q, vs, h3, h4, h5, h6⟩, _⟩ := h
  subst h2
  have e : o = some (V.ref p) := Option.some.inj k
  rw [h4] at e
  cases e
  show F p = some (.lst (γ.1.l.map V.int))
  rw [h5, ints_of h6]⟩
inductive Fl (Γ S ρ : Type) where
  | nx (γ : Γ)
  | rt (r : ρ) (s : S)
def Fl.bnd {Γ Γ' S ρ : Type} (x : Fl Γ S ρ) (k : Γ → Option (Fl Γ' S ρ)) : Option (Fl Γ' S ρ) := match x with
  | .nx γ => k γ
  | .rt r s => some (.rt r s)
/-- what else was owned is as it was -/
def Off (L : List Addr) (F F2 : Hp) : Prop := ∀ b o, b ∉ L → F b = some o → F2 b = some o
def Sub (L L2 : List Addr) (F : Hp) : Prop := ∀ b ∈ L2, b ∈ L ∨ F b = none
theorem Off.refl {L : List Addr} {F : Hp} : Off L F F := fun _ _ _ h => h
theorem Sub.refl {L : List Addr} {F : Hp} : Sub L L F := fun _ h => .inl h
theorem Off.trans {L L2 : List Addr} {F F2 F3 : Hp} (a : Off L F F2) (s : Sub L L2 F) (b : Off L2 F2 F3) : Off L F F3 := fun c o h e => b c o (fun z => by
  rcases s c z with q | q
  · exact h q
  · rw [q] at e
    cases e) (a c o h e)
theorem Sub.trans {L L2 L3 : List Addr} {F F2 : Hp} (a : Sub L L2 F) (s : Sub L2 L3 F2) (o : Off L F F2) : Sub L L3 F := fun c h => by
  rcases s c h with q | q
  · exact a c q
  · by_cases hL : c ∈ L
    · exact .inl hL
    · cases e : F c with
      | none => exact .inr rfl
      | some u =>
        rw [o c u hL e] at q
        cases q
theorem Off.of {L : List Addr} {F F2 : Hp} (h : ∀ b, b ∉ L → F2 b = F b) : Off L F F2 := fun b o hb e => (h b hb).trans e
section
variable {Γ Γ' Γ'' S ρ : Type} [EnvR Γ] [EnvR Γ'] [EnvR Γ''] [Md S] {α β τ : Type}
def Post (K : PySem.W.Frag) (R : RR ρ) (D : Ends) (F G : Hp) (L : List Addr) (p : Addr) : Fl Γ' S ρ → Prop
  | .nx γ' => ∀ σ' L2 F2 G2 H2, Ex G G2 → W F2 G2 H2 → L2.Nodup → Off L F F2 → Sub L L2 F → er K G2 F2 L2 σ' γ' → Md.atp S p σ' → D.nx σ' H2
  | .rt x s => ∀ v F2 G2 H2, Ex G G2 → W F2 G2 H2 → Off L F F2 → Md.own s p F2 → R F2 G2 H2 x v → D.rt v H2
theorem Post.trans {K : PySem.W.Frag} {R : RR ρ} {D : Ends} {F G F2 G2 : Hp} {L L2 : List Addr} {p : Addr} {r : Fl Γ' S ρ} (h : Post K R D F G L p r) (x : Ex G G2) (o : Off L F F2) (s : Sub L L2 F) : Post K R D F2 G2 L2 p r := by
  cases r with
  | nx γ => exact fun σ' L3 F3 G3 H3 x3 w3 n3 o3 s3 er3 at3 => h σ' L3 F3 G3 H3 (x.trans x3) w3 n3 (o.trans s o3) (s.trans s3 o) er3 at3
  | rt y t => exact fun v F3 G3 H3 x3 w3 o3 ow r3 => h v F3 G3 H3 (x.trans x3) w3 (o.trans s o3) ow r3
def tst (K : PySem.W.Frag) (S : Type) [Md S] (R : RR ρ) (f : Γ → Option (Fl Γ' S ρ)) : TS := fun D σ H => ∃ F G L γ p r, W F G H ∧ L.Nodup ∧ er K G F L σ γ ∧ Md.atp S p σ ∧ f γ = some r ∧ Post K R D F G L p r
abbrev VS (X : Cx) (S : Type) [Md S] (R : RR ρ) (st : Stmt) (f : Γ → Option (Fl Γ' S ρ)) : Prop := PS X st (tst X.K S R f)
abbrev VSs (X : Cx) (S : Type) [Md S] (R : RR ρ) (st : List Stmt) (f : Γ → Option (Fl Γ' S ρ)) : Prop := PSs X st (tst X.K S R f)
variable {X : Cx} {R : RR ρ} {e a b c : Expr} {pos : Pos} {st : Stmt} {sts : List Stmt}
/-! ### blocks -/
def snil (w : Wk Γ Γ') : Γ → Option (Fl Γ' S ρ) := fun γ => some (.nx (w.wk γ))
def sseq (f : Γ → Option (Fl Γ' S ρ)) (g : Γ' → Option (Fl Γ'' S ρ)) : Γ → Option (Fl Γ'' S ρ) := fun γ => (f γ).bind fun x => x.bnd g
theorem vs_nil (w : Wk Γ Γ') : VSs X S R [] (snil (S := S) w) := PSs.le pss_nil fun D σ H ⟨F, G, L, γ, p, r, wd, nd, he, ha, ea, k⟩ => by
  cases ea
  obtain ⟨L', sl, e'⟩ := w.ok he
  exact k σ L' F G H (Ex.refl _) wd (nd.sublist sl) Off.refl (fun b hb => .inl (sl.subset hb)) e' ha
theorem vs_cons {f : Γ → Option (Fl Γ' S ρ)} {g : Γ' → Option (Fl Γ'' S ρ)} (h : VS X S R st f) (k : VSs X S R sts g) : VSs X S R (st :: sts) (sseq f g) := PSs.le (pss_cons h k) fun D σ H ⟨F, G, L, γ, p, r, wd, nd, he, ha, ea, q⟩ => by
  unfold sseq at ea
  cases e1 : f γ with
  | none => rw [e1] at ea; cases ea
  | some x =>
    rw [e1] at ea
    refine ⟨F, G, L, γ, p, x, wd, nd, he, ha, e1, ?_⟩
    cases x with
    | nx γ' => exact fun σ' L2 F2 G2 H2 x2 w2 n2 o2 s2 er2 at2 => ⟨F2, G2, L2, γ', p, r, w2, n2, er2, at2, ea, q.trans x2 o2 s2⟩
    | rt x s =>
      cases ea
      exact q
/-- a statement that is never reached -/
def snever : Γ → Option (Fl Γ' S ρ) := fun _ => none
/-! ### x = e -/
def sset {i : Nat} [Rep α] (p : Put i Γ α Γ') (f : Γ → Option α) : Γ → Option (Fl Γ' S ρ) := fun γ => (f γ).map fun a => .nx (p.put γ a)
def ssetm {i : Nat} [Rep α] (p : Put i Γ α Γ') (f : Γ → Option (α × Γ)) : Γ → Option (Fl Γ' S ρ) := fun γ => (f γ).map fun (a, γ) => .nx (p.put γ a)
/-- the own cells are younger than what comes now -/
theorem vs_setM {i : Nat} [Rep α] (pt : Put i Γ α Γ') {x : Str} {pos' : Pos} {f : Γ → Option (α × Γ)} (hN : X.N.Nodup) (h : ME X e f) (hi : X.N[i]? = some x := by rfl) (hx : Loc X.env.scope x := by first | exact Or.inl rfl | exact Or.inr rfl) (ho : Md.okI S i = true := by rfl) (hs : swapsWith e (some (.Name x pos')) pos.line X.env = pure false := by rfl)
    (hf : X.fn x = true ∨ X.env.scope.names.lookup x = some .local := by first | exact .inl rfl | exact .inr rfl) : VS X S R (.Assign [.Name x pos'] e pos) (ssetm (S := S) pt f) :=
  PS.le (ps_set hN hi hx h hs hf) fun D σ H ⟨F, G, L, γ, p, r, wd, nd, he, ha, ea, k⟩ => by
    unfold ssetm at ea
    cases e1 : f γ with
    | none => rw [e1] at ea; cases ea
    | some y =>
      rw [e1] at ea
      cases ea
      refine ⟨F, G, L, γ, y.1, y.2, wd, he, e1, fun v F2 G2 H2 x2 w2 of er2 r2 => ?_⟩
      exact k _ L F2 G2 H2 x2 w2 nd (Off.of of) Sub.refl (pt.ok er2 r2) (Md.keep ho ha)
theorem vs_set {i : Nat} [Rep α] (pt : Put i Γ α Γ') {x : Str} {pos' : Pos} {f : Γ → Option α} (hN : X.N.Nodup) (h : VE X e f) (hi : X.N[i]? = some x := by rfl) (hx : Loc X.env.scope x := by first | exact Or.inl rfl | exact Or.inr rfl) (ho : Md.okI S i = true := by rfl) (hs : swapsWith e (some (.Name x pos')) pos.line X.env = pure false := by rfl)
    (hf : X.fn x = true ∨ X.env.scope.names.lookup x = some .local := by first | exact .inl rfl | exact .inr rfl) : VS X S R (.Assign [.Name x pos'] e pos) (sset (S := S) pt f) :=
  PS.le (ps_set hN hi hx h hs hf) fun D σ H ⟨F, G, L, γ, p, r, wd, nd, he, ha, ea, k⟩ => by
    unfold sset at ea
    cases e1 : f γ with
    | none => rw [e1] at ea; cases ea
    | some y =>
      rw [e1] at ea
      cases ea
      refine ⟨F, G, L, γ, y, wd, he, e1, fun v G2 H2 x2 w2 r2 => ?_⟩
      exact k _ L F G2 H2 x2 w2 nd Off.refl Sub.refl (pt.ok (EnvR.mono x2 he) r2) (Md.keep ho ha)
/-! ### return -/
def sret [Hd S Γ] (f : Γ → Option ρ) : Γ → Option (Fl Γ' S ρ) := fun γ => (f γ).map fun a => .rt a (Hd.hd γ)
def sretm [Hd S Γ] (f : Γ → Option (ρ × Γ)) : Γ → Option (Fl Γ' S ρ) := fun γ => (f γ).map fun (a, γ) => .rt a (Hd.hd γ)
theorem vs_ret [Hd S Γ] {f : Γ → Option ρ} (h : VO X e R f) : VS X S R (.Return (some e) pos) (sret (S := S) (Γ' := Γ') f) := PS.le (ps_ret h) fun D σ H ⟨F, G, L, γ, p, r, wd, nd, he, ha, ea, k⟩ => by
  unfold sret at ea
  cases e1 : f γ with
  | none => rw [e1] at ea; cases ea
  | some y =>
    rw [e1] at ea
    cases ea
    exact ⟨F, G, L, γ, y, wd, he, e1, fun v G2 H2 x2 w2 r2 => k v F G2 H2 x2 w2 Off.refl (Hd.ok he ha) r2⟩
theorem vs_retM [Hd S Γ] {f : Γ → Option (ρ × Γ)} (h : MO X e R f) : VS X S R (.Return (some e) pos) (sretm (S := S) (Γ' := Γ') f) := PS.le (ps_ret h) fun D σ H ⟨F, G, L, γ, p, r, wd, nd, he, ha, ea, k⟩ => by
  unfold sretm at ea
  cases e1 : f γ with
  | none => rw [e1] at ea; cases ea
  | some y =>
    rw [e1] at ea
    cases ea
    exact ⟨F, G, L, γ, y.1, y.2, wd, he, e1, fun v F2 G2 H2 x2 w2 of er2 r2 => k v F2 G2 H2 x2 w2 (Off.of of) (Hd.ok er2 ha) r2⟩
/-! ### if -/
def sif (c : Γ → Option Bool) (f g : Γ → Option (Fl Γ' S ρ)) : Γ → Option (Fl Γ' S ρ) := fun γ => (c γ).bind fun b => if b then f γ else g γ
def sifm (c : Γ → Option (Bool × Γ)) (f g : Γ → Option (Fl Γ' S ρ)) : Γ → Option (Fl Γ' S ρ) := fun γ => (c γ).bind fun (b, γ) => if b then f γ else g γ
theorem vs_if {cf : Γ → Option Bool} {f g : Γ → Option (Fl Γ' S ρ)} {bs cs : List Stmt} (hc : VT X c cf) (hf : VSs X S R bs f) (hg : VSs X S R cs g) : VS X S R (.If c bs cs pos) (sif cf f g) := PS.le (ps_if hc hf hg) fun D σ H ⟨F, G, L, γ, p, r, wd, nd, he, ha, ea, k⟩ => by
  unfold sif at ea
  cases e1 : cf γ with
  | none => rw [e1] at ea; cases ea
  | some y =>
    rw [e1] at ea
    refine ⟨F, G, L, γ, y, wd, he, e1, fun G2 H2 x2 w2 => ?_⟩
    have k' := k.trans x2 (Off.refl (F := F)) (Sub.refl (L := L))
    cases y with
    | true => exact ⟨F, G2, L, γ, p, r, w2, nd, EnvR.mono x2 he, ha, ea, k'⟩
    | false => exact ⟨F, G2, L, γ, p, r, w2, nd, EnvR.mono x2 he, ha, ea, k'⟩
/-! ### an expression alone -/
def sex {α : Type} (f : Γ → Option α) : Γ → Option (Fl Γ S ρ) := fun γ => (f γ).map fun _ => .nx γ
def sexm {α : Type} (f : Γ → Option (α × Γ)) : Γ → Option (Fl Γ S ρ) := fun γ => (f γ).map fun (_, γ) => .nx γ
theorem vs_ex {α : Type} {R' : RR α} {f : Γ → Option α} (h : VO X e R' f) (hs : swapsWith e none pos.line X.env = pure false := by rfl) : VS X S R (.Expr e pos) (sex (S := S) f) := PS.le (ps_expr h hs) fun D σ H ⟨F, G, L, γ, p, r, wd, nd, he, ha, ea, k⟩ => by
  unfold sex at ea
  cases e1 : f γ with
  | none => rw [e1] at ea; cases ea
  | some y =>
    rw [e1] at ea
    cases ea
    exact ⟨F, G, L, γ, y, wd, he, e1, fun v G2 H2 x2 w2 r2 => k σ L F G2 H2 x2 w2 nd Off.refl Sub.refl (EnvR.mono x2 he) ha⟩
/-! ### for -/
def forL {S : Type} (step : τ → Γ → Option (Fl Γ S ρ)) : List τ → Γ → Option (Fl Γ S ρ)
  | [], γ => some (.nx γ)
  | x :: xs, γ => (step x γ).bind fun r => r.bnd (forL step xs)
/-- how an item comes to the target's slots -/
structure Tg (Γ τ Γe : Type) [EnvR Γ] [Rep τ] [EnvR Γe] (K : PySem.W.Frag) (S : Type) [Md S] (g : TG) where
  put : Γ → τ → Γe
  ok : ∀ {F G H : Hp} {L : List Addr} {σ : L2.St} {γ : Γ} {t : τ} {v : V} {p : Addr} {Q : L2.St → Hp → Prop}, W F G H → er K G F L σ γ → Md.atp S p σ → rep K G t v → (∀ σ', er K G F L σ' (put γ t) → Md.atp S p σ' → Q σ' H) → g v σ H Q
def tgName {i : Nat} [Rep τ] {Γe : Type} [EnvR Γe] {K : PySem.W.Frag} (p : Put i Γ τ Γe) (ho : Md.okI S i = true := by rfl) : Tg Γ τ Γe K S (gName i) := ⟨p.put, fun w he ha r k => k _ (p.ok he r) (Md.keep ho ha)⟩
def sfor [Rep τ] {Γh Γe : Type} [EnvR Γh] [EnvR Γe] (w : Wk Γ Γh) (put : Γh → τ → Γe) (g : Γ → Option (List τ)) (f : Γe → Option (Fl Γh S ρ)) : Γ → Option (Fl Γh S ρ) := fun γ => (g γ).bind fun xs => forL (fun x γ => f (put γ x)) xs (w.wk γ)
def sform [Rep τ] {Γh Γe : Type} [EnvR Γh] [EnvR Γe] (w : Wk Γ Γh) (put : Γh → τ → Γe) (g : Γ → Option (List τ × Γ)) (f : Γe → Option (Fl Γh S ρ)) : Γ → Option (Fl Γh S ρ) := fun γ => (g γ).bind fun (xs, γ) => forL (fun x γ => f (put γ x)) xs (w.wk γ)
theorem tfor [Rep τ] {Γh Γe : Type} [EnvR Γh] [EnvR Γe] {K : PySem.W.Frag} {w : Wk Γ Γh} {tg : TG} (T : Tg Γh τ Γe K S tg) {g : Γ → Option (List τ × Γ)} {f : Γe → Option (Fl Γh S ρ)} {D : Ends} {σ : L2.St} {H : Hp} (h : tst K S R (sform w T.put g f) D σ H) :
    tFor (tim K g) tg (tst K S R f) D σ H := by
  obtain ⟨F, G, L, γ, p, r, wd, nd, he, ha, ea, k⟩ := h
  unfold sform at ea
  cases e1 : g γ with
  | none => rw [e1] at ea; cases ea
  | some y =>
  obtain ⟨xs, γ1⟩ := y
  rw [e1] at ea
  simp only [Option.bind_some] at ea
  refine ⟨F, G, L, γ, xs, γ1, wd, he, e1, fun J F1 G1 H1 x1 w1 of1 er1 wl => ?_⟩
  refine ⟨fun j m σ' H' => m = xs.length - j ∧ j ≤ xs.length ∧ ∃ F2 G2 L2 γ2, Ex G1 G2 ∧ W F2 G2 H' ∧ L2.Nodup ∧ Off L F F2 ∧ Sub L L2 F ∧ er K G2 F2 L2 σ' γ2 ∧ Md.atp S p σ' ∧ forL (fun x γ => f (T.put γ x)) (xs.drop j) γ2 = some r, ?_, ?_⟩
  · obtain ⟨L', sl, er'⟩ := w.ok er1
    exact ⟨xs.length, by simp, Nat.zero_le _, F1, G1, L', w.wk γ1, Ex.refl _, w1, nd.sublist sl, Off.of of1, fun b hb => .inl (sl.subset hb), er', ha, ea⟩
  · rintro j m σ' H' ⟨rfl, hj, F2, G2, L2, γ2, x2, w2, n2, o2, s2, er2, at2, go⟩
    by_cases hlt : j < xs.length
    · obtain ⟨x, hx⟩ : ∃ x, xs[j]? = some x := ⟨xs[j], List.getElem?_eq_getElem hlt⟩
      obtain ⟨hgo, hyl⟩ := (wl F2 G2 H' x2 w2 j).1 x hx
      have hdrop : xs.drop j = x :: xs.drop (j + 1) := by
        rw [List.drop_eq_getElem_cons hlt]
        have : xs[j] = x := Option.some.inj ((List.getElem?_eq_getElem hlt).symm.trans hx)
        rw [this]
      rw [hdrop] at go
      unfold forL at go
      cases e2 : f (T.put γ2 x) with
      | none =>
        simp only [e2] at go
        cases go
      | some fr =>
      simp only [e2, Option.bind_some] at go
      refine .inr ⟨hgo, fun σ' H3 => ∃ F2 G2 L2 γ2, Ex G1 G2 ∧ W F2 G2 H3 ∧ L2.Nodup ∧ Off L F F2 ∧ Sub L L2 F ∧ er K G2 F2 L2 σ' γ2 ∧ Md.atp S p σ' ∧ forL (fun x γ => f (T.put γ x)) (xs.drop (j + 1)) γ2 = some r,
        fun σ' H3 z => ⟨xs.length - (j + 1), by omega, rfl, hlt, z⟩, fun xv H3 hy => ?_⟩
      obtain ⟨G3, x3, w3, rx⟩ := hyl xv H3 hy
      refine T.ok w3 (EnvR.mono x3 er2) at2 rx fun σ4 er4 at4 => ?_
      refine ⟨F2, G3, L2, _, p, fr, w3, n2, er4, at4, e2, ?_⟩
      cases fr with
      | nx γ5 => exact fun σ5 L5 F5 G5 H5 x5 w5 n5 o5 s5 er5 at5 => ⟨F5, G5, L5, γ5, (x2.trans x3).trans x5, w5, n5, o2.trans s2 o5, s2.trans s5 o2, er5, at5, go⟩
      | rt y s =>
        cases go
        exact fun v F5 G5 H5 x5 w5 o5 ow r5 => k v F5 G5 H5 (((x1.trans x2).trans x3).trans x5) w5 (o2.trans s2 o5) ow r5
    · have hj' : j = xs.length := by omega
      subst hj'
      rw [List.drop_length] at go
      unfold forL at go
      cases go
      exact .inl ⟨(wl F2 G2 H' x2 w2 xs.length).2 (Nat.le_refl _), k σ' L2 F2 G2 H' (x1.trans x2) w2 n2 o2 s2 er2 at2⟩
end
end Vx
namespace Vx
open Rep (rep)
open EnvR (er)
open PySem L2
/-! ### lists of one's own -/
structure Own (i : Nat) (Γ α Γd : Type) [EnvR Γ] [Rep α] [EnvR Γd] where
  get : Γ → List α
  set : Γ → List α → Γ
  drop : Γ → Γd
  ok : ∀ {K : PySem.W.Frag} {G F : Hp} {L : List Addr} {σ : L2.St} {γ : Γ}, er K G F L σ γ → ∃ q vs, σ[i]? = some (some (.ref q)) ∧ q ∈ L ∧ F q = some (.lst vs) ∧ PySem.Paired (rep K G) (get γ) vs ∧
    (∀ {G' : Hp} {ys : List α} {vs' : List V}, Ex G G' → PySem.Paired (rep K G') ys vs' → er K G' (upd F q (.lst vs')) L σ (set γ ys)) ∧
    ∃ L', (∀ b ∈ L', b ∈ L ∧ b ≠ q) ∧ L'.Sublist L ∧ er K G (del F q) L' σ (drop γ)
def oz {Γ α : Type} [EnvR Γ] [Rep α] : Own 0 (OL α × Γ) α (Any × Γ) := ⟨fun γ => γ.1.l, fun γ ys => (⟨ys⟩, γ.2), fun γ => (⟨⟩, γ.2), fun {K G F L σ γ} ⟨L1, L2, o, σ', h1, h2, ⟨q, vs, h3, h4, h5, h6⟩, h7, h8⟩ => by
  subst h2
  have hq : q ∉ L2 := h8 q (by rw [h3]; exact List.mem_singleton.mpr rfl)
  refine ⟨q, vs, by rw [h4]; rfl, by rw [h1, h3]; exact List.mem_append_left _ (List.mem_singleton.mpr rfl), h5, h6, fun {G' ys vs'} e r => ?_, L2, fun b hb => ⟨by rw [h1]; exact List.mem_append_right _ hb, fun z => hq (by rw [← z]; exact hb)⟩, by rw [h1]; exact List.sublist_append_right _ _, ?_⟩
  · exact ⟨L1, L2, o, σ', h1, rfl, ⟨q, vs', h3, h4, upd_same, r⟩, EnvR.keep (fun b hb => upd_ne (fun z => hq (by rw [← z]; exact hb))) (EnvR.mono e h7), h8⟩
  · exact ⟨[], L2, o, σ', rfl, rfl, rfl, EnvR.keep (fun b hb => del_ne (fun z => hq (by rw [← z]; exact hb))) h7, fun _ hb => by cases hb⟩⟩
def os {i : Nat} {τ Γ α Γd : Type} [Slot τ] [EnvR Γ] [Rep α] [EnvR Γd] (w : Own i Γ α Γd) : Own (i + 1) (τ × Γ) α (τ × Γd) := ⟨fun γ => w.get γ.2, fun γ ys => (γ.1, w.set γ.2 ys), fun γ => (γ.1, w.drop γ.2), fun {K G F L σ γ} ⟨L1, L2, o, σ', h1, h2, h3, h4, h5⟩ => by
  obtain ⟨q, vs, k1, k2, k3, k4, k5, L', k6, k7, k8⟩ := w.ok h4
  subst h2
  have hq : q ∉ L1 := fun z => h5 q z k2
  refine ⟨q, vs, k1, by rw [h1]; exact List.mem_append_right _ k2, k3, k4, fun {G' ys vs'} e r => ?_, L1 ++ L', fun b hb => ?_, by rw [h1]; exact List.Sublist.append (List.Sublist.refl _) k7, ?_⟩
  · exact ⟨L1, L2, o, σ', h1, rfl, Slot.keep (fun b hb => upd_ne (fun z => hq (by rw [← z]; exact hb))) (Slot.mono e h3), k5 e r, h5⟩
  · rcases List.mem_append.mp hb with h | h
    · exact ⟨by rw [h1]; exact List.mem_append_left _ h, fun z => hq (by rw [← z]; exact h)⟩
    · exact ⟨by rw [h1]; exact List.mem_append_right _ (k6 b h).1, (k6 b h).2⟩
  · exact ⟨L1, L', o, σ', rfl, rfl, Slot.keep (fun b hb => del_ne (fun z => hq (by rw [← z]; exact hb))) h3, k8, fun b hb hb' => h5 b hb (k6 b hb').1⟩⟩
/-- the i-th slot is given a list just made -/
structure PutO (i : Nat) (Γ α Γ' : Type) [EnvR Γ] [Rep α] [EnvR Γ'] where
  put : Γ → List α → Γ'
  ok : ∀ {K : PySem.W.Frag} {G F : Hp} {L : List Addr} {σ : L2.St} {γ : Γ} {q : Addr} {xs : List α} {vs : List V}, er K G F L σ γ → q ∉ L → F q = some (.lst vs) → PySem.Paired (rep K G) xs vs →
    ∃ L', (∀ b ∈ L', b ∈ L ∨ b = q) ∧ (L.Nodup → L'.Nodup) ∧ er K G F L' (σ.set i (some (.ref q))) (put γ xs)
def poz {τ₀ Γ α : Type} [Slot τ₀] [EnvR Γ] [Rep α] : PutO 0 (τ₀ × Γ) α (OL α × Γ) := ⟨fun γ xs => (⟨xs⟩, γ.2), fun {K G F L σ γ q xs vs} ⟨L1, L2, o, σ', h1, h2, h3, h4, h5⟩ hq hF r => by
  subst h2
  have hq2 : q ∉ L2 := fun z => hq (by rw [h1]; exact List.mem_append_right _ z)
  exact ⟨q :: L2, fun b hb => by
    rcases List.mem_cons.mp hb with h | h
    · exact .inr h
    · exact .inl (by rw [h1]; exact List.mem_append_right _ h), fun nd => List.nodup_cons.mpr ⟨hq2, by rw [h1] at nd; exact (List.nodup_append.mp nd).2.1⟩, [q], L2, _, σ', rfl, rfl, ⟨q, vs, rfl, rfl, hF, r⟩, h4, fun b hb => by
      rw [List.mem_singleton.mp hb]
      exact hq2⟩⟩
def pos' {i : Nat} {τ Γ α Γ' : Type} [Slot τ] [EnvR Γ] [Rep α] [EnvR Γ'] (p : PutO i Γ α Γ') : PutO (i + 1) (τ × Γ) α (τ × Γ') := ⟨fun γ xs => (γ.1, p.put γ.2 xs), fun {K G F L σ γ q xs vs} ⟨L1, L2, o, σ', h1, h2, h3, h4, h5⟩ hq hF r => by
  subst h2
  have hq2 : q ∉ L2 := fun z => hq (by rw [h1]; exact List.mem_append_right _ z)
  have hq1 : q ∉ L1 := fun z => hq (by rw [h1]; exact List.mem_append_left _ z)
  obtain ⟨L', k1, k2, k3⟩ := p.ok h4 hq2 hF r
  have dj : ∀ b ∈ L1, b ∉ L' := fun b hb hb' => by
    rcases k1 b hb' with h | h
    · exact h5 b hb h
    · exact hq1 (by rw [← h]; exact hb)
  refine ⟨L1 ++ L', fun b hb => ?_, fun nd => ?_, L1, L', o, _, rfl, rfl, h3, k3, dj⟩
  · rcases List.mem_append.mp hb with h | h
    · exact .inl (by rw [h1]; exact List.mem_append_left _ h)
    · rcases k1 b h with h | h
      · exact .inl (by rw [h1]; exact List.mem_append_right _ h)
      · exact .inr h
  · rw [h1] at nd
    obtain ⟨n1, n2, n3⟩ := List.nodup_append.mp nd
    exact List.nodup_append.mpr ⟨n1, k2 n2, fun a ha b hb z => dj a ha (by rw [z]; exact hb)⟩⟩
section
variable {Γ Γ' Γ'' Γd S ρ : Type} [EnvR Γ] [EnvR Γ'] [EnvR Γ''] [EnvR Γd] [Md S] {α β τ : Type} [Rep α] [Rep τ]
variable {X : Cx} {R : RR ρ} {e a b c : Expr} {pos : Pos} {st : Stmt} {sts : List Stmt} {i : Nat}
/-- one's own list, read -/
def fown (o : Own i Γ α Γd) : Γ → Option (List α) := fun γ => some (o.get γ)
theorem vl_own (o : Own i Γ α Γd) {x : Str} (hN : X.N[i]? = some x := by rfl) (hv : Vis X.env.scope x := by first | exact Or.inl rfl | exact Or.inr (Or.inl rfl) | exact Or.inr (Or.inr rfl)) (hd : (x == ("__debug__" : Str)) = false := by decide)
    (hcd : (x == ("__classdict__" : Str)) = false := by decide) : VL X (.Name x pos) (fown o) := PE.le (pe_var hN hv hd hcd) fun σ H Q ⟨F, G, L, γ, a, w, h, ea, q⟩ => by
  obtain ⟨p, vs, k1, k2, k3, k4, _⟩ := o.ok h
  cases ea
  exact ⟨.ref p, k1, q _ G H (Ex.refl G) w ⟨p, vs, rfl, .inr k3, k4⟩⟩
/-- x = a list just made, to be changed -/
def snew (p : PutO i Γ α Γ') (f : Γ → Option (List α)) : Γ → Option (Fl Γ' S ρ) := fun γ => (f γ).map fun xs => .nx (p.put γ xs)
theorem W.take {F G H : Hp} {p : Addr} {o : HO} (w : W F G H) (hF : F p = none) (hG : G p = none) (hH : H p = some o) : W (upd F p o) G H := ⟨w.g, fun a u q => by
  by_cases z : a = p
  · subst z
    rw [upd_same] at q
    rw [← q]
    exact hH
  · rw [upd_ne z] at q
    exact w.f a u q, fun a u q => by
  by_cases z : a = p
  · subst z
    exact hG
  · rw [upd_ne z] at q
    exact w.d a u q⟩
theorem off_new {L : List Addr} {F : Hp} {p : Addr} {o : HO} (h : F p = none) : Off L F (upd F p o) := fun b u _ e => by
  rw [upd_ne (ne_of_none e h)]
  exact e
theorem vs_new (pt : PutO i Γ α Γ') {x : Str} {pos' : Pos} {f : Γ → Option (List α)} (hN : X.N.Nodup) (h : VF X e f) (hi : X.N[i]? = some x := by rfl) (hx : Loc X.env.scope x := by first | exact Or.inl rfl | exact Or.inr rfl) (ho : Md.okI S i = true := by rfl) (hs : swapsWith e (some (.Name x pos')) pos.line X.env = pure false := by rfl)
    (hf : X.fn x = true ∨ X.env.scope.names.lookup x = some .local := by first | exact .inl rfl | exact .inr rfl) : VS X S R (.Assign [.Name x pos'] e pos) (snew (S := S) pt f) :=
  PS.le (ps_set hN hi hx h hs hf) fun D σ H ⟨F, G, L, γ, p, r, wd, nd, he, ha, ea, k⟩ => by
    unfold snew at ea
    cases e1 : f γ with
    | none => rw [e1] at ea; cases ea
    | some y =>
      rw [e1] at ea
      cases ea
      refine ⟨F, G, L, γ, y, wd, he, e1, fun v G2 H2 x2 w2 ⟨q, vs, ev, hF, hG, hH, r2⟩ => ?_⟩
      subst ev
      have hq : q ∉ L := fun z => EnvR.there he q z hF
      obtain ⟨L', l1, l2, l3⟩ := pt.ok (F := upd F q (.lst vs)) (EnvR.keep (fun b hb => upd_ne (fun z => hq (by rw [← z]; exact hb))) (EnvR.mono x2 he)) hq upd_same r2
      exact k _ L' (upd F q (.lst vs)) G2 H2 x2 (w2.take hF hG hH) (l2 nd) (off_new hF) (fun b hb => (l1 b hb).imp id fun z => by rw [z]; exact hF) l3 (Md.keep ho ha)
/-- found.append(e) -/
def sapp (o : Own i Γ α Γd) (f : Γ → Option (α × Γ)) : Γ → Option (Fl Γ S ρ) := fun γ => (f γ).bind fun (y, γ') => if (o.get γ').length < 100000 then some (.nx (o.set γ' (o.get γ' ++ [y]))) else none
theorem tyV_list {K : PySem.W.Frag} {H : Hp} {p : Addr} {vs : List V} (h : H p = some (.lst vs)) : tyV K "list" (.ref p) H := .inl ⟨rfl, _, SqL.of h⟩
theorem vs_app (o : Own i Γ α Γd) {f : Γ → Option (α × Γ)} {x : Str} {p1 p2 p3 : Pos} (h : ME X e f) (hN : X.N[i]? = some x := by rfl) (hv : Vis X.env.scope x := by first | exact Or.inl rfl | exact Or.inr (Or.inl rfl) | exact Or.inr (Or.inr rfl)) (hd : (x == ("__debug__" : Str)) = false := by decide)
    (hcd : (x == ("__classdict__" : Str)) = false := by decide) (hpe : ∀ t, PA X [e] t → PE X (.Call (.Attribute (.Name x p1) "append" p2) [e] [] p3) (tBM X.K "list" rAppend (tVar i) t)) (hs : swapsWith (.Call (.Attribute (.Name x p1) "append" p2) [e] [] p3) none pos.line X.env = pure false := by rfl)
    (he : starEach [e] X.env = (false, eval e X.env) :: starEach [] X.env := by rfl) : VS X S R (.Expr (.Call (.Attribute (.Name x p1) "append" p2) [e] [] p3) pos) (sapp (S := S) o f) :=
  PS.le (ps_expr (hpe _ (pa_cons h pa_nil he)) hs) fun D σ H ⟨F, G, L, γ, p, r, wd, nd, he, ha, ea, k⟩ => by
    unfold sapp at ea
    cases e1 : f γ with
    | none => rw [e1] at ea; cases ea
    | some y =>
      obtain ⟨y, γ'⟩ := y
      rw [e1] at ea
      simp only [Option.bind_some] at ea
      split at ea
      case isFalse => cases ea
      rename_i hlen
      cases ea
      obtain ⟨q, vs, k1, k2, k3, k4, k5, _⟩ := o.ok he
      refine ⟨.ref q, k1, tyV_list (wd.f _ _ k3), F, G, L, γ, y, γ', wd, he, e1, fun v F2 G2 H2 x2 w2 of er2 r2 => ?_⟩
      obtain ⟨q', vs', j1, j2, j3, j4, j5, _⟩ := o.ok er2
      rw [k1] at j1
      cases j1
      refine ⟨q, vs', v, rfl, rfl, w2.f _ _ j3, by rw [← paired_len j4]; exact Nat.lt_of_lt_of_le hlen line_ge, ?_⟩
      exact k σ L _ G2 _ x2 (w2.set j3) nd (fun b u hb e => by rw [upd_ne (fun z => hb (by rw [z]; exact k2))]; exact (of b hb).trans e) Sub.refl (j5 (Ex.refl _) (paired_app j4 (.cons r2 .nil))) ha
/-- return of a list of one's own -/
def sreto [Hd S Γd] {Γ2 : Type} (o : Own i Γ α Γd) : Γ → Option (Fl Γ2 S (List α)) := fun γ => some (.rt (o.get γ) (Hd.hd (o.drop γ)))
/-! ### for, while -/
theorem vs_forM {Γh Γe : Type} [EnvR Γh] [EnvR Γe] (w : Wk Γ Γh) {tg : TG} (T : Tg Γh τ Γe X.K S tg) {target iter : Expr} {body : List Stmt} {g : Γ → Option (List τ × Γ)} {f : Γe → Option (Fl Γh S ρ)} (hp : PassesOwn (model X.prog X.w) X.A X.env X.xe) (hc : X.calm = true) (hi : MI X target iter g) (hg : PG X target tg) (hb : VSs X S R body f)
    (hs : ∀ x, foldedSetIterable iter X.env x = pure x := by intro _; rfl) : VS X S R (.For target iter body [] pos) (sform (S := S) w T.put g f) := PS.le (ps_for hp hc hi hg hb hs) fun D σ H h => tfor T h
theorem vs_for {Γh Γe : Type} [EnvR Γh] [EnvR Γe] (w : Wk Γ Γh) {tg : TG} (T : Tg Γh τ Γe X.K S tg) {target iter : Expr} {body : List Stmt} {g : Γ → Option (List τ)} {f : Γe → Option (Fl Γh S ρ)} (hp : PassesOwn (model X.prog X.w) X.A X.env X.xe) (hc : X.calm = true) (hi : VI X target iter g) (hg : PG X target tg) (hb : VSs X S R body f)
    (hs : ∀ x, foldedSetIterable iter X.env x = pure x := by intro _; rfl) : VS X S R (.For target iter body [] pos) (sfor (S := S) w T.put g f) := PS.le (vs_forM w T hp hc (vi_up hi) hg hb hs) fun D σ H ⟨F, G, L, γ, p, r, wd, nd, he, ha, ea, k⟩ =>
    ⟨F, G, L, γ, p, r, wd, nd, he, ha, by
      rw [← ea]
      unfold sform sfor up
      cases g γ <;> rfl, k⟩
def whl (n : Nat) (c : Γ → Option Bool) (f : Γ → Option (Fl Γ S ρ)) : Γ → Option (Fl Γ S ρ) := match n with
  | 0 => fun _ => none
  | n + 1 => fun γ => (c γ).bind fun b => if b then (f γ).bind fun r => r.bnd (whl n c f) else some (.nx γ)
def swhl {Γh : Type} [EnvR Γh] (w : Wk Γ Γh) (n : Nat) (c : Γh → Option Bool) (f : Γh → Option (Fl Γh S ρ)) : Γ → Option (Fl Γh S ρ) := fun γ => whl n c f (w.wk γ)
theorem vs_while {Γh : Type} [EnvR Γh] (w : Wk Γ Γh) (n : Nat) {body : List Stmt} {cf : Γh → Option Bool} {f : Γh → Option (Fl Γh S ρ)} (hp : PassesOwn (model X.prog X.w) X.A X.env X.xe) (hc : VT X c cf) (hb : VSs X S R body f) : VS X S R (.While c body [] pos) (swhl (S := S) w n cf f) :=
  PS.le (ps_while hp hc hb) fun D σ H ⟨F, G, L, γ, p, r, wd, nd, he, ha, ea, k⟩ => by
    refine ⟨fun m σ' H' => ∃ F2 G2 L2 γ2, Ex G G2 ∧ W F2 G2 H' ∧ L2.Nodup ∧ Off L F F2 ∧ Sub L L2 F ∧ er X.K G2 F2 L2 σ' γ2 ∧ Md.atp S p σ' ∧ whl m cf f γ2 = some r, ?_, ?_⟩
    · obtain ⟨L', sl, er'⟩ := w.ok he
      exact ⟨n, F, G, L', w.wk γ, Ex.refl _, wd, nd.sublist sl, Off.refl, fun b hb => .inl (sl.subset hb), er', ha, ea⟩
    · rintro m σ' H' ⟨F2, G2, L2, γ2, x2, w2, n2, o2, s2, er2, at2, go⟩
      cases m with
      | zero => cases go
      | succ m =>
        unfold whl at go
        cases e1 : cf γ2 with
        | none => rw [e1] at go; cases go
        | some y =>
          rw [e1] at go
          simp only [Option.bind_some] at go
          refine ⟨F2, G2, L2, γ2, y, w2, er2, e1, fun G3 H3 x3 w3 => ?_⟩
          cases y with
          | false =>
            simp only [Bool.false_eq_true, if_false] at go ⊢
            cases go
            exact k σ' L2 F2 G3 H3 (x2.trans x3) w3 n2 o2 s2 (EnvR.mono x3 er2) at2
          | true =>
            simp only [if_true] at go ⊢
            cases e2 : f γ2 with
            | none => rw [e2] at go; cases go
            | some fr =>
              rw [e2] at go
              simp only [Option.bind_some] at go
              refine ⟨fun σ' H' => ∃ F2 G2 L2 γ2, Ex G G2 ∧ W F2 G2 H' ∧ L2.Nodup ∧ Off L F F2 ∧ Sub L L2 F ∧ er X.K G2 F2 L2 σ' γ2 ∧ Md.atp S p σ' ∧ whl m cf f γ2 = some r, fun σ' H' z => ⟨m, Nat.lt_succ_self _, z⟩, F2, G3, L2, γ2, p, fr, w3, n2, EnvR.mono x3 er2, at2, e2, ?_⟩
              cases fr with
              | nx γ5 => exact fun σ5 L5 F5 G5 H5 x5 w5 n5 o5 s5 er5 at5 => ⟨F5, G5, L5, γ5, (x2.trans x3).trans x5, w5, n5, o2.trans s2 o5, s2.trans s5 o2, er5, at5, go⟩
              | rt y s =>
                cases go
                exact fun v F5 G5 H5 x5 w5 o5 ow r5 => k v F5 G5 H5 ((x2.trans x3).trans x5) w5 (o2.trans s2 o5) ow r5
end
end Vx
namespace Vx
open Rep (rep)
open EnvR (er)
open PySem PySem.Spec PyProof.Rows L2
/-! ### defs that run where no repr is under way -/
structure GnOk (P : Program) (w : World) (K : PySem.W.Frag) (mg : Str → Option Value) (base : Heap) (k : Nat) (f : Addr) (fd : FuncData) (ps : List Str) (sp : Sp) : Prop where
  len : ∀ vs H Q E, sp vs H Q E → vs.length = ps.length
  run : ∀ (A : Around) (outer : List Env) (s : Shared) (H : Hp) (args : Args) (us : List Value) (vs : List V) (Q : VK), A.guards = some [] → Room k A → Env0 P w K mg base A outer s H →
    BindsTo s fd args (ps.zip us) → Vals vs us → sp vs H Q E0 → codeAny (model P w) A (.call (.ref f) args) (CR CX0 outer P w H s Q E0) s
theorem GnOk.mono {P : Program} {w : World} {K : PySem.W.Frag} {mg : Str → Option Value} {base : Heap} {j k : Nat} {f : Addr} {fd : FuncData} {ps : List Str} {sp : Sp} (F : GnOk P w K mg base j f fd ps sp) (h : j ≤ k) : GnOk P w K mg base k f fd ps sp :=
  ⟨F.len, fun A outer s H args us vs Q hg hr => F.run A outer s H args us vs Q hg (hr.mono h)⟩
/-- the context of a body -/
abbrev bodyX (P : Program) (w : World) (K : PySem.W.Frag) (mg : Str → Option Value) (base : Heap) (N : List Str) (qual : Str) (scope : Scope) (f : Addr) (cdv : Value) (A : Around) (outer : List Env) (s : Shared) (H : Hp) : Cx :=
  (cxOf CX0 P w K mg base N qual scope f cdv A outer s H E0).nox
theorem gn_of {P : Program} {w : World} {K : PySem.W.Frag} {mg : Str → Option Value} {base : Heap} {x qual : Str} {st : Stmt} {f : Addr} {fd : FuncData} {N ps : List Str} {k : Nat} {sp : Sp} (F : Fun K x qual st f fd) (S : FnScope N ps (defScope st))
    (len : ∀ vs H Q E, sp vs H Q E → vs.length = ps.length)
    (body : ∀ (cdv : Value) (A : Around) (outer : List Env) (s : Shared) (H : Hp) (vs : List V) (Q : VK), (A.deeper (envOfC qual (defScope st) s.heap.objs.size f cdv)).guards = some [] →
      Room k (A.deeper (envOfC qual (defScope st) s.heap.objs.size f cdv)) → sp vs H Q E0 →
      ∃ t, PSs (bodyX P w K mg base N qual (defScope st) f cdv A outer s H) (defBody st) t ∧ t { nx := fun _ H' => Q .non H', rt := Q } (start N vs) H) : GnOk P w K mg base (k + 1) f fd ps sp := by
  obtain ⟨oc, od, kV, doc, pm, an, cdv, ct, osl, rfl, lk, hcd⟩ := F.ex
  constructor
  · exact len
  intro A outer s H args us vs Q hgd hr e0 hb r hsp
  have hlv := len vs H Q E0 hsp
  have inK : K.In s.heap := e0.mod.kin.keeps (fun b o e => (e0.bs b o e).1)
  have nlim : s.heap.NoLimit := e0.mod.nolimit.keeps (fun b o e => (e0.bs b o e).1)
  have kinds : ∀ y ∈ ps.zip us, (defScope st).names.lookup y.1 = some .local ∨
      ((defScope st).names.lookup y.1 = some .cell ∧ ((cellsFrom (s.heap.objs.size + 1) (defScope st).names []).lookup y.1).isSome = true) := by
    intro y hy
    cases S.par y.1 (List.of_mem_zip hy).1 with
    | inl q => exact Or.inl q
    | inr q => exact Or.inr ⟨q, PySem.W.cellsFrom_some _ _ _ (Or.inl q)⟩
  apply codeAny_call_function hr.depth (inK _ _ lk) rfl S.co S.gen rfl (PySem.W.codeRec_of inK hcd)
  apply hb
  apply wpAny_newFunctionEnv_cells S.kind kinds
  intro env he s1 x1
  subst he
  constructor
  · exact nlim.keeps x1.toInCall.keep
  apply codeAny_func
  obtain ⟨t, ht, hq⟩ := body cdv A outer s H vs Q hgd (hr.deeper _) hsp
  have I := inv_start (CX := CX0) (E := E0) (w := w) (P := P) S hr.hd e0 hlv r x1
  apply wpAny_mono (ht.nox.run [] s1 (start N vs) H _ I hq)
  · intro fl s' hs
    cases fl with
    | brk => exact hs.elim fun _ z => z.elim fun _ z => z.2.elim
    | cont => exact hs.elim fun _ z => z.elim fun _ z => z.2.elim
    | next =>
      obtain ⟨σ', H', J, q⟩ := hs
      exact ⟨V.non, H', J.os, J.bare, J.base, J.hok, rfl, q⟩
    | ret u =>
      obtain ⟨v, σ', H', J, rv, q⟩ := hs
      exact ⟨v, H', J.os, J.bare, J.base, J.hok, rv, q⟩
  · intro e s' hs
    exact hs
section
variable {X : Cx} {k : Nat} {f : Addr} {fd : FuncData} {ps ks : List Str} {sp : Sp} {x : Str} {p pos : Pos} {e : Expr} {es : List Expr} {t tk : TA} {kws : List Keyword}
theorem g_run {pins : List (Addr × Obj)} {σ : L2.St} {H : Hp} {s : Shared} {Q : VK} {args : Args} {us : List Value} {vs : List V} (F : GnOk X.prog X.w X.K X.mg X.base k f fd ps sp) (hg : X.A.guards = some []) (hr : Room k X.A) (hb : BindsTo s fd args (ps.zip us))
    (I : Inv X pins σ H s) (r : Vals vs us) (h : sp vs H Q E0) : codeAny (model X.prog X.w) X.A (.call (.ref f) args) (fun r s' => match r with
      | .ok (.ret u) => EP X pins σ Q u s'
      | _ => False) s := by
  apply codeAny_mono (F.run X.A X.stack s H args us vs Q hg hr I.env0 hb r h)
  intro r s' hq
  cases r with
  | error e => exact hq
  | ok fl => cases fl with
    | ret u => exact I.after hq
    | next => exact hq
    | brk => exact hq
    | cont => exact hq
theorem ge_call (F : GnOk X.prog X.w X.K X.mg X.base k f fd ps sp) (hgd : X.A.guards = some []) (hr : Room k X.A) (hm : X.mg x = some (.ref f)) (hk : PySem.W.keepIn X.K (.ref f) = true) (hb : Binds X.K fd ps []) (ha : PA X (e :: es) t) (hg : Gl X x := by rfl)
    (hdb : (x == ("__debug__" : Str)) = false := by decide) (he : starEach (e :: es) X.env = (false, eval e X.env) :: starEach es X.env := by rfl) (hpl : (backTo pos (starEach es X.env)).any (·.1) = false := by rfl) :
    PE X (.Call (.Name x p) (e :: es) [] pos) (fun σ H Q => t σ H fun vs H1 => sp vs H1 Q E0) := by
  constructor
  intro pins s σ H Q I h
  apply wpAny_Call_Name_kw
  apply ld_glob I hg hm (hd := hdb)
  refine PySem.W.callWith_K (h₀ := X.base) I.ok.mod.kin hk (thn (ha.run pos pins s σ H _ I h) ?_) he hpl
  intro us s1 ⟨vs, H1, I1, r, q⟩
  constructor
  · exact I1.kIn
  have hl : us.length = ps.length := by
    rw [← r.length]
    exact F.len _ _ _ _ q
  have bt := hb s1 us I1.kIn (by rw [List.append_nil]; exact hl)
  rw [List.append_nil] at bt
  apply wpAny_call
  apply codeAny_mono (g_run F hgd hr bt I1 r q)
  intro r s' z
  cases r with
  | error _ => exact z.elim
  | ok fl => cases fl <;> first | exact z | exact z.elim
variable {n1 : Nat} {π : List Nat}
/-! ### defs and calls by their mirrors -/
structure Ini (A Γ : Type) [RepL A] [EnvR Γ] (n : Nat) where
  ini : A → Γ
  ok : ∀ {K : PySem.W.Frag} {G F : Hp} {a : A} {vs : List V}, RepL.rl K G a vs → er K G F [] (vs.map some ++ List.replicate n none) (ini a)
def i0 : Ini Unit Unit 0 := ⟨fun _ => (), fun {K G F a vs} h => by
  have e : vs = [] := h
  rw [e]
  exact ⟨rfl, rfl⟩⟩
def ia {Γ : Type} [EnvR Γ] {n : Nat} (w : Ini Unit Γ n) : Ini Unit (Any × Γ) (n + 1) := ⟨fun a => (⟨⟩, w.ini a), fun {K G F a vs} h => by
  have e : vs = [] := h
  have z := w.ok (F := F) h
  rw [e] at z ⊢
  exact ⟨[], [], none, _, rfl, rfl, rfl, z, fun _ h => by cases h⟩⟩
def ic {α A Γ : Type} [Rep α] [RepL A] [EnvR Γ] {n : Nat} (w : Ini A Γ n) : Ini (α × A) (α × Γ) n := ⟨fun a => (a.1, w.ini a.2), fun {K G F a vs} ⟨v, r, h1, h2, h3⟩ => by
  rw [h1]
  exact ⟨[], [], some v, _, rfl, rfl, ⟨rfl, v, rfl, h2⟩, w.ok h3, fun _ h => by cases h⟩⟩
def im {A Γ : Type} [RepL A] [EnvR Γ] {n : Nat} (w : Ini A Γ n) (s : List Int) (a : A) : OL Int × Γ := (⟨s⟩, w.ini a)
def runF {Γ Γ' ρ : Type} (f : Γ → Option (Fl Γ' Unit ρ)) (γ : Γ) : Option ρ := (f γ).bind fun r => match r with
  | .rt x _ => some x
  | .nx _ => none
def runU {Γ Γ' : Type} (f : Γ → Option (Fl Γ' Unit Unit)) (γ : Γ) : Option Unit := (f γ).bind fun _ => some ()
def runM {Γ Γ' ρ : Type} (f : Γ → Option (Fl Γ' (List Int) ρ)) (γ : Γ) : Option (ρ × List Int) := (f γ).bind fun r => match r with
  | .rt x s => some (x, s)
  | .nx _ => none
end
section
variable {P : Program} {w : World} {K : PySem.W.Frag} {mg : Str → Option Value} {base : Heap} {x qual : Str} {st : Stmt} {f : Addr} {fd : FuncData} {N ps : List Str} {k n : Nat} {A ρ α Γ Γ' : Type} [RepL A] [EnvR Γ] [EnvR Γ'] [Rep ρ] [Rep α]
theorem start_eq {vs : List V} (hn : N.length = RepL.n A + n) (hv : vs.length = RepL.n A) : L2.start N vs = vs.map some ++ List.replicate n none := by
  unfold L2.start
  rw [hn, hv, Nat.add_sub_cancel_left]
abbrev BodyOk (P : Program) (w : World) (K : PySem.W.Frag) (mg : Str → Option Value) (base : Heap) (N : List Str) (qual : Str) (st : Stmt) (k : Nat) (C : Cx → Prop) : Prop := ∀ (cdv : Value) (A : Around) (outer : List Env) (s : Shared) (H : Hp) (f : Addr), (A.deeper (envOfC qual (defScope st) s.heap.objs.size f cdv)).guards = some [] →
      Room k (A.deeper (envOfC qual (defScope st) s.heap.objs.size f cdv)) → C (bodyX P w K mg base N qual (defScope st) f cdv A outer s H)
theorem ok_F (F : Fun K x qual st f fd) (S : FnScope N ps (defScope st)) (I : Ini A Γ n) {b : Γ → Option (Fl Γ' Unit ρ)} (hn : N.length = RepL.n A + n) (hp : RepL.n A = ps.length)
    (body : BodyOk P w K mg base N qual st k fun X => VSs X Unit (RE K) (defBody st) b) : GnOk P w K mg base (k + 1) f fd ps (spF K fun a => runF b (I.ini a)) := by
  apply gn_of F S
  · intro vs H Q E ⟨F, G, a, r, h1, h2, h3, h4⟩
    rw [← hp]
    exact RepL.len h2
  · intro cdv A outer s H vs Q hg hr ⟨F, G, a, r, h1, h2, h3, h4⟩
    refine ⟨_, body cdv A outer s H f hg hr, ?_⟩
    rw [start_eq hn (RepL.len h2)]
    have h3 : runF b (I.ini a) = some r := h3
    unfold runF at h3
    cases e : b (I.ini a) with
    | none => rw [e] at h3; cases h3
    | some fr =>
      rw [e] at h3
      cases fr with
      | nx γ => cases h3
      | rt y u =>
        cases h3
        exact ⟨F, G, [], I.ini a, 0, .rt _ _, h1, List.nodup_nil, I.ok h2, trivial, e, fun v F2 G2 H2 x2 w2 o2 _ r2 => h4 v G2 H2 x2 (w2.less fun b o z => o2 b o (by simp) z) r2⟩
theorem ok_U (F : Fun K x qual st f fd) (S : FnScope N ps (defScope st)) (I : Ini A Γ n) {b : Γ → Option (Fl Γ' Unit Unit)} (hn : N.length = RepL.n A + n) (hp : RepL.n A = ps.length)
    (body : BodyOk P w K mg base N qual st k fun X => VSs X Unit (RE K) (defBody st) b) : GnOk P w K mg base (k + 1) f fd ps (spF K fun a => runU b (I.ini a)) := by
  apply gn_of F S
  · intro vs H Q E ⟨F, G, a, r, h1, h2, h3, h4⟩
    rw [← hp]
    exact RepL.len h2
  · intro cdv A outer s H vs Q hg hr ⟨F, G, a, r, h1, h2, h3, h4⟩
    refine ⟨_, body cdv A outer s H f hg hr, ?_⟩
    rw [start_eq hn (RepL.len h2)]
    have h3 : runU b (I.ini a) = some r := h3
    unfold runU at h3
    cases e : b (I.ini a) with
    | none => rw [e] at h3; cases h3
    | some fr =>
      rw [e] at h3
      cases h3
      refine ⟨F, G, [], I.ini a, 0, fr, h1, List.nodup_nil, I.ok h2, trivial, e, ?_⟩
      cases fr with
      | nx γ => exact fun σ' L2 F2 G2 H2 x2 w2 n2 o2 s2 e2 a2 => h4 .non G2 H2 x2 (w2.less fun b o z => o2 b o (by simp) z) rfl
      | rt y u => exact fun v F2 G2 H2 x2 w2 o2 _ r2 => h4 v G2 H2 x2 (w2.less fun b o z => o2 b o (by simp) z) r2
theorem back {F F2 : Hp} {q : Addr} (h : ∀ o, F q = some o → F2 q = some o) (k : F2 q = none) : F q = none := by
  cases z : F q with
  | none => rfl
  | some o =>
    rw [h o z] at k
    cases k
theorem ok_N (F : Fun K x qual st f fd) (S : FnScope N ps (defScope st)) (I : Ini A Γ n) {b : Γ → Option (Fl Γ' Unit (List α))} (hn : N.length = RepL.n A + n) (hp : RepL.n A = ps.length)
    (body : BodyOk P w K mg base N qual st k fun X => VSs X Unit (RF K) (defBody st) b) : GnOk P w K mg base (k + 1) f fd ps (spN K fun a => runF b (I.ini a)) := by
  apply gn_of F S
  · intro vs H Q E ⟨F, G, a, r, h1, h2, h3, h4⟩
    rw [← hp]
    exact RepL.len h2
  · intro cdv A outer s H vs Q hg hr ⟨F, G, a, r, h1, h2, h3, h4⟩
    refine ⟨_, body cdv A outer s H f hg hr, ?_⟩
    rw [start_eq hn (RepL.len h2)]
    have h3 : runF b (I.ini a) = some r := h3
    unfold runF at h3
    cases e : b (I.ini a) with
    | none => rw [e] at h3; cases h3
    | some fr =>
      rw [e] at h3
      cases fr with
      | nx γ => cases h3
      | rt y u =>
        cases h3
        exact ⟨F, G, [], I.ini a, 0, .rt _ _, h1, List.nodup_nil, I.ok h2, trivial, e, fun v F2 G2 H2 x2 w2 o2 _ ⟨q, vs', k1, k2, k3, k4, k5⟩ => h4 v G2 H2 x2 (w2.less fun b o z => o2 b o (by simp) z) ⟨q, vs', k1, back (fun o z => o2 q o (by simp) z) k2, k3, k4, k5⟩⟩
theorem ok_M (F : Fun K x qual st f fd) (S : FnScope N ps (defScope st)) (I : Ini A Γ n) {b : OL Int × Γ → Option (Fl Γ' (List Int) ρ)} (hn : N.length = RepL.n A + 1 + n) (hp : RepL.n A + 1 = ps.length)
    (body : BodyOk P w K mg base N qual st k fun X => VSs X (List Int) (RE K) (defBody st) b) : GnOk P w K mg base (k + 1) f fd ps (spM K fun s a => runM b (im I s a)) := by
  apply gn_of F S
  · intro vs H Q E ⟨F, G, p, vs', s, a, r, s', h0, h1, hF, h2, h3, h4⟩
    rw [← hp, h0, List.length_cons, RepL.len h2]
  · intro cdv A outer s H vs Q hg hr ⟨F, G, p, vs', ss, a, r, s', h0, h1, hF, h2, h3, h4⟩
    refine ⟨_, body cdv A outer s H f hg hr, ?_⟩
    have e0 : L2.start N vs = some (.ref p) :: (vs'.map some ++ List.replicate n none) := by
      unfold L2.start
      rw [h0, hn, List.length_cons, RepL.len h2, Nat.add_sub_cancel_left]
      rfl
    rw [e0]
    have h3 : runM b (im I ss a) = some (r, s') := h3
    unfold runM at h3
    cases e : b (im I ss a) with
    | none => rw [e] at h3; cases h3
    | some fr =>
      rw [e] at h3
      cases fr with
      | nx γ => cases h3
      | rt y u =>
        cases h3
        refine ⟨F, G, [p], im I ss a, p, .rt _ _, h1, (by simp), ⟨[p], [], _, _, rfl, rfl, ⟨p, _, rfl, rfl, hF, of_ints⟩, I.ok h2, fun _ _ h => by cases h⟩, rfl, e, fun v F2 G2 H2 x2 w2 o2 ow r2 => ?_⟩
        -- what the caller is told: outside of p all as it was
        have offp : ∀ b o, b ≠ p → F b = some o → F2 b = some o := fun b o hb z => o2 b o (fun y => hb (List.mem_singleton.mp y)) z
        have low : Ex (fun b => if b = p then F2 b else F b) F2 := fun b o z => by
          by_cases hb : b = p
          · have z' := (if_pos hb).symm.trans z
            exact z'
          · have z' := (if_neg hb).symm.trans z
            exact offp b o hb z'
        exact h4 v (fun b => if b = p then F2 b else F b) G2 H2 x2 (w2.less low) ((if_pos rfl).trans ow) (fun b hb => if_neg hb) r2
end
/-! ### calls by mirrors -/
section
variable {Γ : Type} [EnvR Γ] {X : Cx} {A A1 A2 ρ α : Type} [RepL A] [RepL A1] [RepL A2] [Rep ρ] [Rep α] {k : Nat} {fa : Addr} {fd : FuncData} {psn ks : List Str} {x : Str} {pp pos : Pos} {e : Expr} {es : List Expr} {kws : List Keyword} {n1 : Nat} {π : List Nat}
theorem vg_call {m : A → Option ρ} {g : Γ → Option A} (Fn : GnOk X.prog X.w X.K X.mg X.base k fa fd psn (spF X.K m)) (hgd : X.A.guards = some []) (hr : Room k X.A) (hm : X.mg x = some (.ref fa)) (hk : PySem.W.keepIn X.K (.ref fa) = true) (hb : Binds X.K fd psn []) (ha : VA X (e :: es) g) (hg : Gl X x := by rfl)
    (hdb : (x == ("__debug__" : Str)) = false := by decide) (he : starEach (e :: es) X.env = (false, eval e X.env) :: starEach es X.env := by rfl) (hpl : (backTo pos (starEach es X.env)).any (·.1) = false := by rfl) : VE X (.Call (.Name x pp) (e :: es) [] pos) (f1 m g) :=
  PE.le (ge_call Fn hgd hr hm hk hb ha hg hdb he hpl) fun σ H Q ⟨F, G, L, γ, r, w, he, ea, q⟩ => by
    unfold f1 at ea
    cases e1 : g γ with
    | none => rw [e1] at ea; cases ea
    | some y =>
      rw [e1] at ea
      exact ⟨F, G, L, γ, y, w, he, e1, fun vs G2 H2 e2 w2 r2 => ⟨F, G2, y, r, w2, r2, ea, fun v G3 H3 e3 w3 r3 => q v G3 H3 (e2.trans e3) w3 r3⟩⟩
theorem vf_gcall {m : A → Option (List α)} {g : Γ → Option A} (Fn : GnOk X.prog X.w X.K X.mg X.base k fa fd psn (spN X.K m)) (hgd : X.A.guards = some []) (hr : Room k X.A) (hm : X.mg x = some (.ref fa)) (hk : PySem.W.keepIn X.K (.ref fa) = true) (hb : Binds X.K fd psn []) (ha : VA X (e :: es) g) (hg : Gl X x := by rfl)
    (hdb : (x == ("__debug__" : Str)) = false := by decide) (he : starEach (e :: es) X.env = (false, eval e X.env) :: starEach es X.env := by rfl) (hpl : (backTo pos (starEach es X.env)).any (·.1) = false := by rfl) : VF X (.Call (.Name x pp) (e :: es) [] pos) (f1 m g) :=
  PE.le (ge_call Fn hgd hr hm hk hb ha hg hdb he hpl) fun σ H Q ⟨F, G, L, γ, r, w, he, ea, q⟩ => by
    unfold f1 at ea
    cases e1 : g γ with
    | none => rw [e1] at ea; cases ea
    | some y =>
      rw [e1] at ea
      exact ⟨F, G, L, γ, y, w, he, e1, fun vs G2 H2 e2 w2 r2 => ⟨F, G2, y, r, w2, r2, ea, fun v G3 H3 e3 w3 r3 => q v G3 H3 (e2.trans e3) w3 r3⟩⟩
/-- the same, its arguments drawn -/
theorem mg_call {m : A → Option ρ} {g : Γ → Option (A × Γ)} (Fn : GnOk X.prog X.w X.K X.mg X.base k fa fd psn (spF X.K m)) (hgd : X.A.guards = some []) (hr : Room k X.A) (hm : X.mg x = some (.ref fa)) (hk : PySem.W.keepIn X.K (.ref fa) = true) (hb : Binds X.K fd psn []) (ha : MA X (e :: es) g) (hg : Gl X x := by rfl)
    (hdb : (x == ("__debug__" : Str)) = false := by decide) (he : starEach (e :: es) X.env = (false, eval e X.env) :: starEach es X.env := by rfl) (hpl : (backTo pos (starEach es X.env)).any (·.1) = false := by rfl) : ME X (.Call (.Name x pp) (e :: es) [] pos) (m1 m g) :=
  PE.le (ge_call Fn hgd hr hm hk hb ha hg hdb he hpl) fun σ H Q ⟨F, G, L, γ, r, γ', w, he, ea, q⟩ => by
    obtain ⟨y, e1, e2⟩ := m1_some ea
    exact ⟨F, G, L, γ, y, γ', w, he, e1, fun vs F2 G2 H2 x2 w2 of er2 r2 => ⟨F2, G2, y, r, w2, r2, e2, fun v G3 H3 x3 w3 r3 => q v F2 G3 H3 (x2.trans x3) w3 of (EnvR.mono x3 er2) r3⟩⟩
/-- a def that draws: the list of ints in slot 0 goes first -/
def mdr (m : List Int → A → Option (ρ × List Int)) (g : OL Int × Γ → Option (A × (OL Int × Γ))) : OL Int × Γ → Option (ρ × (OL Int × Γ)) := fun γ => (g γ).bind fun (a, γ') => (m γ'.1.l a).map fun (r, s) => (r, (⟨s⟩, γ'.2))
theorem mg_draw {m : List Int → A → Option (ρ × List Int)} {g : OL Int × Γ → Option (A × (OL Int × Γ))} {y : Str} {py : Pos} (Fn : GnOk X.prog X.w X.K X.mg X.base k fa fd psn (spM X.K m)) (hgd : X.A.guards = some []) (hr : Room k X.A) (hm : X.mg x = some (.ref fa)) (hk : PySem.W.keepIn X.K (.ref fa) = true) (hb : Binds X.K fd psn []) (hy : PE X (.Name y py) (tVar 0)) (ha : MA X es g) (hg : Gl X x := by rfl)
    (hdb : (x == ("__debug__" : Str)) = false := by decide) (he : starEach ((.Name y py) :: es) X.env = (false, eval (.Name y py) X.env) :: starEach es X.env := by rfl) (hpl : (backTo pos (starEach es X.env)).any (·.1) = false := by rfl) : ME X (.Call (.Name x pp) (.Name y py :: es) [] pos) (mdr m g) :=
  PE.le (ge_call Fn hgd hr hm hk hb (pa_cons hy ha he) hg hdb he hpl) fun σ H Q ⟨F, G, L, γ, r, γ', w, he, ea, q⟩ => by
    unfold mdr at ea
    cases e1 : g γ with
    | none => rw [e1] at ea; cases ea
    | some z =>
      obtain ⟨a, γ1⟩ := z
      rw [e1] at ea
      simp only [Option.bind_some] at ea
      cases e2 : m γ1.1.l a with
      | none => rw [e2] at ea; cases ea
      | some u =>
        obtain ⟨rr, s'⟩ := u
        rw [e2] at ea
        cases ea
        obtain ⟨p, vs, k1, _⟩ := (oz (Γ := Γ) (α := Int)).ok he
        refine ⟨.ref p, k1, F, G, L, γ, a, γ1, w, he, e1, fun zs F2 G2 H2 x2 w2 of er2 ra => ?_⟩
        obtain ⟨p', vs', j1, j2, j3, j4, j5, _⟩ := (oz (Γ := Γ) (α := Int)).ok er2
        rw [k1] at j1
        cases j1
        refine ⟨F2, G2, p, zs, γ1.1.l, a, rr, s', rfl, w2, ?_, ra, e2, fun v F3 G3 H3 x3 w3 hp of3 r3 => ?_⟩
        · rw [j3, ints_of (K := X.K) (G := G2) j4]
          rfl
        · have z3 : upd F2 p (.lst (s'.map V.int)) = F3 := by
            funext b
            by_cases hb : b = p
            · rw [hb, upd_same, hp]
            · rw [upd_ne hb, of3 b hb]
          have er3 := j5 x3 (of_ints (K := X.K) (G := G3) (xs := s'))
          rw [z3] at er3
          exact q v F3 G3 H3 (x2.trans x3) w3 (fun b hb => (of3 b (fun z => hb (by rw [z]; exact j2))).trans (of b hb)) er3 r3
end
end Vx
/-! sets of texts, made of a list or of a text's signs, and sorted at once -/
namespace Vx
open Rep (rep)
open EnvR (er)
open PySem PySem.Spec PyProof.Rows L2
def keyS (e : Int × Value) : Str := match e.2 with
  | .str k _ => k
  | _ => Str.empty
def GoodS (w : World) (e : Int × Value) : Prop := ∃ k tk, e.2 = Value.str k tk ∧ e.1 = hashStr w k
/-- at a stands a set whose members are the texts l, each once, in some order -/
def SetS (w : World) (h : Heap) (a : Addr) (l : List Str) : Prop := ∃ o es ep t,
  h.get? a = some o ∧ o.ExactSet ∧ o.data = .set es ep t ∧ (∀ e ∈ es.toList, GoodS w e) ∧ l.Nodup ∧ (es.toList.map keyS).Perm l ∧
  es.size < scanBound ∧ t.fits es.size = true ∧ Ris t.place.toList ∧ (w.params.followText "set-order" = true ∨ t.led = true)
section
variable {P : Program} {w : World} {A : Around} {E : Value → Shared → Prop} {s : Shared} {h h' : Heap} {a : Addr} {l : List Str}
theorem SetS.at (R : SetS w h a l) (k : ∀ o, h.get? a = some o → h'.get? a = some o) : SetS w h' a l := by
  obtain ⟨o, es, ep, t, ho, rest⟩ := R
  exact ⟨o, es, ep, t, k o ho, rest⟩
theorem goodS_is {e : Int × Value} (g : GoodS w e) (k : Str) : (PySem.strKind P w).is k e.2 = true ↔ keyS e = k := by
  obtain ⟨k0, tk, h1, _⟩ := g
  unfold keyS
  rw [h1]
  show Value.isStrOf k (.str k0 tk) = true ↔ k0 = k
  simp [Value.isStrOf]
theorem goodS_elems {es : List (Int × Value)} (g : ∀ e ∈ es, GoodS w e) : ElemsOf (PySem.strKind P w) es := by
  intro e he
  obtain ⟨k, tk, h1, h2⟩ := g e he
  constructor
  · refine ⟨k, ?_, h2⟩
    rw [h1]
    exact strKind_is _ _ _ _
  · rw [h1]
    rfl
theorem goodS_mem {es : List (Int × Value)} (g : ∀ e ∈ es, GoodS w e) (k : Str) : k ∈ es.map keyS ↔ ∃ e ∈ es, (PySem.strKind P w).is k e.2 = true := by
  constructor
  · intro z
    obtain ⟨e, he, q⟩ := List.mem_map.mp z
    exact ⟨e, he, (goodS_is (g e he) k).mpr q⟩
  · intro z
    obtain ⟨e, he, q⟩ := z
    exact List.mem_map.mpr ⟨e, he, (goodS_is (g e he) k).mp q⟩
/-- what lies behind the table's growth -/
theorem setS_tail {gw : Bool → Sem Unit} (hg : ∀ (b : Bool) (s₁ : Shared) (Q' : Unit → Shared → Prop), Q' () s₁ → wpAny (model P w) A (gw b) Q' E s₁) {o : Obj} {es : Array (Int × Value)} {ep : Nat} {t : SetTable}
    (ho : s.heap.get? a = some o) (hex : o.ExactSet) (hd : o.data = .set es ep t) {es1 : Array (Int × Value)} {t2 : SetTable} {l' : List Str} (g1 : ∀ e ∈ es1.toList, GoodS w e) (nd1 : l'.Nodup) (p1 : (es1.toList.map keyS).Perm l')
    (hb1 : es1.size < scanBound) (hf2 : t2.fits es1.size = true) (hr : Ris t2.place.toList) (hl : w.params.followText "set-order" = true ∨ t2.led = true) {wasDummy : Bool} {R : Option Bool → Shared → Prop}
    (hR : ∀ h', Heap.SameBut a s.heap h' → SetS w h' a l' → R (some true) { s with heap := h' }) :
    wpAny (model P w) A (do
        storeSet a es1 t2
        if (!wasDummy && t2.tooFull) = true then do
            gw (relayAll t2 es1 (SetTable.grown es1.size)).2.2
            storeSet a (relayAll t2 es1 (SetTable.grown es1.size)).1 (relayAll t2 es1 (SetTable.grown es1.size)).2.1
            pure (some true)
          else pure (some true)) R E s := by
  have at1 := store_at (es' := es1) (t' := t2) ho hd
  have same1 := Heap.SameBut.update s.heap a (Obj.putSet es1 t2)
  apply wpAny_bind
  apply wpAny_storeSet_of ho hd (fits_of_scanBound hb1 |> fun z => ?_) (fits_of_scanBound hb1)
  split
  · have pm := relayAll_perm t2 es1 (SetTable.grown es1.size)
    have f3 := relayAll_fits t2 es1 (SetTable.grown es1.size)
    have r3 := relayAll_ris t2 es1 (SetTable.grown es1.size)
    have l3 := relayAll_led t2 es1 (SetTable.grown es1.size)
    generalize relayAll t2 es1 (SetTable.grown es1.size) = Z at pm f3 r3 l3 ⊢
    obtain ⟨es2, t3, gave⟩ := Z
    dsimp only at pm f3 r3 l3 ⊢
    have sz : es2.size = es1.size := by
      have := pm.length_eq
      simpa using this
    have b2 : es2.size < scanBound := by omega
    apply wpAny_bind
    apply hg
    apply wpAny_bind
    apply wpAny_storeSet_of at1 rfl ?_ (fits_of_scanBound b2)
    have at2 := store_at (es' := es2) (t' := t3) at1 rfl
    apply wpAny_pure
    apply hR _ (same1.trans (Heap.SameBut.update _ a _))
    refine ⟨_, es2, _, t3, at2, hex, rfl, fun e he => g1 e (pm.mem_iff.mp he), nd1, (pm.map keyS).trans p1, b2, f3, r3, ?_⟩
    cases hl with
    | inl z => exact Or.inl z
    | inr z => exact Or.inr (l3.trans z)
  · apply wpAny_pure
    apply hR _ same1
    exact ⟨_, es1, _, t2, at1, hex, rfl, g1, nd1, p1, hb1, hf2, hr, hl⟩
theorem setS_add {k : Str} {tk : Tok} {Q : Bool → Shared → Prop} (R : SetS w s.heap a l) (room : l.length + 1 < scanBound)
    (hQ : ∀ h' b, Heap.SameBut a s.heap h' → SetS w h' a (if k ∈ l then l else k :: l) → Q b { s with heap := h' }) :
    wpAny (model P w) A (setAddHashed a (.str k tk) (hashStr w k)) Q E s := by
  obtain ⟨o, es, ep, t, ho, hex, hd, g, nd, pm, hb, hf, hr, hl⟩ := R
  have isk : (PySem.strKind P w).is k (.str k tk) = true := strKind_is _ _ _ _
  have scn : (Value.str k tk).scannable = true := rfl
  have hel : ElemsOf (PySem.strKind P w) es.toList := goodS_elems g
  unfold setAddHashed setAddHashedIn
  apply wpAny_holding
  apply wpAny_bind
  apply wpAny_setState_of ho hd hf
  dsimp only
  rw [byScan_of scn hb hel]
  simp only [↓reduceIte]
  unfold setAddByScan
  apply wpAny_bind
  apply wpAny_bind
  apply wpAny_rule
  apply wpAny_bind
  apply wpAny_setScan_of (knd := PySem.strKind P w) (k := k) isk ho hd hf hel
  cases hfi : List.findIdx? (fun e => (PySem.strKind P w).is k e.2) es.toList with
  | some j =>
    dsimp only
    obtain ⟨hj, pj, _⟩ := List.findIdx?_eq_some_iff_getElem.mp hfi
    have kin : k ∈ l := pm.mem_iff.mp ((goodS_mem (P := P) g k).mpr ⟨es.toList[j], List.getElem_mem hj, pj⟩)
    apply wpAny_pure
    apply wpAny_pure
    apply hQ s.heap _ (Heap.SameBut.refl a s.heap)
    rw [if_pos kin]
    exact ⟨o, es, ep, t, ho, hex, hd, g, nd, pm, hb, hf, hr, hl⟩
  | none =>
    dsimp only
    have kout : k ∉ l := by
      intro z
      obtain ⟨e, he, q⟩ := (goodS_mem (P := P) g k).mp (pm.mem_iff.mpr z)
      have c := List.findIdx?_eq_none_iff.mp hfi e he
      rw [q] at c
      cases c
    have gw : ∀ (b : Bool) {s₁ : Shared} {Q' : Unit → Shared → Prop}, Q' () s₁ → wpAny (model P w) A (match b with | true => rule "set.scan.the-table-gave-way" | false => pure ()) Q' E s₁ := by
      intro b s₁ Q' q
      cases b
      · exact wpAny_pure q
      · exact wpAny_rule q
    have pn := layNew_perm t es (hashStr w k) (.str k tk)
    have f1 := layNew_fits t es (hashStr w k) (.str k tk)
    have r1 := layNew_ris t es (hashStr w k) (.str k tk) hr
    have l1 := layNew_led t es (hashStr w k) (.str k tk)
    generalize layNew t es (hashStr w k) (.str k tk) = Z at pn f1 r1 l1 ⊢
    obtain ⟨es1, t1, wasDummy, gave⟩ := Z
    dsimp only at pn f1 r1 l1 ⊢
    rw [Array.toList_push] at pn
    have pc : es1.toList.Perm ((hashStr w k, Value.str k tk) :: es.toList) := pn.trans (List.perm_append_singleton _ _)
    have pk : (es1.toList.map keyS).Perm (k :: l) := (pc.map keyS).trans (List.Perm.cons k pm)
    have g1 : ∀ e ∈ es1.toList, GoodS w e := by
      intro e he
      cases List.mem_cons.mp (pc.mem_iff.mp he) with
      | inl z =>
        rw [z]
        exact ⟨k, tk, rfl, rfl⟩
      | inr z => exact g e z
    have n1 : (k :: l).Nodup := List.nodup_cons.mpr ⟨kout, nd⟩
    have sz : es1.size = l.length + 1 := by
      have := pk.length_eq
      simpa using this
    have b1 : es1.size < scanBound := by omega
    have led : w.params.followText "set-order" = true ∨ t1.led = true := by
      cases hl with
      | inl z => exact Or.inl z
      | inr z => exact Or.inr (l1.trans z)
    have fin : ∀ h', Heap.SameBut a s.heap h' → SetS w h' a (k :: l) → Q true { s with heap := h' } := by
      intro h' sb r
      apply hQ h' true sb
      rw [if_neg kout]
      exact r
    apply wpAny_bind
    apply gw
    split
    · apply wpAny_bind
      rw [hashByValue_scannable 8 scn]
      apply wpAny_pure
      refine setS_tail ?_ ho hex hd g1 n1 pk b1 ?_ ?_ ?_ ?_
      · intro b s₁ Q' q
        exact gw b q
      · first | (split <;> first | exact f1 | exact SetTable.fits_plain_off f1) | exact f1
      · first | (split <;> exact r1) | exact r1
      · first | (split <;> exact led) | exact led
      · intro h' sb r
        dsimp only
        exact wpAny_pure (fin h' sb r)
    · apply wpAny_bind
      apply wpAny_pure
      simp only [↓reduceIte]
      refine setS_tail ?_ ho hex hd g1 n1 pk b1 f1 r1 led ?_
      · intro b s₁ Q' q
        exact gw b q
      · intro h' sb r
        dsimp only
        exact wpAny_pure (fin h' sb r)
/-- the members so far -/
def ded : List Str → List Str → List Str
  | acc, [] => acc
  | acc, x :: xs => ded (if x ∈ acc then acc else x :: acc) xs
theorem ded_len : ∀ (xs acc : List Str), (ded acc xs).length ≤ acc.length + xs.length
  | [], acc => Nat.le_refl _
  | x :: xs, acc => by
    have := ded_len xs (if x ∈ acc then acc else x :: acc)
    unfold ded
    by_cases hx : x ∈ acc
    · rw [if_pos hx] at this ⊢
      simp only [List.length_cons]
      omega
    · rw [if_neg hx] at this ⊢
      simp only [List.length_cons] at this ⊢
      omega
theorem set_update_strs {I : Addr} {fp wr : List Addr} {G : Array GenState → Array GenState → Prop} {n : Nat} {Pv : Nat → Value → Prop} {St : Nat → Shared → Prop} {R : Result → Shared → Prop} (W : WalksS P w A.in1 I fp wr G n Pv St)
    (D : Addr) (hD : D ∉ fp) (xs : List Str) (hn : n = xs.length) (hb : xs.length + 1 < scanBound) (hval : ∀ i v, Pv i v → ∃ k t, xs[i]? = some k ∧ v = .str k t) :
    ∀ (k i : Nat) (s : Shared), n - i = k → i ≤ n → St i s → (∃ acc, acc.length ≤ i ∧ SetS w s.heap D acc ∧ ded acc (xs.drop i) = ded [] xs) →
      (∀ s', Moved (D :: wr) G s s' → SetS w s'.heap D (ded [] xs) → R (.ok (.ret .none)) s') →
      codeAny (model P w) A (.builtin "set.update.loop" ⟨[.ref D, .ref I], []⟩) R s := by
  have hDw : D ∉ wr := fun z => hD (W.sub _ z)
  have sub : ∀ b ∈ wr, b ∈ D :: wr := fun b z => List.mem_cons_of_mem _ z
  intro k
  induction k with
  | zero =>
    rintro i s hk hi st ⟨acc, hc, hS, hded⟩ hR
    have hin : i = n := by omega
    subst hin
    apply codeAny_builtin F.entry_set_update_loop
    rw [Around.under_plainId F.plain_set_update_loop _]
    show wpAny _ A.in1 (pyNext (.ref I) >>= _) _ _ s
    apply wpAny_bind
    apply W.done s _ _ st
    intro s' hm
    show wpAny _ A.in1 (ret Value.none) _ _ s'
    apply wpAny_pure
    apply hR s' (hm.mono sub)
    have e : xs.drop i = [] := List.drop_eq_nil_of_le (by omega)
    rw [e] at hded
    have hded : acc = ded [] xs := hded
    rw [← hded]
    exact hS.at fun o e => hm.heap D o hDw e
  | succ k ih =>
    rintro i s hk hi st ⟨acc, hc, hS, hded⟩ hR
    have hlt : i < n := by omega
    apply codeAny_builtin F.entry_set_update_loop
    rw [Around.under_plainId F.plain_set_update_loop _]
    show wpAny _ A.in1 (pyNext (.ref I) >>= _) _ _ s
    apply wpAny_bind
    apply W.item i s _ _ hlt st
    intro v s' hP st' hm
    obtain ⟨z, t, hz, rfl⟩ := hval i v hP
    have hS' : SetS w s'.heap D acc := hS.at fun o e => hm.heap D o hDw e
    show wpAny _ A.in1 (holding [Value.str z t] (setAdd D (.str z t)) >>= _) _ _ s'
    apply wpAny_bind
    apply wpAny_holding
    unfold setAdd
    apply wpAny_holding
    apply wpAny_bind
    apply (PySem.strKind P w).pyHash (k := z) (strKind_is _ _ _ _)
    apply setS_add (s := { s' with toks := s'.toks + 1 }) hS' (by omega)
    intro h' b hsb hS2
    have hl2 : (if z ∈ acc then acc else z :: acc).length ≤ i + 1 := by
      split
      · omega
      · simp only [List.length_cons]
        omega
    have hd2 : xs.drop i = z :: xs.drop (i + 1) := by
      obtain ⟨hi2, e2⟩ := List.getElem?_eq_some_iff.mp hz
      rw [List.drop_eq_getElem_cons hi2, e2]
    rw [hd2] at hded
    have hded : ded (if z ∈ acc then acc else z :: acc) (xs.drop (i + 1)) = ded [] xs := hded
    apply wpAny_pure
    refine ⟨plainId_quiet F.plain_set_update_loop _, ih (i + 1) _ (by omega) hlt (W.frame _ s' _ _ st' (Nat.le_succ _) ?_) ⟨_, hl2, hS2, hded⟩ ?_⟩
    · intro b hb o e
      rw [hsb.2 b (fun q => hD (by rw [← q]; exact hb))]
      exact e
    · intro s'' hm'' hS''
      apply hR s'' (Moved.trans W.gtrans ((hm.mono sub).then_heap (Nat.le_succ _) ?_) hm'') hS''
      intro b o hb e
      rw [hsb.2 b (fun q => hb (by rw [q]; exact List.mem_cons_self))]
      exact e
end
end Vx
namespace Vx
open Rep (rep)
open EnvR (er)
open PySem PySem.Spec PyProof.Rows L2
section
variable {P : Program} {w : World} {A : Around} {E : Value → Shared → Prop} {s : Shared}
theorem setS_nil {h : Heap} {a : Addr} (ho : h.get? a = some { cls := .type "set", dict := none, data := .set #[] 0 (.fresh 0 0 (!w.params.followText "set-order")) }) : SetS w h a [] := by
  refine ⟨_, #[], 0, _, ho, ⟨rfl, rfl, rfl⟩, rfl, fun e he => by simp at he, List.nodup_nil, List.Perm.refl _, by decide, by rfl, List.Pairwise.nil, ?_⟩
  show _ ∨ (!w.params.followText "set-order") = true
  cases w.params.followText "set-order"
  · exact Or.inr rfl
  · exact Or.inl rfl
/-- a new set -/
abbrev newSet (w : World) : Obj := { cls := .type "set", dict := none, data := .set #[] 0 (.fresh 0 0 (!w.params.followText "set-order")) }
/-- what is wanted behind set(x), x of the texts xs -/
def SetEnd (w : World) (xs : List Str) (s : Shared) (r : Value) (s₂ : Shared) : Prop := r = .none ∧ ∃ h' tk, s₂ = { s with heap := h', toks := tk } ∧ SetS w h' s.heap.objs.size (ded [] xs) ∧ ∀ b o, s.heap.get? b = some o → h'.get? b = some o
/-- the loop over an iterator I, behind the set's making -/
theorem set_loop {xs : List Str} (hb : xs.length + 1 < scanBound) {I : Addr} {fp wr : List Addr} {Pv : Nat → Value → Prop} {St : Nat → Heap → Prop} {h1 : Heap} {tk : Nat} (W : PySem.Walks P w A.in1 I fp wr xs.length Pv St) (hD : s.heap.objs.size ∉ fp) (hw : ∀ b ∈ wr, s.heap.objs.size < b)
    (hval : ∀ i v, Pv i v → ∃ k t, xs[i]? = some k ∧ v = .str k t) (st : St 0 h1) (hS : h1.get? s.heap.objs.size = some (newSet w)) (keep : ∀ b o, s.heap.get? b = some o → h1.get? b = some o) :
    codeAny (model P w) A (.builtin "set.update.loop" ⟨[.ref s.heap.objs.size, .ref I], []⟩) (fun r s₂ => r = .ok (.ret .none) ∧ SetEnd w xs s .none s₂) { s with heap := h1, toks := tk } := by
  apply set_update_strs W.toS s.heap.objs.size hD xs rfl hb hval (xs.length - 0) 0 _ (by omega) (Nat.zero_le _) st ⟨[], Nat.le_refl _, setS_nil hS, rfl⟩
  intro s' hm hS'
  obtain ⟨h', g', d', tk', os'⟩ := s'
  have eg : g' = s.gens := hm.gens
  have ed : d' = s.drawn := hm.drawn
  have eo : os' = s.os := hm.os
  subst eg
  subst ed
  subst eo
  refine ⟨rfl, rfl, h', tk', rfl, hS', fun b o e => ?_⟩
  have hlt : b < s.heap.objs.size := Heap.lt_size e
  apply hm.heap b o ?_ (keep b o e)
  intro z
  cases List.mem_cons.mp z with
  | inl q => exact absurd hlt (by rw [q]; exact Nat.lt_irrefl _)
  | inr q => exact absurd (Nat.lt_trans hlt (hw b q)) (Nat.lt_irrefl _)
theorem set_call {x : Value} (xs : List Str) {Q : Value → Shared → Prop} (init : ∀ A' : Around, A'.handled = A.handled → codeAny (model P w) A' (.call (.builtin "set.__init__") ⟨[.ref s.heap.objs.size, x], []⟩) (wants (SetEnd w xs s) E) { s with heap := s.heap.push (newSet w) })
    (h : ∀ (h' : Heap) (tk : Nat), SetS w h' s.heap.objs.size (ded [] xs) → (∀ b o, s.heap.get? b = some o → h'.get? b = some o) → Q (.ref s.heap.objs.size) { s with heap := h', toks := tk }) :
    wpAny (model P w) A (call (.type "set") [x]) Q E s := by
  obtain ⟨c, tl, hmro⟩ := F.called_set.mro
  have k1 := F.called_set.made
  have k2 := F.called_set.sub
  have k3 := F.called_set.notType
  have k4 := F.called_set.canCreate
  have k5 := F.typeCall_set_1 x
  apply wpAny_call
  apply codeAny_of_tree
  show wpAny _ _ (callAny (.type "set") _) _ _ _
  apply wpAny_pure
  refine ⟨Code.quiet_builtin _ (by decide +kernel), codeAny_builtin F.entry_type_call ?_⟩
  rw [Around.under_plain (weight_type_call_type "set" [x] []) rfl]
  repeat (any_goals (first | assumption | wp_step))
  refine codeAny_mono (code_set_led1 x (E := E) (Q₁ := fun obj s₁ => obj = .ref s.heap.objs.size ∧ s₁ = { s with heap := s.heap.push (newSet w) }) ⟨rfl, rfl⟩) ?_
  intro r s₁ hr
  cases r with
  | error e => exact hr
  | ok fl =>
    cases fl with
    | next => exact hr.elim
    | brk => exact hr.elim
    | cont => exact hr.elim
    | ret obj =>
      obtain ⟨rfl, rfl⟩ := hr
      have hS : (s.heap.push (newSet w)).get? s.heap.objs.size = some (newSet w) := Heap.get?_push_size _ rfl
      have hT : Shared.TypeIs { s with heap := s.heap.push (newSet w) } (.ref s.heap.objs.size) "set" := ⟨_, hS, rfl⟩
      have k6 := F.called_set.init.lookup
      have k7 := F.called_set.init.bind (.ref s.heap.objs.size)
      repeat (any_goals (first | assumption | wp_step))
      refine codeAny_mono (init _ (by simp)) ?_
      intro r₂ s₂ hr₂
      cases r₂ with
      | error e => exact hr₂
      | ok fl₂ =>
        cases fl₂ with
        | next => exact hr₂.elim
        | brk => exact hr₂.elim
        | cont => exact hr₂.elim
        | ret r =>
          obtain ⟨rfl, h', tk, rfl, hS', hk'⟩ := hr₂
          repeat (any_goals (first | assumption | wp_step))
          exact h _ _ hS' hk'
theorem set_of_list {l : Addr} {items : Array Value} (xs : List Str) {Q : Value → Shared → Prop} (hh : A.handled = none) (hl : s.heap.IsList l items) (hit : StrsAre items.toList xs) (hb : xs.length + 1 < scanBound)
    (h : ∀ (h' : Heap) (tk : Nat), SetS w h' s.heap.objs.size (ded [] xs) → (∀ b o, s.heap.get? b = some o → h'.get? b = some o) → Q (.ref s.heap.objs.size) { s with heap := h', toks := tk }) :
    wpAny (model P w) A (call (.type "set") [.ref l]) Q E s := by
  have isz : items.size = xs.length := by
    rw [← StrsAre.len_eq hit, Array.length_toList]
  have vals : ∀ (i : Nat) (v : Value), items[i]? = some v → ∃ k t, xs[i]? = some k ∧ v = .str k t := by
    intro i v hv
    have hi : i < xs.length := by
      rw [← isz]
      exact (Array.getElem?_eq_some_iff.mp hv).1
    obtain ⟨t, e⟩ := SS.strs_at hit i v (by rw [Array.getElem?_toList]; exact hv)
    refine ⟨xs[i], t, List.getElem?_eq_getElem hi, ?_⟩
    rw [e, List.getD_eq_getElem?_getD, List.getElem?_eq_getElem hi]
    rfl
  refine set_call xs (fun A' hA' => ?_) h
  have hS : (s.heap.push (newSet w)).get? s.heap.objs.size = some (newSet w) := Heap.get?_push_size _ rfl
  have hT : Shared.TypeIs { s with heap := s.heap.push (newSet w) } (.ref s.heap.objs.size) "set" := ⟨_, hS, rfl⟩
  refine codeAny_call_builtin F.called_set.init.plain F.entry_set_init (check_set_init_1 hT ?_)
  obtain ⟨⟨ocls, odict, odata, oslots⟩, hol, hcl, nl, hdl⟩ := hl
  simp only at hcl hdl
  subst hcl
  subst hdl
  have hol' : (s.heap.push (newSet w)).get? l = some { cls := .type "list", dict := odict, data := .seq items nl, slots := oslots } := Heap.get?_push_of_some _ hol
  have hl1 : (s.heap.push (newSet w)).IsList l items := ⟨_, hol', rfl, nl, rfl⟩
  have k8 := PySem.F.sub_list_set
  have k9 := PySem.F.sub_list_frozenset
  have k10 : (Value.type "list" == Value.type "dict") = false := by decide
  have hlS : l < s.heap.objs.size := Heap.lt_size hol
  have sz1 : (s.heap.push (newSet w)).objs.size = s.heap.objs.size + 1 := Heap.size_push ..
  unfold Builtin.«set.__init__» noKeywords Builtin.Frozenset.updateFrom
  generalize hPI : pyIter = PI
  wp_walk
  subst hPI
  apply wpAny_pyIter_list hl1
  apply wpAny_bind
  apply wpAny_runValue
  have neI : l ≠ (s.heap.push (newSet w)).objs.size := by
    rw [sz1]
    exact Nat.ne_of_lt (Nat.lt_succ_of_lt hlS)
  have hh3 : A'.in1.in1.handled = none := by simp [hh, hA']
  have wl : PySem.Walks P w A'.in1.in1 (s.heap.objs.size + 1) [s.heap.objs.size + 1, l] [s.heap.objs.size + 1] xs.length (fun i v => items[i]? = some v) (fun i h => h.IsListIter (s.heap.objs.size + 1) l i ∧ h.IsList l items) := by
    rw [← isz]
    rw [sz1] at neI
    exact PySem.Walks.list hh3 _ l neI items
  have hD : s.heap.objs.size ∉ [s.heap.objs.size + 1, l] := by
    simp only [List.mem_cons, List.not_mem_nil, or_false, not_or]
    exact ⟨Nat.ne_of_lt (Nat.lt_succ_self _), Nat.ne_of_gt hlS⟩
  have hw : ∀ b ∈ [s.heap.objs.size + 1], s.heap.objs.size < b := by
    intro b hb
    rw [List.mem_singleton.mp hb]
    exact Nat.lt_succ_self _
  have st0 : ((s.heap.push (newSet w)).push { cls := .type "list_iterator", data := .fields #[.ref l, .int 0 0] }).IsListIter (s.heap.objs.size + 1) l 0 := by
    rw [← sz1]
    exact ⟨_, Heap.get?_push_size _ rfl, rfl, rfl⟩
  have lp := set_loop (A := A'.in1) (P := P) (w := w) (s := s) (tk := s.toks) hb wl hD hw vals (h1 := (s.heap.push (newSet w)).push { cls := .type "list_iterator", data := .fields #[.ref l, .int 0 0] }) ⟨st0, hl1.push _⟩ (Heap.get?_push_of_some _ hS) (fun b o e => Heap.get?_push_of_some _ (Heap.get?_push_of_some _ e))
  rw [← sz1] at lp
  apply codeAny_mono lp
  intro r₃ s₃ hr₃
  obtain ⟨rfl, hend⟩ := hr₃
  show wpAny _ _ _ _ _ _
  apply wpAny_pure
  show wpAny _ _ (ret Value.none) _ _ _
  exact wpAny_pure hend
end
end Vx
namespace Vx
open Rep (rep)
open EnvR (er)
open PySem PySem.Spec PyProof.Rows L2
section
variable {P : Program} {w : World} {A : Around} {E : Value → Shared → Prop} {s : Shared}
theorem set_of_str {x : Str} {t : Tok} {Q : Value → Shared → Prop} (hh : A.handled = none) (hb : x.cps.size + 1 < scanBound)
    (h : ∀ (h' : Heap) (tk : Nat), SetS w h' s.heap.objs.size (ded [] (signs x)) → (∀ b o, s.heap.get? b = some o → h'.get? b = some o) → Q (.ref s.heap.objs.size) { s with heap := h', toks := tk }) :
    wpAny (model P w) A (call (.type "set") [.str x t]) Q E s := by
  have len : (signs x).length = x.cps.size := by simp [signs]
  have vals : ∀ (i : Nat) (v : Value), SignAt x i v → ∃ k t, (signs x)[i]? = some k ∧ v = .str k t := by
    rintro i v ⟨c, u, hc, rfl⟩
    refine ⟨⟨#[c]⟩, u, ?_, rfl⟩
    unfold signs
    rw [List.getElem?_map, Array.getElem?_toList, hc]
    rfl
  refine set_call (signs x) (fun A' hA' => ?_) h
  have hS : (s.heap.push (newSet w)).get? s.heap.objs.size = some (newSet w) := Heap.get?_push_size _ rfl
  have hT : Shared.TypeIs { s with heap := s.heap.push (newSet w) } (.ref s.heap.objs.size) "set" := ⟨_, hS, rfl⟩
  refine codeAny_call_builtin F.called_set.init.plain F.entry_set_init (check_set_init_1 hT ?_)
  have k8 := PySem.F.sub_str_set
  have k9 := PySem.F.sub_str_frozenset
  have k10 : (Value.type "str" == Value.type "dict") = false := by decide
  have sz1 : (s.heap.push (newSet w)).objs.size = s.heap.objs.size + 1 := Heap.size_push ..
  have hh3 : A'.in1.in1.handled = none := by simp [hh, hA']
  have hb' : (signs x).length + 1 < scanBound := by rw [len]; exact hb
  have hD : s.heap.objs.size ∉ [s.heap.objs.size + 1] := by
    simp only [List.mem_cons, List.not_mem_nil, or_false, not_or]
    exact Nat.ne_of_lt (Nat.lt_succ_self _)
  have hw : ∀ b ∈ [s.heap.objs.size + 1], s.heap.objs.size < b := by
    intro b hb
    rw [List.mem_singleton.mp hb]
    exact Nat.lt_succ_self _
  unfold Builtin.«set.__init__» noKeywords Builtin.Frozenset.updateFrom
  generalize hPI : pyIter = PI
  wp_walk
  subst hPI
  have fin : ∀ {o : Obj} {ty : String}, (ty = "str_ascii_iterator" ∨ ty = "str_iterator") → ((s.heap.push (newSet w)).push o).IsStrIter (s.heap.objs.size + 1) ty x t 0 →
      codeAny (model P w) A'.in1 (.builtin "set.update.loop" ⟨[.ref s.heap.objs.size, .ref (s.heap.objs.size + 1)], []⟩) (fun r s₂ => r = .ok (.ret .none) ∧ SetEnd w (signs x) s .none s₂) { s with heap := (s.heap.push (newSet w)).push o } := by
    intro o ty hty st
    have W : PySem.Walks P w A'.in1.in1 (s.heap.objs.size + 1) [s.heap.objs.size + 1] [s.heap.objs.size + 1] (signs x).length (SignAt x) (fun i h => h.IsStrIter (s.heap.objs.size + 1) ty x t i) := by
      rw [len]
      cases hty with
      | inl e =>
        rw [e]
        exact PySem.Walks.strAscii hh3 _ x t
      | inr e =>
        rw [e]
        exact PySem.Walks.strWide hh3 _ x t
    exact set_loop (A := A'.in1) (P := P) (w := w) (s := s) (tk := s.toks) hb' W hD hw vals st (Heap.get?_push_of_some _ hS) (fun b o e => Heap.get?_push_of_some _ (Heap.get?_push_of_some _ e))
  cases ha : x.cps.all (· < 128) with
  | true =>
    apply wpAny_pyIter_ascii ha
    apply wpAny_bind
    apply wpAny_runValue
    have lp := fin (o := { cls := .type "str_ascii_iterator", data := .fields #[.str x t, .int 0 0] }) (.inl rfl) (by rw [← sz1]; exact ⟨_, Heap.get?_push_size _ rfl, rfl, rfl⟩)
    rw [← sz1] at lp
    apply codeAny_mono lp
    intro r₃ s₃ hr₃
    obtain ⟨rfl, hend⟩ := hr₃
    show wpAny _ _ _ _ _ _
    apply wpAny_pure
    show wpAny _ _ (ret Value.none) _ _ _
    exact wpAny_pure hend
  | false =>
    apply wpAny_pyIter_wide ha
    apply wpAny_bind
    apply wpAny_runValue
    have lp := fin (o := { cls := .type "str_iterator", data := .fields #[.str x t, .int 0 0] }) (.inr rfl) (by rw [← sz1]; exact ⟨_, Heap.get?_push_size _ rfl, rfl, rfl⟩)
    rw [← sz1] at lp
    apply codeAny_mono lp
    intro r₃ s₃ hr₃
    obtain ⟨rfl, hend⟩ := hr₃
    show wpAny _ _ _ _ _ _
    apply wpAny_pure
    show wpAny _ _ (ret Value.none) _ _ _
    exact wpAny_pure hend
theorem set_of_tup {l : Addr} {items : Array Value} (xs : List Str) {Q : Value → Shared → Prop} (hh : A.handled = none) (hl : s.heap.IsTuple l items) (hit : StrsAre items.toList xs) (hb : xs.length + 1 < scanBound)
    (h : ∀ (h' : Heap) (tk : Nat), SetS w h' s.heap.objs.size (ded [] xs) → (∀ b o, s.heap.get? b = some o → h'.get? b = some o) → Q (.ref s.heap.objs.size) { s with heap := h', toks := tk }) :
    wpAny (model P w) A (call (.type "set") [.ref l]) Q E s := by
  have isz : items.size = xs.length := by
    rw [← StrsAre.len_eq hit, Array.length_toList]
  have vals : ∀ (i : Nat) (v : Value), items[i]? = some v → ∃ k t, xs[i]? = some k ∧ v = .str k t := by
    intro i v hv
    have hi : i < xs.length := by
      rw [← isz]
      exact (Array.getElem?_eq_some_iff.mp hv).1
    obtain ⟨t, e⟩ := SS.strs_at hit i v (by rw [Array.getElem?_toList]; exact hv)
    refine ⟨xs[i], t, List.getElem?_eq_getElem hi, ?_⟩
    rw [e, List.getD_eq_getElem?_getD, List.getElem?_eq_getElem hi]
    rfl
  refine set_call xs (fun A' hA' => ?_) h
  have hS : (s.heap.push (newSet w)).get? s.heap.objs.size = some (newSet w) := Heap.get?_push_size _ rfl
  have hT : Shared.TypeIs { s with heap := s.heap.push (newSet w) } (.ref s.heap.objs.size) "set" := ⟨_, hS, rfl⟩
  refine codeAny_call_builtin F.called_set.init.plain F.entry_set_init (check_set_init_1 hT ?_)
  obtain ⟨⟨ocls, odict, odata, oslots⟩, hol, hcl, nl, hdl⟩ := hl
  simp only at hcl hdl
  subst hcl
  subst hdl
  have hol' : (s.heap.push (newSet w)).get? l = some { cls := .type "tuple", dict := odict, data := .seq items nl, slots := oslots } := Heap.get?_push_of_some _ hol
  have hl1 : (s.heap.push (newSet w)).IsTuple l items := ⟨_, hol', rfl, nl, rfl⟩
  have k8 := PySem.F.sub_tuple_set
  have k9 := PySem.F.sub_tuple_frozenset
  have k10 : (Value.type "tuple" == Value.type "dict") = false := by decide
  have hlS : l < s.heap.objs.size := Heap.lt_size hol
  have sz1 : (s.heap.push (newSet w)).objs.size = s.heap.objs.size + 1 := Heap.size_push ..
  unfold Builtin.«set.__init__» noKeywords Builtin.Frozenset.updateFrom
  generalize hPI : pyIter = PI
  wp_walk
  subst hPI
  apply wpAny_pyIter_tuple hl1
  apply wpAny_bind
  apply wpAny_runValue
  have neI : l ≠ (s.heap.push (newSet w)).objs.size := by
    rw [sz1]
    exact Nat.ne_of_lt (Nat.lt_succ_of_lt hlS)
  have hh3 : A'.in1.in1.handled = none := by simp [hh, hA']
  have wl : PySem.Walks P w A'.in1.in1 (s.heap.objs.size + 1) [s.heap.objs.size + 1, l] [s.heap.objs.size + 1] xs.length (fun i v => items[i]? = some v) (fun i h => h.IsTupleIter (s.heap.objs.size + 1) l i ∧ h.IsTuple l items) := by
    rw [← isz]
    rw [sz1] at neI
    exact PySem.Walks.tuple hh3 _ l neI items
  have hD : s.heap.objs.size ∉ [s.heap.objs.size + 1, l] := by
    simp only [List.mem_cons, List.not_mem_nil, or_false, not_or]
    exact ⟨Nat.ne_of_lt (Nat.lt_succ_self _), Nat.ne_of_gt hlS⟩
  have hw : ∀ b ∈ [s.heap.objs.size + 1], s.heap.objs.size < b := by
    intro b hb
    rw [List.mem_singleton.mp hb]
    exact Nat.lt_succ_self _
  have st0 : ((s.heap.push (newSet w)).push { cls := .type "tuple_iterator", data := .fields #[.ref l, .int 0 0] }).IsTupleIter (s.heap.objs.size + 1) l 0 := by
    rw [← sz1]
    exact ⟨_, Heap.get?_push_size _ rfl, rfl, rfl⟩
  have lp := set_loop (A := A'.in1) (P := P) (w := w) (s := s) (tk := s.toks) hb wl hD hw vals (h1 := (s.heap.push (newSet w)).push { cls := .type "tuple_iterator", data := .fields #[.ref l, .int 0 0] }) ⟨st0, hl1.push _⟩ (Heap.get?_push_of_some _ hS) (fun b o e => Heap.get?_push_of_some _ (Heap.get?_push_of_some _ e))
  rw [← sz1] at lp
  apply codeAny_mono lp
  intro r₃ s₃ hr₃
  obtain ⟨rfl, hend⟩ := hr₃
  show wpAny _ _ _ _ _ _
  apply wpAny_pure
  show wpAny _ _ (ret Value.none) _ _ _
  exact wpAny_pure hend
/-! ### the order of texts -/
def leS (a b : Str) : Bool := decide (a.cps.toList ≤ b.cps.toList)
/-- sorted(xs) -/
def srt (xs : List Str) : List Str := xs.mergeSort leS
theorem each_strs : ∀ {us : List Value} {xs : List Str}, StrsAre us xs → PySem.W.EachIs (fun v b => ∃ t, v = Value.str b t) us xs
  | _, _, .nil => .nil
  | _, _, .cons n t h => .cons ⟨t, rfl⟩ (each_strs h)
theorem strs_each : ∀ {us : List Value} {xs : List Str}, PySem.W.EachIs (fun v b => ∃ t, v = Value.str b t) us xs → StrsAre us xs
  | _, _, .nil => .nil
  | _, _, .cons ⟨t, e⟩ h => by
    subst e
    exact .cons _ t (strs_each h)
end
end Vx
namespace Vx
open Rep (rep)
open EnvR (er)
open PySem PySem.Spec PyProof.Rows L2
theorem leS_trans (a b c : Str) (h1 : leS a b = true) (h2 : leS b c = true) : leS a c = true := decide_eq_true (List.le_trans (of_decide_eq_true h1) (of_decide_eq_true h2))
theorem leS_total (a b : Str) : (leS a b || leS b a) = true := by
  unfold leS
  rw [Bool.or_eq_true, decide_eq_true_eq, decide_eq_true_eq]
  exact List.le_total _ _
theorem str_ext {a b : Str} (h : a.cps.toList = b.cps.toList) : a = b := by
  obtain ⟨⟨x⟩⟩ := a
  obtain ⟨⟨y⟩⟩ := b
  have h' : x = y := h
  rw [h']
theorem leS_anti (a b : Str) (h1 : leS a b = true) (h2 : leS b a = true) : a = b := str_ext (List.le_antisymm (of_decide_eq_true h1) (of_decide_eq_true h2))
theorem srt_pair (xs : List Str) : (srt xs).Pairwise (fun a b => leS a b = true) := List.pairwise_mergeSort leS_trans leS_total xs
theorem srt_perm (xs : List Str) : (srt xs).Perm xs := List.mergeSort_perm xs leS
theorem srt_eq {xs ys : List Str} (p : xs.Perm ys) : srt xs = srt ys := List.Perm.eq_of_pairwise (fun a b _ _ => leS_anti a b) (srt_pair xs) (srt_pair ys) ((srt_perm xs).trans (p.trans (srt_perm ys).symm))
section
variable {P : Program} {w : World} {A : Around} {E : Value → Shared → Prop} {s : Shared}
theorem strs_alike (bs : List Str) : PySem.W.AllAlike (bs.map PyData.str) := PySem.W.AllAlike.of fun b b' => rfl
theorem strs_sortable (bs : List Str) : PySem.W.Sortable (bs.map PyData.str) := PySem.W.Sortable.others fun b => ⟨fun z => PyData.noConfusion z, fun _ z => PyData.noConfusion z⟩
theorem strs_le : PySem.W.dataLe false PyData.str = leS := PySem.W.dataLe_str id
theorem each_reads {h : Heap} {us : List Value} {xs : List Str} (e : PySem.W.EachIs (fun v b => ∃ t, v = Value.str b t) us xs) : PySem.W.EachIs (fun v b => ∃ as, Reads h v (PyData.str b) as) us xs := by
  induction e with
  | nil => exact .nil
  | cons r _ ih =>
    obtain ⟨t, rfl⟩ := r
    exact .cons ⟨_, Reads.str _ t⟩ ih
theorem each_reads2 {h : Heap} {a : Addr} {us : List Value} {xs : List Str} (e : PySem.W.EachIs (fun v b => ∃ t, v = Value.str b t) us xs) : PySem.W.EachIs (fun v b => ∃ as, Reads h v (PyData.str b) as ∧ a ∉ as) us xs := by
  induction e with
  | nil => exact .nil
  | cons r _ ih =>
    obtain ⟨t, rfl⟩ := r
    exact .cons ⟨_, Reads.str _ t, by simp⟩ ih
/-- sorted(set(..)) behind the set -/
theorem sorted_setS {D : Addr} {l : List Str} {Q : Value → Shared → Prop} (R : SetS w s.heap D l) (hh : A.handled = none) (hu : A.units + 64 < cLine)
    (hQ : ∀ s' p (out : Array Value) (c : Nat), (∀ b o, s.heap.get? b = some o → s'.heap.get? b = some o) → s'.gens = s.gens → s'.os = s.os → s.heap.objs.size ≤ p → s'.heap.get? p = some (seqObj "list" out c) → StrsAre out.toList (srt l) → Q (.ref p) s') :
    wpAny (model P w) A (call (.builtin "sorted") [.ref D]) Q E s := by
  obtain ⟨o, es, ep, t, ho, hex, hd, g, nd, pm, hb, hf, hr, hl⟩ := R
  apply Calls.call_function_entry kind_sorted plain_sorted entry_sorted (args_sorted1 _)
  unfold Builtin.«sorted»
  refine wpAny_bind (m := checkCount "sorted" 1 1 _) (wpAny_pure ?_)
  apply wpAny_bind
  apply collect_set (A := A.in1) hh ⟨o, ho, hex.1, hd⟩ hf hb hr hl
  intro s1 vs k1 hz g1 o1 pv
  have txt : ∀ v ∈ vs, ∃ k tk, v = Value.str k tk := by
    intro v hv
    obtain ⟨e, he, q⟩ := List.mem_map.mp (pv.mem_iff.mp hv)
    obtain ⟨k, tk, e1, _⟩ := g e he
    exact ⟨k, tk, by rw [← q]; exact e1⟩
  have ev : PySem.W.EachIs (fun v b => ∃ t, v = Value.str b t) vs (vs.map fun v => keyS (0, v)) := by
    clear pv
    induction vs with
    | nil => exact .nil
    | cons v vs ih =>
      obtain ⟨k, tk, rfl⟩ := txt v List.mem_cons_self
      exact .cons ⟨tk, rfl⟩ (ih fun u hu => txt u (List.mem_cons_of_mem _ hu))
  have pk : (vs.map fun v => keyS (0, v)).Perm l := by
    have q := pv.map (fun v => keyS ((0 : Int), v))
    rw [List.map_map] at q
    exact q.trans pm
  have len : vs.length ≤ sizeLine := by
    have e1 := pv.length_eq
    have e2 : es.toList.length = es.size := Array.length_toList
    rw [List.length_map, e2] at e1
    rw [e1, sizeLine_eq]
    have : scanBound = 4096 := rfl
    omega
  apply wpAny_bind
  refine wpAny_newList ?_ len
  have hoL : (s1.heap.push (seqObj "list" vs.toArray 0)).get? s1.heap.objs.size = some (seqObj "list" vs.toArray 0) := Heap.get?_push_size _ rfl
  apply wpAny_bind
  apply wpAny_holding
  have er : PySem.W.EachIs (fun v b => ∃ as, Reads (s1.heap.push (seqObj "list" vs.toArray 0)) v (PyData.str b) as ∧ s1.heap.objs.size ∉ as) vs (vs.map fun v => keyS (0, v)) := each_reads2 ev
  apply PySem.W.list_sort_data (s := { s1 with heap := s1.heap.push (seqObj "list" vs.toArray 0) }) (enc := PyData.str) hoL ev er (strs_alike _) (strs_sortable _) (by rw [List.length_map]; exact len)
  · intro b _
    show A.units + 1 + 1 + 0 < cLine
    omega
  intro out hlen eo
  rw [strs_le] at eo
  obtain ⟨c, hc⟩ := sortedHeap_at (vs := vs) (out := out.toArray) hoL
  apply wpAny_pure
  refine ⟨_, rfl, hQ _ s1.heap.objs.size out.toArray c ?_ g1 o1 hz hc ?_⟩
  · intro b u e
    have q := k1 b u e
    have hlt := Heap.lt_size q
    show (sortedHeap (s1.heap.push (seqObj "list" vs.toArray 0)) s1.heap.objs.size vs out.toArray).get? b = some u
    rw [sortedHeap_old (Nat.ne_of_lt hlt) (by rw [size_push']; exact Nat.lt_succ_of_lt hlt)]
    exact Heap.get?_push_of_some _ q
  · have := strs_each eo
    show StrsAre out.toArray.toList (srt l)
    rw [← srt_eq pk]
    exact this
end
section
variable {X : Cx} {a : Expr} {ta : TE} {p p2 q pos : Pos}
/-- sorted(xs), texts -/
theorem cr_srt (hu : X.A.units + 64 < cLine) : CallR X (.builtin "sorted") (fun vs H Q => ∃ (b : Addr) (xs : List Str), vs = [.ref b] ∧ SqL X.K H b (xs.map V.str) ∧ xs.length ≤ 100000 ∧ ∀ p, H p = none → Q (.ref p) (upd H p (.lst ((srt xs).map V.str)))) := by
  intro pins s σ H vs us Q I r h
  obtain ⟨b, xs, rfl, hs, hz, k⟩ := h
  obtain ⟨its, rv, hl, _⟩ := I.list hs
  rw [Vals.ref1 r]
  have es := each_strs rv.strs
  have hL : xs.length ≤ sizeLine := Nat.le_trans hz (by decide)
  apply PySem.W.sorted_data (enc := PyData.str) hl.isList es (each_reads es) (strs_alike _) (strs_sortable _) hL
  · intro b _
    show X.A.units + 2 + 0 < cLine
    omega
  intro out hlen eo
  rw [strs_le] at eo
  have so := strs_each eo
  obtain ⟨ep, he'⟩ := PyProof.Rows.sortedAll_at s.heap its out.toArray
  have hn : H (s.heap.objs.size + 1) = none := I.hok.fresh (Nat.le_succ _)
  have lz : ((srt xs).map V.str).length ≤ sizeLine := by
    rw [List.length_map, (srt_perm xs).length_eq]
    exact hL
  exact ⟨.ref _, _, I.laid (t' := s.toks) (o := .lst ((srt xs).map V.str)) (fun _ _ => PyProof.Rows.sortedAll_old) (Nat.le_succ _) ⟨lz, out, ep, vals_of_strs so, he'⟩, rfl, k _ hn⟩
/-- a list of texts, or a text's signs -/
def Txts (K : PySem.W.Frag) (H : Hp) (x : V) (xs : List Str) : Prop := (∃ l, x = .ref l ∧ SqL K H l (xs.map V.str)) ∨ (∃ l, x = .ref l ∧ SqT K H l (xs.map V.str)) ∨ ∃ z : Str, x = .str z ∧ xs = signs z
def tSortSet (K : PySem.W.Frag) (te : TE) : TE := fun σ H Q => te σ H fun x H1 => ∃ xs : List Str, Txts K H1 x xs ∧ xs.length ≤ 4000 ∧ ∀ p, H1 p = none → Q (.ref p) (upd H1 p (.lst ((srt (ded [] xs)).map V.str)))
theorem pe_sortSet (hc : X.calm = true) (hu : X.A.units + 64 < cLine) (hm : X.mg "sorted" = none) (hm2 : X.mg "set" = none) (ha : PE X a ta) (hg : Gl X "sorted" := by rfl) (hg2 : Gl X "set" := by rfl)
    (na : starEach [a] X.env = (false, eval a X.env) :: starEach [] X.env := by rfl) : PE X (.Call (.Name "sorted" p) [.Call (.Name "set" p2) [a] [] q] [] pos) (tSortSet X.K ta) := by
  constructor
  intro pins s σ H Q I h
  refine Call_ (ld_blt I hg hm boot_sorted ?_)
  refine PyProof.Rows.callWith_builtin1 (PyProof.Rows.args_cons ?_ rfl) rfl rfl
  refine Call_ (ld_blt I hg2 hm2 boot_set ?_)
  refine PyProof.Rows.callWith_type1 (PyProof.Rows.args_cons (thn (ha.run pins s σ H _ I h) ?_) na) na rfl
  intro v s1 ⟨x, H1, I1, r1, xs, hx, hz, k⟩
  apply PyProof.Rows.args_nil
  have hz2 : xs.length + 1 < scanBound := by
    have : scanBound = 4096 := rfl
    omega
  have fin : ∀ (h' : Heap) (tk : Nat), SetS X.w h' s1.heap.objs.size (ded [] xs) → (∀ b o, s1.heap.get? b = some o → h'.get? b = some o) →
      wpAny (model X.prog X.w) X.A (spliced (backTo pos (starEach [] X.env))) (fun vs s₂ => wpAny (model X.prog X.w) X.A (call (.builtin "sorted") (Value.ref s1.heap.objs.size :: vs)) (EP X pins σ Q) X.xe s₂) X.xe { s1 with heap := h', toks := tk } := by
    intro h' tk hS hk
    apply PyProof.Rows.args_nil
    have I2 : L2.Inv X pins σ H1 { s1 with heap := h', toks := tk } := I1.kept hk
    apply sorted_setS (s := { s1 with heap := h', toks := tk }) hS (I1.ok.hd hc) hu
    intro s' p out c hk' hgn hos hp hget hst
    have hn : H1 p = none := I2.hok.fresh hp
    have lz : ((srt (ded [] xs)).map V.str).length ≤ sizeLine := by
      rw [List.length_map, (srt_perm _).length_eq]
      have := ded_len xs []
      refine Nat.le_trans this (Nat.le_trans ?_ (by decide : 4000 ≤ sizeLine))
      simpa using hz
    have J := I2.call (h' := s'.heap) (g' := s'.gens) (d' := s'.drawn) (t' := s'.toks) (ch := []) (Un.laid hk' hp hn) (I2.hok.laid hk' hp (o := .lst ((srt (ded [] xs)).map V.str)) ⟨lz, out.toList, c, vals_of_strs hst, hget⟩) (by rw [hgn]; exact I2.bare) (fun _ z => nomatch z)
    have e : s' = { s1 with heap := s'.heap, gens := s'.gens, drawn := s'.drawn, toks := s'.toks } := by
      cases s'
      cases hos
      rfl
    rw [e]
    exact ⟨.ref p, _, J, rfl, k p hn⟩
  rcases hx with ⟨l, rfl, hq⟩ | ⟨l, rfl, hq⟩ | ⟨z, rfl, rfl⟩
  · cases r1
    obtain ⟨its, rv, pl, _⟩ := I1.list hq
    exact set_of_list xs (I1.ok.hd hc) pl.isList (by simpa using rv.strs) hz2 fin
  · cases r1
    obtain ⟨its, rv, pl, _⟩ := I1.tuple hq
    exact set_of_tup xs (I1.ok.hd hc) pl (by simpa using rv.strs) hz2 fin
  · obtain ⟨t, rfl⟩ := r1
    exact set_of_str (I1.ok.hd hc) (by simpa [signs] using hz2) fin
end
end Vx
namespace Vx
open Rep (rep)
open EnvR (er)
open PySem PySem.Spec PyProof.Rows L2
/-! ### operators -/
section
variable {K : PySem.W.Frag}
theorem op2_I0 {g : Int → Int → V} {δ : Type} [Rep δ] {φ : Int → Int → Option δ} (h : ∀ G i j z, φ i j = some z → rep K G z (g i j)) : Op2 (rI0 g) (RE K) (RE K) (RE K) φ := fun F G H x y z vx vy Q w rx ry e k => by
  cases rx
  cases ry
  exact ⟨x, y, rfl, rfl, k _ G H (Ex.refl G) w (h G x y z e)⟩
theorem op2_I {C : Int → Int → Prop} {g : Int → Int → V} {δ : Type} [Rep δ] {φ : Int → Int → Option δ} (h : ∀ G i j z, φ i j = some z → C i j ∧ rep K G z (g i j)) : Op2 (rI C g) (RE K) (RE K) (RE K) φ := fun F G H x y z vx vy Q w rx ry e k => by
  cases rx
  cases ry
  exact ⟨x, y, rfl, rfl, (h G x y z e).1, k _ G H (Ex.refl G) w (h G x y z e).2⟩
def iAdd (i j : Int) : Option Int := some (i + j)
def iSub (i j : Int) : Option Int := some (i - j)
def iMul (i j : Int) : Option Int := if ((-(2 ^ 64) < i ∧ i < 2 ^ 64) ∨ (-(2 ^ 64) < j ∧ j < 2 ^ 64)) then some (i * j) else none
def iMod (i j : Int) : Option Int := if 0 < j then some (i % j) else none
def iDiv (i j : Int) : Option Int := if 0 < j ∧ j < 1073741824 then some (i / j) else none
def iPow (i j : Int) : Option Int := if 0 ≤ j ∧ j ≤ 1000 ∧ i.natAbs < 2 ^ 64 then some (i ^ j.toNat) else none
def iAnd (i j : Int) : Option Int := some (Builtin.bitAnd i j)
def iLt (i j : Int) : Option Bool := some (decide (i < j))
def iLe (i j : Int) : Option Bool := some (decide (i ≤ j))
def iGt (i j : Int) : Option Bool := some (decide (j < i))
def iGe (i j : Int) : Option Bool := some (decide (j ≤ i))
theorem o_iAdd : Op2 (rI0 fun i j => .int (i + j)) (RE K) (RE K) (RE K) iAdd := op2_I0 fun G i j z e => by cases e; rfl
theorem o_iSub : Op2 (rI0 fun i j => .int (i - j)) (RE K) (RE K) (RE K) iSub := op2_I0 fun G i j z e => by cases e; rfl
theorem o_iMul : Op2 (rI CMul fun i j => .int (i * j)) (RE K) (RE K) (RE K) iMul := op2_I fun G i j z e => by
  unfold iMul at e
  split at e
  · rename_i h
    cases e
    exact ⟨h, rfl⟩
  · cases e
theorem o_iMod : Op2 (rI (fun _ j => 0 < j) fun i j => .int (i % j)) (RE K) (RE K) (RE K) iMod := op2_I fun G i j z e => by
  unfold iMod at e
  split at e
  · rename_i h
    cases e
    exact ⟨h, rfl⟩
  · cases e
theorem o_iDiv : Op2 (rI CDiv fun i j => .int (i / j)) (RE K) (RE K) (RE K) iDiv := op2_I fun G i j z e => by
  unfold iDiv at e
  split at e
  · rename_i h
    cases e
    exact ⟨h, rfl⟩
  · cases e
theorem o_iPow : Op2 (rI CPow fun i j => .int (i ^ j.toNat)) (RE K) (RE K) (RE K) iPow := op2_I fun G i j z e => by
  unfold iPow at e
  split at e
  · rename_i h
    cases e
    exact ⟨⟨h.1, by omega, h.2.2⟩, rfl⟩
  · cases e
theorem o_iAnd : Op2 (rI0 fun i j => .int (Builtin.bitAnd i j)) (RE K) (RE K) (RE K) iAnd := op2_I0 fun G i j z e => by cases e; rfl
theorem o_iLt : Op2 (rI0 fun i j => .bl (decide (i < j))) (RE K) (RE K) (RE K) iLt := op2_I0 fun G i j z e => by cases e; rfl
theorem o_iLe : Op2 (rI0 fun i j => .bl (decide (i ≤ j))) (RE K) (RE K) (RE K) iLe := op2_I0 fun G i j z e => by cases e; rfl
theorem o_iGt : Op2 (rI0 fun i j => .bl (decide (j < i))) (RE K) (RE K) (RE K) iGt := op2_I0 fun G i j z e => by cases e; rfl
theorem o_iGe : Op2 (rI0 fun i j => .bl (decide (j ≤ i))) (RE K) (RE K) (RE K) iGe := op2_I0 fun G i j z e => by cases e; rfl
/-- == of numbers, texts, truths -/
class Scl (α : Type) [Rep α] [DecidableEq α] : Prop where
  v : ∀ {K : PySem.W.Frag} {G : Hp} {x y : α} {vx vy : V}, rep K G x vx → rep K G y vy → scal vx vy = true ∧ (vx = vy ↔ x = y)
instance : Scl Int := ⟨fun h k => by
  cases h
  cases k
  exact ⟨rfl, fun z => V.int.inj z, fun z => by rw [z]⟩⟩
instance : Scl Str := ⟨fun h k => by
  cases h
  cases k
  exact ⟨rfl, fun z => V.str.inj z, fun z => by rw [z]⟩⟩
instance : Scl Bool := ⟨fun h k => by
  cases h
  cases k
  exact ⟨rfl, fun z => V.bl.inj z, fun z => by rw [z]⟩⟩
def sEq {α : Type} [DecidableEq α] (x y : α) : Option Bool := some (decide (x = y))
def sNe {α : Type} [DecidableEq α] (x y : α) : Option Bool := some (!decide (x = y))
theorem o_sEq {α : Type} [Rep α] [DecidableEq α] [Scl α] : Op2 rEq (RE K (α := α)) (RE K) (RE K) sEq := fun F G H x y z vx vy Q w rx ry e k => by
  obtain ⟨h1, h2⟩ := Scl.v rx ry
  cases e
  refine ⟨h1, k _ G H (Ex.refl G) w ?_⟩
  show V.bl _ = V.bl _
  rw [decide_eq_decide.mpr h2]
theorem o_sNe {α : Type} [Rep α] [DecidableEq α] [Scl α] : Op2 rNe (RE K (α := α)) (RE K) (RE K) sNe := fun F G H x y z vx vy Q w rx ry e k => by
  obtain ⟨h1, h2⟩ := Scl.v rx ry
  cases e
  refine ⟨h1, k _ G H (Ex.refl G) w ?_⟩
  show V.bl _ = V.bl _
  rw [decide_eq_decide.mpr h2]
/-- texts -/
def sAdd (x y : Str) : Option Str := if x.length + y.length ≤ 100000 then some (x ++ y) else none
theorem o_sAdd : Op2 (fun x y H Q => ∃ i j, x = .str i ∧ y = .str j ∧ i.length + j.length ≤ sizeLine ∧ Q (.str (i ++ j)) H) (RE K) (RE K) (RE K) sAdd := fun F G H x y z vx vy Q w rx ry e k => by
  cases rx
  cases ry
  unfold sAdd at e
  split at e
  · rename_i h
    cases e
    exact ⟨x, y, rfl, rfl, Nat.le_trans h line_ge, k _ G H (Ex.refl G) w rfl⟩
  · cases e
/-- one sign -/
def sign1 (x : Str) : Option Nat := match x.cps.toList with
  | [c] => some c
  | _ => none
theorem sign1_eq {x : Str} {c : Nat} (h : sign1 x = some c) : x = ⟨#[c]⟩ := by
  obtain ⟨⟨l⟩⟩ := x
  unfold sign1 at h
  match l, h with
  | [d], h =>
    cases h
    rfl
def sIn (x y : Str) : Option Bool := (sign1 x).map fun c => decide (c ∈ y.cps.toList)
def sNotIn (x y : Str) : Option Bool := (sign1 x).map fun c => !decide (c ∈ y.cps.toList)
theorem o_sIn : Op2 (fun x y H Q => ∃ (c : Nat) (z : Str), x = .str ⟨#[c]⟩ ∧ y = .str z ∧ Q (.bl (decide (c ∈ z.cps.toList))) H) (RE K) (RE K) (RE K) sIn := fun F G H x y z vx vy Q w rx ry e k => by
  cases rx
  cases ry
  unfold sIn at e
  cases e1 : sign1 x with
  | none => rw [e1] at e; cases e
  | some c =>
    rw [e1] at e
    cases e
    have := sign1_eq e1
    subst this
    exact ⟨c, y, rfl, rfl, k _ G H (Ex.refl G) w rfl⟩
theorem o_sNotIn : Op2 (fun x y H Q => ∃ (c : Nat) (z : Str), x = .str ⟨#[c]⟩ ∧ y = .str z ∧ Q (.bl (!decide (c ∈ z.cps.toList))) H) (RE K) (RE K) (RE K) sNotIn := fun F G H x y z vx vy Q w rx ry e k => by
  cases rx
  cases ry
  unfold sNotIn at e
  cases e1 : sign1 x with
  | none => rw [e1] at e; cases e
  | some c =>
    rw [e1] at e
    cases e
    have := sign1_eq e1
    subst this
    exact ⟨c, y, rfl, rfl, k _ G H (Ex.refl G) w rfl⟩
def sLe (x y : Str) : Option Bool := some (!decide (y.cps.toList < x.cps.toList))
theorem o_sLe : Op2 (fun x y H Q => ∃ i j, x = .str i ∧ y = .str j ∧ Q (.bl (!decide (j.cps.toList < i.cps.toList))) H) (RE K) (RE K) (RE K) sLe := fun F G H x y z vx vy Q w rx ry e k => by
  cases rx
  cases ry
  cases e
  exact ⟨x, y, rfl, rfl, k _ G H (Ex.refl G) w rfl⟩
/-- None -/
class NN (α : Type) [Rep α] : Prop where
  nn : ∀ {K : PySem.W.Frag} {G : Hp} {x : α} {v : V}, rep K G x v → v ≠ .non
instance : NN Int := ⟨fun h => by cases h; exact fun z => V.noConfusion z⟩
instance : NN Str := ⟨fun h => by cases h; exact fun z => V.noConfusion z⟩
instance : NN Bool := ⟨fun h => by cases h; exact fun z => V.noConfusion z⟩
def isN {α : Type} (x : Option α) (_ : Unit) : Option Bool := some x.isNone
def notN {α : Type} (x : Option α) (_ : Unit) : Option Bool := some x.isSome
theorem non_iff {α : Type} [Rep α] [NN α] {G : Hp} {x : Option α} {v : V} (h : rep K G x v) : v = .non ↔ x = none := by
  cases x with
  | none => exact ⟨fun _ => rfl, fun _ => h⟩
  | some y => exact ⟨fun z => absurd z (NN.nn (show rep K G y v from h)), fun z => by cases z⟩
theorem o_isN {α : Type} [Rep α] [NN α] : Op2 (fun x y H Q => y = .non ∧ Q (.bl (decide (x = .non))) H) (RE K (α := Option α)) (RE K) (RE K) isN := fun F G H x y z vx vy Q w rx ry e k => by
  cases e
  refine ⟨ry, k _ G H (Ex.refl G) w ?_⟩
  have := non_iff (K := K) (G := G) rx
  show V.bl _ = V.bl _
  cases x with
  | none => rw [decide_eq_true (this.mpr rfl)]; rfl
  | some y => rw [decide_eq_false (fun z => by cases this.mp z)]; rfl
theorem o_notN {α : Type} [Rep α] [NN α] : Op2 (fun x y H Q => y = .non ∧ Q (.bl (!decide (x = .non))) H) (RE K (α := Option α)) (RE K) (RE K) notN := fun F G H x y z vx vy Q w rx ry e k => by
  cases e
  refine ⟨ry, k _ G H (Ex.refl G) w ?_⟩
  have := non_iff (K := K) (G := G) rx
  show V.bl _ = V.bl _
  cases x with
  | none => rw [decide_eq_true (this.mpr rfl)]; rfl
  | some y => rw [decide_eq_false (fun z => by cases this.mp z)]; rfl
/-- lists put together; a new list -/
def lCat {α : Type} (x y : List α) : Option (List α) := if x.length + y.length ≤ 100000 then some (x ++ y) else none
theorem rl_at {α : Type} [Rep α] {F G H : Hp} {x : List α} {v : V} (w : W F G H) (h : RL K F G H x v) : ∃ p vs, v = .ref p ∧ H p = some (.lst vs) ∧ PySem.Paired (rep K G) x vs := by
  obtain ⟨p, vs, h1, h2, h3⟩ := h
  exact ⟨p, vs, h1, h2.elim (w.g _ _) (w.f _ _), h3⟩
theorem rf_new {α : Type} [Rep α] {F G H : Hp} {x : List α} {p : Addr} {vs : List V} (w : W F G H) (hp : H p = none) (r : PySem.Paired (rep K G) x vs) : W F G (upd H p (.lst vs)) ∧ RF K F G (upd H p (.lst vs)) x (.ref p) := by
  have fr := w.fresh hp
  exact ⟨⟨w.g.trans (Ex.upd hp), w.f.trans (Ex.upd hp), w.d⟩, p, vs, rfl, fr.2, fr.1, upd_same, r⟩
theorem o_lCat {α : Type} [Rep α] : Op2 rCat (RL K (α := α)) (RL K) (RF K) lCat := fun F G H x y z vx vy Q w rx ry e k => by
  obtain ⟨p, vs, h1, h2, h3⟩ := rl_at w rx
  obtain ⟨q, us, j1, j2, j3⟩ := rl_at w ry
  unfold lCat at e
  split at e
  · rename_i hl
    cases e
    refine ⟨p, q, vs, us, h1, j1, h2, j2, by rw [← paired_len h3, ← paired_len j3]; exact Nat.le_trans hl line_ge, fun d hd => ?_⟩
    obtain ⟨w2, r2⟩ := rf_new w hd (paired_app h3 j3)
    exact k _ G _ (Ex.refl G) w2 r2
  · cases e
def lRep {α : Type} (x : List α) (n : Int) : Option (List α) := if 0 ≤ n ∧ n ≤ 1000 ∧ x.length ≤ 100 then some (List.replicate n.toNat x).flatten else none
theorem paired_rep {α β : Type} {R : α → β → Prop} {xs : List α} {ys : List β} (h : PySem.Paired R xs ys) : ∀ n : Nat, PySem.Paired R (List.replicate n xs).flatten (List.replicate n ys).flatten
  | 0 => .nil
  | n + 1 => by
    rw [List.replicate_succ, List.replicate_succ, List.flatten_cons, List.flatten_cons]
    exact paired_app h (paired_rep h n)
theorem o_lRep {α : Type} [Rep α] : Op2 rRep (RL K (α := α)) (RE K) (RF K) lRep := fun F G H x y z vx vy Q w rx ry e k => by
  obtain ⟨p, vs, h1, h2, h3⟩ := rl_at w rx
  cases ry
  unfold lRep at e
  split at e
  · rename_i hl
    cases e
    have e1 : vs.length ≤ 100 := by rw [← paired_len h3]; exact hl.2.2
    refine ⟨p, y, vs, h1, rfl, h2, by omega, by omega, ?_, fun d hd => ?_⟩
    · refine Nat.le_trans (Nat.mul_le_mul e1 (show y.toNat ≤ 1000 by omega)) (by decide)
    · obtain ⟨w2, r2⟩ := rf_new w hd (paired_rep h3 y.toNat)
      exact k _ G _ (Ex.refl G) w2 r2
  · cases e
/-- items -/
def lIx {α : Type} (x : List α) (i : Int) : Option α := atI x i
theorem paired_atI {α : Type} {R : α → V → Prop} {xs : List α} {vs : List V} {i : Int} {x : α} (h : PySem.Paired R xs vs) (e : atI xs i = some x) : ∃ v, atI vs i = some v ∧ R x v := by
  unfold atI at e ⊢
  rw [← paired_len h]
  cases q : ixN xs.length i with
  | none => rw [q] at e; cases e
  | some j =>
    rw [q] at e
    exact paired_get h e
theorem o_lIx {α : Type} [Rep α] : Op2 (rIxL K) (RL K (α := α)) (RE K) (RE K) lIx := fun F G H x y z vx vy Q w rx ry e k => by
  obtain ⟨p, vs, h1, h2, h3⟩ := rl_at w rx
  cases ry
  obtain ⟨v, hv, rv⟩ := paired_atI h3 e
  exact ⟨p, vs, y, v, h1, rfl, .inl (.inl h2), hv, k _ G H (Ex.refl G) w rv⟩
def tIx {α : Type} (x : Tup α) (i : Int) : Option α := atI x.l i
theorem o_tIx {α : Type} [Rep α] : Op2 (rIxT K) (RE K (α := Tup α)) (RE K) (RE K) tIx := fun F G H x y z vx vy Q w rx ry e k => by
  obtain ⟨p, vs, h1, h2, h3⟩ := rx
  cases ry
  obtain ⟨v, hv, rv⟩ := paired_atI h3 e
  exact ⟨p, vs, y, v, h1, rfl, .inl (.inl (w.g _ _ h2)), hv, k _ G H (Ex.refl G) w rv⟩
def sIx (x : Str) (i : Int) : Option Str := if x.length ≤ 100000 then (atI x.cps.toList i).map fun c => ⟨#[c]⟩ else none
theorem o_sIx : Op2 rIxS (RE K) (RE K) (RE K) sIx := fun F G H x y z vx vy Q w rx ry e k => by
  cases rx
  cases ry
  unfold sIx at e
  split at e
  · rename_i hl
    cases e1 : atI x.cps.toList y with
    | none => rw [e1] at e; cases e
    | some c =>
      rw [e1] at e
      cases e
      exact ⟨x, y, c, rfl, rfl, Nat.le_trans hl line_ge, e1, k _ G H (Ex.refl G) w rfl⟩
  · cases e
/-- the script's items -/
def cIx (x : Scr) (i : Int) : Option Int := atI x.l i
theorem atI_map {α β : Type} (f : α → β) (xs : List α) (i : Int) : atI (xs.map f) i = (atI xs i).map f := by
  unfold atI
  rw [List.length_map]
  cases ixN xs.length i with
  | none => rfl
  | some j => simp [List.getElem?_map]
theorem scr_at {F G H : Hp} {x : Scr} {v : V} (w : W F G H) (h : rep K G x v) : ∃ p, v = .ref p ∧ SqL K H p (x.l.map V.int) := Rep.mono (Ex.trans w.g (Ex.refl H)) h
theorem o_cIx : Op2 (rIxL K) (RE K (α := Scr)) (RE K) (RE K) cIx := fun F G H x y z vx vy Q w rx ry e k => by
  obtain ⟨p, h1, h2⟩ := scr_at w rx
  cases ry
  have e' : atI x.l y = some z := e
  exact ⟨p, _, y, .int z, h1, rfl, h2, by rw [atI_map, e']; rfl, k _ G H (Ex.refl G) w rfl⟩
theorem strs_of {G : Hp} : ∀ {xs : List Str} {vs : List V}, PySem.Paired (rep K G) xs vs → vs = xs.map V.str
  | _, _, .nil => rfl
  | x :: xs, v :: vs, .cons r t => by
    have e : v = .str x := r
    rw [e, strs_of t]
    rfl
theorem of_strs {G : Hp} : ∀ {xs : List Str}, PySem.Paired (rep K G) xs (xs.map V.str)
  | [] => .nil
  | _ :: _ => .cons rfl of_strs
theorem inV_strs (x : Str) : ∀ ys : List Str, inV (.str x) (ys.map V.str) = decide (x ∈ ys)
  | [] => by simp [inV]
  | y :: ys => by
    have ih := inV_strs x ys
    unfold inV at ih ⊢
    rw [List.map_cons, List.any_cons, ih]
    show ((y == x) || decide (x ∈ ys)) = decide (x ∈ y :: ys)
    by_cases h : y = x
    · subst h
      simp
    · have h' : x ≠ y := fun z => h z.symm
      have : (y == x) = false := by simpa using h
      rw [this]
      simp [h']
theorem flat_map (ys : List Str) : (ys.map V.str).all flatV = true := by
  induction ys with
  | nil => rfl
  | cons y ys ih => simp [flatV, ih]
def tNotIn (x : Str) (ys : Tup Str) : Option Bool := some (!decide (x ∈ ys.l))
theorem o_tNotIn : Op2 (rIn K true) (RE K) (RE K) (RE K) tNotIn := fun F G H x y z vx vy Q w rx ry e k => by
  obtain ⟨p, vs, h1, h2, h3⟩ := ry
  cases rx
  cases e
  have := strs_of h3
  subst this
  refine ⟨p, _, h1, .inr (.inl (.inl (w.g _ _ h2))), rfl, flat_map y.l, k _ G H (Ex.refl G) w ?_⟩
  show V.bl _ = V.bl _
  rw [inV_strs]
  rfl
end
end Vx
namespace Vx
open Rep (rep)
open EnvR (er)
open PySem PySem.Spec PyProof.Rows L2
/-! ### plain data -/
class Dat (α : Type) [Rep α] where
  d : α → PyData
  ok : ∀ {K : PySem.W.Frag} {G H : Hp} {a : α} {v : V}, rep K G a v → Ex G H → Dp K H v (d a)
  plain : ∀ a : α, (d a).plain = true
  dep : Nat
  depth : ∀ a : α, (d a).depth ≤ dep
class DatE (α : Type) [Rep α] [Dat α] [DecidableEq α] : Prop where
  eqv : ∀ x y : α, PyData.eqv (Dat.d x) (Dat.d y) = decide (x = y)
instance : Dat Int := ⟨PyData.int, fun h _ => by cases h; exact .int _, fun _ => rfl, 0, fun _ => Nat.le_refl _⟩
instance : DatE Int := ⟨fun x y => rfl⟩
instance : Dat Bool := ⟨PyData.bool, fun h _ => by cases h; exact .bl _, fun _ => rfl, 0, fun _ => Nat.le_refl _⟩
instance : DatE Bool := ⟨fun x y => by cases x <;> cases y <;> rfl⟩
instance : Dat Str := ⟨PyData.str, fun h _ => by cases h; exact .str _, fun _ => rfl, 0, fun _ => Nat.le_refl _⟩
instance : DatE Str := ⟨fun x y => rfl⟩
instance : Dat Unit := ⟨fun _ => PyData.none, fun h _ => by cases h; exact .non, fun _ => rfl, 0, fun _ => Nat.le_refl _⟩
instance : DatE Unit := ⟨fun x y => rfl⟩
instance {α : Type} [Rep α] [Dat α] : Dat (Option α) := ⟨fun x => match x with | none => PyData.none | some y => Dat.d y, fun {K G H a v} h e => by
  cases a with
  | none => cases (show v = .non from h); exact .non
  | some y => exact Dat.ok h e, fun x => by
  cases x with
  | none => rfl
  | some y => exact Dat.plain y, Dat.dep α, fun x => by
  cases x with
  | none => exact Nat.zero_le _
  | some y => exact Dat.depth y⟩
theorem dp_all {α : Type} [Rep α] [Dat α] {K : PySem.W.Frag} {G H : Hp} (e : Ex G H) : ∀ {xs : List α} {vs : List V}, PySem.Paired (rep K G) xs vs → DpAll K H vs (xs.map Dat.d)
  | _, _, .nil => .nil
  | _, _, .cons r t => .cons (Dat.ok r e) (dp_all e t)
theorem plain_all {α : Type} [Rep α] [Dat α] : ∀ xs : List α, PyData.plainAll (xs.map Dat.d) = true
  | [] => rfl
  | x :: xs => by
    rw [List.map_cons]
    show (PyData.plain (Dat.d x) && PyData.plainAll (xs.map Dat.d)) = true
    rw [Dat.plain x, plain_all xs]
    rfl
theorem depth_all {α : Type} [Rep α] [Dat α] : ∀ xs : List α, PyData.depthAll (xs.map Dat.d) ≤ Dat.dep α
  | [] => Nat.zero_le _
  | x :: xs => by
    rw [List.map_cons]
    have h1 := Dat.depth x
    have h2 := depth_all xs
    simp only [PyData.depthAll]
    omega
theorem eqv_all {α : Type} [Rep α] [Dat α] [DecidableEq α] [DatE α] (xs ys : List α) : PyData.eqvAll (xs.map Dat.d) (ys.map Dat.d) = decide (xs = ys) := by
  induction xs generalizing ys with
  | nil => cases ys <;> rfl
  | cons x xs ih =>
    cases ys with
    | nil => rfl
    | cons y ys =>
      have z : PyData.eqvAll ((x :: xs).map Dat.d) ((y :: ys).map Dat.d) = (decide (x = y) && decide (xs = ys)) := by
        rw [← DatE.eqv x y, ← ih ys]; rfl
      rw [z, ← Bool.decide_and]
      exact decide_eq_decide.mpr (by simp)
instance {α : Type} [Rep α] [Dat α] : Dat (List α) := ⟨fun xs => PyData.list (xs.map Dat.d), fun ⟨p, vs, h1, h2, h3⟩ e => by
  subst h1
  exact .lst (.inl (.inl (e _ _ h2))) (dp_all e h3), fun xs => plain_all xs, Dat.dep α + 1, fun xs => by
  have := depth_all xs
  simp only [PyData.depth]
  omega⟩
instance {α : Type} [Rep α] [Dat α] [DecidableEq α] [DatE α] : DatE (List α) := ⟨fun xs ys => by
  show PyData.eqv (.list _) (.list _) = _
  rw [PyData.eqv]
  exact eqv_all xs ys⟩
instance {α : Type} [Rep α] [Dat α] : Dat (Tup α) := ⟨fun xs => PyData.tuple (xs.l.map Dat.d), fun ⟨p, vs, h1, h2, h3⟩ e => by
  subst h1
  exact .tup (.inl (.inl (e _ _ h2))) (dp_all e h3), fun xs => plain_all xs.l, Dat.dep α + 1, fun xs => by
  have := depth_all xs.l
  simp only [PyData.depth]
  omega⟩
instance {α : Type} [Rep α] [Dat α] [DecidableEq α] [DatE α] : DatE (Tup α) := ⟨fun xs ys => by
  show PyData.eqv (.tuple _) (.tuple _) = _
  rw [PyData.eqv, eqv_all]
  obtain ⟨xs⟩ := xs
  obtain ⟨ys⟩ := ys
  simp⟩
instance {α β : Type} [Rep α] [Rep β] [Dat α] [Dat β] : Dat (T2 α β) := ⟨fun x => PyData.tuple [Dat.d x.a, Dat.d x.b], fun ⟨p, va, vb, h1, h2, h3, h4⟩ e => by
  subst h1
  exact .tup (.inl (.inl (e _ _ h2))) (.cons (Dat.ok h3 e) (.cons (Dat.ok h4 e) .nil)), fun x => by
  show (PyData.plain (Dat.d x.a) && (PyData.plain (Dat.d x.b) && true)) = true
  rw [Dat.plain, Dat.plain]
  rfl, Dat.dep α + Dat.dep β + 1, fun x => by
  have h1 := Dat.depth x.a
  have h2 := Dat.depth x.b
  simp only [PyData.depth, PyData.depthAll]
  omega⟩
instance {α β : Type} [Rep α] [Rep β] [Dat α] [Dat β] [DecidableEq α] [DecidableEq β] [DatE α] [DatE β] : DatE (T2 α β) := ⟨fun x y => by
  show PyData.eqv (.tuple [_, _]) (.tuple [_, _]) = _
  obtain ⟨a, b⟩ := x
  obtain ⟨c, e⟩ := y
  simp only [PyData.eqv, PyData.eqvAll, DatE.eqv]
  by_cases h1 : a = c <;> by_cases h2 : b = e <;> simp [h1, h2]⟩
/-! ### == and != of plain data -/
def rEqP (K : PySem.W.Frag) : L2.R2 := fun x y H Q => ∃ d e, Dp K H x d ∧ Dp K H y e ∧ d.plain = true ∧ e.plain = true ∧ d.depth ≤ 60 ∧ Q (.bl (PyData.eqv d e)) H
def rNeP (K : PySem.W.Frag) : L2.R2 := fun x y H Q => ∃ d e, Dp K H x d ∧ Dp K H y e ∧ d.plain = true ∧ e.plain = true ∧ d.depth ≤ 60 ∧ Q (.bl (!PyData.eqv d e)) H
theorem op_eqP {X : Cx} (hu : X.A.units + 60 < cLine) : OpR X (compareOp .Eq) (rEqP X.K) := by
  intro pins s σ H x y v u Q I rx ry h
  obtain ⟨d, e, hd, he, sd, se, hl, q⟩ := h
  obtain ⟨as, r1⟩ := Dp.reads I d x v hd rx
  obtain ⟨bs, r2⟩ := Dp.reads I e y u he ry
  exact PySem.SeqAt.eq_plain r1 r2 sd se (by omega) ⟨.bl _, H, I, rfl, q⟩
theorem op_neP {X : Cx} (hu : X.A.units + 60 < cLine) : OpR X (compareOp .NotEq) (rNeP X.K) := by
  intro pins s σ H x y v u Q I rx ry h
  obtain ⟨d, e, hd, he, sd, se, hl, q⟩ := h
  obtain ⟨as, r1⟩ := Dp.reads I d x v hd rx
  obtain ⟨bs, r2⟩ := Dp.reads I e y u he ry
  exact PySem.SeqAt.ne_plain r1 r2 sd se (by omega) ⟨.bl _, H, I, rfl, q⟩
section
variable {K : PySem.W.Frag}
/-- == of what stands for one kind -/
def dEq {α : Type} [DecidableEq α] (x y : α) : Option Bool := some (decide (x = y))
def dNe {α : Type} [DecidableEq α] (x y : α) : Option Bool := some (!decide (x = y))
theorem o_dEq {α : Type} [Rep α] [Dat α] [DecidableEq α] [DatE α] (hd : Dat.dep α ≤ 60 := by decide) : Op2 (rEqP K) (RE K (α := α)) (RE K) (RE K) dEq := fun F G H x y z vx vy Q w rx ry e k => by
  cases e
  refine ⟨_, _, Dat.ok rx w.g, Dat.ok ry w.g, Dat.plain _, Dat.plain _, Nat.le_trans (Dat.depth _) hd, ?_⟩
  rw [DatE.eqv]
  exact k _ G H (Ex.refl G) w rfl
theorem o_dNe {α : Type} [Rep α] [Dat α] [DecidableEq α] [DatE α] (hd : Dat.dep α ≤ 60 := by decide) : Op2 (rNeP K) (RE K (α := α)) (RE K) (RE K) dNe := fun F G H x y z vx vy Q w rx ry e k => by
  cases e
  refine ⟨_, _, Dat.ok rx w.g, Dat.ok ry w.g, Dat.plain _, Dat.plain _, Nat.le_trans (Dat.depth _) hd, ?_⟩
  rw [DatE.eqv]
  exact k _ G H (Ex.refl G) w rfl
end
/-! ### built-in functions of values -/
section
variable {Γ : Type} [EnvR Γ] {β : Type} {A : Type} [RepL A] {X : Cx} {e : Expr} {es : List Expr} {x : Str} {p pos : Pos} {r : List V → Hp → VK → Prop} {R : RR β} {φ : A → Option β} {f : Γ → Option A} {fm : Γ → Option (A × Γ)}
def OpA (r : List V → Hp → VK → Prop) (K : PySem.W.Frag) (R : RR β) (φ : A → Option β) : Prop := ∀ F G H a y vs (Q : VK), W F G H → RepL.rl K G a vs → φ a = some y → (∀ v G2 H2, Ex G G2 → W F G2 H2 → R F G2 H2 y v → Q v H2) → r vs H Q
theorem tea1 {K : PySem.W.Frag} (o : OpA r K R φ) {σ : L2.St} {H : Hp} {Q : VK} (h : tev K R (f1 φ f) σ H Q) : tea K f σ H fun vs H1 => r vs H1 Q := by
  obtain ⟨F, G, L, γ, y, w, he, ea, q⟩ := h
  unfold f1 at ea
  cases e1 : f γ with
  | none => rw [e1] at ea; cases ea
  | some a =>
    rw [e1] at ea
    exact ⟨F, G, L, γ, a, w, he, e1, fun vs G2 H2 e2 w2 r2 => o F G2 H2 a y vs Q w2 r2 ea fun v G3 H3 e3 w3 r3 => q v G3 H3 (e2.trans e3) w3 r3⟩
theorem tma1 {K : PySem.W.Frag} (o : OpA r K R φ) {σ : L2.St} {H : Hp} {Q : VK} (h : tem K R (m1 φ fm) σ H Q) : tma K fm σ H fun vs H1 => r vs H1 Q := by
  obtain ⟨F, G, L, γ, y, γ', w, he, ea, q⟩ := h
  obtain ⟨a, e1, e2⟩ := m1_some ea
  exact ⟨F, G, L, γ, a, γ', w, he, e1, fun vs F2 G2 H2 x2 w2 o2 h2 r2 => o F2 G2 H2 a y vs Q w2 r2 e2 fun v G3 H3 x3 w3 r3 => q v F2 G3 H3 (x2.trans x3) w3 o2 (EnvR.mono x3 h2) r3⟩
theorem vo_blt {id : String} (hc : CallR X (.builtin id) r) (o : OpA r X.K R φ) (ha : VA X (e :: es) f) (hm : X.mg x = none) (hv : bootBuiltins x = some (.builtin id) := by decide +kernel) (hg : Gl X x := by rfl) (hn : x ≠ "__name__" := by decide) (hdb : (x == ("__debug__" : Str)) = false := by decide)
    (he : starEach (e :: es) X.env = (false, eval e X.env) :: starEach es X.env := by rfl) (hpl : (backTo pos (starEach es X.env)).any (·.1) = false := by rfl) : VO X (.Call (.Name x p) (e :: es) [] pos) R (f1 φ f) :=
  PE.le (pe_callB hc hg hm hv ha hn hdb he hpl) fun σ H Q h => tea1 o h
theorem vo_bty {T : String} (hc : CallR X (.type T) r) (o : OpA r X.K R φ) (ha : VA X (e :: es) f) (hm : X.mg x = none) (hv : bootBuiltins x = some (.type T) := by decide +kernel) (hg : Gl X x := by rfl) (hn : x ≠ "__name__" := by decide) (hdb : (x == ("__debug__" : Str)) = false := by decide)
    (he : starEach (e :: es) X.env = (false, eval e X.env) :: starEach es X.env := by rfl) (hpl : (backTo pos (starEach es X.env)).any (·.1) = false := by rfl) : VO X (.Call (.Name x p) (e :: es) [] pos) R (f1 φ f) :=
  PE.le (pe_callTy hc hg hm hv ha hn hdb he hpl) fun σ H Q h => tea1 o h
theorem mo_bty {T : String} (hc : CallR X (.type T) r) (o : OpA r X.K R φ) (ha : MA X (e :: es) fm) (hm : X.mg x = none) (hv : bootBuiltins x = some (.type T) := by decide +kernel) (hg : Gl X x := by rfl) (hn : x ≠ "__name__" := by decide) (hdb : (x == ("__debug__" : Str)) = false := by decide)
    (he : starEach (e :: es) X.env = (false, eval e X.env) :: starEach es X.env := by rfl) (hpl : (backTo pos (starEach es X.env)).any (·.1) = false := by rfl) : MO X (.Call (.Name x p) (e :: es) [] pos) R (m1 φ fm) :=
  PE.le (pe_callTy hc hg hm hv ha hn hdb he hpl) fun σ H Q h => tma1 o h
end
section
variable {K : PySem.W.Frag}
theorem rl1 {α : Type} [Rep α] {G : Hp} {a : α × Unit} {vs : List V} (h : RepL.rl K G a vs) : ∃ v, vs = [v] ∧ rep K G a.1 v := by
  obtain ⟨v, r, h1, h2, h3⟩ := h
  cases (show r = [] from h3)
  exact ⟨v, h1, h2⟩
theorem rl2 {α β : Type} [Rep α] [Rep β] {G : Hp} {a : α × β × Unit} {vs : List V} (h : RepL.rl K G a vs) : ∃ v u, vs = [v, u] ∧ rep K G a.1 v ∧ rep K G a.2.1 u := by
  obtain ⟨v, r, h1, h2, h3⟩ := h
  obtain ⟨u, e, h4⟩ := rl1 h3
  exact ⟨v, u, by rw [h1, e], h2, h4⟩
def lenS (a : Str × Unit) : Option Int := if a.1.length ≤ 100000 then some (a.1.length : Int) else none
def lenL {α : Type} (a : List α × Unit) : Option Int := some (a.1.length : Int)
def lenT {α : Type} (a : Tup α × Unit) : Option Int := some (a.1.l.length : Int)
def lenC (a : Scr × Unit) : Option Int := some (a.1.l.length : Int)
abbrev rLen (K : PySem.W.Frag) : List V → Hp → VK → Prop := fun xs H Q => ∃ x n, xs = [x] ∧ LenV K x H n ∧ Q (.int n) H
theorem o_lenS : OpA (rLen K) K (RE K) lenS := fun F G H a y vs Q w r e k => by
  obtain ⟨v, h1, h2⟩ := rl1 r
  cases h2
  unfold lenS at e
  split at e
  · rename_i hl
    cases e
    exact ⟨_, _, h1, ⟨Nat.le_trans hl line_ge, rfl⟩, k _ G H (Ex.refl G) w rfl⟩
  · cases e
theorem o_lenL {α : Type} [Rep α] : OpA (rLen K) K (RE K) (lenL (α := α)) := fun F G H a y vs Q w r e k => by
  obtain ⟨v, h1, p, us, h2, h3, h4⟩ := rl1 r
  cases e
  subst h2
  exact ⟨_, us.length, h1, .inl ⟨us, .inl (.inl (w.g _ _ h3)), rfl⟩, k _ G H (Ex.refl G) w (by rw [paired_len h4]; rfl)⟩
theorem o_lenT {α : Type} [Rep α] : OpA (rLen K) K (RE K) (lenT (α := α)) := fun F G H a y vs Q w r e k => by
  obtain ⟨v, h1, p, us, h2, h3, h4⟩ := rl1 r
  cases e
  subst h2
  exact ⟨_, us.length, h1, .inr ⟨us, .inl (.inl (w.g _ _ h3)), rfl⟩, k _ G H (Ex.refl G) w (by rw [paired_len h4]; rfl)⟩
theorem o_lenC : OpA (rLen K) K (RE K) lenC := fun F G H a y vs Q w r e k => by
  obtain ⟨v, h1, h2⟩ := rl1 r
  obtain ⟨p, h3, h4⟩ := scr_at w h2
  cases e
  subst h3
  exact ⟨_, _, h1, .inl ⟨_, h4, rfl⟩, k _ G H (Ex.refl G) w (by rw [List.length_map]; rfl)⟩
def absI (a : Int × Unit) : Option Int := some (if a.1 < 0 then -a.1 else a.1)
theorem o_abs : OpA (fun xs H Q => ∃ i, xs = [.int i] ∧ Q (.int (if i < 0 then -i else i)) H) K (RE K) absI := fun F G H a y vs Q w r e k => by
  obtain ⟨v, h1, h2⟩ := rl1 r
  cases h2
  cases e
  exact ⟨_, h1, k _ G H (Ex.refl G) w rfl⟩
def intI (a : Int × Unit) : Option Int := some a.1
theorem o_int : OpA (fun xs H Q => (∃ i, xs = [.int i] ∧ Q (.int i) H) ∨ ∃ k, xs = [.bl k] ∧ Q (.int (if k then 1 else 0)) H) K (RE K) intI := fun F G H a y vs Q w r e k => by
  obtain ⟨v, h1, h2⟩ := rl1 r
  cases h2
  cases e
  exact .inl ⟨_, h1, k _ G H (Ex.refl G) w rfl⟩
def max2 (a : Int × Int × Unit) : Option Int := some (if a.2.1 > a.1 then a.2.1 else a.1)
def min2 (a : Int × Int × Unit) : Option Int := some (if a.2.1 < a.1 then a.2.1 else a.1)
theorem o_max2 : OpA (fun xs H Q => ∃ i j, xs = [.int i, .int j] ∧ Q (.int (if j > i then j else i)) H) K (RE K) max2 := fun F G H a y vs Q w r e k => by
  obtain ⟨v, u, h1, h2, h3⟩ := rl2 r
  cases h2
  cases h3
  cases e
  exact ⟨_, _, h1, k _ G H (Ex.refl G) w rfl⟩
theorem o_min2 : OpA (fun xs H Q => ∃ i j, xs = [.int i, .int j] ∧ Q (.int (if j < i then j else i)) H) K (RE K) min2 := fun F G H a y vs Q w r e k => by
  obtain ⟨v, u, h1, h2, h3⟩ := rl2 r
  cases h2
  cases h3
  cases e
  exact ⟨_, _, h1, k _ G H (Ex.refl G) w rfl⟩
/-- tuple(a list), tuple(a tuple) -/
def tupL {α : Type} (a : List α × Unit) : Option (Tup α) := some ⟨a.1⟩
abbrev rTupOf (K : PySem.W.Frag) : List V → Hp → VK → Prop := fun xs H Q => ∃ p ys, xs = [.ref p] ∧ ((SqL K H p ys ∧ ∀ l, H l = none → Q (.ref l) (upd H l (.tup ys))) ∨ (SqT K H p ys ∧ Q (.ref p) H))
theorem o_tupL {α : Type} [Rep α] : OpA (rTupOf K) K (RE K) (tupL (α := α)) := fun F G H a y vs Q w r e k => by
  obtain ⟨v, h1, p, us, h2, h3, h4⟩ := rl1 r
  cases e
  subst h2
  exact ⟨p, us, h1, .inl ⟨.inl (.inl (w.g _ _ h3)), fun l hl => k _ _ _ (Ex.upd (w.fresh hl).1) (w.new hl) ⟨l, us, rfl, upd_same, Paired.mono (fun _ _ r => Rep.mono (Ex.upd (w.fresh hl).1) r) h4⟩⟩⟩
/-- all, any of truths -/
theorem bls_of {G : Hp} : ∀ {xs : List Bool} {vs : List V}, PySem.Paired (rep K G) xs vs → vs = xs.map V.bl
  | _, _, .nil => rfl
  | x :: xs, v :: vs, .cons r t => by
    have e : v = .bl x := r
    rw [e, bls_of t]
    rfl
def anyB (a : List Bool × Unit) : Option Bool := some (a.1.any id)
def allB (a : List Bool × Unit) : Option Bool := some (a.1.all id)
theorem o_anyB : OpA (rAny K) K (RE K) anyB := fun F G H a y vs Q w r e k => by
  obtain ⟨v, h1, p, us, h2, h3, h4⟩ := rl1 r
  cases e
  subst h2
  rw [bls_of h4] at h3
  exact ⟨p, a.1, h1, .inl (.inl (w.g _ _ h3)), k _ G H (Ex.refl G) w rfl⟩
theorem o_allB : OpA (rAll K) K (RE K) allB := fun F G H a y vs Q w r e k => by
  obtain ⟨v, h1, p, us, h2, h3, h4⟩ := rl1 r
  cases e
  subst h2
  rw [bls_of h4] at h3
  exact ⟨p, a.1, h1, .inl (.inl (w.g _ _ h3)), k _ G H (Ex.refl G) w rfl⟩
/-- all, any of whole numbers -/
theorem paired_getR {α β : Type} {R : α → β → Prop} : ∀ {xs : List α} {ys : List β} {i : Nat} {y : β}, PySem.Paired R xs ys → ys[i]? = some y → ∃ x, xs[i]? = some x ∧ R x y
  | _, _, 0, _, .cons r _, h => by
    cases h
    exact ⟨_, rfl, r⟩
  | _, _, i + 1, _, .cons _ t, h => paired_getR (i := i) t (by simpa using h)
/-! repr of plain data -/
def fits (d : PyData) : Bool := d.showable && decide (d.depth ≤ 50) && decide (d.shown.length ≤ sizeLine)
class Ref (α : Type) [Rep α] : Prop where
  ref : ∀ {K : PySem.W.Frag} {G : Hp} {a : α} {v : V}, rep K G a v → ∃ p, v = .ref p
instance {α : Type} [Rep α] : Ref (List α) := ⟨fun ⟨p, _, h, _⟩ => ⟨p, h⟩⟩
instance {α : Type} [Rep α] : Ref (Tup α) := ⟨fun ⟨p, _, h, _⟩ => ⟨p, h⟩⟩
instance {α β : Type} [Rep α] [Rep β] : Ref (T2 α β) := ⟨fun ⟨p, _, _, h, _⟩ => ⟨p, h⟩⟩
end
end Vx
namespace Vx
open Rep (rep)
open EnvR (er)
open PySem PySem.Spec PyProof.Rows L2
/-! ### rows of things of one kind: [e, ..], (e, ..) -/
section
variable {Γ : Type} [EnvR Γ] {α : Type} [Rep α] {X : Cx} {e : Expr} {es : List Expr} {pos : Pos}
def tel (K : PySem.W.Frag) (f : Γ → Option (List α)) : TA := fun σ H Q => ∃ F G L γ a, W F G H ∧ er K G F L σ γ ∧ f γ = some a ∧ ∀ vs G2 H2, Ex G G2 → W F G2 H2 → PySem.Paired (rep K G2) a vs → Q vs H2
abbrev VLs (X : Cx) (es : List Expr) (f : Γ → Option (List α)) : Prop := PA X es (tel X.K f)
def lnil : Γ → Option (List α) := fun _ => some []
def lcons (f : Γ → Option α) (g : Γ → Option (List α)) : Γ → Option (List α) := f2 (fun x y => some (x :: y)) f g
def mlcons (f : Γ → Option (α × Γ)) (g : Γ → Option (List α × Γ)) : Γ → Option (List α × Γ) := m2 (fun x y => some (x :: y)) f g
theorem f2_some {β δ : Type} {φ : α → β → Option δ} {f : Γ → Option α} {g : Γ → Option β} {γ : Γ} {z : δ} (h : f2 φ f g γ = some z) : ∃ x y, f γ = some x ∧ g γ = some y ∧ φ x y = some z := by
  unfold f2 at h
  cases e1 : f γ with
  | none => rw [e1] at h; cases h
  | some x =>
    rw [e1] at h
    cases e2 : g γ with
    | none => simp only [Option.bind_some] at h; rw [e2] at h; cases h
    | some y =>
      simp only [Option.bind_some] at h
      rw [e2] at h
      exact ⟨x, y, rfl, rfl, h⟩
theorem vls_nil : VLs X [] (lnil (Γ := Γ) (α := α)) := PA.le pa_nil fun σ H Q ⟨F, G, L, γ, a, w, he, ea, q⟩ => by
  cases ea
  exact q [] G H (Ex.refl G) w .nil
theorem vls_cons {f : Γ → Option α} {g : Γ → Option (List α)} (h : VE X e f) (k : VLs X es g) (hs : starEach (e :: es) X.env = (false, eval e X.env) :: starEach es X.env := by rfl) : VLs X (e :: es) (lcons f g) :=
  PA.le (pa_cons h k hs) fun σ H Q ⟨F, G, L, γ, a, w, he, ea, q⟩ => by
    obtain ⟨x, y, e1, e2, e3⟩ := f2_some ea
    cases e3
    exact ⟨F, G, L, γ, x, w, he, e1, fun v G2 H2 x2 w2 r2 => ⟨F, G2, L, γ, y, w2, EnvR.mono x2 he, e2, fun vs G3 H3 x3 w3 r3 => q (v :: vs) G3 H3 (x2.trans x3) w3 (.cons (Rep.mono x3 r2) r3)⟩⟩
def short (xs : List α) : Option (List α) := if xs.length ≤ 100000 then some xs else none
def shortT (xs : List α) : Option (Tup α) := if xs.length ≤ 100000 then some ⟨xs⟩ else none
theorem vf_lst {f : Γ → Option (List α)} (h : VLs X es f) : VF X (.List es pos) (f1 short f) := PE.le (pe_lst h) fun σ H Q ⟨F, G, L, γ, a, w, he, ea, q⟩ => by
  unfold f1 at ea
  cases e1 : f γ with
  | none => rw [e1] at ea; cases ea
  | some x =>
    rw [e1] at ea
    simp only [Option.bind_some, short] at ea
    split at ea
    · rename_i hl
      cases ea
      exact ⟨F, G, L, γ, _, w, he, e1, fun vs G2 H2 x2 w2 r2 => ⟨by rw [← paired_len r2]; exact Nat.le_trans hl line_ge, fun p hp => let ⟨w3, r3⟩ := rf_new w2 hp r2; q _ _ _ x2 w3 r3⟩⟩
    · cases ea
theorem ve_tupL {k} {f : Γ → Option (List α)} (h : VLs X es f) : VE X (.Tuple es k pos) (f1 shortT f) := PE.le (pe_tup h) fun σ H Q ⟨F, G, L, γ, a, w, he, ea, q⟩ => by
  unfold f1 at ea
  cases e1 : f γ with
  | none => rw [e1] at ea; cases ea
  | some x =>
    rw [e1] at ea
    simp only [Option.bind_some, shortT] at ea
    split at ea
    · rename_i hl
      cases ea
      exact ⟨F, G, L, γ, _, w, he, e1, fun vs G2 H2 x2 w2 r2 => ⟨by rw [← paired_len r2]; exact Nat.le_trans hl line_ge, fun p hp => by
        have ex := Ex.upd (o := HO.tup vs) (w2.fresh hp).1
        exact q _ _ _ (x2.trans ex) (w2.new hp) ⟨p, vs, rfl, upd_same, Paired.mono (fun _ _ r => Rep.mono ex r) r2⟩⟩⟩
    · cases ea
/-- a pair -/
def pairT {β : Type} (x : α × β × Unit) : Option (T2 α β) := some ⟨x.1, x.2.1⟩
theorem ve_pair {β : Type} [Rep β] {a b : Expr} {k} {f : Γ → Option (α × β × Unit)} (h : VA X [a, b] f) : VE X (.Tuple [a, b] k pos) (f1 pairT f) := PE.le (pe_tup h) fun σ H Q ⟨F, G, L, γ, z, w, he, ea, q⟩ => by
  unfold f1 at ea
  cases e1 : f γ with
  | none => rw [e1] at ea; cases ea
  | some x =>
    rw [e1] at ea
    cases ea
    exact ⟨F, G, L, γ, _, w, he, e1, fun vs G2 H2 x2 w2 r2 => by
      obtain ⟨v, u, h1, h2, h3⟩ := rl2 r2
      subst h1
      refine ⟨show 2 ≤ sizeLine by decide, fun p hp => ?_⟩
      have ex := Ex.upd (o := HO.tup [v, u]) (w2.fresh hp).1
      exact q _ _ _ (x2.trans ex) (w2.new hp) ⟨p, v, u, rfl, upd_same, Rep.mono ex h2, Rep.mono ex h3⟩⟩
/-! ### a <= b <= c -/
def fch {β δ : Type} (φ : α → β → Option Bool) (ψ : β → δ → Option Bool) (f : Γ → Option α) (g : Γ → Option β) (h : Γ → Option δ) : Γ → Option Bool := fun γ => (f γ).bind fun x => (g γ).bind fun y => (φ x y).bind fun b => if b then (h γ).bind fun z => ψ y z else some false
theorem ve_chain {β δ : Type} [Rep β] [Rep δ] {a b c : Expr} {op op' : CmpOp} {r r' : L2.R2} {φ : α → β → Option Bool} {ψ : β → δ → Option Bool} {f : Γ → Option α} {g : Γ → Option β} {h : Γ → Option δ} (ho : OpR X (compareOp op) r) (ho' : OpR X (compareOp op') r') (o : Op2 r (RE X.K) (RE X.K) (RE X.K) φ) (o' : Op2 r' (RE X.K) (RE X.K) (RE X.K) ψ)
    (ha : VE X a f) (hb : VE X b g) (hc : VE X c h) (hm : lastMarks [op, op'] [b, c] = false := by with_unfolding_all rfl) : VE X (.Compare a [op, op'] [b, c] pos) (fch φ ψ f g h) :=
  PE.le (pe_chain ho ho' ha hb hc hm) fun σ H Q ⟨F, G, L, γ, z, w, he, ea, q⟩ => by
    unfold fch at ea
    cases e1 : f γ with
    | none => rw [e1] at ea; cases ea
    | some x =>
      rw [e1] at ea
      cases e2 : g γ with
      | none => simp only [Option.bind_some] at ea; rw [e2] at ea; cases ea
      | some y =>
        simp only [Option.bind_some] at ea
        rw [e2] at ea
        simp only [Option.bind_some] at ea
        cases e3 : φ x y with
        | none => rw [e3] at ea; cases ea
        | some k =>
          rw [e3] at ea
          simp only [Option.bind_some] at ea
          refine ⟨F, G, L, γ, x, w, he, e1, fun vx G2 H2 x2 w2 r2 => ⟨F, G2, L, γ, y, w2, EnvR.mono x2 he, e2, fun vy G3 H3 x3 w3 r3 => o F G3 H3 x y k vx vy _ w3 (Rep.mono x3 r2) r3 e3 fun v G4 H4 x4 w4 r4 => ⟨k, r4, ?_⟩⟩⟩
          cases k with
          | true =>
            simp only [if_true] at ea ⊢
            cases e5 : h γ with
            | none => rw [e5] at ea; cases ea
            | some u =>
              rw [e5] at ea
              exact ⟨F, G4, L, γ, u, w4, EnvR.mono (x2.trans (x3.trans x4)) he, e5, fun vu G5 H5 x5 w5 r5 => o' F G5 H5 y u z vy vu _ w5 (Rep.mono (x4.trans x5) r3) r5 ea fun v6 G6 H6 x6 w6 r6 => q _ _ _ (x2.trans (x3.trans (x4.trans (x5.trans x6)))) w6 r6⟩
          | false =>
            simp only [Bool.false_eq_true, if_false] at ea ⊢
            cases ea
            exact q _ _ _ (x2.trans (x3.trans x4)) w4 rfl
/-! ### ''.join(..) -/
def jn (a : Str) (ys : List Str) : Option Str := if (ys.map (·.length)).sum + ys.length * a.length ≤ 100000 then some (Txt.join a ys) else none
theorem ve_join {o e : Expr} {apos : Pos} {f : Γ → Option Str} {g : Γ → Option (List Str)} (ho : VE X o f) (he : VE X e g) (hs : starEach [e] X.env = [(false, eval e X.env)] := by rfl) (hbase : attributeBase o "join" X.env (eval o X.env) = eval o X.env := by rfl) (hline : (apos.endLine == pos.line) = true := by rfl) :
    VE X (.Call (.Attribute o "join" apos) [e] [] pos) (f2 jn f g) := PE.le (pe_join ho he hs hbase hline) fun σ H Q ⟨F, G, L, γ, z, w, hh, ea, q⟩ => by
  obtain ⟨x, y, e1, e2, e3⟩ := f2_some ea
  unfold jn at e3
  split at e3
  · rename_i hl
    cases e3
    refine ⟨F, G, L, γ, x, w, hh, e1, fun v G2 H2 x2 w2 r2 => ⟨⟨x, r2⟩, F, G2, L, γ, y, w2, EnvR.mono x2 hh, e2, fun u G3 H3 x3 w3 r3 => ?_⟩⟩
    obtain ⟨p, vs, h1, h2, h3⟩ := r3
    rw [strs_of h3] at h2
    exact ⟨x, p, y, r2, by rw [h1], .inl (.inl (.inl (w3.g _ _ h2))), by omega, q _ _ _ (x2.trans x3) w3 rfl⟩
  · cases e3
/-! ### slices -/
def cutSt (lo hi : Option Int) (z : Str) : Option Str := if z.length ≤ 100000 then some (cutS z lo hi) else none
def cutA {α : Type} (lo hi : Option Int) (xs : List α) : List α := (xs.drop (HT.sIx xs.length 0 lo)).take (HT.sIx xs.length xs.length hi - HT.sIx xs.length 0 lo)
/-- t[:e] with a draw -/
theorem me_sliceTo {a b : Expr} {p2 : Pos} {f : Γ → Option (Str × Γ)} {g : Γ → Option (Int × Γ)} (ha : ME X a f) (hb : ME X b g) : ME X (.Subscript a (.Slice none (some b) none p2) pos) (m2 (fun z i => cutSt none (some i) z) f g) :=
  PE.le (pe_slice sl_str ha po_none (po_some hb)) fun σ H Q ⟨F, G, L, γ, z, γ', w, he, ea, q⟩ => by
    obtain ⟨x, γ1, y, e1, e2, e3⟩ := m2_some ea
    unfold cutSt at e3
    split at e3
    · rename_i hl
      cases e3
      exact ⟨F, G, L, γ, x, γ1, w, he, e1, fun v F2 G2 H2 x2 w2 o2 h2 r2 => ⟨F2, G2, L, γ1, y, γ', w2, h2, e2, fun u F3 G3 H3 x3 w3 o3 h3 r3 => ⟨y, r3, x, r2, Nat.le_trans hl line_ge, q _ _ _ _ (x2.trans x3) w3 (off_trans o2 o3) h3 rfl⟩⟩⟩
    · cases e3
/-- the script's front -/
def cutC (lo hi : Option Int) (x : Scr) : Option (List Int) := some (cutA lo hi x.l)
theorem vf_scrTo {a b : Expr} {p2 : Pos} {f : Γ → Option Scr} {g : Γ → Option Int} (ha : VE X a f) (hb : VE X b g) : VF X (.Subscript a (.Slice none (some b) none p2) pos) (f2 (fun z i => cutC none (some i) z) f g) :=
  PE.le (pe_slice sl_list ha po_none (po_some hb)) fun σ H Q ⟨F, G, L, γ, z, w, he, ea, q⟩ => by
    obtain ⟨x, y, e1, e2, e3⟩ := f2_some ea
    cases e3
    refine ⟨F, G, L, γ, x, w, he, e1, fun v G2 H2 x2 w2 r2 => ⟨F, G2, L, γ, y, w2, EnvR.mono x2 he, e2, fun u G3 H3 x3 w3 r3 => ?_⟩⟩
    obtain ⟨p, h1, h2⟩ := scr_at w3 (Rep.mono x3 r2)
    refine ⟨y, r3, p, _, h1, h2, fun l hl => ?_⟩
    have rr : PySem.Paired (rep X.K G3) (cutA none (some y) x.l) (cutV (x.l.map V.int) none (some y)) := by
      have e : cutV (x.l.map V.int) none (some y) = (cutA none (some y) x.l).map V.int := by
        unfold cutV cutA
        rw [List.length_map, ← List.map_drop, ← List.map_take]
      rw [e]
      exact of_ints
    obtain ⟨w4, r4⟩ := rf_new w3 hl rr
    exact q _ _ _ (x2.trans x3) w4 r4
end
end Vx
namespace Vx
open Rep (rep)
open EnvR (er)
open PySem PySem.Spec PyProof.Rows L2
/-! ### walks that the library tells as GoesN, as walks of the hand layer -/
/-- cells `cs`, the iterator's state `tn`: what an iterator of pairs owes in a context -/
structure PairsGo (X : Cx) (tg : Expr) (J : It) (I0 : Addr) (cs : List Addr) (tn : Nat → Heap → Prop) (i n : Nat) (s : Shared) (H : Hp) : Prop where
  go : ∃ fp wr Y St, GoesN X.prog X.w X.A tg I0 fp wr n Y St ∧ (∀ b ∈ wr, b ∈ cs) ∧ (∀ j h, tn j h → j = i → s.heap = h → St j h) ∧ (∀ h, i < n → St (i + 1) h → tn (i + 1) h) ∧
    ∀ v h', i < n → Y i s.heap v h' → ∃ T a b x y, v = Value.ref T ∧ s.heap.objs.size ≤ T ∧ h'.IsTuple T #[a, b] ∧ RelV x a ∧ RelV y b ∧ J.yld i H (.ref T) (L2.upd H T (.tup [x, y]))
theorem turn_of_pairs {P : Program} {w : World} {K : PySem.W.Frag} {tg : Expr} {J : It} {I0 : Addr} {cs : List Addr} {tn : Nat → Heap → Prop} (mem : I0 ∈ cs) (live : ∀ i h, tn i h → ∀ b ∈ cs, ∃ o, h.get? b = some o ∧ ∀ v, o.data ≠ .cell v)
    (keep : ∀ i h h', tn i h → (∀ b ∈ cs, ∀ o, h.get? b = some o → h'.get? b = some o) → tn i h')
    (goes : ∀ (X : Cx) (i : Nat) (pins : List (Addr × Obj)) (s : Shared) (σ : L2.St) (H : Hp), X.prog = P → X.w = w → X.K = K → X.calm = true → Inv X pins σ H s → tn i s.heap → J.go i H → ∃ n, i < n ∧ PairsGo X tg J I0 cs tn i n s H)
    (stops : ∀ (X : Cx) (i : Nat) (pins : List (Addr × Obj)) (s : Shared) (σ : L2.St) (H : Hp) (Q : Shared → Prop) (E : Value → Shared → Prop), X.prog = P → X.w = w → X.K = K → X.calm = true → Inv X pins σ H s → tn i s.heap → J.stop i H →
      (∀ h' tk, (∀ b o, b ∉ cs → s.heap.get? b = some o → h'.get? b = some o) → Q { s with heap := h', toks := tk }) → wpAny (model P w) X.A (pyNext (.ref I0)) (fun r s1 => r = none ∧ Q s1) E s)
    (self : ∀ (A : Around) (i : Nat) (s : Shared) (Q E : Value → Shared → Prop), tn i s.heap → Q (.ref I0) s → wpAny (model P w) A (pyIter (.ref I0)) Q E s) : Turn P w K tg J cs I0 tn := by
  refine ⟨mem, live, keep, ?_, ?_, self⟩
  · intro X e1 e2 e3 calm i pins s σ H E I free st more
    obtain ⟨n, hin, ⟨fp, wr, Y, St, W, sub, into, out, pair⟩⟩ := goes X i pins s σ H e1 e2 e3 calm I st more
    subst e1 e2
    refine W.goes i s _ E hin (into i s.heap st rfl rfl) fun v h' tk found st' old _ => ?_
    obtain ⟨T, a, b, x, y, ev, new, tup, ra, rb, yields⟩ := pair v h' hin found
    obtain ⟨o, ho, cls, k, dat⟩ := tup
    have two : ObjOk X.prog X.w (L2.upd H T (.tup [x, y])) h' T (.tup [x, y]) := ⟨(by decide : 2 ≤ sizeLine), [a, b], .cons ra (.cons rb .nil), o, ho, cls, k, dat⟩
    have J1 := I.turnedNew (t' := tk) (ch := cs) (fun c u hc => old c u fun z => hc (sub c z)) free new two
    refine ⟨.ref T, _, J1, ev, yields, out h' hin st', fun c hc => ?_⟩
    have lt : c < s.heap.objs.size := by
      obtain ⟨u, hu, _⟩ := live i s.heap st c hc
      exact Heap.lt_size hu
    rw [upd_ne (Nat.ne_of_lt (Nat.lt_of_lt_of_le lt new))]
    exact (free c hc).1
  · intro X e1 e2 e3 calm i pins s σ H E I free st no
    exact stops X i pins s σ H _ E e1 e2 e3 calm I st no fun h' tk old => I.turnedL (t' := tk) (ch := cs) old free
/-! ### enumerate(a tuple) -/
theorem enum_new1 {v : Value} {o : Obj} {H : Heap → Prop} (B : Begins v o H) :
    Meets (Builtin.«enumerate.__new__» ⟨[.type "enumerate", v], []⟩) (fun _ R s => H s.heap ∧
      R (.ok (.ret (.ref (s.heap.push o).objs.size))) { s with heap := (s.heap.push o).push { cls := .type "enumerate", data := .fields #[.none, .bool false, .ref s.heap.objs.size, rawInt 0, .none, .none] } }) := by
  refine .of_wp fun prog w A R s ⟨here, ends⟩ => ?_
  have sub := sub_enumerate
  cases s with
  | mk hp gs dr tk os =>
    have begins : ∀ {A' : Around} {E Q : Value → Shared → Prop}, Q (.ref hp.objs.size) ⟨hp.push o, gs, dr, tk, os⟩ → wpAny (model prog w) A' (pyIter v) Q E ⟨hp, gs, dr, tk, os⟩ := fun q => B.iter prog w _ _ _ _ here q
    wp_walk using begins
    refine wpAny_stack_any fun stk => wpAny_pure ?_
    have both : ∀ b : Bool, b = true ∨ b = false := fun b => by cases b <;> simp
    split
    · rename_i cl _ _ _ _ _
      rcases both (cl == Value.type "enumerate") with z | z <;> rw [z] <;> wp_walk using begins <;> exact ⟨_, rfl, ends⟩
    · wp_walk using begins
      exact ⟨_, rfl, ends⟩
theorem enum_call1 {prog : Program} {w : World} {A : Around} {E : Value → Shared → Prop} {s : Shared} {v : Value} {o : Obj} {H : Heap → Prop} {Q : Value → Shared → Prop} (B : Begins v o H) (h1 : H s.heap)
    (h : ∀ h', IsEnum h' (s.heap.objs.size + 1) s.heap.objs.size 0 .none → h'.get? s.heap.objs.size = some o → (∀ b o, s.heap.get? b = some o → h'.get? b = some o) → Q (.ref (s.heap.objs.size + 1)) { s with heap := h' }) :
    wpAny (model prog w) A (call (.type "enumerate") [v]) Q E s := by
  have step : (s.heap.push o).objs.size = s.heap.objs.size + 1 := by simp [Heap.size_push]
  have made := Heap.get?_push_size (s.heap.push o) (o := { cls := .type "enumerate", data := .fields #[.none, .bool false, .ref s.heap.objs.size, rawInt 0, .none, .none] }) rfl
  rw [step] at made
  refine callType_new F.called_enumerate (by decide) (F.typeCall_enumerate_1 _) (F.newCall_enumerate_1 _) (fun obj => F.args_object_init_2 obj _) F.entry_enumerate_new (enum_new1 B) ⟨h1, ?_⟩
  rw [step]
  refine ⟨⟨_, made, rfl⟩, h _ made ?_ ?_⟩
  · exact Heap.get?_push_of_some _ (Heap.get?_push_size _ B.free)
  · intro b u e
    exact Heap.get?_push_of_some _ (Heap.get?_push_of_some _ e)
/-- the tuple at a, each item in a new pair -/
def Itu (K : PySem.W.Frag) (a : Addr) : It where
  go i H := ∃ (xs : List V) (x : V), SqT K H a xs ∧ xs[i]? = some x
  yld i H v H' := ∃ T x, v = .ref T ∧ H T = none ∧ H' = L2.upd H T (.tup [.int (i : Nat), x]) ∧ ∀ xs, SqT K H a xs → xs[i]? = some x
  stop i H := ∃ xs : List V, SqT K H a xs ∧ xs.length ≤ i
/-- enumerate's own state over the tuple at a -/
def EnT (a e it : Addr) (i : Nat) (h : Heap) : Prop := (∃ old, IsEnum h e it ((i : Nat) : Int) old) ∧ h.IsTupleIter it a i ∧ e ≠ it ∧ a ≠ it ∧ e ≠ a
theorem enT_pairs {X : Cx} {elts : List Expr} {kk : Nat} {tpos : Pos} {a e it : Addr} {i : Nat} {pins : List (Addr × Obj)} {s : Shared} {σ : L2.St} {H : Hp} {xs : List V} (calm : X.calm = true) (I : Inv X pins σ H s) (st : EnT a e it i s.heap) (hq : SqT X.K H a xs) :
    PairsGo X (.Tuple elts kk tpos) (Itu X.K a) e [e, it] (EnT a e it) i xs.length s H := by
  obtain ⟨_, _, d1, d2, d3⟩ := st
  obtain ⟨its, rv, tup, _⟩ := I.tuple hq
  have len : xs.length = its.toArray.size := by simpa using rv.length
  rw [len]
  refine ⟨_, _, _, _, GoesN.enumFrom 0 (Draws.tuple (A := X.A.in1) (I.ok.hd calm) it a d2 its.toArray) e d1 (by simp [d1, d3]) (by simp), by simp, ?_, ?_, ?_⟩
  · rintro j h ⟨⟨old, he⟩, hi, _⟩ rfl rfl
    exact ⟨⟨old, by simpa using he⟩, hi, tup⟩
  · rintro h _ ⟨⟨old, he⟩, hi, _⟩
    exact ⟨⟨old, by simpa using he⟩, hi, d1, d2, d3⟩
  · rintro v h' hin ⟨T, t, u, rfl, new, hu, two⟩
    obtain ⟨x, hx, ru⟩ := paired_getR rv (show its[i]? = some u by simpa using hu)
    refine ⟨T, .int (0 + (i : Int)) t, u, .int (i : Nat), x, rfl, new, two, ⟨t, by simp⟩, ru, T, x, rfl, I.hok.fresh new, rfl, fun ys hy => ?_⟩
    rw [I.tuple_inj hy hq]
    exact hx
theorem turn_enumT {P : Program} {w : World} {K : PySem.W.Frag} {elts : List Expr} {kk : Nat} {tpos : Pos} (a e it : Addr) : Turn P w K (.Tuple elts kk tpos) (Itu K a) [e, it] e (EnT a e it) := by
  refine turn_of_pairs List.mem_cons_self ?_ ?_ ?_ ?_ fun A i s Q E st q => wpAny_pyIter_enum st.1.choose_spec q
  · rintro i h ⟨⟨old, he⟩, ⟨o, ho, _, dat⟩, _⟩ b hb
    simp only [List.mem_cons, List.not_mem_nil, or_false] at hb
    cases hb with
    | inl z => subst z; exact ⟨_, he, nofun⟩
    | inr z => subst z; exact ⟨o, ho, fun v q => by simp [dat] at q⟩
  · rintro i h h' ⟨⟨old, he⟩, hi, ds⟩ k
    exact ⟨⟨old, k e (by simp) _ he⟩, hi.at fun o q => k it (by simp) o q, ds⟩
  · rintro X i pins s σ H rfl rfl rfl calm I st ⟨xs, x, hq, hx⟩
    exact ⟨xs.length, (List.getElem?_eq_some_iff.mp hx).1, enT_pairs calm I st hq⟩
  · rintro X i pins s σ H Q E rfl rfl rfl calm I st ⟨xs, hq, hx⟩ q
    obtain ⟨⟨old, he⟩, hi, d1, d2, d3⟩ := st
    obtain ⟨its, rv, tup, _⟩ := I.tuple hq
    have over : its.toArray[i]? = none := by
      have := rv.length
      simp
      omega
    -- from here on it draws nothing
    have D : Draws X.prog X.w X.A.in1 it [it, a] 0 (fun _ _ => True) (fun _ h => h.IsTupleIter it a i ∧ h.IsTuple a its.toArray) :=
      { live := fun _ _ z => z.1.imp fun _ y => y.1
        frame := fun _ _ _ z k => ⟨z.1.at fun o y => k it (by simp) o y, z.2.at fun o y => k a (by simp) o y⟩
        item := fun _ _ _ _ no => absurd no (Nat.not_lt_zero _)
        done := fun _ _ _ z => wpAny_nextOf_tuple_end (I.ok.hd calm) z.1 z.2 over }
    exact wpAny_pyNext_enum_endD D he (by exact ⟨hi, tup⟩) fun h' kept => ⟨rfl, q h' s.toks fun b o hb e => kept b o (fun z => hb (by simp [z])) e⟩
def iEnT (K : PySem.W.Frag) (ta : TA) : TI := fun σ H R => ta σ H fun vs H1 => ∃ a xs, vs = [.ref a] ∧ SqT K H1 a xs ∧ R (Itu K a) H1
theorem pi_enumT {X : Cx} {e : Expr} {ta : TA} {p pos tpos : Pos} {elts : List Expr} {kk : Nat} (hg : Gl X "enumerate") (hm : X.mg "enumerate" = none) (ha : PA X [e] ta) (hs : starEach [e] X.env = [(false, eval e X.env)] := by rfl) :
    PI X (.Tuple elts kk tpos) (.Call (.Name "enumerate" p) [e] [] pos) (iEnT X.K ta) := by
  constructor
  intro pins s σ H R I h
  refine Call_ (ld_blt I hg hm boot_enumerate (PyProof.Rows.callWith_type1 (thn (ha.run pos pins s σ H _ I h) ?_) hs rfl))
  rintro us s1 ⟨vs, H1, I1, r1, a, xs, rfl, hq, q⟩
  rw [Vals.ref1 r1]
  obtain ⟨its, _, tup, _⟩ := I1.tuple hq
  have low : a < s1.heap.objs.size := by
    obtain ⟨o, ho, _⟩ := id tup
    exact Heap.lt_size ho
  refine enum_call1 (begins_tuple a its.toArray) tup fun h' he hi old => wpAny_pyIter_enum he ?_
  refine ⟨_, [s1.heap.objs.size + 1, s1.heap.objs.size], _, _, H1, rfl, I1.kept (t' := s1.toks) old, turn_enumT a _ s1.heap.objs.size, ⟨⟨.none, he⟩, ⟨_, hi, rfl, rfl⟩, Nat.succ_ne_self _, Nat.ne_of_lt low, Nat.ne_of_gt (Nat.lt_succ_of_lt low)⟩, ?_, q⟩
  intro b hb
  have up : s1.heap.objs.size ≤ b := by
    simp only [List.mem_cons, List.not_mem_nil, or_false] at hb
    cases hb with
    | inl z => exact z ▸ Nat.le_succ _
    | inr z => exact z ▸ Nat.le_refl _
  exact I1.fpOk up (I1.hok.fresh up)
end Vx
namespace Vx
open Rep (rep)
open EnvR (er)
open PySem PySem.Spec PyProof.Rows L2 RZ
/-! ### enumerate -/
def enumF {τ : Type} : Nat → List τ → List (T2 Int τ)
  | _, [] => []
  | i, x :: xs => ⟨(i : Int), x⟩ :: enumF (i + 1) xs
theorem enumF_get {τ : Type} : ∀ (xs : List τ) (k i : Nat), (enumF k xs)[i]? = xs[i]?.map fun x => ⟨((k + i : Nat) : Int), x⟩
  | [], _, _ => rfl
  | x :: xs, k, 0 => rfl
  | x :: xs, k, i + 1 => by
    show (enumF (k + 1) xs)[i]? = (xs[i]?).map _
    rw [enumF_get xs (k + 1) i]
    have e : k + 1 + i = k + (i + 1) := by omega
    rw [e]
theorem enumF_len {τ : Type} : ∀ (xs : List τ) (k : Nat), (enumF k xs).length = xs.length
  | [], _ => rfl
  | x :: xs, k => by
    show (enumF (k + 1) xs).length + 1 = xs.length + 1
    rw [enumF_len xs (k + 1)]
section
variable {τ : Type} [Rep τ]
theorem walks_enumL {K : PySem.W.Frag} {G : Hp} {p : Addr} {vs : List V} {xs : List τ} (h : G p = some (.lst vs)) (r : PySem.Paired (rep K G) xs vs) : Walks K G (Ite K p) (enumF 0 xs) := fun F' G' H' e w i => by
  have hH : SqL K H' p vs := .inl (.inl (w.g _ _ (e _ _ h)))
  refine ⟨fun t ht => ?_, fun hl => ⟨vs, hH, by rw [← paired_len r]; rw [enumF_len] at hl; exact hl⟩⟩
  rw [enumF_get] at ht
  cases ex : xs[i]? with
  | none => rw [ex] at ht; cases ht
  | some x =>
    rw [ex] at ht
    cases ht
    obtain ⟨v, hv, rv⟩ := paired_get r ex
    refine ⟨⟨vs, v, hH, hv⟩, fun y H'' ⟨T, u, e1, e2, e3, e4⟩ => ?_⟩
    have eu : u = v := Option.some.inj ((e4 vs hH).symm.trans hv)
    subst eu
    subst e1
    subst e3
    have ex2 := Ex.upd (o := HO.tup [V.int (i : Nat), u]) (w.fresh e2).1
    exact ⟨_, ex2, w.new e2, T, _, _, rfl, upd_same, by rw [Nat.zero_add]; rfl, Rep.mono (e.trans ex2) rv⟩
theorem walks_enumT {K : PySem.W.Frag} {G : Hp} {p : Addr} {vs : List V} {xs : List τ} (h : G p = some (.tup vs)) (r : PySem.Paired (rep K G) xs vs) : Walks K G (Itu K p) (enumF 0 xs) := fun F' G' H' e w i => by
  have hH : SqT K H' p vs := .inl (.inl (w.g _ _ (e _ _ h)))
  refine ⟨fun t ht => ?_, fun hl => ⟨vs, hH, by rw [← paired_len r]; rw [enumF_len] at hl; exact hl⟩⟩
  rw [enumF_get] at ht
  cases ex : xs[i]? with
  | none => rw [ex] at ht; cases ht
  | some x =>
    rw [ex] at ht
    cases ht
    obtain ⟨v, hv, rv⟩ := paired_get r ex
    refine ⟨⟨vs, v, hH, hv⟩, fun y H'' ⟨T, u, e1, e2, e3, e4⟩ => ?_⟩
    have eu : u = v := Option.some.inj ((e4 vs hH).symm.trans hv)
    subst eu
    subst e1
    subst e3
    have ex2 := Ex.upd (o := HO.tup [V.int (i : Nat), u]) (w.fresh e2).1
    exact ⟨_, ex2, w.new e2, T, _, _, rfl, upd_same, by rw [Nat.zero_add]; rfl, Rep.mono (e.trans ex2) rv⟩
variable {Γ : Type} [EnvR Γ] {X : Cx} {a : Expr} {p pos tpos : Pos} {elts : List Expr} {kk : Nat}
theorem vi_enumL {f : Γ → Option (List τ)} (h : VE X a f) (hm : X.mg "enumerate" = none) (hg : Gl X "enumerate" := by rfl) (hs : starEach [a] X.env = [(false, eval a X.env)] := by rfl) (he : starEach [a] X.env = (false, eval a X.env) :: starEach [] X.env := by rfl) :
    VI X (.Tuple elts kk tpos) (.Call (.Name "enumerate" p) [a] [] pos) (f1 (fun xs => some (enumF 0 xs)) f) := PI.le (pi_enum hg hm (pa_cons h pa_nil he) hs) fun σ H R ⟨F, G, L, γ, xs, w, hh, ea, q⟩ => by
  unfold f1 at ea
  cases e1 : f γ with
  | none => rw [e1] at ea; cases ea
  | some ys =>
    rw [e1] at ea
    cases ea
    exact ⟨F, G, L, γ, ys, w, hh, e1, fun v G2 H2 x2 w2 ⟨p, vs, h1, h2, h3⟩ => ⟨p, vs, by rw [h1], .inl (.inl (w2.g _ _ h2)), q _ G2 H2 x2 w2 (walks_enumL h2 h3)⟩⟩
theorem vi_enumT {f : Γ → Option (Tup τ)} (h : VE X a f) (hm : X.mg "enumerate" = none) (hg : Gl X "enumerate" := by rfl) (hs : starEach [a] X.env = [(false, eval a X.env)] := by rfl) (he : starEach [a] X.env = (false, eval a X.env) :: starEach [] X.env := by rfl) :
    VI X (.Tuple elts kk tpos) (.Call (.Name "enumerate" p) [a] [] pos) (f1 (fun xs => some (enumF 0 xs.l)) f) := PI.le (pi_enumT hg hm (pa_cons h pa_nil he) hs) fun σ H R ⟨F, G, L, γ, xs, w, hh, ea, q⟩ => by
  unfold f1 at ea
  cases e1 : f γ with
  | none => rw [e1] at ea; cases ea
  | some ys =>
    rw [e1] at ea
    cases ea
    exact ⟨F, G, L, γ, ys, w, hh, e1, fun v G2 H2 x2 w2 ⟨p, vs, h1, h2, h3⟩ => ⟨p, vs, by rw [h1], .inl (.inl (w2.g _ _ h2)), q _ G2 H2 x2 w2 (walks_enumT h2 h3)⟩⟩
end
/-- a pair comes to two names -/
abbrev gPair (K : PySem.W.Frag) (i j : Nat) : TG := gTup K 2 (gCons (gName i) (gCons (gName j) gNil))
def tgPair {Γ Γ1 Γ2 α β S : Type} [EnvR Γ] [EnvR Γ1] [EnvR Γ2] [Rep α] [Rep β] [Md S] {i j : Nat} {K : PySem.W.Frag} (p1 : Put i Γ α Γ1) (p2 : Put j Γ1 β Γ2) (ho : Md.okI S i = true := by rfl) (ho' : Md.okI S j = true := by rfl) : Tg Γ (T2 α β) Γ2 K S (gPair K i j) :=
  ⟨fun γ t => p2.put (p1.put γ t.a) t.b, fun w he ha ⟨p, va, vb, h1, h2, h3, h4⟩ k => ⟨p, [va, vb], h1, .inl (.inl (w.g _ _ h2)), rfl, va, [vb], rfl, vb, [], rfl, rfl, k _ (p2.ok (p1.ok he h3) h4) (Md.keep ho' (Md.keep ho ha))⟩⟩
/-! ### isinstance(e, T), e of the type T itself -/
section
variable {Γ : Type} [EnvR Γ] {X : Cx} {a : Expr} {p p2 pos : Pos}
theorem ve_isT {α : Type} [Rep α] {T : Str} {Tn : String} {f : Γ → Option α} (ty : ∀ {G : Hp} {x : α} {v : V}, rep X.K G x v → Ty4 G v Tn) (h : VE X a f) (hm : X.mg "isinstance" = none) (hm2 : X.mg T = none) (hv : bootBuiltins T = some (.type Tn)) (hg2 : Gl X T) (hn2 : T ≠ "__name__") (hd2 : (T == ("__debug__" : Str)) = false)
    (hg : Gl X "isinstance" := by rfl) (hb : bootBuiltins "isinstance" = some (.builtin "isinstance") := by decide +kernel)
    (he : starEach [a, .Name T p2] X.env = (false, eval a X.env) :: starEach [.Name T p2] X.env := by rfl) (he2 : starEach [.Name T p2] X.env = (false, eval (.Name T p2) X.env) :: starEach [] X.env := by rfl) (hpl : (backTo pos (starEach [.Name T p2] X.env)).any (·.1) = false := by rfl) :
    VE X (.Call (.Name "isinstance" p) [a, .Name T p2] [] pos) (f1 (fun _ => some true) f) :=
  PE.le (pe_callB call_isTy hg hm hb (pa_cons h (pa_cons (pe_bltn hg2 hm2 hv (v := .ty Tn) rfl hn2 hd2) pa_nil he2) he) (he := he) (hpl := hpl)) fun σ H Q ⟨F, G, L, γ, z, w, hh, ea, q⟩ => by
    unfold f1 at ea
    cases e1 : f γ with
    | none => rw [e1] at ea; cases ea
    | some x =>
      rw [e1] at ea
      cases ea
      refine ⟨F, G, L, γ, x, w, hh, e1, fun v G2 H2 x2 w2 r2 => ⟨v, Tn, rfl, ?_, q _ G2 H2 x2 w2 rfl⟩⟩
      have t := ty r2
      cases t with
      | int i => exact .int i
      | str x => exact .str x
      | lst e => exact .lst (w2.g _ _ e)
      | tup e => exact .tup (w2.g _ _ e)
theorem ve_isStr {f : Γ → Option Str} (h : VE X a f) (hm : X.mg "isinstance" = none) (hm2 : X.mg "str" = none) (hg : Gl X "isinstance" := by rfl) (hg2 : Gl X "str" := by rfl)
    (he : starEach [a, .Name "str" p2] X.env = (false, eval a X.env) :: starEach [.Name "str" p2] X.env := by rfl) (he2 : starEach [.Name "str" p2] X.env = (false, eval (.Name "str" p2) X.env) :: starEach [] X.env := by rfl) (hpl : (backTo pos (starEach [.Name "str" p2] X.env)).any (·.1) = false := by rfl) :
    VE X (.Call (.Name "isinstance" p) [a, .Name "str" p2] [] pos) (f1 (fun _ => some true) f) :=
  ve_isT (T := "str") (Tn := "str") (fun r => by cases r; exact .str _) h hm hm2 (by decide +kernel) hg2 (by decide) (by decide) hg (by decide +kernel) he he2 hpl
theorem ve_isTup {α : Type} [Rep α] {f : Γ → Option (Tup α)} (h : VE X a f) (hm : X.mg "isinstance" = none) (hm2 : X.mg "tuple" = none) (hg : Gl X "isinstance" := by rfl) (hg2 : Gl X "tuple" := by rfl)
    (he : starEach [a, .Name "tuple" p2] X.env = (false, eval a X.env) :: starEach [.Name "tuple" p2] X.env := by rfl) (he2 : starEach [.Name "tuple" p2] X.env = (false, eval (.Name "tuple" p2) X.env) :: starEach [] X.env := by rfl) (hpl : (backTo pos (starEach [.Name "tuple" p2] X.env)).any (·.1) = false := by rfl) :
    VE X (.Call (.Name "isinstance" p) [a, .Name "tuple" p2] [] pos) (f1 (fun _ => some true) f) :=
  ve_isT (α := Tup α) (T := "tuple") (Tn := "tuple") (fun ⟨q, vs, h1, h2, h3⟩ => by rw [h1]; exact .tup h2) h hm hm2 (by decide +kernel) hg2 (by decide) (by decide) hg (by decide +kernel) he he2 hpl
end
/-! ### more statements -/
section
variable {Γ Γ1 Γ2 Γd S ρ : Type} [EnvR Γ] [EnvR Γ1] [EnvR Γ2] [EnvR Γd] [Md S] {α β τ : Type} [Rep α] [Rep β]
variable {X : Cx} {R : RR ρ} {e a b c : Expr} {pos : Pos} {i j : Nat}
/-- a, b = (x, y) -/
def spar (p1 : Put i Γ α Γ1) (p2 : Put j Γ1 β Γ2) (f : Γ → Option ((α × β × Unit) × Γ)) : Γ → Option (Fl Γ2 S ρ) := fun γ => (f γ).map fun (x, γ) => .nx (p2.put (p1.put γ x.1) x.2.1)
/-- xs[i] = e, xs of one's own -/
def sset1 (o : Own i Γ α Γd) (g : Γ → Option Int) (f : Γ → Option α) : Γ → Option (Fl Γ S ρ) := fun γ => (f γ).bind fun v => (g γ).bind fun k => (ixN (o.get γ).length k).map fun j => .nx (o.set γ ((o.get γ).set j v))
theorem paired_set {α β : Type} {R : α → β → Prop} : ∀ {xs : List α} {ys : List β} {x : α} {y : β} (j : Nat), PySem.Paired R xs ys → R x y → PySem.Paired R (xs.set j x) (ys.set j y)
  | _, _, _, _, _, .nil, _ => .nil
  | _, _, _, _, 0, .cons _ t, r => .cons r t
  | _, _, _, _, j + 1, .cons h t, r => .cons h (paired_set j t r)
theorem vs_set1 (o : Own i Γ α Γd) {f : Γ → Option α} {g : Γ → Option Int} {x : Str} {p1 p2 : Pos} (hv : VE X e f) (hg : VE X a g) (hN : X.N[i]? = some x := by rfl) (hvs : Vis X.env.scope x := by first | exact Or.inl rfl | exact Or.inr (Or.inl rfl) | exact Or.inr (Or.inr rfl)) (hd : (x == ("__debug__" : Str)) = false := by decide)
    (hcd : (x == ("__classdict__" : Str)) = false := by decide) (hs : swapsWithSole [.Subscript (.Name x p1) a p2] e pos.line X.env = pure false := by rfl) (hw : swappedStores [.Subscript (.Name x p1) a p2] e X.env = pure none := by rfl)
    (h1 : (assignEach [.Subscript (.Name x p1) a p2] X.env).map (·.2) = [assign (.Subscript (.Name x p1) a p2) X.env] := by rfl)
    (hasg : ∀ v, assign (.Subscript (.Name x p1) a p2) X.env v = (do
      let ov ← holding [v] (eval (.Name x p1) X.env)
      let iv ← holding [v, ov] (eval a X.env)
      standAt p2
      holding [v, ov, iv] (setItem ov iv v)
      release [v, ov, iv] []) := by intro _; rfl) : VS X S R (.Assign [.Subscript (.Name x p1) a p2] e pos) (sset1 (S := S) o g f) :=
  PS.le (ps_asg hv (pg_sub (pe_var hN hvs hd hcd) hg set_list hasg) hs hw h1) fun D σ H ⟨F, G, L, γ, p, r, wd, nd, he, ha, ea, k⟩ => by
    unfold sset1 at ea
    cases e1 : f γ with
    | none => rw [e1] at ea; cases ea
    | some v =>
      rw [e1] at ea
      simp only [Option.bind_some] at ea
      cases e2 : g γ with
      | none => rw [e2] at ea; cases ea
      | some n =>
        rw [e2] at ea
        simp only [Option.bind_some] at ea
        cases e3 : ixN (o.get γ).length n with
        | none => rw [e3] at ea; cases ea
        | some m =>
          rw [e3] at ea
          cases ea
          refine ⟨F, G, L, γ, v, wd, he, e1, fun vv G2 H2 x2 w2 r2 => ?_⟩
          obtain ⟨q, vs, k1, k2, k3, k4, k5, _⟩ := o.ok (EnvR.mono x2 he)
          refine ⟨.ref q, k1, F, G2, L, γ, n, w2, EnvR.mono x2 he, e2, fun vi G3 H3 x3 w3 r3 => ?_⟩
          cases r3
          refine ⟨q, vs, n, m, rfl, rfl, w3.f _ _ k3, by rw [← paired_len k4]; exact e3, ?_⟩
          exact k σ L _ G3 _ (x2.trans x3) (w3.set k3) nd (fun b u hb e => by rw [upd_ne (fun z => hb (by rw [z]; exact k2))]; exact e) Sub.refl (k5 x3 (paired_set m (Paired.mono (fun _ _ z => Rep.mono x3 z) k4) (Rep.mono x3 r2))) ha
/-- xs[i], y = divmod(a, b), xs of one's own -/
def sdm (o : Own i Γ Int Γd) (pt : Put j Γ Int Γ1) (n : Int) (f : Γ → Option (Int × Int × Unit)) : Γ → Option (Fl Γ1 S ρ) := fun γ => (f γ).bind fun x => if 0 < x.2.1 ∧ x.2.1 < 1073741824 then
  (ixN (o.get γ).length n).map fun j => .nx (pt.put (o.set γ ((o.get γ).set j (x.1 / x.2.1))) (x.1 % x.2.1)) else none
theorem vs_dm (o : Own i Γ Int Γd) (pt : Put j Γ Int Γ1) {n : Int} {f : Γ → Option (Int × Int × Unit)} {x y : Str} {p1 p2 p3 p4 p5 p6 p7 : Pos} {kt jc} (hc : X.calm = true) (hNd : X.N.Nodup) (ha : VA X [a, b] f) (hm : X.mg "divmod" = none)
    (hg : Gl X "divmod" := by rfl) (hb : bootBuiltins "divmod" = some (.builtin "divmod") := by decide +kernel) (hN : X.N[i]? = some x := by rfl) (hvs : Vis X.env.scope x := by first | exact Or.inl rfl | exact Or.inr (Or.inl rfl) | exact Or.inr (Or.inr rfl)) (hd : (x == ("__debug__" : Str)) = false := by decide)
    (hcd : (x == ("__classdict__" : Str)) = false := by decide) (hj : X.N[j]? = some y := by rfl) (hy : Loc X.env.scope y := by first | exact Or.inl rfl | exact Or.inr rfl) (hf : X.fn y = true ∨ X.env.scope.names.lookup y = some .local := by first | exact .inl rfl | exact .inr rfl) (ho : Md.okI S j = true := by rfl)
    (he : starEach [a, b] X.env = (false, eval a X.env) :: starEach [b] X.env := by rfl) (hpl : (backTo p7 (starEach [b] X.env)).any (·.1) = false := by rfl)
    (hasg : ∀ v, assign (.Subscript (.Name x p1) (.Constant (.int n) jc p2) p3) X.env v = (do
      let ov ← holding [v] (eval (.Name x p1) X.env)
      let iv ← holding [v, ov] (eval (.Constant (.int n) jc p2) X.env)
      standAt p3
      holding [v, ov, iv] (setItem ov iv v)
      release [v, ov, iv] []) := by intro _; rfl)
    (hs1 : (assignEach [.Subscript (.Name x p1) (.Constant (.int n) jc p2) p3, .Name y p4] X.env).map (·.2) = assign (.Subscript (.Name x p1) (.Constant (.int n) jc p2) p3) X.env :: (assignEach [.Name y p4] X.env).map (·.2) := by rfl)
    (hs2 : (assignEach [.Name y p4] X.env).map (·.2) = assign (.Name y p4) X.env :: (assignEach [] X.env).map (·.2) := by rfl)
    (hln : (assignEach [.Subscript (.Name x p1) (.Constant (.int n) jc p2) p3, .Name y p4] X.env).length = 2 := by rfl) (hst : (assignEach [.Subscript (.Name x p1) (.Constant (.int n) jc p2) p3, .Name y p4] X.env).findIdx? (·.1) = none := by rfl)
    (hs : swapsWithSole [.Tuple [.Subscript (.Name x p1) (.Constant (.int n) jc p2) p3, .Name y p4] kt p5] (.Call (.Name "divmod" p6) [a, b] [] p7) pos.line X.env = pure false := by rfl)
    (hw : swappedStores [.Tuple [.Subscript (.Name x p1) (.Constant (.int n) jc p2) p3, .Name y p4] kt p5] (.Call (.Name "divmod" p6) [a, b] [] p7) X.env = pure none := by rfl)
    (h1 : (assignEach [.Tuple [.Subscript (.Name x p1) (.Constant (.int n) jc p2) p3, .Name y p4] kt p5] X.env).map (·.2) = [assign (.Tuple [.Subscript (.Name x p1) (.Constant (.int n) jc p2) p3, .Name y p4] kt p5) X.env] := by rfl) :
    VS X S R (.Assign [.Tuple [.Subscript (.Name x p1) (.Constant (.int n) jc p2) p3, .Name y p4] kt p5] (.Call (.Name "divmod" p6) [a, b] [] p7) pos) (sdm (S := S) o pt n f) :=
  PS.le (ps_asg (pe_callB call_divmod hg hm hb ha (he := he) (hpl := hpl)) (pg_tup (n := 2) hc (pgs_cons (pg_sub (pe_var hN hvs hd hcd) pe_int set_list hasg) (pgs_cons (pg_name hNd hj hy hf) pgs_nil hs2) hs1) hln hst) hs hw h1) fun D σ H ⟨F, G, L, γ, p, r, wd, nd, he, ha, ea, k⟩ => by
    unfold sdm at ea
    cases e1 : f γ with
    | none => rw [e1] at ea; cases ea
    | some z =>
      rw [e1] at ea
      simp only [Option.bind_some] at ea
      split at ea
      case isFalse => cases ea
      rename_i hz
      cases e3 : ixN (o.get γ).length n with
      | none => rw [e3] at ea; cases ea
      | some m =>
        rw [e3] at ea
        cases ea
        refine ⟨F, G, L, γ, z, wd, he, e1, fun vs G2 H2 x2 w2 r2 => ?_⟩
        obtain ⟨v, u, g1, g2, g3⟩ := rl2 r2
        cases g2
        cases g3
        refine ⟨_, _, g1, ⟨hz.1, hz.2⟩, fun T hT => ?_⟩
        have ex := Ex.upd (o := HO.tup [V.int (z.1 / z.2.1), V.int (z.1 % z.2.1)]) (w2.fresh hT).1
        have w3 := w2.new (o := HO.tup [V.int (z.1 / z.2.1), V.int (z.1 % z.2.1)]) hT
        obtain ⟨q, us, k1, k2, k3, k4, k5, _⟩ := o.ok (EnvR.mono (x2.trans ex) he)
        refine ⟨T, _, rfl, .inl (.inl upd_same), rfl, _, _, rfl, ?_⟩
        refine ⟨.ref q, k1, q, us, n, m, rfl, rfl, w3.f _ _ k3, by rw [← paired_len k4]; exact e3, _, _, rfl, rfl, ?_⟩
        exact k _ L _ _ _ (x2.trans ex) (w3.set k3) nd (fun b u hb e => by rw [upd_ne (fun z => hb (by rw [z]; exact k2))]; exact e) Sub.refl (pt.ok (k5 (Ex.refl _) (paired_set m k4 rfl)) rfl) (Md.keep ho ha)
end
end Vx
namespace Vx
open Rep (rep)
open EnvR (er)
open PySem PySem.Spec PyProof.Rows L2
/-! ### dicts -/
/-- what may be a key -/
class KeyOf (κ : Type) [Rep κ] where
  key : κ → Key
  ofK : Key → Option κ
  of : ∀ {K : PySem.W.Frag} {G : Hp} {k : κ} {v : V}, rep K G k v → v = kV (key k)
  back : ∀ {K : PySem.W.Frag} {G : Hp} {k : Key} {x : κ}, ofK k = some x → rep K G x (kV k)
instance : KeyOf Int := ⟨Sum.inl, fun k => match k with | .inl i => some i | .inr _ => none, fun h => by cases h; rfl, fun {K G k x} h => by
  cases k with
  | inl i => cases h; rfl
  | inr s => cases h⟩
instance : KeyOf Str := ⟨Sum.inr, fun k => match k with | .inl _ => none | .inr s => some s, fun h => by cases h; rfl, fun {K G k x} h => by
  cases k with
  | inl i => cases h
  | inr s => cases h; rfl⟩
def putB {β : Type} (d : List (Key × β)) (k : Key) (v : β) : List (Key × β) := if (d.any fun kv => decide (kv.1 = k)) = true then d.map (fun kv => if kv.1 = k then (kv.1, v) else kv) else d ++ [(k, v)]
def valB {β : Type} (d : List (Key × β)) (k : Key) : Option β := (d.find? fun kv => decide (kv.1 = k)).map (·.2)
abbrev RK {β : Type} [Rep β] (K : PySem.W.Frag) (G : Hp) : Key × β → Key × V → Prop := fun q r => q.1 = r.1 ∧ rep K G q.2 r.2
section
variable {β : Type} [Rep β] {K : PySem.W.Frag} {G : Hp}
theorem rk_any {k : Key} : ∀ {d : List (Key × β)} {kvs : List (Key × V)}, PySem.Paired (RK K G) d kvs → (d.any fun kv => decide (kv.1 = k)) = (kvs.any fun kv => decide (kv.1 = k))
  | _, _, .nil => rfl
  | x :: d, y :: kvs, .cons r t => by rw [List.any_cons, List.any_cons, rk_any t, r.1]
theorem rk_map {k : Key} {v : β} {u : V} (hv : rep K G v u) : ∀ {d : List (Key × β)} {kvs : List (Key × V)}, PySem.Paired (RK K G) d kvs → PySem.Paired (RK K G) (d.map fun kv => if kv.1 = k then (kv.1, v) else kv) (kvs.map fun kv => if kv.1 = k then (kv.1, u) else kv)
  | _, _, .nil => .nil
  | x :: d, y :: kvs, .cons r t => by
    rw [List.map_cons, List.map_cons]
    refine .cons ?_ (rk_map hv t)
    rw [r.1]
    by_cases e : y.1 = k
    · rw [if_pos e, if_pos e]
      exact ⟨rfl, hv⟩
    · rw [if_neg e, if_neg e]
      exact r
theorem rk_put {k : Key} {v : β} {u : V} (hv : rep K G v u) {d : List (Key × β)} {kvs : List (Key × V)} (h : PySem.Paired (RK K G) d kvs) : PySem.Paired (RK K G) (putB d k v) (putK kvs k u) := by
  unfold putB putK
  rw [rk_any h]
  by_cases e : (kvs.any fun kv => decide (kv.1 = k)) = true
  · rw [if_pos e, if_pos e]
    exact rk_map hv h
  · rw [if_neg e, if_neg e]
    exact paired_app h (.cons ⟨rfl, hv⟩ .nil)
theorem rk_val {k : Key} {b : β} : ∀ {d : List (Key × β)} {kvs : List (Key × V)}, PySem.Paired (RK K G) d kvs → valB d k = some b → ∃ u, valV kvs k = some u ∧ rep K G b u
  | _, _, .nil, h => by cases h
  | x :: d, y :: kvs, .cons r t, h => by
    unfold valB at h
    rw [List.find?_cons] at h
    by_cases e : x.1 = k
    · rw [decide_eq_true e] at h
      cases h
      exact ⟨y.2, valV_pos (r.1 ▸ e), r.2⟩
    · rw [decide_eq_false e] at h
      obtain ⟨u, h1, h2⟩ := rk_val t h
      exact ⟨u, by rw [valV_neg (fun z => e (r.1.trans z))]; exact h1, h2⟩
theorem putB_len (d : List (Key × β)) (k : Key) (v : β) : (putB d k v).length ≤ d.length + 1 := by
  unfold putB
  split
  · rw [List.length_map]
    omega
  · rw [List.length_append]
    exact Nat.le_refl _
theorem rk_mono {G' : Hp} (e : Ex G G') {d : List (Key × β)} {kvs : List (Key × V)} (h : PySem.Paired (RK K G) d kvs) : PySem.Paired (RK K G') d kvs := Paired.mono (fun _ _ ⟨a, b⟩ => ⟨a, Rep.mono e b⟩) h
end
section
variable {Γ : Type} [EnvR Γ] {β κ τ : Type} [Rep β] [Rep κ] [KeyOf κ] [Rep τ] {X : Cx} {a b : Expr} {pos : Pos} {i j : Nat}
/-- d[k], d never changed -/
def dget (d : Dct β) (k : κ) : Option β := valB d.l (KeyOf.key k)
theorem ve_dget {f : Γ → Option (Dct β)} {g : Γ → Option κ} (hu : X.A.units + 1 < cLine) (ha : VE X a f) (hb : VE X b g) (hs : NoSl b) : VE X (.Subscript a b pos) (f2 dget f g) :=
  PE.le (pe_dget hu ha hb hs) fun σ H Q ⟨F, G, L, γ, z, w, he, ea, q⟩ => by
    obtain ⟨x, y, e1, e2, e3⟩ := f2_some ea
    refine ⟨F, G, L, γ, x, w, he, e1, fun v G2 H2 x2 w2 r2 => ⟨F, G2, L, γ, y, w2, EnvR.mono x2 he, e2, fun u G3 H3 x3 w3 r3 => ?_⟩⟩
    obtain ⟨p, kvs, h1, h2, h3⟩ := (Rep.mono x3 r2 : rep X.K G3 x v)
    obtain ⟨o, h4, h5⟩ := rk_val h3 e3
    refine ⟨p, o, h1, .inl ⟨kvs, KeyOf.key y, .inl (w3.g _ _ h2), KeyOf.of r3, h4.symm⟩, q _ _ _ (x2.trans x3) w3 h5⟩
/-- {k: v for .. in ..} -/
def dcGo (kf : τ → Option κ) (vf : τ → Option β) : List τ → List (Key × β) → Option (List (Key × β))
  | [], d => some d
  | x :: xs, d => (kf x).bind fun k => (vf x).bind fun v => dcGo kf vf xs (putB d (KeyOf.key k) v)
variable {Γ1 Γ2 : Type} [EnvR Γ1] [EnvR Γ2] {α1 α2 : Type} [Rep α1] [Rep α2]
def fdc (p1 : Put i Γ α1 Γ1) (p2 : Put j Γ1 α2 Γ2) (g : Γ → Option (List (T2 α1 α2))) (kf : Γ2 → Option κ) (vf : Γ2 → Option β) : Γ → Option (Dct β) := fun γ => (g γ).bind fun xs => if xs.length ≤ 100000 then
  (dcGo (fun x => kf (p2.put (p1.put γ x.a) x.b)) (fun x => vf (p2.put (p1.put γ x.a) x.b)) xs []).map fun d => ⟨d⟩ else none
theorem wipe2 {σ : L2.St} {x y : Option V} (hij : i ≠ j) : ((wipe σ [i, j]).set i x).set j y = (σ.set i x).set j y := by
  show ((((σ.set j none).set i none).set i x).set j y) = _
  rw [List.set_set, List.set_comm (i := j) (j := i) _ _ (Ne.symm hij), List.set_set]
theorem wipe2' {σ : L2.St} {x y : Option V} (hij : i ≠ j) : wipe (((wipe σ [i, j]).set i x).set j y) [i, j] = wipe σ [i, j] := by
  rw [wipe2 hij]
  show ((((σ.set i x).set j y).set j none).set i none) = ((σ.set j none).set i none)
  rw [List.set_set, List.set_comm (i := i) (j := j) _ _ hij, List.set_set]
theorem tdc (hij : i ≠ j) {K : PySem.W.Frag} {p1 : Put i Γ α1 Γ1} {p2 : Put j Γ1 α2 Γ2} {g : Γ → Option (List (T2 α1 α2))} {t : Γ2 → Option Bool} {kf : Γ2 → Option κ} {vf : Γ2 → Option β} {σ : L2.St} {H : Hp} {Q : VK} (h : tev K (RE K) (fdc p1 p2 g kf vf) σ H Q) :
    tDc (tiv K g) (gPair K i j) (tet K (fyes (Γ := Γ2))) (tev K (RE K) kf) (tev K (RE K) vf) [i, j] σ H Q := by
  obtain ⟨F, G, L, γ, zs, w, he, ea, q⟩ := h
  unfold fdc at ea
  cases e0 : g γ with
  | none => rw [e0] at ea; cases ea
  | some xs =>
  rw [e0] at ea
  simp only [Option.bind_some] at ea
  split at ea
  case isFalse => cases ea
  rename_i hlen
  cases e9 : dcGo (fun x => kf (p2.put (p1.put γ x.a) x.b)) (fun x => vf (p2.put (p1.put γ x.a) x.b)) xs [] with
  | none => rw [e9] at ea; cases ea
  | some dz =>
  rw [e9] at ea
  cases ea
  refine ⟨F, G, L, γ, xs, w, he, e0, fun J G1 H1 x1 w1 wl D hD => ?_⟩
  have fd := w1.fresh hD
  have nD : ∀ q ∈ L, q ≠ D := fun q hq z => EnvR.there he q hq (by rw [z]; exact fd.2)
  refine ⟨fun n m H' => m = xs.length - n ∧ n ≤ xs.length ∧ ∃ G2 acc d, Ex G1 G2 ∧ W (upd F D (.dK acc)) G2 H' ∧ PySem.Paired (RK K G2) d acc ∧ d.length ≤ n ∧
      dcGo (fun x => kf (p2.put (p1.put γ x.a) x.b)) (fun x => vf (p2.put (p1.put γ x.a) x.b)) (xs.drop n) d = some dz, ⟨xs.length, by simp, Nat.zero_le _, G1, [], [], Ex.refl _, w1.own hD, .nil, Nat.zero_le _, e9⟩, ?_⟩
  rintro n m H' ⟨rfl, hj, G2, acc, d, x2, w2, r2, hacc, go⟩
  by_cases hlt : n < xs.length
  · obtain ⟨x, hx⟩ : ∃ x, xs[n]? = some x := ⟨xs[n], List.getElem?_eq_getElem hlt⟩
    obtain ⟨hgo, hyl⟩ := (wl (upd F D (.dK acc)) G2 H' x2 w2 n).1 x hx
    have hdrop : xs.drop n = x :: xs.drop (n + 1) := by
      rw [List.drop_eq_getElem_cons hlt]
      have : xs[n] = x := Option.some.inj ((List.getElem?_eq_getElem hlt).symm.trans hx)
      rw [this]
    rw [hdrop] at go
    unfold dcGo at go
    refine .inr ⟨hgo, fun H3 => ∃ G2 acc d, Ex G1 G2 ∧ W (upd F D (.dK acc)) G2 H3 ∧ PySem.Paired (RK K G2) d acc ∧ d.length ≤ n + 1 ∧
      dcGo (fun x => kf (p2.put (p1.put γ x.a) x.b)) (fun x => vf (p2.put (p1.put γ x.a) x.b)) (xs.drop (n + 1)) d = some dz, fun H3 z => ⟨xs.length - (n + 1), by omega, rfl, hlt, z⟩, fun xv H3 hy => ?_⟩
    obtain ⟨G3, x3, w3, p, va, vb, h1, h2, h3, h4⟩ := hyl xv H3 hy
    refine ⟨p, [va, vb], h1, .inl (.inl (w3.g _ _ h2)), rfl, va, [vb], rfl, vb, [], rfl, rfl, wipe2' hij, ?_⟩
    rw [wipe2 hij]
    have er3 : er K G3 (upd F D (.dK acc)) L ((σ.set i (some va)).set j (some vb)) (p2.put (p1.put γ x.a) x.b) := p2.ok (p1.ok (EnvR.keep (fun q hq => upd_ne (nD q hq)) (EnvR.mono ((x1.trans x2).trans x3) he)) h3) h4
    refine ⟨_, G3, L, _, true, w3, er3, rfl, fun G4 H4 x4 w4 => ?_⟩
    show (if true = true then _ else _)
    rw [if_pos rfl]
    cases e5 : kf (p2.put (p1.put γ x.a) x.b) with
    | none =>
      rw [e5] at go
      cases go
    | some kk =>
      rw [e5] at go
      simp only [Option.bind_some] at go
      cases e6 : vf (p2.put (p1.put γ x.a) x.b) with
      | none =>
        rw [e6] at go
        cases go
      | some vv =>
        rw [e6] at go
        simp only [Option.bind_some] at go
        refine ⟨_, G4, L, _, kk, w4, EnvR.mono x4 er3, e5, fun yk G5 H5 x5 w5 rk => ⟨_, G5, L, _, vv, w5, EnvR.mono (x4.trans x5) er3, e6, fun yv G6 H6 x6 w6 rv => ?_⟩⟩
        have r6 := rk_mono (((x3.trans x4).trans x5).trans x6) r2
        refine ⟨acc, KeyOf.key kk, KeyOf.of rk, w6.f _ _ upd_same, ?_, G6, putK acc (KeyOf.key kk) yv, putB d (KeyOf.key kk) vv, (((x2.trans x3).trans x4).trans x5).trans x6, ?_, rk_put rv r6, Nat.le_trans (putB_len (β := β) d _ _) (Nat.succ_le_succ hacc), go⟩
        · rw [← paired_len r6]
          exact Nat.lt_of_lt_of_le (Nat.lt_of_le_of_lt hacc (Nat.lt_of_lt_of_le hlt hlen)) line_ge
        · have := w6.set (u := .dK (putK acc (KeyOf.key kk) yv)) upd_same
          rw [upd_upd] at this
          exact this
  · have hj' : n = xs.length := by omega
    subst hj'
    rw [List.drop_length] at go
    unfold dcGo at go
    cases go
    refine .inl ⟨(wl (upd F D (.dK acc)) G2 H' x2 w2 xs.length).2 (Nat.le_refl _), ?_⟩
    have gD : G2 D = none := w2.d D _ upd_same
    have ex := Ex.upd (o := HO.dK acc) gD
    have w5 : W F (upd G2 D (.dK acc)) H' := by
      have := w2.free (p := D) upd_same
      refine this.less fun a o z => ?_
      have ha : a ≠ D := fun y => by
        rw [y, fd.2] at z
        cases z
      rw [del_ne ha, upd_ne ha]
      exact z
    exact q _ _ H' ((x1.trans x2).trans ex) w5 ⟨D, acc, rfl, upd_same, rk_mono ex r2⟩
variable {kx vx iter : Expr} {scope : Scope} {tpos px py : Pos} {x y : Str} {k0 : Nat}
/-- {k: v for x, y in iter} -/
theorem ve_dc (p1 : Put i Γ α1 Γ1) (p2 : Put j Γ1 α2 Γ2) {g : Γ → Option (List (T2 α1 α2))} {kf : Γ2 → Option κ} {vf : Γ2 → Option β} (hc : X.calm = true) (hN : X.N.Nodup) (hi : VI X (.Tuple [.Name x px, .Name y py] k0 tpos) iter g) (ok : blkC X.N X.env.scope scope [(x, i), (y, j)] = true)
    (hg : ∀ (s : Shared) (H : Hp) (C : Addr) (cl : List (Str × Addr)) (fp : List Addr), PG (X.blk s H scope (compEnvC scope cl C X.env) fp) (.Tuple [.Name x px, .Name y py] k0 tpos) (gPair X.K i j))
    (hk : ∀ (s : Shared) (H : Hp) (C : Addr) (cl : List (Str × Addr)) (fp : List Addr), VE (X.blk s H scope (compEnvC scope cl C X.env) fp) kx kf)
    (hv : ∀ (s : Shared) (H : Hp) (C : Addr) (cl : List (Str × Addr)) (fp : List Addr), VE (X.blk s H scope (compEnvC scope cl C X.env) fp) vx vf) (hij : i ≠ j := by decide) (hs : ∀ x, foldedSetIterable iter X.env x = pure x := by intro _; rfl) :
    VE X (.DictComp kx vx [⟨.Tuple [.Name x px, .Name y py] k0 tpos, iter, [], 0⟩] scope pos) (fdc p1 p2 g kf vf) :=
  PE.le (pe_dc (own := [(x, i), (y, j)]) (g := gPair X.K i j) (tt := tet X.K (fyes (Γ := Γ2))) hc hN hi (blkOk_by ok) hg (fun _ _ _ _ _ => vts_nil) hk hv hs) fun σ H Q h => tdc hij (t := fyes) h
end
end Vx
namespace Vx
open Rep (rep)
open EnvR (er)
open PySem PySem.Spec PyProof.Rows L2
/-! ### dicts of one's own -/
structure OwnD (i : Nat) (Γ β : Type) [EnvR Γ] [Rep β] where
  get : Γ → List (Key × β)
  set : Γ → List (Key × β) → Γ
  ok : ∀ {K : PySem.W.Frag} {G F : Hp} {L : List Addr} {σ : L2.St} {γ : Γ}, er K G F L σ γ → ∃ q vs, σ[i]? = some (some (.ref q)) ∧ q ∈ L ∧ F q = some (.dK vs) ∧ PySem.Paired (RK K G) (get γ) vs ∧
    (∀ {G' : Hp} {ys : List (Key × β)} {vs' : List (Key × V)}, Ex G G' → PySem.Paired (RK K G') ys vs' → er K G' (upd F q (.dK vs')) L σ (set γ ys))
def dz {Γ β : Type} [EnvR Γ] [Rep β] : OwnD 0 (OD β × Γ) β := ⟨fun γ => γ.1.l, fun γ ys => (⟨ys⟩, γ.2), fun {K G F L σ γ} ⟨L1, L2, o, σ', h1, h2, ⟨q, vs, h3, h4, h5, h6⟩, h7, h8⟩ => by
  subst h2
  have hq : q ∉ L2 := h8 q (by rw [h3]; exact List.mem_singleton.mpr rfl)
  refine ⟨q, vs, by rw [h4]; rfl, by rw [h1, h3]; exact List.mem_append_left _ (List.mem_singleton.mpr rfl), h5, h6, fun {G' ys vs'} e r => ?_⟩
  exact ⟨L1, L2, o, σ', h1, rfl, ⟨q, vs', h3, h4, upd_same, r⟩, EnvR.keep (fun b hb => upd_ne (fun z => hq (by rw [← z]; exact hb))) (EnvR.mono e h7), h8⟩⟩
def ds {i : Nat} {τ Γ β : Type} [Slot τ] [EnvR Γ] [Rep β] (w : OwnD i Γ β) : OwnD (i + 1) (τ × Γ) β := ⟨fun γ => w.get γ.2, fun γ ys => (γ.1, w.set γ.2 ys), fun {K G F L σ γ} ⟨L1, L2, o, σ', h1, h2, h3, h4, h5⟩ => by
  obtain ⟨q, vs, k1, k2, k3, k4, k5⟩ := w.ok h4
  subst h2
  have hq : q ∉ L1 := fun z => h5 q z k2
  refine ⟨q, vs, k1, by rw [h1]; exact List.mem_append_right _ k2, k3, k4, fun {G' ys vs'} e r => ?_⟩
  exact ⟨L1, L2, o, σ', h1, rfl, Slot.keep (fun b hb => upd_ne (fun z => hq (by rw [← z]; exact hb))) (Slot.mono e h3), k5 e r, h5⟩⟩
structure PutD (i : Nat) (Γ β Γ' : Type) [EnvR Γ] [Rep β] [EnvR Γ'] where
  put : Γ → List (Key × β) → Γ'
  ok : ∀ {K : PySem.W.Frag} {G F : Hp} {L : List Addr} {σ : L2.St} {γ : Γ} {q : Addr} {xs : List (Key × β)} {vs : List (Key × V)}, er K G F L σ γ → q ∉ L → F q = some (.dK vs) → PySem.Paired (RK K G) xs vs →
    ∃ L', (∀ b ∈ L', b ∈ L ∨ b = q) ∧ (L.Nodup → L'.Nodup) ∧ er K G F L' (σ.set i (some (.ref q))) (put γ xs)
def pdz {τ₀ Γ β : Type} [Slot τ₀] [EnvR Γ] [Rep β] : PutD 0 (τ₀ × Γ) β (OD β × Γ) := ⟨fun γ xs => (⟨xs⟩, γ.2), fun {K G F L σ γ q xs vs} ⟨L1, L2, o, σ', h1, h2, h3, h4, h5⟩ hq hF r => by
  subst h2
  have hq2 : q ∉ L2 := fun z => hq (by rw [h1]; exact List.mem_append_right _ z)
  exact ⟨q :: L2, fun b hb => by
    rcases List.mem_cons.mp hb with h | h
    · exact .inr h
    · exact .inl (by rw [h1]; exact List.mem_append_right _ h), fun nd => List.nodup_cons.mpr ⟨hq2, by rw [h1] at nd; exact (List.nodup_append.mp nd).2.1⟩, [q], L2, _, σ', rfl, rfl, ⟨q, vs, rfl, rfl, hF, r⟩, h4, fun b hb => by
      rw [List.mem_singleton.mp hb]
      exact hq2⟩⟩
def pds {i : Nat} {τ Γ β Γ' : Type} [Slot τ] [EnvR Γ] [Rep β] [EnvR Γ'] (p : PutD i Γ β Γ') : PutD (i + 1) (τ × Γ) β (τ × Γ') := ⟨fun γ xs => (γ.1, p.put γ.2 xs), fun {K G F L σ γ q xs vs} ⟨L1, L2, o, σ', h1, h2, h3, h4, h5⟩ hq hF r => by
  subst h2
  have hq2 : q ∉ L2 := fun z => hq (by rw [h1]; exact List.mem_append_right _ z)
  have hq1 : q ∉ L1 := fun z => hq (by rw [h1]; exact List.mem_append_left _ z)
  obtain ⟨L', k1, k2, k3⟩ := p.ok h4 hq2 hF r
  have dj : ∀ b ∈ L1, b ∉ L' := fun b hb hb' => by
    rcases k1 b hb' with h | h
    · exact h5 b hb h
    · exact hq1 (by rw [← h]; exact hb)
  refine ⟨L1 ++ L', fun b hb => ?_, fun nd => ?_, L1, L', o, _, rfl, rfl, h3, k3, dj⟩
  · rcases List.mem_append.mp hb with h | h
    · exact .inl (by rw [h1]; exact List.mem_append_left _ h)
    · rcases k1 b h with h | h
      · exact .inl (by rw [h1]; exact List.mem_append_right _ h)
      · exact .inr h
  · rw [h1] at nd
    obtain ⟨n1, n2, n3⟩ := List.nodup_append.mp nd
    exact List.nodup_append.mpr ⟨n1, k2 n2, fun a ha b hb z => dj a ha (by rw [z]; exact hb)⟩⟩
section
variable {Γ Γ' S ρ : Type} [EnvR Γ] [EnvR Γ'] [Md S] {β κ : Type} [Rep β] [Rep κ] [KeyOf κ]
variable {X : Cx} {R : RR ρ} {e a b c : Expr} {pos : Pos} {i : Nat}
/-- x = {k: v} -/
def snewD (p : PutD i Γ β Γ') (g : Γ → Option κ) (f : Γ → Option β) : Γ → Option (Fl Γ' S ρ) := fun γ => (g γ).bind fun k => (f γ).map fun v => .nx (p.put γ [(KeyOf.key k, v)])
theorem vs_newD (pt : PutD i Γ β Γ') {x : Str} {pos' dpos : Pos} {g : Γ → Option κ} {f : Γ → Option β} (hN : X.N.Nodup) (h1 : VE X a g) (h2 : VE X b f) (hi : X.N[i]? = some x := by rfl) (hx : Loc X.env.scope x := by first | exact Or.inl rfl | exact Or.inr rfl) (ho : Md.okI S i = true := by rfl)
    (hs : swapsWith (.Dict [some a] [b] dpos) (some (.Name x pos')) pos.line X.env = pure false := by rfl) (hf : X.fn x = true ∨ X.env.scope.names.lookup x = some .local := by first | exact .inl rfl | exact .inr rfl) : VS X S R (.Assign [.Name x pos'] (.Dict [some a] [b] dpos) pos) (snewD (S := S) pt g f) :=
  PS.le (ps_set hN hi hx (pe_disp (pps_cons h1 h2 pps_nil) rfl rfl (by simp) (show 1 ≤ 15 by decide)) hs hf) fun D σ H ⟨F, G, L, γ, p, r, wd, nd, he, ha, ea, k⟩ => by
    unfold snewD at ea
    cases e1 : g γ with
    | none => rw [e1] at ea; cases ea
    | some kk =>
      rw [e1] at ea
      cases e2 : f γ with
      | none => simp only [Option.bind_some] at ea; rw [e2] at ea; cases ea
      | some y =>
        simp only [Option.bind_some] at ea
        rw [e2] at ea
        cases ea
        intro q hq
        have fr := wd.fresh hq
        have nq : q ∉ L := fun z => EnvR.there he q z fr.2
        have w0 := wd.own (o := HO.dK []) hq
        have he0 : er X.K G (upd F q (.dK [])) L σ γ := EnvR.keep (fun b hb => upd_ne (fun z => nq (by rw [← z]; exact hb))) he
        refine ⟨_, G, L, γ, kk, w0, he0, e1, fun v G2 H2 x2 w2 r2 => ⟨_, G2, L, γ, y, w2, EnvR.mono x2 he0, e2, fun u G3 H3 x3 w3 r3 => ?_⟩⟩
        refine ⟨w3.f _ _ upd_same, [(KeyOf.key kk, u)], by rw [KeyOf.of r2]; rfl, show 1 ≤ 15 by decide, ?_⟩
        have w4 := w3.set (p := q) (u := .dK (mergeK [] [(KeyOf.key kk, u)])) upd_same
        rw [upd_upd] at w4
        obtain ⟨L', l1, l2, l3⟩ := pt.ok (F := upd F q (.dK (mergeK [] [(KeyOf.key kk, u)]))) (xs := [(KeyOf.key kk, y)]) (EnvR.keep (fun b hb => upd_ne (fun z => nq (by rw [← z]; exact hb))) (EnvR.mono (x2.trans x3) he)) nq upd_same (.cons ⟨rfl, r3⟩ .nil)
        exact k _ L' _ G3 _ (x2.trans x3) w4 (l2 nd) (off_new fr.2) (fun b hb => (l1 b hb).imp id fun z => by rw [z]; exact fr.2) l3 (Md.keep ho ha)
/-- d[k] = v, d of one's own -/
def sdput (o : OwnD i Γ β) (g : Γ → Option κ) (f : Γ → Option β) : Γ → Option (Fl Γ S ρ) := fun γ => (f γ).bind fun v => (g γ).bind fun k => if (o.get γ).length < 100000 then some (.nx (o.set γ (putB (o.get γ) (KeyOf.key k) v))) else none
theorem vs_dput (o : OwnD i Γ β) {x : Str} {p1 p2 : Pos} {g : Γ → Option κ} {f : Γ → Option β} (hu : X.A.units + 1 < cLine) (hk : VE X a g) (hv : VE X e f) (hN : X.N[i]? = some x := by rfl) (hvs : Vis X.env.scope x := by first | exact Or.inl rfl | exact Or.inr (Or.inl rfl) | exact Or.inr (Or.inr rfl)) (hd : (x == ("__debug__" : Str)) = false := by decide)
    (hcd : (x == ("__classdict__" : Str)) = false := by decide) (hs : swapsWith e (some (.Subscript (.Name x p1) a p2)) pos.line X.env = pure false := by rfl) : VS X S R (.Assign [.Subscript (.Name x p1) a p2] e pos) (sdput (S := S) o g f) :=
  PS.le (ps_dput hu (pe_var hN hvs hd hcd) hk hv hs) fun D σ H ⟨F, G, L, γ, p, r, wd, nd, he, ha, ea, k⟩ => by
    unfold sdput at ea
    cases e1 : f γ with
    | none => rw [e1] at ea; cases ea
    | some v =>
      rw [e1] at ea
      simp only [Option.bind_some] at ea
      cases e2 : g γ with
      | none => rw [e2] at ea; cases ea
      | some n =>
        rw [e2] at ea
        simp only [Option.bind_some] at ea
        split at ea
        case isFalse => cases ea
        rename_i hlen
        cases ea
        refine ⟨F, G, L, γ, v, wd, he, e1, fun vv G2 H2 x2 w2 r2 => ?_⟩
        obtain ⟨q, vs, k1, k2, k3, k4, k5⟩ := o.ok (EnvR.mono x2 he)
        refine ⟨.ref q, k1, F, G2, L, γ, n, w2, EnvR.mono x2 he, e2, fun vi G3 H3 x3 w3 r3 => ?_⟩
        refine ⟨q, _, rfl, .inl ⟨vs, KeyOf.key n, w3.f _ _ k3, KeyOf.of r3, by rw [← paired_len k4]; exact Nat.lt_of_lt_of_le hlen line_ge, rfl⟩, ?_⟩
        exact k σ L _ G3 _ (x2.trans x3) (w3.set k3) nd (fun b u hb e => by rw [upd_ne (fun z => hb (by rw [z]; exact k2))]; exact e) Sub.refl (k5 x3 (rk_put (Rep.mono x3 r2) (rk_mono x3 k4))) ha
/-- list(d), d of one's own -/
def keysOf {β κ : Type} [Rep κ] [KeyOf κ] : List (Key × β) → Option (List κ)
  | [] => some []
  | x :: d => (KeyOf.ofK x.1).bind fun k => (keysOf d).map (k :: ·)
theorem keys_rep {K : PySem.W.Frag} {G : Hp} : ∀ {d : List (Key × β)} {kvs : List (Key × V)} {ks : List κ}, PySem.Paired (RK K G) d kvs → keysOf d = some ks → PySem.Paired (rep K G) ks (kvs.map fun kv => kV kv.1)
  | _, _, _, .nil, h => by
    cases h
    exact .nil
  | x :: d, y :: kvs, ks, .cons r t, h => by
    unfold keysOf at h
    cases e1 : (KeyOf.ofK x.1 : Option κ) with
    | none => rw [e1] at h; cases h
    | some k =>
      rw [e1] at h
      simp only [Option.bind_some] at h
      cases e2 : (keysOf d : Option (List κ)) with
      | none => rw [e2] at h; cases h
      | some ks' =>
        rw [e2] at h
        cases h
        rw [List.map_cons]
        refine .cons ?_ (keys_rep t e2)
        have := KeyOf.back (K := K) (G := G) e1
        rw [r.1] at this
        exact this
def fkeys (κ : Type) [Rep κ] [KeyOf κ] (o : OwnD i Γ β) : Γ → Option (List κ) := fun γ => keysOf (o.get γ)
theorem vf_keys (κ : Type) [Rep κ] [KeyOf κ] (o : OwnD i Γ β) {x : Str} {p1 p2 : Pos} (hc : X.calm = true) (hm : X.mg "list" = none) (hN : X.N[i]? = some x := by rfl) (hvs : Vis X.env.scope x := by first | exact Or.inl rfl | exact Or.inr (Or.inl rfl) | exact Or.inr (Or.inr rfl)) (hd : (x == ("__debug__" : Str)) = false := by decide)
    (hcd : (x == ("__classdict__" : Str)) = false := by decide) (hg : Gl X "list" := by rfl) (hb : bootBuiltins "list" = some (.type "list") := by decide +kernel) (he : starEach [.Name x p1] X.env = (false, eval (.Name x p1) X.env) :: starEach [] X.env := by rfl) (hpl : (backTo pos (starEach [] X.env)).any (·.1) = false := by rfl) :
    VF X (.Call (.Name "list" p2) [.Name x p1] [] pos) (fkeys κ o) := PE.le (pe_callTy (call_listD hc) hg hm hb (pa_cons (pe_var hN hvs hd hcd) pa_nil he) (he := he) (hpl := hpl)) fun σ H Q ⟨F, G, L, γ, z, w, hh, ea, q⟩ => by
  obtain ⟨p, vs, k1, k2, k3, k4, k5⟩ := o.ok hh
  refine ⟨.ref p, k1, p, vs, rfl, .inl (w.f _ _ k3), fun l hl => ?_⟩
  obtain ⟨w2, r2⟩ := rf_new w hl (keys_rep k4 ea)
  exact q _ _ _ (Ex.refl G) w2 r2
end
end Vx
namespace Vx
open Rep (rep)
open EnvR (er)
open PySem PySem.Spec PyProof.Rows L2
section
variable {Γ : Type} [EnvR Γ] {α β δ : Type} {X : Cx} {a b e : Expr} {p p2 q pos : Pos}
/-- a[i] -/
theorem vo_ix {r : L2.R2} {R1 : RR α} {R2 : RR β} {R3 : RR δ} {φ : α → β → Option δ} {f : Γ → Option α} {g : Γ → Option β} (hi : IxR X r) (o : Op2 r R1 R2 R3 φ) (mo : RMono R1) (ha : VO X a R1 f) (hb : VO X b R2 g) (hs : NoSl b := by intro _ _; rfl) : VO X (.Subscript a b pos) R3 (f2 φ f g) :=
  PE.le (pe_ix hi ha hb hs) fun σ H Q h => tev2 o mo h
theorem mo_ix {r : L2.R2} {R1 : RR α} {R2 : RR β} {R3 : RR δ} {φ : α → β → Option δ} {f : Γ → Option (α × Γ)} {g : Γ → Option (β × Γ)} (hi : IxR X r) (o : Op2 r R1 R2 R3 φ) (mo : MMono R1) (ha : MO X a R1 f) (hb : MO X b R2 g) (hs : NoSl b := by intro _ _; rfl) : MO X (.Subscript a b pos) R3 (m2 φ f g) :=
  PE.le (pe_ix hi ha hb hs) fun σ H Q h => tem2 o mo h
/-- sorted(set(..)) -/
def ss (xs : List Str) : Option (List Str) := if xs.length ≤ 4000 then some (srt (ded [] xs)) else none
theorem vf_ssL {f : Γ → Option (List Str)} (hc : X.calm = true) (hu : X.A.units + 64 < cLine) (hm : X.mg "sorted" = none) (hm2 : X.mg "set" = none) (ha : VL X a f) (hg : Gl X "sorted" := by rfl) (hg2 : Gl X "set" := by rfl) (na : starEach [a] X.env = (false, eval a X.env) :: starEach [] X.env := by rfl) :
    VF X (.Call (.Name "sorted" p) [.Call (.Name "set" p2) [a] [] q] [] pos) (f1 ss f) := PE.le (pe_sortSet hc hu hm hm2 ha hg hg2 na) fun σ H Q ⟨F, G, L, γ, z, w, he, ea, k⟩ => by
  unfold f1 at ea
  cases e1 : f γ with
  | none => rw [e1] at ea; cases ea
  | some xs =>
    rw [e1] at ea
    simp only [Option.bind_some, ss] at ea
    split at ea
    · rename_i hl
      cases ea
      refine ⟨F, G, L, γ, xs, w, he, e1, fun v G2 H2 x2 w2 r2 => ?_⟩
      obtain ⟨l, vs, h1, h2, h3⟩ := rl_at w2 r2
      rw [strs_of h3] at h2
      exact ⟨xs, .inl ⟨l, h1, .inl (.inl h2)⟩, hl, fun n hn => let ⟨w3, r3⟩ := rf_new w2 hn (of_strs (K := X.K) (G := G2)); k _ _ _ x2 w3 r3⟩
    · cases ea
theorem vf_ssS {f : Γ → Option Str} (hc : X.calm = true) (hu : X.A.units + 64 < cLine) (hm : X.mg "sorted" = none) (hm2 : X.mg "set" = none) (ha : VE X a f) (hg : Gl X "sorted" := by rfl) (hg2 : Gl X "set" := by rfl) (na : starEach [a] X.env = (false, eval a X.env) :: starEach [] X.env := by rfl) :
    VF X (.Call (.Name "sorted" p) [.Call (.Name "set" p2) [a] [] q] [] pos) (f1 (fun t => ss (signs t)) f) := PE.le (pe_sortSet hc hu hm hm2 ha hg hg2 na) fun σ H Q ⟨F, G, L, γ, z, w, he, ea, k⟩ => by
  unfold f1 at ea
  cases e1 : f γ with
  | none => rw [e1] at ea; cases ea
  | some xs =>
    rw [e1] at ea
    simp only [Option.bind_some, ss] at ea
    split at ea
    · rename_i hl
      cases ea
      exact ⟨F, G, L, γ, xs, w, he, e1, fun v G2 H2 x2 w2 r2 => ⟨signs xs, .inr (.inr ⟨xs, r2, rfl⟩), hl, fun n hn => let ⟨w3, r3⟩ := rf_new w2 hn (of_strs (K := X.K) (G := G2)); k _ _ _ x2 w3 r3⟩⟩
    · cases ea
/-- a fresh list, drawn, kept as it is -/
theorem mo_keep [Rep α] {f : Γ → Option (List α × Γ)} (h : MO X e (RF X.K) f) : ME X e f := PE.le h fun σ H Q ⟨F, G, L, γ, a, γ', w, he, ea, q⟩ =>
  ⟨F, G, L, γ, a, γ', w, he, ea, fun v F2 G2 H2 e2 w2 o2 h2 ⟨p, vs, h1, hf, hg, hh, hr⟩ => by
    have ex : Ex G2 (upd G2 p (.lst vs)) := Ex.upd hg
    refine q v F2 (upd G2 p (.lst vs)) H2 (e2.trans ex) ⟨fun a o z => ?_, w2.f, fun a o z => ?_⟩ o2 (EnvR.mono ex h2) ⟨p, vs, h1, upd_same, Paired.mono (fun _ _ r => Rep.mono ex r) hr⟩
    · by_cases hap : a = p
      · subst hap
        rw [upd_same] at z
        rw [← z]
        exact hh
      · rw [upd_ne hap] at z
        exact w2.g a o z
    · have hap : a ≠ p := fun y => by
        rw [y, hf] at z
        cases z
      rw [upd_ne hap]
      exact w2.d a o z⟩
def srtL (a : List Str × Unit) : Option (List Str) := if a.1.length ≤ 100000 then some (srt a.1) else none
abbrev rSrt (K : PySem.W.Frag) : List V → Hp → VK → Prop := fun vs H Q => ∃ (b : Addr) (xs : List Str), vs = [.ref b] ∧ SqL K H b (xs.map V.str) ∧ xs.length ≤ 100000 ∧ ∀ p, H p = none → Q (.ref p) (upd H p (.lst ((srt xs).map V.str)))
theorem o_srtL {K : PySem.W.Frag} : OpA (rSrt K) K (RF K) srtL := fun F G H a y vs Q w r e k => by
  obtain ⟨v, h1, p, us, h2, h3, h4⟩ := rl1 r
  unfold srtL at e
  split at e
  · rename_i hl
    cases e
    subst h2
    rw [strs_of h4] at h3
    exact ⟨p, a.1, h1, .inl (.inl (w.g _ _ h3)), hl, fun l hl => let ⟨w2, r2⟩ := rf_new w hl (of_strs (K := K) (G := G)); k _ _ _ (Ex.refl G) w2 r2⟩
  · cases e
end
section
variable {Γ Γ' S ρ : Type} [EnvR Γ] [EnvR Γ'] [Md S] {X : Cx} {R : RR ρ} {sts : List Stmt}
theorem vss_never : VSs X S R sts (snever (Γ := Γ) (Γ' := Γ') (S := S)) := PSs.le (pss_never (X := X)) fun D σ H ⟨F, G, L, γ, p, r, wd, nd, he, ha, ea, k⟩ => by cases ea
end
end Vx
namespace Vx
open Rep (rep)
open EnvR (er)
open PySem PySem.Spec PyProof.Rows L2
/-- a def that stands at the top under its name -/
def Tf (K : PySem.W.Frag) (mg : Str → Option Value) (x : Str) (st : Stmt) (ps : List Str) : Prop := ∃ f fd, Fun K x x st f fd ∧ mg x = some (.ref f) ∧ Binds K fd ps []
/-- .. and keeps its promise -/
def Df (P : Program) (w : World) (K : PySem.W.Frag) (mg : Str → Option Value) (base : Heap) (x : Str) (st : Stmt) (k : Nat) (ps : List Str) (sp : Sp) : Prop :=
  ∃ f fd, Fun K x x st f fd ∧ mg x = some (.ref f) ∧ Binds K fd ps [] ∧ GnOk P w K mg base k f fd ps sp
section
variable {P : Program} {w : World} {K : PySem.W.Frag} {mg : Str → Option Value} {base : Heap} {x : Str} {st : Stmt} {N ps : List Str} {k n : Nat} {A ρ α Γ Γ' : Type} [RepL A] [EnvR Γ] [EnvR Γ'] [Rep ρ] [Rep α]
abbrev BodyD (P : Program) (w : World) (K : PySem.W.Frag) (mg : Str → Option Value) (base : Heap) (N : List Str) (x : Str) (st : Stmt) (k : Nat) (C : Cx → Prop) : Prop := BodyOk P w K mg base N x st k C
theorem df_F (T : Tf K mg x st ps) (S : FnScope N ps (defScope st)) (I : Ini A Γ n) {b : Γ → Option (Fl Γ' Unit ρ)} (body : BodyD P w K mg base N x st k fun X => VSs X Unit (RE K) (defBody st) b) (hn : N.length = RepL.n A + n := by rfl) (hp : RepL.n A = ps.length := by rfl) :
    Df P w K mg base x st (k + 1) ps (spF K fun a => runF b (I.ini a)) := by
  obtain ⟨f, fd, F, hm, hb⟩ := T
  exact ⟨f, fd, F, hm, hb, ok_F F S I hn hp body⟩
theorem df_U (T : Tf K mg x st ps) (S : FnScope N ps (defScope st)) (I : Ini A Γ n) {b : Γ → Option (Fl Γ' Unit Unit)} (body : BodyD P w K mg base N x st k fun X => VSs X Unit (RE K) (defBody st) b) (hn : N.length = RepL.n A + n := by rfl) (hp : RepL.n A = ps.length := by rfl) :
    Df P w K mg base x st (k + 1) ps (spF K fun a => runU b (I.ini a)) := by
  obtain ⟨f, fd, F, hm, hb⟩ := T
  exact ⟨f, fd, F, hm, hb, ok_U F S I hn hp body⟩
theorem df_N (T : Tf K mg x st ps) (S : FnScope N ps (defScope st)) (I : Ini A Γ n) {b : Γ → Option (Fl Γ' Unit (List α))} (body : BodyD P w K mg base N x st k fun X => VSs X Unit (RF K) (defBody st) b) (hn : N.length = RepL.n A + n := by rfl) (hp : RepL.n A = ps.length := by rfl) :
    Df P w K mg base x st (k + 1) ps (spN K fun a => runF b (I.ini a)) := by
  obtain ⟨f, fd, F, hm, hb⟩ := T
  exact ⟨f, fd, F, hm, hb, ok_N F S I hn hp body⟩
theorem df_M (T : Tf K mg x st ps) (S : FnScope N ps (defScope st)) (I : Ini A Γ n) {b : OL Int × Γ → Option (Fl Γ' (List Int) ρ)} (body : BodyD P w K mg base N x st k fun X => VSs X (List Int) (RE K) (defBody st) b) (hn : N.length = RepL.n A + 1 + n := by rfl) (hp : RepL.n A + 1 = ps.length := by rfl) :
    Df P w K mg base x st (k + 1) ps (spM K fun s a => runM b (im I s a)) := by
  obtain ⟨f, fd, F, hm, hb⟩ := T
  exact ⟨f, fd, F, hm, hb, ok_M F S I hn hp body⟩
end
theorem rm {k j : Nat} {A : Around} (r : Room k A) (h : j ≤ k := by decide) : Room j A := r.mono h
theorem un60 {k : Nat} {A : Around} (r : Room k A) : A.units + 60 < cLine := by
  have := r.un
  omega
theorem un64 {k : Nat} {A : Around} (r : Room k A) : A.units + 64 < cLine := by
  have := r.un
  omega
theorem un1 {k : Nat} {A : Around} (r : Room k A) : A.units + 1 < cLine := by
  have := r.un
  omega
section
variable {Γ : Type} [EnvR Γ] {X : Cx} {A A1 A2 ρ α : Type} [RepL A] [RepL A1] [RepL A2] [Rep ρ] [Rep α] {k : Nat} {st : Stmt} {psn ks : List Str} {x : Str} {pp pos : Pos} {e : Expr} {es : List Expr} {kws : List Keyword} {n1 : Nat} {π : List Nat}
theorem vd_call {m : A → Option ρ} {g : Γ → Option A} (D : Df X.prog X.w X.K X.mg X.base x st k psn (spF X.K m)) (hgd : X.A.guards = some []) (hr : Room k X.A) (ha : VA X (e :: es) g) (hg : Gl X x := by rfl)
    (hdb : (x == ("__debug__" : Str)) = false := by decide) (he : starEach (e :: es) X.env = (false, eval e X.env) :: starEach es X.env := by rfl) (hpl : (backTo pos (starEach es X.env)).any (·.1) = false := by rfl) : VE X (.Call (.Name x pp) (e :: es) [] pos) (f1 m g) := by
  obtain ⟨f, fd, F, hm, hb, G⟩ := D
  exact vg_call G hgd hr hm F.kp hb ha hg hdb he hpl
theorem vd_callN {m : A → Option (List α)} {g : Γ → Option A} (D : Df X.prog X.w X.K X.mg X.base x st k psn (spN X.K m)) (hgd : X.A.guards = some []) (hr : Room k X.A) (ha : VA X (e :: es) g) (hg : Gl X x := by rfl)
    (hdb : (x == ("__debug__" : Str)) = false := by decide) (he : starEach (e :: es) X.env = (false, eval e X.env) :: starEach es X.env := by rfl) (hpl : (backTo pos (starEach es X.env)).any (·.1) = false := by rfl) : VF X (.Call (.Name x pp) (e :: es) [] pos) (f1 m g) := by
  obtain ⟨f, fd, F, hm, hb, G⟩ := D
  exact vf_gcall G hgd hr hm F.kp hb ha hg hdb he hpl
theorem md_call {m : A → Option ρ} {g : Γ → Option (A × Γ)} (D : Df X.prog X.w X.K X.mg X.base x st k psn (spF X.K m)) (hgd : X.A.guards = some []) (hr : Room k X.A) (ha : MA X (e :: es) g) (hg : Gl X x := by rfl)
    (hdb : (x == ("__debug__" : Str)) = false := by decide) (he : starEach (e :: es) X.env = (false, eval e X.env) :: starEach es X.env := by rfl) (hpl : (backTo pos (starEach es X.env)).any (·.1) = false := by rfl) : ME X (.Call (.Name x pp) (e :: es) [] pos) (m1 m g) := by
  obtain ⟨f, fd, F, hm, hb, G⟩ := D
  exact mg_call G hgd hr hm F.kp hb ha hg hdb he hpl
theorem md_draw {m : List Int → A → Option (ρ × List Int)} {g : OL Int × Γ → Option (A × (OL Int × Γ))} {y : Str} {py : Pos} (D : Df X.prog X.w X.K X.mg X.base x st k psn (spM X.K m)) (hgd : X.A.guards = some []) (hr : Room k X.A) (hy : PE X (.Name y py) (tVar 0)) (ha : MA X es g) (hg : Gl X x := by rfl)
    (hdb : (x == ("__debug__" : Str)) = false := by decide) (he : starEach ((.Name y py) :: es) X.env = (false, eval (.Name y py) X.env) :: starEach es X.env := by rfl) (hpl : (backTo pos (starEach es X.env)).any (·.1) = false := by rfl) : ME X (.Call (.Name x pp) (.Name y py :: es) [] pos) (mdr m g) := by
  obtain ⟨f, fd, F, hm, hb, G⟩ := D
  exact mg_draw G hgd hr hm F.kp hb hy ha hg hdb he hpl
theorem ve_gint {n : Int} (h : ∃ t, X.mg x = some (.int n t)) (hg : Gl X x := by rfl) (hd : (x == ("__debug__" : Str)) = false := by decide) : VE X (.Name x pos) (fc (Γ := Γ) n) := by
  obtain ⟨t, h⟩ := h
  exact ve_glob hg h (v := .int n) ⟨t, rfl⟩ (fun _ => rfl) hd
/-- a def that changes nothing is handed a list just made, to be changed: the draw -/
theorem vd_fresh {m : List Int → Unit → Option (ρ × List Int)} {a : Expr} {g : Γ → Option (List Int)} (D : Df X.prog X.w X.K X.mg X.base x st k psn (spM X.K m)) (hgd : X.A.guards = some []) (hr : Room k X.A) (ha : VF X a g) (hg : Gl X x := by rfl)
    (hdb : (x == ("__debug__" : Str)) = false := by decide) (he : starEach [a] X.env = (false, eval a X.env) :: starEach [] X.env := by rfl) (hpl : (backTo pos (starEach [] X.env)).any (·.1) = false := by rfl) : VE X (.Call (.Name x pp) [a] [] pos) (f1 (fun s => (m s ()).map (·.1)) g) := by
  obtain ⟨f, fd, F, hm, hb, Gn⟩ := D
  exact PE.le (ge_call Gn hgd hr hm F.kp hb (pa_cons ha pa_nil he) hg hdb he hpl) fun σ H Q ⟨F, G, L, γ, r, w, hh, ea, q⟩ => by
    unfold f1 at ea
    cases e1 : g γ with
    | none => rw [e1] at ea; cases ea
    | some s =>
      rw [e1] at ea
      simp only [Option.bind_some] at ea
      cases e2 : m s () with
      | none => rw [e2] at ea; cases ea
      | some z =>
        obtain ⟨r', s'⟩ := z
        rw [e2] at ea
        cases ea
        refine ⟨F, G, L, γ, s, w, hh, e1, fun v G2 H2 x2 w2 ⟨p, vs, h1, hF, hG, hH, hr⟩ => ?_⟩
        rw [ints_of hr] at hH
        refine ⟨upd F p (.lst (s.map V.int)), G2, p, [], s, (), r', s', by rw [h1], w2.take hF hG hH, upd_same, rfl, e2, fun v2 F3 G3 H3 x3 w3 hp hoff r3 => ?_⟩
        refine q v2 G3 H3 (x2.trans x3) (w3.less fun a o z => ?_) r3
        have ha : a ≠ p := fun y => by
          rw [y, hF] at z
          cases z
        rw [hoff a ha, upd_ne ha]
        exact z
end
end Vx
/-! the rules that choose slots, said so that what they speak of is known before the slots are read -/
namespace Vx
open Rep (rep)
open EnvR (er)
open PySem PySem.Spec PyProof.Rows L2
section
variable {Γ : Type} [EnvR Γ] {α β τ : Type} [Rep τ] [Rep α] {i : Nat} {Γe : Type} [EnvR Γe]
variable {X : Cx} {elt iter : Expr} {ifs : List Expr} {scope : Scope} {pos tpos : Pos} {x : Str}
theorem mf_lc_ (c : PB i Γ τ Γe) {g : Γ → Option (List τ × Γ)} {t : Γe → Option (Bool × Γe)} {e : Γe → Option (α × Γe)} {fr : Γ → Option (List α × Γ)} (efr : mlc c.p c.b g t e = fr) (hc : X.calm = true) (hN : X.N.Nodup) (hi : MI X (.Name x tpos) iter g) (ok : blkC X.N X.env.scope scope [(x, i)] = true) (hg : ∀ (s : Shared) (H : Hp) (C : Addr) (cl : List (Str × Addr)) (fp : List Addr), PG (X.blk s H scope (compEnvC scope cl C X.env) fp) (.Name x tpos) (gName i)) (ht : ∀ (s : Shared) (H : Hp) (C : Addr) (cl : List (Str × Addr)) (fp : List Addr), MTs (X.blk s H scope (compEnvC scope cl C X.env) fp) ifs t) (he : ∀ (s : Shared) (H : Hp) (C : Addr) (cl : List (Str × Addr)) (fp : List Addr), ME (X.blk s H scope (compEnvC scope cl C X.env) fp) elt e) (hs : ∀ x, foldedSetIterable iter X.env x = pure x := by intro _; rfl) : MO X (.ListComp elt [⟨.Name x tpos, iter, ifs, 0⟩] scope pos) (RF X.K) fr := by
  subst efr
  exact mf_lc c hc hN hi ok hg ht he hs
end
section
variable {Γ : Type} [EnvR Γ] {α β τ : Type} [Rep τ] [Rep α] {i : Nat} {Γe : Type} [EnvR Γe]
variable {X : Cx} {elt iter : Expr} {ifs : List Expr} {scope : Scope} {pos tpos : Pos} {x : Str}
theorem vf_lc_ (p : Put i Γ τ Γe) {g : Γ → Option (List τ)} {t : Γe → Option Bool} {e : Γe → Option α} {fr : Γ → Option (List α)} (efr : flc p g t e = fr) (hc : X.calm = true) (hN : X.N.Nodup) (hi : VI X (.Name x tpos) iter g) (ok : blkC X.N X.env.scope scope [(x, i)] = true) (hg : ∀ (s : Shared) (H : Hp) (C : Addr) (cl : List (Str × Addr)) (fp : List Addr), PG (X.blk s H scope (compEnvC scope cl C X.env) fp) (.Name x tpos) (gName i)) (ht : ∀ (s : Shared) (H : Hp) (C : Addr) (cl : List (Str × Addr)) (fp : List Addr), VTs (X.blk s H scope (compEnvC scope cl C X.env) fp) ifs t) (he : ∀ (s : Shared) (H : Hp) (C : Addr) (cl : List (Str × Addr)) (fp : List Addr), VE (X.blk s H scope (compEnvC scope cl C X.env) fp) elt e) (hs : ∀ x, foldedSetIterable iter X.env x = pure x := by intro _; rfl) : VF X (.ListComp elt [⟨.Name x tpos, iter, ifs, 0⟩] scope pos) fr := by
  subst efr
  exact vf_lc p hc hN hi ok hg ht he hs
end
section
variable {Γ Γ' Γ'' S ρ : Type} [EnvR Γ] [EnvR Γ'] [EnvR Γ''] [Md S] {α β τ : Type}
variable {X : Cx} {R : RR ρ} {e a b c : Expr} {pos : Pos} {st : Stmt} {sts : List Stmt}
theorem vs_set_ {i : Nat} [Rep α] (pt : Put i Γ α Γ') {x : Str} {pos' : Pos} {f : Γ → Option α} {fr : Γ → Option (Fl Γ' S ρ)} (efr : sset (S := S) pt f = fr) (hN : X.N.Nodup) (h : VE X e f) (hi : X.N[i]? = some x := by rfl) (hx : Loc X.env.scope x := by first | exact Or.inl rfl | exact Or.inr rfl) (ho : Md.okI S i = true := by rfl) (hs : swapsWith e (some (.Name x pos')) pos.line X.env = pure false := by rfl) (hf : X.fn x = true ∨ X.env.scope.names.lookup x = some .local := by first | exact .inl rfl | exact .inr rfl) : VS X S R (.Assign [.Name x pos'] e pos) fr := by
  subst efr
  exact vs_set pt hN h hi hx ho hs hf
end
section
variable {Γ Γ' Γ'' S ρ : Type} [EnvR Γ] [EnvR Γ'] [EnvR Γ''] [Md S] {α β τ : Type}
variable {X : Cx} {R : RR ρ} {e a b c : Expr} {pos : Pos} {st : Stmt} {sts : List Stmt}
theorem vs_setM_ {i : Nat} [Rep α] (pt : Put i Γ α Γ') {x : Str} {pos' : Pos} {f : Γ → Option (α × Γ)} {fr : Γ → Option (Fl Γ' S ρ)} (efr : ssetm (S := S) pt f = fr) (hN : X.N.Nodup) (h : ME X e f) (hi : X.N[i]? = some x := by rfl) (hx : Loc X.env.scope x := by first | exact Or.inl rfl | exact Or.inr rfl) (ho : Md.okI S i = true := by rfl) (hs : swapsWith e (some (.Name x pos')) pos.line X.env = pure false := by rfl) (hf : X.fn x = true ∨ X.env.scope.names.lookup x = some .local := by first | exact .inl rfl | exact .inr rfl) : VS X S R (.Assign [.Name x pos'] e pos) fr := by
  subst efr
  exact vs_setM pt hN h hi hx ho hs hf
end
section
variable {Γ Γ' Γ'' Γd S ρ : Type} [EnvR Γ] [EnvR Γ'] [EnvR Γ''] [EnvR Γd] [Md S] {α β τ : Type} [Rep α] [Rep τ]
variable {X : Cx} {R : RR ρ} {e a b c : Expr} {pos : Pos} {st : Stmt} {sts : List Stmt} {i : Nat}
theorem vs_new_ (pt : PutO i Γ α Γ') {x : Str} {pos' : Pos} {f : Γ → Option (List α)} {fr : Γ → Option (Fl Γ' S ρ)} (efr : snew (S := S) pt f = fr) (hN : X.N.Nodup) (h : VF X e f) (hi : X.N[i]? = some x := by rfl) (hx : Loc X.env.scope x := by first | exact Or.inl rfl | exact Or.inr rfl) (ho : Md.okI S i = true := by rfl) (hs : swapsWith e (some (.Name x pos')) pos.line X.env = pure false := by rfl) (hf : X.fn x = true ∨ X.env.scope.names.lookup x = some .local := by first | exact .inl rfl | exact .inr rfl) : VS X S R (.Assign [.Name x pos'] e pos) fr := by
  subst efr
  exact vs_new pt hN h hi hx ho hs hf
end
section
variable {Γ Γ' Γ'' Γd S ρ : Type} [EnvR Γ] [EnvR Γ'] [EnvR Γ''] [EnvR Γd] [Md S] {α β τ : Type} [Rep α] [Rep τ]
variable {X : Cx} {R : RR ρ} {e a b c : Expr} {pos : Pos} {st : Stmt} {sts : List Stmt} {i : Nat}
theorem vs_app_ (o : Own i Γ α Γd) {f : Γ → Option (α × Γ)} {x : Str} {p1 p2 p3 : Pos} {fr : Γ → Option (Fl Γ S ρ)} (efr : sapp (S := S) o f = fr) (h : ME X e f) (hN : X.N[i]? = some x := by rfl) (hv : Vis X.env.scope x := by first | exact Or.inl rfl | exact Or.inr (Or.inl rfl) | exact Or.inr (Or.inr rfl)) (hd : (x == ("__debug__" : Str)) = false := by decide) (hcd : (x == ("__classdict__" : Str)) = false := by decide) (hpe : ∀ t, PA X [e] t → PE X (.Call (.Attribute (.Name x p1) "append" p2) [e] [] p3) (tBM X.K "list" rAppend (tVar i) t)) (hs : swapsWith (.Call (.Attribute (.Name x p1) "append" p2) [e] [] p3) none pos.line X.env = pure false := by rfl) (he : starEach [e] X.env = (false, eval e X.env) :: starEach [] X.env := by rfl) : VS X S R (.Expr (.Call (.Attribute (.Name x p1) "append" p2) [e] [] p3) pos) fr := by
  subst efr
  exact vs_app o h hN hv hd hcd hpe hs he
end
section
variable {Γ Γ1 Γ2 Γd S ρ : Type} [EnvR Γ] [EnvR Γ1] [EnvR Γ2] [EnvR Γd] [Md S] {α β τ : Type} [Rep α] [Rep β]
variable {X : Cx} {R : RR ρ} {e a b c : Expr} {pos : Pos} {i j : Nat}
theorem vs_set1_ (o : Own i Γ α Γd) {f : Γ → Option α} {g : Γ → Option Int} {x : Str} {p1 p2 : Pos} {fr : Γ → Option (Fl Γ S ρ)} (efr : sset1 (S := S) o g f = fr) (hv : VE X e f) (hg : VE X a g) (hN : X.N[i]? = some x := by rfl) (hvs : Vis X.env.scope x := by first | exact Or.inl rfl | exact Or.inr (Or.inl rfl) | exact Or.inr (Or.inr rfl)) (hd : (x == ("__debug__" : Str)) = false := by decide) (hcd : (x == ("__classdict__" : Str)) = false := by decide) (hs : swapsWithSole [.Subscript (.Name x p1) a p2] e pos.line X.env = pure false := by rfl) (hw : swappedStores [.Subscript (.Name x p1) a p2] e X.env = pure none := by rfl) (h1 : (assignEach [.Subscript (.Name x p1) a p2] X.env).map (·.2) = [assign (.Subscript (.Name x p1) a p2) X.env] := by rfl) (hasg : ∀ v, assign (.Subscript (.Name x p1) a p2) X.env v = (do
      let ov ← holding [v] (eval (.Name x p1) X.env)
      let iv ← holding [v, ov] (eval a X.env)
      standAt p2
      holding [v, ov, iv] (setItem ov iv v)
      release [v, ov, iv] []) := by intro _; rfl) : VS X S R (.Assign [.Subscript (.Name x p1) a p2] e pos) fr := by
  subst efr
  exact vs_set1 o hv hg hN hvs hd hcd hs hw h1 hasg
end
section
variable {Γ Γ1 Γ2 Γd S ρ : Type} [EnvR Γ] [EnvR Γ1] [EnvR Γ2] [EnvR Γd] [Md S] {α β τ : Type} [Rep α] [Rep β]
variable {X : Cx} {R : RR ρ} {e a b c : Expr} {pos : Pos} {i j : Nat}
theorem vs_dm_ (o : Own i Γ Int Γd) (pt : Put j Γ Int Γ1) {n : Int} {f : Γ → Option (Int × Int × Unit)} {x y : Str} {p1 p2 p3 p4 p5 p6 p7 : Pos} {kt jc} {fr : Γ → Option (Fl Γ1 S ρ)} (efr : sdm (S := S) o pt n f = fr) (hc : X.calm = true) (hNd : X.N.Nodup) (ha : VA X [a, b] f) (hm : X.mg "divmod" = none) (hg : Gl X "divmod" := by rfl) (hb : bootBuiltins "divmod" = some (.builtin "divmod") := by decide +kernel) (hN : X.N[i]? = some x := by rfl) (hvs : Vis X.env.scope x := by first | exact Or.inl rfl | exact Or.inr (Or.inl rfl) | exact Or.inr (Or.inr rfl)) (hd : (x == ("__debug__" : Str)) = false := by decide) (hcd : (x == ("__classdict__" : Str)) = false := by decide) (hj : X.N[j]? = some y := by rfl) (hy : Loc X.env.scope y := by first | exact Or.inl rfl | exact Or.inr rfl) (hf : X.fn y = true ∨ X.env.scope.names.lookup y = some .local := by first | exact .inl rfl | exact .inr rfl) (ho : Md.okI S j = true := by rfl) (he : starEach [a, b] X.env = (false, eval a X.env) :: starEach [b] X.env := by rfl) (hpl : (backTo p7 (starEach [b] X.env)).any (·.1) = false := by rfl) (hasg : ∀ v, assign (.Subscript (.Name x p1) (.Constant (.int n) jc p2) p3) X.env v = (do
      let ov ← holding [v] (eval (.Name x p1) X.env)
      let iv ← holding [v, ov] (eval (.Constant (.int n) jc p2) X.env)
      standAt p3
      holding [v, ov, iv] (setItem ov iv v)
      release [v, ov, iv] []) := by intro _; rfl) (hs1 : (assignEach [.Subscript (.Name x p1) (.Constant (.int n) jc p2) p3, .Name y p4] X.env).map (·.2) = assign (.Subscript (.Name x p1) (.Constant (.int n) jc p2) p3) X.env :: (assignEach [.Name y p4] X.env).map (·.2) := by rfl) (hs2 : (assignEach [.Name y p4] X.env).map (·.2) = assign (.Name y p4) X.env :: (assignEach [] X.env).map (·.2) := by rfl) (hln : (assignEach [.Subscript (.Name x p1) (.Constant (.int n) jc p2) p3, .Name y p4] X.env).length = 2 := by rfl) (hst : (assignEach [.Subscript (.Name x p1) (.Constant (.int n) jc p2) p3, .Name y p4] X.env).findIdx? (·.1) = none := by rfl) (hs : swapsWithSole [.Tuple [.Subscript (.Name x p1) (.Constant (.int n) jc p2) p3, .Name y p4] kt p5] (.Call (.Name "divmod" p6) [a, b] [] p7) pos.line X.env = pure false := by rfl) (hw : swappedStores [.Tuple [.Subscript (.Name x p1) (.Constant (.int n) jc p2) p3, .Name y p4] kt p5] (.Call (.Name "divmod" p6) [a, b] [] p7) X.env = pure none := by rfl) (h1 : (assignEach [.Tuple [.Subscript (.Name x p1) (.Constant (.int n) jc p2) p3, .Name y p4] kt p5] X.env).map (·.2) = [assign (.Tuple [.Subscript (.Name x p1) (.Constant (.int n) jc p2) p3, .Name y p4] kt p5) X.env] := by rfl) : VS X S R (.Assign [.Tuple [.Subscript (.Name x p1) (.Constant (.int n) jc p2) p3, .Name y p4] kt p5] (.Call (.Name "divmod" p6) [a, b] [] p7) pos) fr := by
  subst efr
  exact vs_dm o pt hc hNd ha hm hg hb hN hvs hd hcd hj hy hf ho he hpl hasg hs1 hs2 hln hst hs hw h1
end
section
variable {Γ : Type} [EnvR Γ] {β κ τ : Type} [Rep β] [Rep κ] [KeyOf κ] [Rep τ] {X : Cx} {a b : Expr} {pos : Pos} {i j : Nat}
variable {Γ1 Γ2 : Type} [EnvR Γ1] [EnvR Γ2] {α1 α2 : Type} [Rep α1] [Rep α2]
variable {kx vx iter : Expr} {scope : Scope} {tpos px py : Pos} {x y : Str} {k0 : Nat}
theorem ve_dc_ (p1 : Put i Γ α1 Γ1) (p2 : Put j Γ1 α2 Γ2) {g : Γ → Option (List (T2 α1 α2))} {kf : Γ2 → Option κ} {vf : Γ2 → Option β} {fr : Γ → Option (Dct β)} (efr : fdc p1 p2 g kf vf = fr) (hc : X.calm = true) (hN : X.N.Nodup) (hi : VI X (.Tuple [.Name x px, .Name y py] k0 tpos) iter g) (ok : blkC X.N X.env.scope scope [(x, i), (y, j)] = true) (hg : ∀ (s : Shared) (H : Hp) (C : Addr) (cl : List (Str × Addr)) (fp : List Addr), PG (X.blk s H scope (compEnvC scope cl C X.env) fp) (.Tuple [.Name x px, .Name y py] k0 tpos) (gPair X.K i j)) (hk : ∀ (s : Shared) (H : Hp) (C : Addr) (cl : List (Str × Addr)) (fp : List Addr), VE (X.blk s H scope (compEnvC scope cl C X.env) fp) kx kf) (hv : ∀ (s : Shared) (H : Hp) (C : Addr) (cl : List (Str × Addr)) (fp : List Addr), VE (X.blk s H scope (compEnvC scope cl C X.env) fp) vx vf) (hij : i ≠ j := by decide) (hs : ∀ x, foldedSetIterable iter X.env x = pure x := by intro _; rfl) : VE X (.DictComp kx vx [⟨.Tuple [.Name x px, .Name y py] k0 tpos, iter, [], 0⟩] scope pos) fr := by
  subst efr
  exact ve_dc p1 p2 hc hN hi ok hg hk hv hij hs
end
section
variable {Γ Γ' S ρ : Type} [EnvR Γ] [EnvR Γ'] [Md S] {β κ : Type} [Rep β] [Rep κ] [KeyOf κ]
variable {X : Cx} {R : RR ρ} {e a b c : Expr} {pos : Pos} {i : Nat}
theorem vs_newD_ (pt : PutD i Γ β Γ') {x : Str} {pos' dpos : Pos} {g : Γ → Option κ} {f : Γ → Option β} {fr : Γ → Option (Fl Γ' S ρ)} (efr : snewD (S := S) pt g f = fr) (hN : X.N.Nodup) (h1 : VE X a g) (h2 : VE X b f) (hi : X.N[i]? = some x := by rfl) (hx : Loc X.env.scope x := by first | exact Or.inl rfl | exact Or.inr rfl) (ho : Md.okI S i = true := by rfl) (hs : swapsWith (.Dict [some a] [b] dpos) (some (.Name x pos')) pos.line X.env = pure false := by rfl) (hf : X.fn x = true ∨ X.env.scope.names.lookup x = some .local := by first | exact .inl rfl | exact .inr rfl) : VS X S R (.Assign [.Name x pos'] (.Dict [some a] [b] dpos) pos) fr := by
  subst efr
  exact vs_newD pt hN h1 h2 hi hx ho hs hf
end
section
variable {Γ Γ' S ρ : Type} [EnvR Γ] [EnvR Γ'] [Md S] {β κ : Type} [Rep β] [Rep κ] [KeyOf κ]
variable {X : Cx} {R : RR ρ} {e a b c : Expr} {pos : Pos} {i : Nat}
theorem vs_dput_ (o : OwnD i Γ β) {x : Str} {p1 p2 : Pos} {g : Γ → Option κ} {f : Γ → Option β} {fr : Γ → Option (Fl Γ S ρ)} (efr : sdput (S := S) o g f = fr) (hu : X.A.units + 1 < cLine) (hk : VE X a g) (hv : VE X e f) (hN : X.N[i]? = some x := by rfl) (hvs : Vis X.env.scope x := by first | exact Or.inl rfl | exact Or.inr (Or.inl rfl) | exact Or.inr (Or.inr rfl)) (hd : (x == ("__debug__" : Str)) = false := by decide) (hcd : (x == ("__classdict__" : Str)) = false := by decide) (hs : swapsWith e (some (.Subscript (.Name x p1) a p2)) pos.line X.env = pure false := by rfl) : VS X S R (.Assign [.Subscript (.Name x p1) a p2] e pos) fr := by
  subst efr
  exact vs_dput o hu hk hv hN hvs hd hcd hs
end
section
variable {Γ Γ' S ρ : Type} [EnvR Γ] [EnvR Γ'] [Md S] {β κ : Type} [Rep β] [Rep κ] [KeyOf κ]
variable {X : Cx} {R : RR ρ} {e a b c : Expr} {pos : Pos} {i : Nat}
theorem vf_keys_ (κ : Type) [Rep κ] [KeyOf κ] (o : OwnD i Γ β) {x : Str} {p1 p2 : Pos} {fr : Γ → Option (List κ)} (efr : fkeys κ o = fr) (hc : X.calm = true) (hm : X.mg "list" = none) (hN : X.N[i]? = some x := by rfl) (hvs : Vis X.env.scope x := by first | exact Or.inl rfl | exact Or.inr (Or.inl rfl) | exact Or.inr (Or.inr rfl)) (hd : (x == ("__debug__" : Str)) = false := by decide) (hcd : (x == ("__classdict__" : Str)) = false := by decide) (hg : Gl X "list" := by rfl) (hb : bootBuiltins "list" = some (.type "list") := by decide +kernel) (he : starEach [.Name x p1] X.env = (false, eval (.Name x p1) X.env) :: starEach [] X.env := by rfl) (hpl : (backTo pos (starEach [] X.env)).any (·.1) = false := by rfl) : VF X (.Call (.Name "list" p2) [.Name x p1] [] pos) fr := by
  subst efr
  exact vf_keys κ o hc hm hN hvs hd hcd hg hb he hpl
end
section
variable {Γ Γh Γe S ρ τ : Type} [EnvR Γ] [EnvR Γh] [EnvR Γe] [Md S] [Rep τ] {X : Cx} {R : RR ρ} {target iter : Expr} {body : List Stmt} {pos : Pos} {i : Nat}
theorem vs_forn (w : Wk Γ Γh) (p : Put i Γh τ Γe) {g : Γ → Option (List τ)} {f : Γe → Option (Fl Γh S ρ)} {fr : Γ → Option (Fl Γh S ρ)} (efr : sfor (S := S) w p.put g f = fr) (hp : PassesOwn (model X.prog X.w) X.A X.env X.xe) (hc : X.calm = true) (hi : VI X target iter g) (hg : PG X target (gName i)) (hb : VSs X S R body f)
    (ho : Md.okI S i = true := by rfl) (hs : ∀ x, foldedSetIterable iter X.env x = pure x := by intro _; rfl) : VS X S R (.For target iter body [] pos) fr := by
  subst efr
  exact vs_for w (tgName p ho) hp hc hi hg hb hs
theorem vs_fornM (w : Wk Γ Γh) (p : Put i Γh τ Γe) {g : Γ → Option (List τ × Γ)} {f : Γe → Option (Fl Γh S ρ)} {fr : Γ → Option (Fl Γh S ρ)} (efr : sform (S := S) w p.put g f = fr) (hp : PassesOwn (model X.prog X.w) X.A X.env X.xe) (hc : X.calm = true) (hi : MI X target iter g) (hg : PG X target (gName i)) (hb : VSs X S R body f)
    (ho : Md.okI S i = true := by rfl) (hs : ∀ x, foldedSetIterable iter X.env x = pure x := by intro _; rfl) : VS X S R (.For target iter body [] pos) fr := by
  subst efr
  exact vs_forM w (tgName p ho) hp hc hi hg hb hs
end
section
variable {Γ Γh Γ1 Γe S ρ α β : Type} [EnvR Γ] [EnvR Γh] [EnvR Γ1] [EnvR Γe] [Md S] [Rep α] [Rep β] {X : Cx} {R : RR ρ} {target iter : Expr} {body : List Stmt} {pos : Pos} {i j : Nat}
theorem vs_forp (w : Wk Γ Γh) (p1 : Put i Γh α Γ1) (p2 : Put j Γ1 β Γe) {g : Γ → Option (List (T2 α β))} {f : Γe → Option (Fl Γh S ρ)} {fr : Γ → Option (Fl Γh S ρ)} (efr : sfor (S := S) w (fun γ t => p2.put (p1.put γ t.a) t.b) g f = fr) (hp : PassesOwn (model X.prog X.w) X.A X.env X.xe) (hc : X.calm = true) (hi : VI X target iter g) (hg : PG X target (gPair X.K i j)) (hb : VSs X S R body f)
    (ho : Md.okI S i = true := by rfl) (ho' : Md.okI S j = true := by rfl) (hs : ∀ x, foldedSetIterable iter X.env x = pure x := by intro _; rfl) : VS X S R (.For target iter body [] pos) fr := by
  subst efr
  exact vs_for w (tgPair p1 p2 ho ho') hp hc hi hg hb hs
end
end Vx
namespace Vx
open Rep (rep)
open EnvR (er)
open PySem PySem.Spec PyProof.Rows L2
section
variable {Γ Γ' Γe S ρ α τ : Type} [EnvR Γ] [EnvR Γ'] [EnvR Γe] [Md S] [Rep α] [Rep τ] {X : Cx} {R : RR ρ} {elt iter : Expr} {ifs : List Expr} {scope : Scope} {pos tpos spos py : Pos} {x y : Str} {i j : Nat}
/-- name = [..], the name a plain local: the machine stores from within -/
theorem vs_setLc (pt : Put i Γ (List α) Γ') (p : Put j Γ τ Γe) {g : Γ → Option (List τ)} {t : Γe → Option Bool} {e : Γe → Option α} {fr : Γ → Option (Fl Γ' S ρ)} (efr : sset (S := S) pt (flc p g t e) = fr) (hc : X.calm = true) (hN : X.N.Nodup) (hi : VI X (.Name x tpos) iter g) (ok : blkC X.N X.env.scope scope [(x, j)] = true)
    (hg : ∀ (s : Shared) (H : Hp) (C : Addr) (cl : List (Str × Addr)) (fp : List Addr), PG (X.blk s H scope (compEnvC scope cl C X.env) fp) (.Name x tpos) (gName j))
    (ht : ∀ (s : Shared) (H : Hp) (C : Addr) (cl : List (Str × Addr)) (fp : List Addr), VTs (X.blk s H scope (compEnvC scope cl C X.env) fp) ifs t)
    (he : ∀ (s : Shared) (H : Hp) (C : Addr) (cl : List (Str × Addr)) (fp : List Addr), VE (X.blk s H scope (compEnvC scope cl C X.env) fp) elt e)
    (hsw : swapsWith (.ListComp elt [⟨.Name x tpos, iter, ifs, 0⟩] scope pos) (some (.Name y py)) spos.line X.env = pure true := by rfl) (hn : X.N[i]? = some y := by rfl) (hyl : X.env.scope.names.lookup y = some .local := by rfl) (ho : Md.okI S i = true := by rfl) (hs : ∀ x, foldedSetIterable iter X.env x = pure x := by intro _; rfl) :
    VS X S R (.Assign [.Name y py] (.ListComp elt [⟨.Name x tpos, iter, ifs, 0⟩] scope pos) spos) fr := by
  subst efr
  exact PS.le (ps_setLc (own := [(x, j)]) (g := gName j) hc hN hn hyl hsw hi (blkOk_by ok) hg ht he hs) fun D σ H ⟨F, G, L, γ, q, r, wd, nd, hh, ha, ea, k⟩ => by
    unfold sset at ea
    cases e1 : flc p g t e γ with
    | none => rw [e1] at ea; cases ea
    | some z =>
      rw [e1] at ea
      cases ea
      refine tlcp (σ := σ) (Q := fun v H1 => D.nx (σ.set i (some v)) H1) ⟨F, G, L, γ, z, wd, hh, e1, fun v G2 H2 x2 w2 ⟨c, vs, h1, hF, hG, hH, hr⟩ => ?_⟩
      have ex : Ex G2 (upd G2 c (.lst vs)) := Ex.upd hG
      have w3 : W F (upd G2 c (.lst vs)) H2 := ⟨fun a o u => by
        by_cases hap : a = c
        · subst hap
          rw [upd_same] at u
          rw [← u]
          exact hH
        · rw [upd_ne hap] at u
          exact w2.g a o u, w2.f, fun a o u => by
        have hap : a ≠ c := fun b => by
          rw [b, hF] at u
          cases u
        rw [upd_ne hap]
        exact w2.d a o u⟩
      exact k _ L F _ H2 (x2.trans ex) w3 nd Off.refl Sub.refl (pt.ok (EnvR.mono (x2.trans ex) hh) ⟨c, vs, h1, upd_same, Paired.mono (fun _ _ u => Rep.mono ex u) hr⟩) (Md.keep ho ha)
end
end Vx
namespace Vx
open Rep (rep)
open EnvR (er)
open PySem PySem.Spec PyProof.Rows L2
section
variable {P : Program} {w : World} {K : PySem.W.Frag} {mg mB : Str → Option Value} {k : Nat} {fl pa : Addr} {fd : FuncData} {x : Str} {s0 : Shared} {us : List Value} {zs : List Int} {m : Scr × Unit → Option Bool}
/-- the script's cell is all that is followed -/
theorem end_core (kin : K.In s0.heap) (n1 : s0.heap.Ns mainGlobals mg) (n2 : s0.heap.Ns builtinsNs mB) (n3 : ∀ y : Str, y ≠ "__name__" → mB y = bootBuiltins y) (n4 : s0.heap.NoLimit) (n5 : s0.gens = #[])
    (cell : s0.heap.get? pa = some { cls := .type "list", data := .seq us.toArray }) (room : Room k callerA) (Fn : ∀ b : Heap, K.In b → b.Ns mainGlobals mg → GnOk P w K mg b k fl fd [x] (spF K m))
    (bnd : ∀ (s : Shared) (u : Value), BindsTo s fd ⟨[u], []⟩ [(x, u)]) (ans : m (⟨zs⟩, ()) = some true) {T : Hp} (t1 : Only T) (t2 : SqL K T pa (zs.map V.int)) (t3 : HOk P w T s0.heap) (t4 : ∀ b, T b ≠ none → b = pa) (t5 : T pa ≠ none → K.lookup pa = none) :
    codeAny (model P w) callerA (.call (.ref fl) ⟨[.ref pa], []⟩) (fun r s' => r = .ok (.ret (.bool true)) ∧ OldK s0.heap s'.heap ∧ s'.os = s0.os ∧ AllBare s'.gens) s0 := by
  have only : ∀ {b : Addr}, T b ≠ none → b = pa := fun {b} => t4 b
  have free : ∀ {b : Addr} {o : Obj} {es : Array DictEntry} {ep : Nat}, s0.heap.get? b = some o → o.data = .dict es ep → T b = none := by
    intro b o es ep e d
    by_cases q : T b = none
    · exact q
    · have z := only q
      subst z
      rw [cell] at e
      cases e
      have d' : Data.seq us.toArray _ = Data.dict es ep := d
      cases d'
  have names : ∀ {b : Addr} {g : Str → Option Value}, s0.heap.Ns b g → (hidT s0.heap T).Ns b g := by
    intro b g ⟨o, es, ep, e, d, r⟩
    exact ⟨o, es, ep, hidT_get e (free e d), d, r⟩
  have kinT : K.In (hidT s0.heap T) := by
    intro b o e
    refine hidT_get (kin b o e) ?_
    by_cases q : T b = none
    · exact q
    · have z := only q
      subst z
      rw [t5 q] at e
      cases e
  have lim : (hidT s0.heap T).NoLimit := by
    obtain ⟨c, h1, h2⟩ := n4
    exact ⟨c, names h1, h2⟩
  have md : Mod K mg (hidT s0.heap T) := ⟨kinT, names n1, ⟨mB, names n2, n3⟩, lim⟩
  have ev : Env0 P w K mg (hidT s0.heap T) callerA [] s0 T := by
    refine ⟨rfl, md, fun b o e => of_hidT e, Nat.le_of_eq (hidT_size _ _), trivial, fun b hb => ?_, t3, .of_eq n5⟩
    exact absurd (show b ∈ ([] : List Addr) from hb) (by simp)
  have ask : spF K m [.ref pa] T (fun v _ => v = .bl true) E0 := by
    refine ⟨fun _ => none, T, (⟨zs⟩, ()), true, ⟨Ex.refl T, (fun a o h => by cases (show (none : Option HO) = some o from h)), (fun a o h => by cases (show (none : Option HO) = some o from h))⟩, ⟨.ref pa, [], rfl, ⟨pa, rfl, t2⟩, rfl⟩, ans, ?_⟩
    intro v G2 H2 _ _ r
    exact r
  have go := (Fn _ kinT (names n1)).run callerA [] s0 T ⟨[.ref pa], []⟩ [.ref pa] [.ref pa] _ rfl room ev (bnd s0 (.ref pa)) (.cons rfl .nil) ask
  refine codeAny_mono go ?_
  intro r s' h
  cases r with
  | error e => exact (show False from h).elim
  | ok f =>
    cases f with
    | next => exact (show False from h).elim
    | brk => exact (show False from h).elim
    | cont => exact (show False from h).elim
    | ret u =>
      obtain ⟨v, T', h1, h2, un, hok', h3, h4⟩ := h
      have e4 : v = .bl true := h4
      subst e4
      have e5 : u = Value.bool true := h3
      subst e5
      refine ⟨rfl, OldK.of_keep ?_, h1, h2⟩
      intro b o e
      by_cases q : T b = none
      · exact un.keep b o e q (by intro z; exact absurd (show b ∈ ([] : List Addr) from z) (by simp)) (by simp)
      · rcases t1 b with z | ⟨ob, xs, z⟩
        · exact absurd z q
        · have e1 := (t3 b _ z).1
          have e2 := (hok' b _ (un.frzs b ob _ z)).1
          rw [e] at e1
          cases e1
          exact e2
theorem end_call (kin : K.In s0.heap) (n1 : s0.heap.Ns mainGlobals mg) (n2 : s0.heap.Ns builtinsNs mB) (n3 : ∀ y : Str, y ≠ "__name__" → mB y = bootBuiltins y) (n4 : s0.heap.NoLimit) (n5 : s0.gens = #[])
    (cell : s0.heap.get? pa = some { cls := .type "list", data := .seq us.toArray }) (hints : IntsAre us zs) (few : zs.length ≤ sizeLine) (room : Room k callerA) (Fn : ∀ b : Heap, K.In b → b.Ns mainGlobals mg → GnOk P w K mg b k fl fd [x] (spF K m))
    (bnd : ∀ (s : Shared) (u : Value), BindsTo s fd ⟨[u], []⟩ [(x, u)]) (ans : m (⟨zs⟩, ()) = some true) :
    codeAny (model P w) callerA (.call (.ref fl) ⟨[.ref pa], []⟩) (fun r s' => r = .ok (.ret (.bool true)) ∧ OldK s0.heap s'.heap ∧ s'.os = s0.os ∧ AllBare s'.gens) s0 := by
  have rel := vals_ints hints
  have len := hints.length
  cases at_ : K.lookup pa with
  | some o =>
    have e := kin pa o at_
    rw [cell] at e
    cases e
    refine end_core (T := fun _ => none) kin n1 n2 n3 n4 n5 cell room Fn bnd ans (fun _ => .inl rfl) (.inr ⟨_, us.toArray, _, at_, rfl, rfl, rfl, ?_, by simpa using rel⟩) (fun b u z => by cases (show (none : Option HO) = some u from z)) (fun b z => absurd rfl z) (fun z => absurd rfl z)
    rw [List.size_toArray, len]
    exact few
  | none =>
    let T : Hp := fun b => if b = pa then some (.frz { cls := .type "list", data := .seq us.toArray } (.lst (zs.map V.int))) else none
    have Ty : T pa = some (.frz { cls := .type "list", data := .seq us.toArray } (.lst (zs.map V.int))) := if_pos rfl
    have Tn : ∀ b, b ≠ pa → T b = none := fun b hb => if_neg hb
    refine end_core (T := T) kin n1 n2 n3 n4 n5 cell room Fn bnd ans (fun b => ?_) (.inl (.inr ⟨_, Ty⟩)) (fun b u z => ?_) (fun b z => ?_) (fun _ => at_)
    · by_cases hb : b = pa
      · subst hb
        exact .inr ⟨_, _, Ty⟩
      · exact .inl (Tn b hb)
    · by_cases hb : b = pa
      · subst hb
        rw [Ty] at z
        cases z
        exact ⟨cell, by rw [List.length_map]; exact few, us, _, rel, cell⟩
      · rw [Tn b hb] at z
        cases z
    · by_cases hb : b = pa
      · exact hb
      · exact absurd (Tn b hb) z
end
/-- the law by its mirror -/
theorem vwalk {l : PySem.W.OpenLaw} {n k : Nat} {q : Program} {loose : List Str} {XP : (Str → Option Value) → Heap → Prop} {YP : World → Heap → Prop} {d : DefRec} {K : Params → PySem.W.Frag} {x : Str} {m : Scr × Unit → Option Bool}
    (h1 : l.most = some n) (h2 : n ≤ sizeLine) (h3 : d.params.defaults = []) (room : Room k callerA) (hY : ∀ (w : World) (h : Heap), YP w h → (K w.params).In h)
    (F : ∀ (w : World) (mg : Str → Option Value) (fa : Addr) (h : Heap), (K w.params).In h → h.Ns mainGlobals mg → mg d.name = some (.ref fa) → ∃ fd : FuncData, (∀ (s : Shared) (u : Value), BindsTo s fd ⟨[u], []⟩ [(x, u)]) ∧
      ∀ b : Heap, (K w.params).In b → b.Ns mainGlobals mg → GnOk l.prog w (K w.params) mg b k fa fd [x] (spF (K w.params) m))
    (ans : ∀ zs : List Int, zs.length ≤ n → m (⟨zs⟩, ()) = some true) : PySem.W.WalkO q loose XP YP l.row.toRowW d [] (fun f vs => PySem.call f vs) := by
  refine Att.attach_call h1 h3 ?_
  intro w s₀ s₁ mg mb fa o pm cd doc a vs ns G Y ho hd hcd hmg hobj hints hlen hg
  have kin := hY w _ Y
  obtain ⟨fd, hb, hF⟩ := F w mg fa _ kin G.T.g hmg
  exact end_call kin G.T.g G.T.b G.T.builtins G.T.nolimit hg hobj hints (Nat.le_trans hlen h2) room hF hb (ans ns hlen)
end Vx
/-! objects: made, asked by a property, by a method; the defs beneath keep their promise where no repr is under way -/
namespace Vx
open Rep (rep)
open EnvR (er)
open PySem PySem.Spec PyProof.Rows L2
section
variable {X : Cx} {k : Nat} {f g C q : Addr} {fd : FuncData} {ps : List Str} {sp : Sp} {x m : Str} {p pos apos : Pos} {e o : Expr} {es : List Expr} {t : TA} {ta : TE}
theorem ge_make (M : Mk X.K C f) (F : GnOk X.prog X.w X.K X.mg X.base k f fd ps sp) (hgd : X.A.guards = some []) (hr : Room (k + 1) X.A) (hm : X.mg x = some (.ref C)) (hb : Binds X.K fd ps []) (ha : PA X (e :: es) t) (hg : Gl X x := by rfl)
    (hdb : (x == ("__debug__" : Str)) = false := by decide) (he : starEach (e :: es) X.env = (false, eval e X.env) :: starEach es X.env := by rfl) (hpl : (backTo pos (starEach es X.env)).any (·.1) = false := by rfl) :
    PE X (.Call (.Name x p) (e :: es) [] pos) (fun σ H Q => t σ H fun vs H1 => ∀ y dx, H1 y = none → H1 dx = none → dx ≠ y → sp (.ref y :: vs) (upd (upd H1 dx (.own y)) y (.ins C dx [])) (fun v H2 => v = .non ∧ Q (.ref y) H2) E0) := by
  constructor
  intro pins s σ H Q I h
  apply wpAny_Call_Name_kw
  apply ld_glob I hg hm (hd := hdb)
  refine PySem.W.callWith_K (h₀ := X.base) I.ok.mod.kin M.kp (thn (ha.run pos pins s σ H _ I h) ?_) he hpl
  intro us s1 ⟨vs, H1, I1, r, h1⟩
  constructor
  · exact I1.kIn
  have want := h1 (s1.heap.objs.size + 1) s1.heap.objs.size (I1.hok.fresh (Nat.le_succ _)) (I1.hok.fresh (Nat.le_refl _)) (Nat.ne_of_lt (Nat.lt_succ_self _))
  have I2 := Inv.made (C := C) I1
  have r2 : Vals (V.ref (s1.heap.objs.size + 1) :: vs) (Value.ref (s1.heap.objs.size + 1) :: us) := .cons rfl r
  have hl : (Value.ref (s1.heap.objs.size + 1) :: us).length = ps.length := by
    rw [← r2.length]
    exact F.len _ _ _ _ want
  have bt := hb _ (Value.ref (s1.heap.objs.size + 1) :: us) I2.kIn (by rw [List.append_nil]; exact hl)
  rw [List.append_nil] at bt
  apply wpAny_call
  refine make_map (f := f) I1.kIn M.makes M.init (beq_iff_eq.mp M.fn) (codeAny_mono (F.run _ X.stack _ _ ⟨Value.ref (s1.heap.objs.size + 1) :: us, []⟩ _ _ _ hgd (hr.make C us []) (I2.env0.make C us []) bt r2 want) ?_)
  intro r s' z
  cases r with
  | error _ => exact (show False from z).elim
  | ok fl =>
    cases fl with
    | ret u =>
      obtain ⟨v, H', I3, rv, ev, q3⟩ := I2.after z
      subst ev
      exact ⟨rv, V.ref (s1.heap.objs.size + 1), H', I3, rfl, q3⟩
    | next => exact (show False from z).elim
    | brk => exact (show False from z).elim
    | cont => exact (show False from z).elim
theorem ge_prop (he : PE X e ta) (c : Cls X.K C) (hp : PropOf X.K C m q g) (F : GnOk X.prog X.w X.K X.mg X.base k g fd ps sp) (hgd : X.A.guards = some []) (hr : Room (k + 1) X.A) (hb : Binds X.K fd ps []) (hab : attributeBase e m X.env (eval e X.env) = eval e X.env := by rfl) :
    PE X (.Attribute e m pos) (fun σ H Q => ta σ H fun v H1 => ∃ a dx fs, v = .ref a ∧ H1 a = some (.ins C dx fs) ∧ sp [.ref a] H1 Q E0) := by
  constructor
  intro pins s σ H Q I h
  refine attr_of hab (thn (he.run pins s σ H _ I h) ?_)
  intro u s1 ⟨v, H1, I0, rx, a, dx, fs, ex, ea, want⟩
  subst ex
  have eu : u = Value.ref a := rx
  subst eu
  obtain ⟨mA, O, _⟩ := ins_get I0.hok ea
  obtain ⟨od, J, _⟩ := O.look
  obtain ⟨rest, hrec⟩ := hp.rec_
  have I1 := I0.tok (s1.toks + 1)
  have hl : [Value.ref a].length = ps.length := by
    have := F.len _ _ _ _ want
    exact this
  have hc : (PySem.W.clsIn X.K C).isSome = true := by
    obtain ⟨cd, hc, _⟩ := PySem.W.any_some c.hd
    rw [hc]
    rfl
  have bt := hb { s1 with toks := s1.toks + 1 } [.ref a] I1.kIn (by rw [List.append_nil]; exact hl)
  rw [List.append_nil] at bt
  refine PySem.W.get_bind I0.kIn J (PySem.W.plainGet_of (c.get m)).1 (PySem.W.findObj_data hc hp.at_ hp.get hp.tak) (PySem.W.plainGet_of (c.get m)).2 (wpAny_call (PySem.W.prop_get (s := { s1 with toks := s1.toks + 1 }) I0.kIn hrec ?_))
  refine codeAny_mono (F.run X.A.in1 X.stack { s1 with toks := s1.toks + 1 } H1 ⟨[.ref a], []⟩ [.ref a] [.ref a] _ hgd hr.in1 I1.env0.in1 bt (.cons rfl .nil) want) ?_
  intro r s' z
  cases r with
  | error _ => exact (show False from z).elim
  | ok fl =>
    cases fl with
    | ret u =>
      obtain ⟨w', H', I3, rv, q3⟩ := I1.after z
      show wpAny _ _ (handedOut u) _ _ _
      rw [PySem.W.handedOut_of (handed_of rv)]
      exact wpAny_pure ⟨w', H', I3, rv, q3⟩
    | next => exact (show False from z).elim
    | brk => exact (show False from z).elim
    | cont => exact (show False from z).elim
theorem ge_meth {pl : Sem Bool} (he : PE X o ta) (c : Cls X.K C) (hm : Meth X.K C m f) (F : GnOk X.prog X.w X.K X.mg X.base k f fd ps sp) (hgd : X.A.guards = some []) (hr : Room k X.A) (hb : Binds X.K fd ps []) (ha : PA X (e :: es) t)
    (hst : starEach (e :: es) X.env = (false, eval e X.env) :: starEach es X.env := by rfl) (hpl : (backTo pos (starEach es X.env)).any (·.1) = false := by rfl)
    (ht : eval (.Call (.Attribute o m apos) (e :: es) [] pos) X.env = (do
      let ov ← eval o X.env
      standAt apos.atName
      let (fn, first) ← holding [ov] (getMethod ov m pl)
      callWith pos fn first (backTo pos (starEach (e :: es) X.env)) (backToKw pos (keywordEach [] X.env))) := by rfl) :
    PE X (.Call (.Attribute o m apos) (e :: es) [] pos) (fun σ H Q => ta σ H fun v H1 => ∃ a dx fs, v = .ref a ∧ H1 a = some (.ins C dx fs) ∧ fs.lookup m = none ∧ t σ H1 fun vs H2 => sp (.ref a :: vs) H2 Q E0) := by
  constructor
  intro pins s σ H Q I h
  refine PySem.W.methodCall_KW (pl := pl) (thn (he.run pins s σ H _ I h) ?_) ht
  intro u s1 ⟨v, H1, I1, rx, a, dx, fs, ex, ea, l, h1⟩
  subst ex
  have eu : u = Value.ref a := rx
  subst eu
  refine getmeth_ok I1 ea c hm l ?_
  refine PySem.W.callWith_K (first := [.ref a]) (h₀ := X.base) I.ok.mod.kin hm.kp (thn (ha.run pos pins s1 σ H1 _ I1 h1) ?_) hst hpl
  intro us s2 ⟨vs, H2, I2, r, want⟩
  constructor
  · exact I2.kIn
  have r2 : Vals (V.ref a :: vs) (Value.ref a :: us) := .cons rfl r
  have hl : (Value.ref a :: us).length = ps.length := by
    rw [← r2.length]
    exact F.len _ _ _ _ want
  have bt := hb s2 (Value.ref a :: us) I2.kIn (by rw [List.append_nil]; exact hl)
  rw [List.append_nil] at bt
  apply wpAny_call
  apply codeAny_mono (g_run F hgd hr bt I2 r2 want)
  intro r s' z
  cases r with
  | error _ => exact z.elim
  | ok fl => cases fl <;> first | exact z | exact z.elim
end
end Vx
/-! closers, as they stand in the heap -/
namespace Vx
open Rep (rep)
open EnvR (er)
open PySem PySem.Spec PyProof.Rows L2
structure Clo where
  things : Str
  closed : Tup Str
  around : List (Key × Str)
def ClsAt (K : PySem.W.Frag) (C : Addr) : Prop := PySem.W.nsIn K mainGlobals "Closer" = some (some (.ref C))
theorem ClsAt.one {K : PySem.W.Frag} {C C' : Addr} (h : ClsAt K C) (k : ClsAt K C') : C = C' := by
  unfold ClsAt at h k
  rw [h] at k
  cases k
  rfl
/-- the fields, as __init__ lays them -/
def cfl (a b c : V) : List (Str × V) := putF "_around" c (putF "_closed" b (putF "_things" a []))
theorem cf_ne1 : ¬ (("_things" : Str) = "_closed") := by decide +kernel
theorem cf_ne2 : ¬ (("_things" : Str) = "_around") := by decide +kernel
theorem cf_ne3 : ¬ (("_closed" : Str) = "_around") := by decide +kernel
theorem cfl_t (a b c : V) : (cfl a b c).lookup ("_things" : Str) = some a := by
  unfold cfl
  rw [lookup_putF, if_neg cf_ne2, lookup_putF, if_neg cf_ne1, lookup_putF, if_pos rfl]
theorem cfl_c (a b c : V) : (cfl a b c).lookup ("_closed" : Str) = some b := by
  unfold cfl
  rw [lookup_putF, if_neg cf_ne3, lookup_putF, if_pos rfl]
theorem cfl_a (a b c : V) : (cfl a b c).lookup ("_around" : Str) = some c := by
  unfold cfl
  rw [lookup_putF, if_pos rfl]
theorem cfl_no (a b c : V) {m : Str} (h1 : ¬ m = "_things") (h2 : ¬ m = "_closed") (h3 : ¬ m = "_around") : (cfl a b c).lookup m = none := by
  unfold cfl
  rw [lookup_putF, if_neg h3, lookup_putF, if_neg h2, lookup_putF, if_neg h1]
  rfl
instance : Rep Clo := ⟨fun K G c v => ∃ p C dx vc va, v = .ref p ∧ ClsAt K C ∧ G p = some (.ins C dx (cfl (.str c.things) vc va)) ∧ Rep.rep K G c.closed vc ∧ Rep.rep K G (⟨c.around⟩ : Dct Str) va,
  fun e ⟨p, C, dx, vc, va, h1, h2, h3, h4, h5⟩ => ⟨p, C, dx, vc, va, h1, h2, e _ _ h3, Rep.mono e h4, Rep.mono e h5⟩⟩
section
variable {Γ : Type} [EnvR Γ] {X : Cx} {e : Expr} {pos : Pos} {C : Addr}
theorem ve_fT {f : Γ → Option Clo} (h : VE X e f) (at_ : ClsAt X.K C) (c : Cls X.K C) (n : NoAttr X.K C "_things") (hb : attributeBase e "_things" X.env (eval e X.env) = eval e X.env := by rfl) : VE X (.Attribute e "_things" pos) (f1 (fun c => some c.things) f) :=
  PE.le (pe_fld h hb) fun σ H Q ⟨F, G, L, γ, z, w, he, ea, q⟩ => by
    unfold f1 at ea
    cases e1 : f γ with
    | none => rw [e1] at ea; cases ea
    | some y =>
      rw [e1] at ea
      cases ea
      refine ⟨F, G, L, γ, y, w, he, e1, fun v G2 H2 x2 w2 ⟨p, C', dx, vc, va, h1, h2, h3, h4, h5⟩ => ?_⟩
      have := at_.one h2
      subst this
      exact ⟨p, C, dx, _, _, h1, w2.g _ _ h3, c, n, cfl_t _ _ _, q _ G2 H2 x2 w2 rfl⟩
theorem ve_fC {f : Γ → Option Clo} (h : VE X e f) (at_ : ClsAt X.K C) (c : Cls X.K C) (n : NoAttr X.K C "_closed") (hb : attributeBase e "_closed" X.env (eval e X.env) = eval e X.env := by rfl) : VE X (.Attribute e "_closed" pos) (f1 (fun c => some c.closed) f) :=
  PE.le (pe_fld h hb) fun σ H Q ⟨F, G, L, γ, z, w, he, ea, q⟩ => by
    unfold f1 at ea
    cases e1 : f γ with
    | none => rw [e1] at ea; cases ea
    | some y =>
      rw [e1] at ea
      cases ea
      refine ⟨F, G, L, γ, y, w, he, e1, fun v G2 H2 x2 w2 ⟨p, C', dx, vc, va, h1, h2, h3, h4, h5⟩ => ?_⟩
      have := at_.one h2
      subst this
      exact ⟨p, C, dx, _, _, h1, w2.g _ _ h3, c, n, cfl_c _ _ _, q _ G2 H2 x2 w2 h4⟩
theorem ve_fA {f : Γ → Option Clo} (h : VE X e f) (at_ : ClsAt X.K C) (c : Cls X.K C) (n : NoAttr X.K C "_around") (hb : attributeBase e "_around" X.env (eval e X.env) = eval e X.env := by rfl) : VE X (.Attribute e "_around" pos) (f1 (fun c => some (⟨c.around⟩ : Dct Str)) f) :=
  PE.le (pe_fld h hb) fun σ H Q ⟨F, G, L, γ, z, w, he, ea, q⟩ => by
    unfold f1 at ea
    cases e1 : f γ with
    | none => rw [e1] at ea; cases ea
    | some y =>
      rw [e1] at ea
      cases ea
      refine ⟨F, G, L, γ, y, w, he, e1, fun v G2 H2 x2 w2 ⟨p, C', dx, vc, va, h1, h2, h3, h4, h5⟩ => ?_⟩
      have := at_.one h2
      subst this
      exact ⟨p, C, dx, _, _, h1, w2.g _ _ h3, c, n, cfl_a _ _ _, q _ G2 H2 x2 w2 h5⟩
variable {ρ A : Type} [Rep ρ] [RepL A] {k : Nat} {g pq fm : Addr} {fd : FuncData} {ps : List Str} {m : Str}
/-- a property, by its mirror -/
theorem ve_prop {f : Γ → Option Clo} {mi : Clo × Unit → Option ρ} (h : VE X e f) (at_ : ClsAt X.K C) (c : Cls X.K C) (hp : PropOf X.K C m pq g) (F : GnOk X.prog X.w X.K X.mg X.base k g fd ps (spF X.K mi)) (hgd : X.A.guards = some []) (hr : Room (k + 1) X.A) (hb : Binds X.K fd ps [])
    (hab : attributeBase e m X.env (eval e X.env) = eval e X.env := by rfl) : VE X (.Attribute e m pos) (f1 (fun c => mi (c, ())) f) :=
  PE.le (ge_prop h c hp F hgd hr hb hab) fun σ H Q ⟨F, G, L, γ, z, w, he, ea, q⟩ => by
    unfold f1 at ea
    cases e1 : f γ with
    | none => rw [e1] at ea; cases ea
    | some y =>
      rw [e1] at ea
      refine ⟨F, G, L, γ, y, w, he, e1, fun v G2 H2 x2 w2 r2 => ?_⟩
      obtain ⟨p, C', dx, vc, va, h1, h2, h3, h4, h5⟩ := id r2
      have := at_.one h2
      subst this
      subst h1
      exact ⟨p, dx, _, rfl, w2.g _ _ h3, F, G2, (y, ()), z, w2, ⟨_, [], rfl, r2, rfl⟩, ea, fun v G3 H3 x3 w3 r3 => q v G3 H3 (x2.trans x3) w3 r3⟩
/-- a method, by its mirror -/
theorem ve_meth {o e : Expr} {es : List Expr} {apos : Pos} {pl : Sem Bool} {f : Γ → Option Clo} {ga : Γ → Option A} {mi : Clo × A → Option ρ} (h : VE X o f) (at_ : ClsAt X.K C) (c : Cls X.K C) (hm : Meth X.K C m fm) (F : GnOk X.prog X.w X.K X.mg X.base k fm fd ps (spF X.K mi)) (hgd : X.A.guards = some []) (hr : Room k X.A) (hb : Binds X.K fd ps []) (ha : VA X (e :: es) ga)
    (n1 : ¬ m = "_things") (n2 : ¬ m = "_closed") (n3 : ¬ m = "_around")
    (hst : starEach (e :: es) X.env = (false, eval e X.env) :: starEach es X.env := by rfl) (hpl : (backTo pos (starEach es X.env)).any (·.1) = false := by rfl)
    (ht : eval (.Call (.Attribute o m apos) (e :: es) [] pos) X.env = (do
      let ov ← eval o X.env
      standAt apos.atName
      let (fn, first) ← holding [ov] (getMethod ov m pl)
      callWith pos fn first (backTo pos (starEach (e :: es) X.env)) (backToKw pos (keywordEach [] X.env))) := by rfl) : VE X (.Call (.Attribute o m apos) (e :: es) [] pos) (f1 mi (fcons f ga)) :=
  PE.le (ge_meth h c hm F hgd hr hb ha hst hpl ht) fun σ H Q ⟨F, G, L, γ, z, w, he, ea, q⟩ => by
    unfold f1 fcons at ea
    cases e1 : f γ with
    | none => rw [e1] at ea; cases ea
    | some y =>
      rw [e1] at ea
      simp only [Option.bind_some] at ea
      cases e2 : ga γ with
      | none => rw [e2] at ea; cases ea
      | some a =>
        rw [e2] at ea
        simp only [Option.bind_some] at ea
        refine ⟨F, G, L, γ, y, w, he, e1, fun v G2 H2 x2 w2 r2 => ?_⟩
        obtain ⟨p, C', dx, vc, va, h1, h2, h3, h4, h5⟩ := id r2
        have := at_.one h2
        subst this
        subst h1
        refine ⟨p, dx, _, rfl, w2.g _ _ h3, cfl_no _ _ _ n1 n2 n3, F, G2, L, γ, a, w2, EnvR.mono x2 he, e2, fun vs G3 H3 x3 w3 r3 => ?_⟩
        exact ⟨F, G3, (y, a), z, w3, ⟨_, vs, rfl, Rep.mono x3 r2, r3⟩, ea, fun v G4 H4 x4 w4 r4 => q v G4 H4 ((x2.trans x3).trans x4) w4 r4⟩
end
end Vx
/-! closers in the making -/
namespace Vx
open Rep (rep)
open EnvR (er)
open PySem PySem.Spec PyProof.Rows L2
/-- the object that __init__ is handed, its fields as far as they are set -/
structure OI0 where
  p : Addr
structure OI1 where
  p : Addr
  things : Str
structure OI2 where
  p : Addr
  things : Str
  closed : Tup Str
structure OI3 where
  p : Addr
  c : Clo
theorem in_one {L : List Addr} {p q : Addr} (h : L = [p]) (hq : q ∈ L) : q = p := by
  rw [h] at hq
  exact List.mem_singleton.mp hq
instance : Slot OI0 := ⟨fun K G F L o t => ∃ C dx, L = [t.p] ∧ o = some (.ref t.p) ∧ ClsAt K C ∧ F t.p = some (.ins C dx []), fun _ h => h, fun {K G F F' L o t} k ⟨C, dx, h1, h2, h3, h4⟩ => ⟨C, dx, h1, h2, h3, by rw [k t.p (by rw [h1]; exact List.mem_singleton.mpr rfl)]; exact h4⟩, fun ⟨C, dx, h1, h2, h3, h4⟩ q hq => by
  rw [in_one h1 hq, h4]
  exact fun z => by cases z⟩
instance : Slot OI1 := ⟨fun K G F L o t => ∃ C dx, L = [t.p] ∧ o = some (.ref t.p) ∧ ClsAt K C ∧ F t.p = some (.ins C dx (putF "_things" (.str t.things) [])), fun _ h => h, fun {K G F F' L o t} k ⟨C, dx, h1, h2, h3, h4⟩ => ⟨C, dx, h1, h2, h3, by rw [k t.p (by rw [h1]; exact List.mem_singleton.mpr rfl)]; exact h4⟩, fun ⟨C, dx, h1, h2, h3, h4⟩ q hq => by
  rw [in_one h1 hq, h4]
  exact fun z => by cases z⟩
instance : Slot OI2 := ⟨fun K G F L o t => ∃ C dx vc, L = [t.p] ∧ o = some (.ref t.p) ∧ ClsAt K C ∧ F t.p = some (.ins C dx (putF "_closed" vc (putF "_things" (.str t.things) []))) ∧ Rep.rep K G t.closed vc, fun e ⟨C, dx, vc, h1, h2, h3, h4, h5⟩ => ⟨C, dx, vc, h1, h2, h3, h4, Rep.mono e h5⟩,
  fun {K G F F' L o t} k ⟨C, dx, vc, h1, h2, h3, h4, h5⟩ => ⟨C, dx, vc, h1, h2, h3, by rw [k t.p (by rw [h1]; exact List.mem_singleton.mpr rfl)]; exact h4, h5⟩, fun ⟨C, dx, vc, h1, h2, h3, h4, h5⟩ q hq => by
  rw [in_one h1 hq, h4]
  exact fun z => by cases z⟩
instance : Slot OI3 := ⟨fun K G F L o t => ∃ C dx vc va, L = [t.p] ∧ o = some (.ref t.p) ∧ ClsAt K C ∧ F t.p = some (.ins C dx (cfl (.str t.c.things) vc va)) ∧ Rep.rep K G t.c.closed vc ∧ Rep.rep K G (⟨t.c.around⟩ : Dct Str) va, fun e ⟨C, dx, vc, va, h1, h2, h3, h4, h5, h6⟩ => ⟨C, dx, vc, va, h1, h2, h3, h4, Rep.mono e h5, Rep.mono e h6⟩,
  fun {K G F F' L o t} k ⟨C, dx, vc, va, h1, h2, h3, h4, h5, h6⟩ => ⟨C, dx, vc, va, h1, h2, h3, by rw [k t.p (by rw [h1]; exact List.mem_singleton.mpr rfl)]; exact h4, h5, h6⟩, fun ⟨C, dx, vc, va, h1, h2, h3, h4, h5, h6⟩ q hq => by
  rw [in_one h1 hq, h4]
  exact fun z => by cases z⟩
/-- what __init__ promises -/
def spI {A : Type} [RepL A] (K : PySem.W.Frag) (m : A → Option Clo) : Sp := fun vs H Q _ => ∃ F G y vs' C dx a r, vs = .ref y :: vs' ∧ W F G H ∧ ClsAt K C ∧ F y = some (.ins C dx []) ∧ RepL.rl K G a vs' ∧ m a = some r ∧
  ∀ dx2 vc va F2 G2 H2, Ex G G2 → W F2 G2 H2 → F2 y = some (.ins C dx2 (cfl (.str r.things) vc va)) → Rep.rep K G2 r.closed vc → Rep.rep K G2 (⟨r.around⟩ : Dct Str) va → (∀ b o, b ≠ y → F b = some o → F2 b = some o) → Q .non H2
section
variable {X : Cx} {A Γ : Type} [RepL A] [EnvR Γ] {k : Nat} {f C : Addr} {fd : FuncData} {ps : List Str} {x : Str} {p pos : Pos} {e : Expr} {es : List Expr}
/-- Closer(..), by the mirror of __init__ -/
theorem ve_make {m : A → Option Clo} {g : Γ → Option A} (M : Mk X.K C f) (at_ : ClsAt X.K C) (F : GnOk X.prog X.w X.K X.mg X.base k f fd ps (spI X.K m)) (hgd : X.A.guards = some []) (hr : Room (k + 1) X.A) (hm : X.mg x = some (.ref C)) (hb : Binds X.K fd ps []) (ha : VA X (e :: es) g) (hg : Gl X x := by rfl)
    (hdb : (x == ("__debug__" : Str)) = false := by decide) (he : starEach (e :: es) X.env = (false, eval e X.env) :: starEach es X.env := by rfl) (hpl : (backTo pos (starEach es X.env)).any (·.1) = false := by rfl) : VE X (.Call (.Name x p) (e :: es) [] pos) (f1 m g) :=
  PE.le (ge_make M F hgd hr hm hb ha hg hdb he hpl) fun σ H Q ⟨F, G, L, γ, z, w, hh, ea, q⟩ => by
    unfold f1 at ea
    cases e1 : g γ with
    | none => rw [e1] at ea; cases ea
    | some a =>
      rw [e1] at ea
      refine ⟨F, G, L, γ, a, w, hh, e1, fun vs G2 H2 x2 w2 r2 y dx hy hd hne => ?_⟩
      have fy := w2.fresh hy
      have fdx := w2.fresh hd
      have w3 : W F G2 (upd H2 dx (.own y)) := ⟨w2.g.trans (Ex.upd hd), w2.f.trans (Ex.upd hd), w2.d⟩
      have hy3 : (upd H2 dx (.own y)) y = none := by rw [upd_ne (Ne.symm hne)]; exact hy
      have w4 := w3.own (o := HO.ins C dx []) hy3
      refine ⟨upd F y (.ins C dx []), G2, y, vs, C, dx, a, z, rfl, w4, at_, upd_same, r2, ea, fun dx2 vc va F5 G5 H5 x5 w5 h5 hc hv off => ⟨rfl, ?_⟩⟩
      have gy : G5 y = none := w5.d y _ h5
      have ex := Ex.upd (o := HO.ins C dx2 (cfl (.str z.things) vc va)) gy
      have w6 : W F (upd G5 y (.ins C dx2 (cfl (.str z.things) vc va))) H5 := (w5.free h5).less fun b o u => by
        have hby : b ≠ y := fun q => by
          rw [q, fy.2] at u
          cases u
        rw [del_ne hby]
        exact off b o hby (by rw [upd_ne hby]; exact u)
      exact q _ _ _ ((x2.trans x5).trans ex) w6 ⟨y, C, dx2, vc, va, rfl, at_, upd_same, Rep.mono ex hc, Rep.mono ex hv⟩
end
end Vx
/-! __init__ of closers: its three stores, its promise -/
namespace Vx
open Rep (rep)
open EnvR (er)
open PySem PySem.Spec PyProof.Rows L2
theorem putF_len (f : Str) (v : V) : ∀ fs : List (Str × V), (putF f v fs).length ≤ fs.length + 1
  | [] => Nat.le_refl _
  | (g, x) :: r => by
    unfold putF
    split
    · exact Nat.le_succ _
    · exact Nat.succ_le_succ (putF_len f v r)
section
variable {Γ Γ' ρ : Type} [EnvR Γ] [EnvR Γ'] {X : Cx} {R : RR ρ} {value : Expr} {pos p1 p2 : Pos} {C : Addr} {x : Str}
/-- self._things = e -/
def sf1 (f : OI0 × Γ → Option Str) : OI0 × Γ → Option (Fl (OI1 × Γ) Unit ρ) := fun γ => (f γ).map fun v => .nx ((⟨γ.1.p, v⟩ : OI1), γ.2)
theorem vs_f1 {f : OI0 × Γ → Option Str} {fr : OI0 × Γ → Option (Fl (OI1 × Γ) Unit ρ)} (efr : sf1 f = fr) (at_ : ClsAt X.K C) (c : Cls X.K C) (n : NoAttr X.K C "_things") (hv : VE X value f) (hN : X.N[0]? = some x := by rfl) (hvs : Vis X.env.scope x := by first | exact Or.inl rfl | exact Or.inr (Or.inl rfl) | exact Or.inr (Or.inr rfl)) (hd : (x == ("__debug__" : Str)) = false := by decide)
    (hcd : (x == ("__classdict__" : Str)) = false := by decide) (hs : swapsWith value (some (.Attribute (.Name x p1) "_things" p2)) pos.line X.env = pure false := by rfl) : VS X Unit R (.Assign [.Attribute (.Name x p1) "_things" p2] value pos) fr := by
  subst efr
  exact PS.le (ps_fld (pe_var hN hvs hd hcd) hv hs) fun D σ H ⟨F, G, L, γ, p, r, wd, nd, he, ha, ea, k⟩ => by
    unfold sf1 at ea
    cases e1 : f γ with
    | none => rw [e1] at ea; cases ea
    | some y =>
      rw [e1] at ea
      cases ea
      refine ⟨F, G, L, γ, y, wd, he, e1, fun v G2 H2 x2 w2 r2 => ?_⟩
      obtain ⟨L1, L2, o, σ', hL, hσ, ⟨C', dx, h1, h2, h3, h4⟩, h5, h6⟩ := EnvR.mono x2 he
      have := at_.one h3
      subst this
      have hp : γ.1.p ∉ L2 := h6 _ (by rw [h1]; exact List.mem_singleton.mpr rfl)
      refine ⟨.ref γ.1.p, by rw [hσ, h2]; rfl, γ.1.p, C, dx, _, rfl, w2.f _ _ h4, c, n, show 0 < 1000 by decide, ?_⟩
      refine k σ L _ G2 _ x2 (w2.set h4) nd (fun b u hb e => by rw [upd_ne (fun z => hb (by rw [z, hL, h1]; exact List.mem_append_left _ (List.mem_singleton.mpr rfl)))]; exact e) Sub.refl ?_ ha
      exact ⟨L1, L2, o, σ', hL, hσ, ⟨C, dx, h1, h2, h3, by cases r2; exact upd_same⟩, EnvR.keep (fun b hb => upd_ne (fun z => hp (by rw [← z]; exact hb))) h5, h6⟩
/-- self._closed = e -/
def sf2 (f : OI1 × Γ → Option (Tup Str)) : OI1 × Γ → Option (Fl (OI2 × Γ) Unit ρ) := fun γ => (f γ).map fun v => .nx ((⟨γ.1.p, γ.1.things, v⟩ : OI2), γ.2)
theorem vs_f2 {f : OI1 × Γ → Option (Tup Str)} {fr : OI1 × Γ → Option (Fl (OI2 × Γ) Unit ρ)} (efr : sf2 f = fr) (at_ : ClsAt X.K C) (c : Cls X.K C) (n : NoAttr X.K C "_closed") (hv : VE X value f) (hN : X.N[0]? = some x := by rfl) (hvs : Vis X.env.scope x := by first | exact Or.inl rfl | exact Or.inr (Or.inl rfl) | exact Or.inr (Or.inr rfl)) (hd : (x == ("__debug__" : Str)) = false := by decide)
    (hcd : (x == ("__classdict__" : Str)) = false := by decide) (hs : swapsWith value (some (.Attribute (.Name x p1) "_closed" p2)) pos.line X.env = pure false := by rfl) : VS X Unit R (.Assign [.Attribute (.Name x p1) "_closed" p2] value pos) fr := by
  subst efr
  exact PS.le (ps_fld (pe_var hN hvs hd hcd) hv hs) fun D σ H ⟨F, G, L, γ, p, r, wd, nd, he, ha, ea, k⟩ => by
    unfold sf2 at ea
    cases e1 : f γ with
    | none => rw [e1] at ea; cases ea
    | some y =>
      rw [e1] at ea
      cases ea
      refine ⟨F, G, L, γ, y, wd, he, e1, fun v G2 H2 x2 w2 r2 => ?_⟩
      obtain ⟨L1, L2, o, σ', hL, hσ, ⟨C', dx, h1, h2, h3, h4⟩, h5, h6⟩ := EnvR.mono x2 he
      have := at_.one h3
      subst this
      have hp : γ.1.p ∉ L2 := h6 _ (by rw [h1]; exact List.mem_singleton.mpr rfl)
      refine ⟨.ref γ.1.p, by rw [hσ, h2]; rfl, γ.1.p, C, dx, _, rfl, w2.f _ _ h4, c, n, show 1 < 1000 by decide, ?_⟩
      refine k σ L _ G2 _ x2 (w2.set h4) nd (fun b u hb e => by rw [upd_ne (fun z => hb (by rw [z, hL, h1]; exact List.mem_append_left _ (List.mem_singleton.mpr rfl)))]; exact e) Sub.refl ?_ ha
      exact ⟨L1, L2, o, σ', hL, hσ, ⟨C, dx, v, h1, h2, h3, upd_same, r2⟩, EnvR.keep (fun b hb => upd_ne (fun z => hp (by rw [← z]; exact hb))) h5, h6⟩
/-- self._around = e -/
def sf3 (f : OI2 × Γ → Option (Dct Str)) : OI2 × Γ → Option (Fl (OI3 × Γ) Unit ρ) := fun γ => (f γ).map fun v => .nx ((⟨γ.1.p, ⟨γ.1.things, γ.1.closed, v.l⟩⟩ : OI3), γ.2)
theorem vs_f3 {f : OI2 × Γ → Option (Dct Str)} {fr : OI2 × Γ → Option (Fl (OI3 × Γ) Unit ρ)} (efr : sf3 f = fr) (at_ : ClsAt X.K C) (c : Cls X.K C) (n : NoAttr X.K C "_around") (hv : VE X value f) (hN : X.N[0]? = some x := by rfl) (hvs : Vis X.env.scope x := by first | exact Or.inl rfl | exact Or.inr (Or.inl rfl) | exact Or.inr (Or.inr rfl)) (hd : (x == ("__debug__" : Str)) = false := by decide)
    (hcd : (x == ("__classdict__" : Str)) = false := by decide) (hs : swapsWith value (some (.Attribute (.Name x p1) "_around" p2)) pos.line X.env = pure false := by rfl) : VS X Unit R (.Assign [.Attribute (.Name x p1) "_around" p2] value pos) fr := by
  subst efr
  exact PS.le (ps_fld (pe_var hN hvs hd hcd) hv hs) fun D σ H ⟨F, G, L, γ, p, r, wd, nd, he, ha, ea, k⟩ => by
    unfold sf3 at ea
    cases e1 : f γ with
    | none => rw [e1] at ea; cases ea
    | some y =>
      rw [e1] at ea
      cases ea
      refine ⟨F, G, L, γ, y, wd, he, e1, fun v G2 H2 x2 w2 r2 => ?_⟩
      obtain ⟨L1, L2, o, σ', hL, hσ, ⟨C', dx, vc, h1, h2, h3, h4, hc⟩, h5, h6⟩ := EnvR.mono x2 he
      have := at_.one h3
      subst this
      have hp : γ.1.p ∉ L2 := h6 _ (by rw [h1]; exact List.mem_singleton.mpr rfl)
      refine ⟨.ref γ.1.p, by rw [hσ, h2]; rfl, γ.1.p, C, dx, _, rfl, w2.f _ _ h4, c, n, Nat.lt_of_le_of_lt (putF_len _ _ _) (Nat.lt_of_le_of_lt (Nat.succ_le_succ (putF_len _ _ _)) (show 2 < 1000 by decide)), ?_⟩
      refine k σ L _ G2 _ x2 (w2.set h4) nd (fun b u hb e => by rw [upd_ne (fun z => hb (by rw [z, hL, h1]; exact List.mem_append_left _ (List.mem_singleton.mpr rfl)))]; exact e) Sub.refl ?_ ha
      exact ⟨L1, L2, o, σ', hL, hσ, ⟨C, dx, vc, v, h1, h2, h3, upd_same, hc, r2⟩, EnvR.keep (fun b hb => upd_ne (fun z => hp (by rw [← z]; exact hb))) h5, h6⟩
end
section
variable {P : Program} {w : World} {K : PySem.W.Frag} {mg : Str → Option Value} {base : Heap} {x qual : Str} {st : Stmt} {f : Addr} {fd : FuncData} {N ps : List Str} {k n : Nat} {A Γ Γ' : Type} [RepL A] [EnvR Γ] [EnvR Γ']
def runI (b : OI0 × Γ → Option (Fl (OI3 × Γ') Unit Unit)) (γ : Γ) : Option Clo := (b (⟨(0 : Nat)⟩, γ)).bind fun r => match r with
  | .nx γ' => some γ'.1.c
  | .rt _ _ => none
/-- the address is of no matter -/
def Blind (b : OI0 × Γ → Option (Fl (OI3 × Γ') Unit Unit)) : Prop := ∀ (γ : Γ) (c : Clo) (q : Addr) (γ' : Γ'), b (⟨(0 : Nat)⟩, γ) = some (.nx (⟨q, c⟩, γ')) → ∀ p : Addr, ∃ δ, b (⟨p⟩, γ) = some (.nx (⟨p, c⟩, δ))
theorem ok_I (F : Fun K x qual st f fd) (S : FnScope N ps (defScope st)) (I : Ini A Γ n) {b : OI0 × Γ → Option (Fl (OI3 × Γ') Unit Unit)} (hb : Blind b) (hn : N.length = RepL.n A + 1 + n) (hp : RepL.n A + 1 = ps.length)
    (body : BodyOk P w K mg base N qual st k fun X => VSs X Unit (RE K) (defBody st) b) : GnOk P w K mg base (k + 1) f fd ps (spI K fun a => runI b (I.ini a)) := by
  apply gn_of F S
  · intro vs H Q E ⟨F, G, y, vs', C, dx, a, r, h0, h1, h2, h3, h4, h5⟩
    rw [← hp, h0, List.length_cons, RepL.len h4]
  · intro cdv A' outer s H vs Q hg hr ⟨F, G, y, vs', C, dx, a, r, h0, h1, h2, h3, h4, h5, h6⟩
    refine ⟨_, body cdv A' outer s H f hg hr, ?_⟩
    have e0 : L2.start N vs = some (.ref y) :: (vs'.map some ++ List.replicate n none) := by
      unfold L2.start
      rw [h0, hn, List.length_cons, RepL.len h4, Nat.add_sub_cancel_left]
      rfl
    rw [e0]
    have h5 : runI b (I.ini a) = some r := h5
    unfold runI at h5
    cases e : b (⟨(0 : Nat)⟩, I.ini a) with
    | none => rw [e] at h5; cases h5
    | some fr =>
      rw [e] at h5
      cases fr with
      | rt z u => cases h5
      | nx γ' =>
        cases h5
        obtain ⟨⟨q, c⟩, γ2⟩ := γ'
        obtain ⟨δ, e2⟩ := hb _ c q γ2 e y
        refine ⟨F, G, [y], (⟨y⟩, I.ini a), 0, .nx (⟨y, c⟩, δ), h1, (by simp), ⟨[y], [], _, _, rfl, rfl, ⟨C, dx, rfl, rfl, h2, h3⟩, I.ok h4, fun _ _ h => by cases h⟩, trivial, e2, ?_⟩
        intro σ' L2 F2 G2 H2 x2 w2 n2 o2 s2 er2 at2
        obtain ⟨M1, M2, o, σ2, hL, hσ, ⟨C', dx', vc, va, g1, g2, g3, g4, g5, g6⟩, g7, g8⟩ := er2
        have := h2.one g3
        subst this
        exact h6 dx' vc va F2 G2 H2 x2 w2 g4 g5 g6 fun b u hby e => o2 b u (fun z => hby (List.mem_singleton.mp z)) e
end
end Vx
namespace Vx
open Rep (rep)
open EnvR (er)
open PySem PySem.Spec PyProof.Rows L2
section
variable {Γ Γ1 Γ2 S ρ : Type} [EnvR Γ] [EnvR Γ1] [EnvR Γ2] [Md S] {α β : Type} [Rep α] [Rep β] {X : Cx} {R : RR ρ} {e : Expr} {pos : Pos} {i j : Nat}
/-- x, y = a pair -/
def sunp (p1 : Put i Γ α Γ1) (p2 : Put j Γ1 β Γ2) (f : Γ → Option (T2 α β)) : Γ → Option (Fl Γ2 S ρ) := fun γ => (f γ).map fun t => .nx (p2.put (p1.put γ t.a) t.b)
theorem vs_unp (p1 : Put i Γ α Γ1) (p2 : Put j Γ1 β Γ2) {x y : Str} {px py pt : Pos} {kt : Nat} {f : Γ → Option (T2 α β)} {fr : Γ → Option (Fl Γ2 S ρ)} (efr : sunp (S := S) p1 p2 f = fr) (hc : X.calm = true) (hN : X.N.Nodup) (h : VE X e f) (hi : X.N[i]? = some x := by rfl) (hj : X.N[j]? = some y := by rfl)
    (hx : Loc X.env.scope x := by first | exact Or.inl rfl | exact Or.inr rfl) (hy : Loc X.env.scope y := by first | exact Or.inl rfl | exact Or.inr rfl) (hfx : X.fn x = true ∨ X.env.scope.names.lookup x = some .local := by first | exact .inl rfl | exact .inr rfl) (hfy : X.fn y = true ∨ X.env.scope.names.lookup y = some .local := by first | exact .inl rfl | exact .inr rfl)
    (h2 : (assignEach [.Name x px, .Name y py] X.env).map (·.2) = assign (.Name x px) X.env :: (assignEach [.Name y py] X.env).map (·.2) := by rfl) (h3 : (assignEach [.Name y py] X.env).map (·.2) = assign (.Name y py) X.env :: (assignEach [] X.env).map (·.2) := by rfl)
    (hln : (assignEach [.Name x px, .Name y py] X.env).length = 2 := by rfl) (hst : (assignEach [.Name x px, .Name y py] X.env).findIdx? (·.1) = none := by rfl)
    (hs : swapsWithSole [.Tuple [.Name x px, .Name y py] kt pt] e pos.line X.env = pure false := by rfl) (hw : swappedStores [.Tuple [.Name x px, .Name y py] kt pt] e X.env = pure none := by rfl)
    (h1 : (assignEach [.Tuple [.Name x px, .Name y py] kt pt] X.env).map (·.2) = [assign (.Tuple [.Name x px, .Name y py] kt pt) X.env] := by rfl) (ho : Md.okI S i = true := by rfl) (ho' : Md.okI S j = true := by rfl) : VS X S R (.Assign [.Tuple [.Name x px, .Name y py] kt pt] e pos) fr := by
  subst efr
  exact PS.le (ps_asg h (pg_tup (n := 2) hc (pgs_cons (pg_name hN hi hx hfx) (pgs_cons (pg_name hN hj hy hfy) pgs_nil h3) h2) hln hst) hs hw h1) fun D σ H ⟨F, G, L, γ, p, r, wd, nd, he, ha, ea, k⟩ => by
    unfold sunp at ea
    cases e1 : f γ with
    | none => rw [e1] at ea; cases ea
    | some t =>
      rw [e1] at ea
      cases ea
      refine ⟨F, G, L, γ, t, wd, he, e1, fun v G2 H2 x2 w2 ⟨q, va, vb, g1, g2, g3, g4⟩ => ?_⟩
      refine ⟨q, _, g1, .inl (.inl (w2.g _ _ g2)), rfl, va, [vb], rfl, vb, [], rfl, rfl, ?_⟩
      exact k _ L F G2 H2 x2 w2 nd Off.refl Sub.refl (p2.ok (p1.ok (EnvR.mono x2 he) g3) g4) (Md.keep ho' (Md.keep ho ha))
/-- x += e, whole numbers -/
def saug (g : Get i Γ Int) (pt : Put i Γ Int Γ1) (f : Γ → Option Int) : Γ → Option (Fl Γ1 S ρ) := fun γ => (f γ).map fun n => .nx (pt.put γ (g.get γ + n))
theorem vs_aug (g : Get i Γ Int) (pt : Put i Γ Int Γ1) {x : Str} {p1 : Pos} {f : Γ → Option Int} {fr : Γ → Option (Fl Γ1 S ρ)} (efr : saug (S := S) g pt f = fr) (hN : X.N.Nodup) (h : VE X e f) (hi : X.N[i]? = some x := by rfl) (hx : Loc X.env.scope x := by first | exact Or.inl rfl | exact Or.inr rfl)
    (hf : X.fn x = true ∨ X.env.scope.names.lookup x = some .local := by first | exact .inl rfl | exact .inr rfl) (ho : Md.okI S i = true := by rfl) : VS X S R (.AugAssign (.Name x p1) .Add e pos) fr := by
  subst efr
  exact PS.le (ps_aug hN hi hx h ip_add hf) fun D σ H ⟨F, G, L, γ, p, r, wd, nd, he, ha, ea, k⟩ => by
    unfold saug at ea
    cases e1 : f γ with
    | none => rw [e1] at ea; cases ea
    | some n =>
      rw [e1] at ea
      cases ea
      obtain ⟨v, hv, rv⟩ := g.ok he
      cases rv
      refine ⟨_, hv, F, G, L, γ, n, wd, he, e1, fun u G2 H2 x2 w2 r2 => ?_⟩
      cases r2
      exact ⟨_, _, rfl, rfl, k _ L F G2 H2 x2 w2 nd Off.refl Sub.refl (pt.ok (EnvR.mono x2 he) rfl) (Md.keep ho ha)⟩
end
end Vx
/-! sorted(a tuple of texts, key=len) -/
namespace Vx
open Rep (rep)
open EnvR (er)
open PySem PySem.Spec PyProof.Rows L2
section
variable {prog : Program} {w : World} {A : Around} {E : Value → Shared → Prop} {s : Shared}
/-- sorted(a tuple, key=f): its items collected, a new list of them sorted -/
theorem sorted_tupK {β : Type} {vs : List Value} {bs : List β} {R : Value → β → Prop} {l : Addr} {f : Value} {kw : List (Str × Value)} {b : Bool} {Q : Value → Shared → Prop} (k : β → PyData) (tup : s.heap.IsTuple l vs.toArray) (e : PySem.W.EachIs R vs bs) (alike : PySem.W.AllAlike (bs.map k)) (can : PySem.W.Sortable (bs.map k)) (few : bs.length ≤ sizeLine)
    (deep : ∀ x, x ∈ bs → A.units + 2 + (k x).depth < cLine) (ok1 : argsOk "sorted" ⟨[.ref l], kw⟩) (ok2 : ∀ x, argsOk "list.sort" ⟨[.ref x], kw⟩) (tree : ∀ x, Builtin.«list.sort» ⟨[.ref x], kw⟩ = ksk_tree x f b)
    (key : ∀ (v : Value) (x : β), R v x → x ∈ bs → ∀ (h : Heap) (tk : Nat), wpAny (model prog w) A.in1.in1 (call f [v]) (PySem.W.KeyPure (k x) { s with heap := h, toks := tk }) (fun _ _ => False) { s with heap := h, toks := tk })
    (done : ∀ p out c h' tk, s.heap.get? p = none → (∀ b o, s.heap.get? b = some o → h'.get? b = some o) → h'.get? p = some (seqObj "list" (List.toArray out) c) → PySem.W.EachIs R out (bs.mergeSort (PySem.W.dataLe b k)) → Q (.ref p) { s with heap := h', toks := tk }) :
    wpAny (model prog w) A (call (.builtin "sorted") [.ref l] kw) Q E s := by
  have many : vs.length ≤ sizeLine := e.length ▸ few
  obtain ⟨o, ho, cls, n, dat⟩ := tup
  apply PyProof.Rows.call_function_entry_kw kind_sorted plain_sorted entry_sorted ok1
  unfold Builtin.«sorted»
  apply wpAny_bind (m := checkCount "sorted" 1 1 _)
  apply wpAny_pure
  apply wpAny_bind
  refine PySem.wpAny_collect_seq l (Or.inr rfl) ho cls dat (fun h1 old1 => ?_) (by simpa using many)
  apply wpAny_bind
  refine wpAny_newList ?_ (by simpa using many)
  apply wpAny_bind
  apply wpAny_holding
  have here : (h1.push (seqObj "list" vs.toArray 0)).get? h1.objs.size = some (seqObj "list" vs.toArray 0) := Heap.get?_push_size _ rfl
  have low : s.heap.get? h1.objs.size = none := by
    cases z : s.heap.get? h1.objs.size with
    | none => rfl
    | some u => exact absurd (Heap.lt_size (old1 _ u z)) (Nat.lt_irrefl _)
  refine PySem.W.list_sort_key_data (s := { s with heap := h1.push (seqObj "list" vs.toArray 0) }) k (by simpa using here) e alike can few (fun x hx => by have := deep x hx; show A.units + 1 + 1 + _ < cLine; omega) (ok2 _) (tree _) (fun v x r hx h tk _ => key v x r hx h tk) fun out c h' tk kept at' _ each => ?_
  apply wpAny_pure
  refine ⟨_, rfl, done h1.objs.size out c h' tk low (fun a u e2 => ?_) at' each⟩
  have e3 := old1 a u e2
  exact kept a u (Nat.ne_of_lt (Heap.lt_size e3)) (Heap.get?_push_of_some _ e3)
end
/-- by length -/
def leL (a b : Str) : Bool := decide ((a.length : Int) ≤ (b.length : Int))
def srtK (xs : List Str) : List Str := xs.mergeSort leL
section
variable {X : Cx} {e : Expr} {ta : TE} {p p2 kp pos : Pos}
def tSortK (K : PySem.W.Frag) (te : TE) : TE := fun σ H Q => te σ H fun x H1 => ∃ (l : Addr) (xs : List Str), x = .ref l ∧ SqT K H1 l (xs.map V.str) ∧ xs.length ≤ 100000 ∧ (∀ s ∈ xs, s.length ≤ 100000) ∧ ∀ p, H1 p = none → Q (.ref p) (upd H1 p (.lst ((srtK xs).map V.str)))
theorem pe_sortK (hu : X.A.units + 64 < cLine) (hm : X.mg "sorted" = none) (hm2 : X.mg "len" = none) (ha : PE X e ta) (hg : Gl X "sorted" := by rfl) (hg2 : Gl X "len" := by rfl)
    (he : backTo pos (starEach [e] X.env) = (false, eval e X.env) :: backTo pos (starEach [] X.env) := by rfl) (na : starEach [e] X.env = (false, eval e X.env) :: starEach [] X.env := by rfl) (hpl : (backTo pos (starEach [e] X.env)).any (·.1) = false := by rfl) :
    PE X (.Call (.Name "sorted" p) [e] [⟨some "key", .Name "len" p2, kp⟩] pos) (tSortK X.K ta) := by
  constructor
  intro pins s σ H Q I h
  refine wpAny_Call_Name_kw (ld_blt I hg hm boot_sorted ?_)
  refine PyProof.Rows.callWith_kw ?_ he hpl rfl rfl
  refine PyProof.Rows.args_cons (thn (ha.run pins s σ H _ I h) ?_) na
  intro v s1 ⟨x, H1, I1, r1, l, xs, hx, hq, hz, hzz, k⟩
  subst hx
  cases r1
  apply PyProof.Rows.args_nil
  show wpAny _ _ (evalAll [do let v ← eval (.Name "len" p2) X.env; standAt pos; pure v]) _ _ s1
  refine wpAny_evalAll_cons (wpAny_bind (ld_blt I1 hg2 hm2 boot_len (wpAny_bind (wpAny_standAt (wpAny_pure ?_)))))
  refine wpAny_evalAll_nil ?_
  show wpAny (model X.prog X.w) X.A (call (.builtin "sorted") [.ref l] [(Str.ofString "key", .builtin "len")]) _ _ s1
  obtain ⟨its, rv, pl, hz2⟩ := I1.tuple hq
  have es := each_strs rv.strs
  have hL : xs.length ≤ sizeLine := Nat.le_trans hz (by decide)
  refine sorted_tupK (b := false) (fun s : Str => PyData.int s.length) pl es (PySem.W.AllAlike.of fun _ _ => rfl) (PySem.W.Sortable.others fun b => ⟨nofun, nofun⟩) hL (fun _ _ => (by show X.A.units + 2 + 0 < cLine; omega)) (ksk_s1 _ _) (fun _ => ksk_l1 _ _) (fun _ => ksk_t4 _ _) ?_ ?_
  · rintro v x ⟨t, rfl⟩ hx h tk
    have := hzz x hx
    have l63 := line63
    exact PySem.P.len_str (by omega) ⟨h, _, rfl, fun _ _ e => e, Reads.int ..⟩
  · intro p out c h' tk low old at' each
    rw [PySem.W.dataLe_int] at each
    have texts := strs_each each
    have free : H1 p = none := I1.hok.gone low
    have fits : ((srtK xs).map V.str).length ≤ sizeLine := by simpa [srtK] using hL
    exact ⟨.ref p, _, I1.laidN (t' := tk) (o := .lst ((srtK xs).map V.str)) old low free ⟨fits, out, c, vals_of_strs texts, at'⟩, rfl, k p free⟩
end
section
variable {Γ : Type} [EnvR Γ] {X : Cx} {e : Expr} {p p2 kp pos : Pos}
def sortK (t : Tup Str) : Option (List Str) := if t.l.length ≤ 100000 ∧ (∀ s ∈ t.l, s.length ≤ 100000) then some (srtK t.l) else none
theorem strs_rep {K : PySem.W.Frag} {G : Hp} : ∀ {xs : List Str} {vs : List V}, PySem.Paired (rep K G) xs vs → vs = xs.map V.str
  | _, _, .nil => rfl
  | _, _, .cons r t => by
    rw [strs_rep t]
    cases r
    rfl
theorem rep_strs {K : PySem.W.Frag} {G : Hp} : ∀ {xs : List Str}, PySem.Paired (rep K G) xs (xs.map V.str)
  | [] => .nil
  | _ :: _ => .cons rfl rep_strs
theorem vf_sortK {f : Γ → Option (Tup Str)} (hu : X.A.units + 64 < cLine) (hm : X.mg "sorted" = none) (hm2 : X.mg "len" = none) (ha : VE X e f) (hg : Gl X "sorted" := by rfl) (hg2 : Gl X "len" := by rfl)
    (he : backTo pos (starEach [e] X.env) = (false, eval e X.env) :: backTo pos (starEach [] X.env) := by rfl) (na : starEach [e] X.env = (false, eval e X.env) :: starEach [] X.env := by rfl) (hpl : (backTo pos (starEach [e] X.env)).any (·.1) = false := by rfl) :
    VF X (.Call (.Name "sorted" p) [e] [⟨some "key", .Name "len" p2, kp⟩] pos) (f1 sortK f) := PE.le (pe_sortK hu hm hm2 ha hg hg2 he na hpl) fun σ H Q ⟨F, G, L, γ, a, w, hE, ea, q⟩ => by
  unfold f1 at ea
  cases e1 : f γ with
  | none => rw [e1] at ea; cases ea
  | some t =>
    rw [e1] at ea
    replace ea : sortK t = some a := ea
    unfold sortK at ea
    split at ea
    case isFalse => cases ea
    rename_i hz
    cases ea
    refine ⟨F, G, L, γ, t, w, hE, e1, fun v G2 H2 x2 w2 ⟨p, vs, h1, h2, h3⟩ => ?_⟩
    have ev := strs_rep h3
    subst ev
    refine ⟨p, t.l, h1, .inl (.inl (w2.g _ _ h2)), hz.1, hz.2, fun p' hp' => ?_⟩
    obtain ⟨w3, r3⟩ := rf_new w2 hp' (rep_strs (K := X.K) (G := G2) (xs := srtK t.l))
    exact q _ G2 _ x2 w3 r3
end
end Vx
/-! the class Closer: its facts, its defs by their mirrors -/
namespace Vx
open Rep (rep)
open EnvR (er)
open PySem PySem.Spec PyProof.Rows L2
def TmF (K : PySem.W.Frag) : Prop := ∃ C, ClsAt K C ∧ Cls K C ∧ NoAttr K C "_things" ∧ NoAttr K C "_closed" ∧ NoAttr K C "_around"
def TmM (K : PySem.W.Frag) (m qual : Str) (st : Stmt) (ps : List Str) : Prop := ∃ C f fd, ClsAt K C ∧ Cls K C ∧ Meth K C m f ∧ Fun K m qual st f fd ∧ Binds K fd ps []
def TmP (K : PySem.W.Frag) (m qual : Str) (st : Stmt) (ps : List Str) : Prop := ∃ C p g fd, ClsAt K C ∧ Cls K C ∧ PropOf K C m p g ∧ Fun K m qual st g fd ∧ Binds K fd ps []
def TmI (K : PySem.W.Frag) (mg : Str → Option Value) (qual : Str) (st : Stmt) (ps : List Str) : Prop := ∃ C f fd, ClsAt K C ∧ Mk K C f ∧ mg "Closer" = some (.ref C) ∧ Fun K "__init__" qual st f fd ∧ Binds K fd ps []
def TmIs (K : PySem.W.Frag) (mg : Str → Option Value) : Prop := ∃ C, ClsAt K C ∧ C8.InsC K C ∧ mg "Closer" = some (.ref C)
def DfMt (P : Program) (w : World) (K : PySem.W.Frag) (mg : Str → Option Value) (base : Heap) (m : Str) (k : Nat) (ps : List Str) (sp : Sp) : Prop := ∃ C f fd, ClsAt K C ∧ Cls K C ∧ Meth K C m f ∧ Binds K fd ps [] ∧ GnOk P w K mg base k f fd ps sp
def DfP (P : Program) (w : World) (K : PySem.W.Frag) (mg : Str → Option Value) (base : Heap) (m : Str) (k : Nat) (ps : List Str) (sp : Sp) : Prop := ∃ C p g fd, ClsAt K C ∧ Cls K C ∧ PropOf K C m p g ∧ Binds K fd ps [] ∧ GnOk P w K mg base k g fd ps sp
def DfI (P : Program) (w : World) (K : PySem.W.Frag) (mg : Str → Option Value) (base : Heap) (k : Nat) (ps : List Str) (sp : Sp) : Prop := ∃ C f fd, ClsAt K C ∧ Mk K C f ∧ mg "Closer" = some (.ref C) ∧ Binds K fd ps [] ∧ GnOk P w K mg base k f fd ps sp
section
variable {P : Program} {w : World} {K : PySem.W.Frag} {mg : Str → Option Value} {base : Heap} {m qual : Str} {st : Stmt} {N ps : List Str} {k n : Nat} {A ρ Γ Γ' : Type} [RepL A] [EnvR Γ] [EnvR Γ'] [Rep ρ]
theorem df_Mt (T : TmM K m qual st ps) (S : FnScope N ps (defScope st)) (I : Ini A Γ n) {b : Γ → Option (Fl Γ' Unit ρ)} (body : BodyOk P w K mg base N qual st k fun X => VSs X Unit (RE K) (defBody st) b) (hn : N.length = RepL.n A + n := by rfl) (hp : RepL.n A = ps.length := by rfl) :
    DfMt P w K mg base m (k + 1) ps (spF K fun a => runF b (I.ini a)) := by
  obtain ⟨C, f, fd, h1, h2, h3, F, hb⟩ := T
  exact ⟨C, f, fd, h1, h2, h3, hb, ok_F F S I hn hp body⟩
theorem df_P (T : TmP K m qual st ps) (S : FnScope N ps (defScope st)) (I : Ini A Γ n) {b : Γ → Option (Fl Γ' Unit ρ)} (body : BodyOk P w K mg base N qual st k fun X => VSs X Unit (RE K) (defBody st) b) (hn : N.length = RepL.n A + n := by rfl) (hp : RepL.n A = ps.length := by rfl) :
    DfP P w K mg base m (k + 1) ps (spF K fun a => runF b (I.ini a)) := by
  obtain ⟨C, p, g, fd, h1, h2, h3, F, hb⟩ := T
  exact ⟨C, p, g, fd, h1, h2, h3, hb, ok_F F S I hn hp body⟩
theorem df_I (T : TmI K mg qual st ps) (S : FnScope N ps (defScope st)) (I : Ini A Γ n) {b : OI0 × Γ → Option (Fl (OI3 × Γ') Unit Unit)} (hb : Blind b) (body : BodyOk P w K mg base N qual st k fun X => VSs X Unit (RE K) (defBody st) b) (hn : N.length = RepL.n A + 1 + n := by rfl) (hp : RepL.n A + 1 = ps.length := by rfl) :
    DfI P w K mg base (k + 1) ps (spI K fun a => runI b (I.ini a)) := by
  obtain ⟨C, f, fd, h1, h2, h3, F, hbi⟩ := T
  exact ⟨C, f, fd, h1, h2, h3, hbi, ok_I F S I hb hn hp body⟩
end
section
variable {Γ : Type} [EnvR Γ] {X : Cx} {A ρ : Type} [RepL A] [Rep ρ] {k : Nat} {psn : List Str} {m : Str} {p pp pos apos : Pos} {e o : Expr} {es : List Expr}
theorem vd_prop {mi : Clo × Unit → Option ρ} {f : Γ → Option Clo} (D : DfP X.prog X.w X.K X.mg X.base m k psn (spF X.K mi)) (hgd : X.A.guards = some []) (hr : Room (k + 1) X.A) (h : VE X e f) (hab : attributeBase e m X.env (eval e X.env) = eval e X.env := by rfl) : VE X (.Attribute e m pos) (f1 (fun c => mi (c, ())) f) := by
  obtain ⟨C, q, g, fd, h1, h2, h3, hb, G⟩ := D
  exact ve_prop h h1 h2 h3 G hgd hr hb hab
theorem vd_meth {pl : Sem Bool} {mi : Clo × A → Option ρ} {f : Γ → Option Clo} {ga : Γ → Option A} (D : DfMt X.prog X.w X.K X.mg X.base m k psn (spF X.K mi)) (hgd : X.A.guards = some []) (hr : Room k X.A) (h : VE X o f) (ha : VA X (e :: es) ga) (n1 : ¬ m = "_things" := by decide +kernel) (n2 : ¬ m = "_closed" := by decide +kernel) (n3 : ¬ m = "_around" := by decide +kernel)
    (hst : starEach (e :: es) X.env = (false, eval e X.env) :: starEach es X.env := by rfl) (hpl : (backTo pos (starEach es X.env)).any (·.1) = false := by rfl)
    (ht : eval (.Call (.Attribute o m apos) (e :: es) [] pos) X.env = (do
      let ov ← eval o X.env
      standAt apos.atName
      let (fn, first) ← holding [ov] (getMethod ov m pl)
      callWith pos fn first (backTo pos (starEach (e :: es) X.env)) (backToKw pos (keywordEach [] X.env))) := by rfl) : VE X (.Call (.Attribute o m apos) (e :: es) [] pos) (f1 mi (fcons f ga)) := by
  obtain ⟨C, g, fd, h1, h2, h3, hb, G⟩ := D
  exact ve_meth h h1 h2 h3 G hgd hr hb ha n1 n2 n3 hst hpl ht
theorem vd_make {mi : A → Option Clo} {g : Γ → Option A} (D : DfI X.prog X.w X.K X.mg X.base k psn (spI X.K mi)) (hgd : X.A.guards = some []) (hr : Room (k + 1) X.A) (ha : VA X (e :: es) g) (hg : Gl X "Closer" := by rfl)
    (he : starEach (e :: es) X.env = (false, eval e X.env) :: starEach es X.env := by rfl) (hpl : (backTo pos (starEach es X.env)).any (·.1) = false := by rfl) : VE X (.Call (.Name "Closer" p) (e :: es) [] pos) (f1 mi g) := by
  obtain ⟨C, f, fd, h1, h2, h3, hb, G⟩ := D
  exact ve_make h2 h1 G hgd hr h3 hb ha hg (by decide) he hpl
theorem vd_fT {f : Γ → Option Clo} (T : TmF X.K) (h : VE X e f) (hb : attributeBase e "_things" X.env (eval e X.env) = eval e X.env := by rfl) : VE X (.Attribute e "_things" pos) (f1 (fun c => some c.things) f) := by
  obtain ⟨C, h1, h2, n1, n2, n3⟩ := T
  exact ve_fT h h1 h2 n1 hb
theorem vd_fC {f : Γ → Option Clo} (T : TmF X.K) (h : VE X e f) (hb : attributeBase e "_closed" X.env (eval e X.env) = eval e X.env := by rfl) : VE X (.Attribute e "_closed" pos) (f1 (fun c => some c.closed) f) := by
  obtain ⟨C, h1, h2, n1, n2, n3⟩ := T
  exact ve_fC h h1 h2 n2 hb
theorem vd_fA {f : Γ → Option Clo} (T : TmF X.K) (h : VE X e f) (hb : attributeBase e "_around" X.env (eval e X.env) = eval e X.env := by rfl) : VE X (.Attribute e "_around" pos) (f1 (fun c => some (⟨c.around⟩ : Dct Str)) f) := by
  obtain ⟨C, h1, h2, n1, n2, n3⟩ := T
  exact ve_fA h h1 h2 n3 hb
/-- isinstance(c, Closer) -/
theorem ve_isClo {f : Γ → Option Clo} (T : TmIs X.K X.mg) (h : VE X e f) (hm : X.mg "isinstance" = none) (hg : Gl X "isinstance" := by rfl) (hg2 : Gl X "Closer" := by rfl) (he : starEach [e, .Name "Closer" pp] X.env = (false, eval e X.env) :: starEach [.Name "Closer" pp] X.env := by rfl) (he2 : starEach [.Name "Closer" pp] X.env = (false, eval (.Name "Closer" pp) X.env) :: starEach [] X.env := by rfl)
    (hpl : (backTo pos (starEach [.Name "Closer" pp] X.env)).any (·.1) = false := by rfl) : VE X (.Call (.Name "isinstance" p) [e, .Name "Closer" pp] [] pos) (f1 (fun _ => some true) f) := by
  obtain ⟨C, h1, h2, h3⟩ := T
  exact PE.le (pe_callB (C8.call_isC h2) hg hm (by decide +kernel) (pa_cons h (pa_cons (pe_glob hg2 h3 (v := .ref C) rfl) pa_nil he2) he) (he := he) (hpl := hpl)) fun σ H Q ⟨F, G, L, γ, z, w, hh, ea, q⟩ => by
    unfold f1 at ea
    cases e1 : f γ with
    | none => rw [e1] at ea; cases ea
    | some x =>
      rw [e1] at ea
      cases ea
      refine ⟨F, G, L, γ, x, w, hh, e1, fun v G2 H2 x2 w2 ⟨p, C', dx, vc, va, g1, g2, g3, g4, g5⟩ => ?_⟩
      have := h1.one g2
      subst this
      subst g1
      exact ⟨p, dx, _, rfl, w2.g _ _ g3, q _ G2 H2 x2 w2 rfl⟩
end
end Vx
/-! more rules: what stands for something or None, pairs, lists made of texts, of dicts, pop, tuples put together, while, dicts by one name -/
namespace Vx
open Rep (rep)
open EnvR (er)
open PySem PySem.Spec PyProof.Rows L2
section
variable {Γ Γ' Γd Γe S ρ : Type} [EnvR Γ] [EnvR Γ'] [EnvR Γd] [EnvR Γe] [Md S] {α β τ δ : Type} [Rep α] [Rep β] [Rep τ] [Rep δ] {X : Cx} {K : PySem.W.Frag} {R : RR ρ} {a b e o : Expr} {p p2 pos apos : Pos} {i j : Nat}
/-- what is not None -/
theorem VE.unw {f : Γ → Option (Option α)} (h : VE X e f) : VE X e (f1 (fun x => x) f) := PE.le h fun σ H Q ⟨F, G, L, γ, a, w, he, ea, q⟩ => by
  unfold f1 at ea
  cases e1 : f γ with
  | none => rw [e1] at ea; cases ea
  | some x =>
    rw [e1] at ea
    exact ⟨F, G, L, γ, x, w, he, e1, fun v G2 H2 e2 w2 r => q v G2 H2 e2 w2 (by cases ea; exact r)⟩
/-! pairs -/
def ix0 (t : T2 α β) (i : Int) : Option α := if i = 0 then some t.a else none
def ix1 (t : T2 α β) (i : Int) : Option β := if i = 1 then some t.b else none
theorem o_ix0 : Op2 (rIxT K) (RE K (α := T2 α β)) (RE K) (RE K) ix0 := fun F G H x y z vx vy Q w rx ry e k => by
  obtain ⟨p, va, vb, h1, h2, h3, h4⟩ := rx
  cases ry
  unfold ix0 at e
  split at e
  case isFalse => cases e
  rename_i h0
  subst h0
  cases e
  exact ⟨p, [va, vb], 0, va, h1, rfl, .inl (.inl (w.g _ _ h2)), rfl, k _ G H (Ex.refl G) w h3⟩
theorem o_ix1 : Op2 (rIxT K) (RE K (α := T2 α β)) (RE K) (RE K) ix1 := fun F G H x y z vx vy Q w rx ry e k => by
  obtain ⟨p, va, vb, h1, h2, h3, h4⟩ := rx
  cases ry
  unfold ix1 at e
  split at e
  case isFalse => cases e
  rename_i h0
  subst h0
  cases e
  exact ⟨p, [va, vb], 1, vb, h1, rfl, .inl (.inl (w.g _ _ h2)), rfl, k _ G H (Ex.refl G) w h4⟩
def len2 (a : T2 α β × Unit) : Option Int := some 2
theorem o_len2 : OpA (rLen K) K (RE K) (len2 (α := α) (β := β)) := fun F G H a y vs Q w r e k => by
  obtain ⟨v, h1, p, va, vb, h2, h3, h4, h5⟩ := rl1 r
  cases e
  subst h2
  exact ⟨_, 2, h1, .inr ⟨[va, vb], .inl (.inl (w.g _ _ h3)), rfl⟩, k _ G H (Ex.refl G) w rfl⟩
theorem ve_isT2 {f : Γ → Option (T2 α β)} (h : VE X a f) (hm : X.mg "isinstance" = none) (hm2 : X.mg "tuple" = none) (hg : Gl X "isinstance" := by rfl) (hg2 : Gl X "tuple" := by rfl)
    (he : starEach [a, .Name "tuple" p2] X.env = (false, eval a X.env) :: starEach [.Name "tuple" p2] X.env := by rfl) (he2 : starEach [.Name "tuple" p2] X.env = (false, eval (.Name "tuple" p2) X.env) :: starEach [] X.env := by rfl) (hpl : (backTo pos (starEach [.Name "tuple" p2] X.env)).any (·.1) = false := by rfl) :
    VE X (.Call (.Name "isinstance" p) [a, .Name "tuple" p2] [] pos) (f1 (fun _ => some true) f) :=
  ve_isT (α := T2 α β) (T := "tuple") (Tn := "tuple") (fun ⟨q, va, vb, h1, h2, h3, h4⟩ => by rw [h1]; exact .tup h2) h hm hm2 (by decide +kernel) hg2 (by decide) (by decide) hg (by decide +kernel) he he2 hpl
/-! list(a text) -/
theorem signs_at {x : Str} : ∀ {us : Array Value}, ItemsOf (SignAt x) us x.cps.size → Vals ((signs x).map V.str) us.toList := by
  intro us h
  have hl : us.toList.length = x.cps.toList.length := by rw [Array.length_toList, Array.length_toList]; exact h.1
  have key : ∀ (cs : List Nat) (vs : List Value) (k : Nat), vs.length = cs.length → (∀ (i : Nat) (v : Value), vs[i]? = some v → ∃ (c : Nat) (t : Tok), cs[i]? = some c ∧ v = Value.str ⟨#[c]⟩ t) → Vals ((cs.map fun c => (⟨#[c]⟩ : Str)).map V.str) vs := by
    intro cs
    induction cs with
    | nil =>
      intro vs k e _
      cases vs with
      | nil => exact .nil
      | cons _ _ => cases e
    | cons c cs ih =>
      intro vs k e hv
      cases vs with
      | nil => cases e
      | cons v vs =>
        obtain ⟨c', t, h1, h2⟩ := hv 0 v rfl
        cases h1
        exact .cons ⟨t, h2⟩ (ih vs k (Nat.succ.inj e) fun i v h => hv (i + 1) v h)
  refine key x.cps.toList us.toList 0 hl fun i v hv => ?_
  have := h.2 i v (by rw [← Array.getElem?_toList]; exact hv)
  obtain ⟨c, t, h1, h2⟩ := this
  exact ⟨c, t, by rw [Array.getElem?_toList]; exact h1, h2⟩
/-! sorted(a dict of texts) -/
/-! xs.pop(i) of one's own -/
/-! tuples put together, cut -/
def tCatA {α : Type} (x y : Tup α) : Option (Tup α) := if x.l.length + y.l.length ≤ 100000 then some ⟨x.l ++ y.l⟩ else none
theorem tup_new {F G H : Hp} {xs : List α} {p : Addr} {vs : List V} (w : W F G H) (hp : H p = none) (r : PySem.Paired (rep K G) xs vs) : ∃ G2, Ex G G2 ∧ W F G2 (upd H p (.tup vs)) ∧ rep K G2 (⟨xs⟩ : Tup α) (.ref p) :=
  ⟨upd G p (.tup vs), Ex.upd (w.fresh hp).1, w.new hp, p, vs, rfl, upd_same, Paired.mono (fun _ _ r => Rep.mono (Ex.upd (w.fresh hp).1) r) r⟩
theorem o_catA : Op2 (rCatA K) (RE K (α := Tup α)) (RE K) (RE K) tCatA := fun F G H x y z vx vy Q w rx ry e k => by
  obtain ⟨p, vs, h1, h2, h3⟩ := rx
  obtain ⟨q, us, g1, g2, g3⟩ := ry
  unfold tCatA at e
  split at e
  case isFalse => cases e
  rename_i hl
  cases e
  have l1 := paired_len h3
  have l2 := paired_len g3
  refine ⟨p, q, vs, us, h1, g1, .inl (.inl (w.g _ _ h2)), .inl (.inl (w.g _ _ g2)), by rw [← l1, ← l2]; exact Nat.le_trans hl line_ge, ?_, ?_, ?_⟩
  · intro e
    subst e
    have : x.l = [] := by
      cases hx : x.l with
      | nil => rfl
      | cons _ _ => rw [hx] at l1; cases l1
    exact k _ G H (Ex.refl G) w ⟨q, us, rfl, g2, by rw [this]; exact g3⟩
  · intro _ e
    subst e
    have : y.l = [] := by
      cases hy : y.l with
      | nil => rfl
      | cons _ _ => rw [hy] at l2; cases l2
    exact k _ G H (Ex.refl G) w ⟨p, vs, rfl, h2, by rw [this, List.append_nil]; exact h3⟩
  · intro _ _ p2 hp
    obtain ⟨G2, x2, w2, r2⟩ := tup_new w hp (paired_app h3 g3)
    exact k _ G2 _ x2 w2 r2
def cutT {α : Type} (lo hi : Option Int) (x : Tup α) : Option (Tup α) := some ⟨cutA lo hi x.l⟩
theorem paired_drop {α β : Type} {R : α → β → Prop} : ∀ {xs : List α} {ys : List β} (j : Nat), PySem.Paired R xs ys → PySem.Paired R (xs.drop j) (ys.drop j)
  | _, _, 0, h => h
  | _, _, _ + 1, .nil => .nil
  | _, _, j + 1, .cons r t => paired_drop j t
theorem paired_take {α β : Type} {R : α → β → Prop} : ∀ {xs : List α} {ys : List β} (j : Nat), PySem.Paired R xs ys → PySem.Paired R (xs.take j) (ys.take j)
  | _, _, 0, h => by
    rw [List.take_zero, List.take_zero]
    exact .nil
  | _, _, _ + 1, .nil => .nil
  | _, _, j + 1, .cons r t => .cons r (paired_take j t)
theorem paired_cut {R : α → V → Prop} {xs : List α} {vs : List V} {lo hi : Option Int} (h : PySem.Paired R xs vs) : PySem.Paired R (cutA lo hi xs) (cutV vs lo hi) := by
  unfold cutA cutV
  rw [paired_len h]
  exact paired_take _ (paired_drop _ h)
theorem sIx_full {α : Type} {xs : List α} {lo hi : Option Int} (h : HT.sIx xs.length 0 lo = 0 ∧ HT.sIx xs.length xs.length hi = xs.length) : cutA lo hi xs = xs := by
  unfold cutA
  rw [h.1, h.2]
  simp
theorem ve_cutTo {f : Γ → Option (Tup α)} {g : Γ → Option Int} (ha : VE X a f) (hb : VE X b g) : VE X (.Subscript a (.Slice none (some b) none p2) pos) (f2 (fun z i => cutT none (some i) z) f g) :=
  PE.le (pe_slice sl_tupA ha po_none (po_some hb)) fun σ H Q ⟨F, G, L, γ, z, w, he, ea, q⟩ => by
    obtain ⟨x, y, e1, e2, e3⟩ := f2_some ea
    cases e3
    refine ⟨F, G, L, γ, x, w, he, e1, fun v G2 H2 x2 w2 r2 => ⟨F, G2, L, γ, y, w2, EnvR.mono x2 he, e2, fun u G3 H3 x3 w3 r3 => ?_⟩⟩
    obtain ⟨p, vs, h1, h2, h3⟩ := Rep.mono x3 r2
    have l1 := paired_len h3
    refine ⟨y, r3, p, vs, h1, .inl (.inl (w3.g _ _ h2)), fun e => ?_, fun _ p2 hp => ?_⟩
    · rw [← l1] at e
      exact q _ G3 H3 (x2.trans x3) w3 ⟨p, vs, rfl, h2, by show PySem.Paired _ (cutA none (some y) x.l) vs; rw [sIx_full e]; exact h3⟩
    · obtain ⟨G4, x4, w4, r4⟩ := tup_new w3 hp (paired_cut (lo := none) (hi := some y) h3)
      exact q _ G4 _ ((x2.trans x3).trans x4) w4 r4
theorem ve_cutFrom {f : Γ → Option (Tup α)} {g : Γ → Option Int} (ha : VE X a f) (hb : VE X b g) : VE X (.Subscript a (.Slice (some b) none none p2) pos) (f2 (fun z i => cutT (some i) none z) f g) :=
  PE.le (pe_slice sl_tupA ha (po_some hb) po_none) fun σ H Q ⟨F, G, L, γ, z, w, he, ea, q⟩ => by
    obtain ⟨x, y, e1, e2, e3⟩ := f2_some ea
    cases e3
    refine ⟨F, G, L, γ, x, w, he, e1, fun v G2 H2 x2 w2 r2 => ⟨F, G2, L, γ, y, w2, EnvR.mono x2 he, e2, fun u G3 H3 x3 w3 r3 => ⟨y, r3, ?_⟩⟩⟩
    obtain ⟨p, vs, h1, h2, h3⟩ := Rep.mono x3 r2
    have l1 := paired_len h3
    refine ⟨p, vs, h1, .inl (.inl (w3.g _ _ h2)), fun e => ?_, fun _ p2 hp => ?_⟩
    · rw [← l1] at e
      exact q _ G3 H3 (x2.trans x3) w3 ⟨p, vs, rfl, h2, by show PySem.Paired _ (cutA (some y) none x.l) vs; rw [sIx_full e]; exact h3⟩
    · obtain ⟨G4, x4, w4, r4⟩ := tup_new w3 hp (paired_cut (lo := some y) (hi := none) h3)
      exact q _ G4 _ ((x2.trans x3).trans x4) w4 r4
/-! while -/
theorem vs_while_ {Γh : Type} [EnvR Γh] (w : Wk Γ Γh) (n : Nat) {body : List Stmt} {cf : Γh → Option Bool} {f : Γh → Option (Fl Γh S ρ)} {fr : Γ → Option (Fl Γh S ρ)} (efr : swhl (S := S) w n cf f = fr) (hp : PassesOwn (model X.prog X.w) X.A X.env X.xe) {c : Expr} (hc : VT X c cf) (hb : VSs X S R body f) : VS X S R (.While c body [] pos) fr := by
  subst efr
  exact vs_while w n hp hc hb
end
section
variable {Γ Γ1 : Type} [EnvR Γ] [EnvR Γ1] {α1 β κ : Type} [Rep α1] [Rep β] [Rep κ] [KeyOf κ] {X : Cx} {i : Nat} {pos : Pos}
def fdc1 (p1 : Put i Γ α1 Γ1) (g : Γ → Option (List α1)) (kf : Γ1 → Option κ) (vf : Γ1 → Option β) : Γ → Option (Dct β) := fun γ => (g γ).bind fun xs => if xs.length ≤ 100000 then
  (dcGo (fun x => kf (p1.put γ x)) (fun x => vf (p1.put γ x)) xs []).map fun d => ⟨d⟩ else none
theorem tdc1 {K : PySem.W.Frag} {p1 : Put i Γ α1 Γ1} {g : Γ → Option (List α1)} {t : Γ1 → Option Bool} {kf : Γ1 → Option κ} {vf : Γ1 → Option β} {σ : L2.St} {H : Hp} {Q : VK} (h : tev K (RE K) (fdc1 p1 g kf vf) σ H Q) :
    tDc (tiv K g) (gName i) (tet K (fyes (Γ := Γ1))) (tev K (RE K) kf) (tev K (RE K) vf) [i] σ H Q := by
  obtain ⟨F, G, L, γ, zs, w, he, ea, q⟩ := h
  unfold fdc1 at ea
  cases e0 : g γ with
  | none => rw [e0] at ea; cases ea
  | some xs =>
  rw [e0] at ea
  simp only [Option.bind_some] at ea
  split at ea
  case isFalse => cases ea
  rename_i hlen
  cases e9 : dcGo (fun x => kf (p1.put γ x)) (fun x => vf (p1.put γ x)) xs [] with
  | none => rw [e9] at ea; cases ea
  | some dz =>
  rw [e9] at ea
  cases ea
  refine ⟨F, G, L, γ, xs, w, he, e0, fun J G1 H1 x1 w1 wl D hD => ?_⟩
  have fd := w1.fresh hD
  have nD : ∀ q ∈ L, q ≠ D := fun q hq z => EnvR.there he q hq (by rw [z]; exact fd.2)
  refine ⟨fun n m H' => m = xs.length - n ∧ n ≤ xs.length ∧ ∃ G2 acc d, Ex G1 G2 ∧ W (upd F D (.dK acc)) G2 H' ∧ PySem.Paired (RK K G2) d acc ∧ d.length ≤ n ∧
      dcGo (fun x => kf (p1.put γ x)) (fun x => vf (p1.put γ x)) (xs.drop n) d = some dz, ⟨xs.length, by simp, Nat.zero_le _, G1, [], [], Ex.refl _, w1.own hD, .nil, Nat.zero_le _, e9⟩, ?_⟩
  rintro n m H' ⟨rfl, hj, G2, acc, d, x2, w2, r2, hacc, go⟩
  by_cases hlt : n < xs.length
  · obtain ⟨x, hx⟩ : ∃ x, xs[n]? = some x := ⟨xs[n], List.getElem?_eq_getElem hlt⟩
    obtain ⟨hgo, hyl⟩ := (wl (upd F D (.dK acc)) G2 H' x2 w2 n).1 x hx
    have hdrop : xs.drop n = x :: xs.drop (n + 1) := by
      rw [List.drop_eq_getElem_cons hlt]
      have : xs[n] = x := Option.some.inj ((List.getElem?_eq_getElem hlt).symm.trans hx)
      rw [this]
    rw [hdrop] at go
    unfold dcGo at go
    refine .inr ⟨hgo, fun H3 => ∃ G2 acc d, Ex G1 G2 ∧ W (upd F D (.dK acc)) G2 H3 ∧ PySem.Paired (RK K G2) d acc ∧ d.length ≤ n + 1 ∧
      dcGo (fun x => kf (p1.put γ x)) (fun x => vf (p1.put γ x)) (xs.drop (n + 1)) d = some dz, fun H3 z => ⟨xs.length - (n + 1), by omega, rfl, hlt, z⟩, fun xv H3 hy => ?_⟩
    obtain ⟨G3, x3, w3, h3⟩ := hyl xv H3 hy
    refine ⟨show ((σ.set i none).set i (some xv)).set i none = σ.set i none by rw [List.set_set, List.set_set], ?_⟩
    have ew : (wipe σ [i]).set i (some xv) = σ.set i (some xv) := show (σ.set i none).set i (some xv) = _ from by rw [List.set_set]
    rw [ew]
    have er3 : er K G3 (upd F D (.dK acc)) L (σ.set i (some xv)) (p1.put γ x) := p1.ok (EnvR.keep (fun q hq => upd_ne (nD q hq)) (EnvR.mono ((x1.trans x2).trans x3) he)) h3
    refine ⟨_, G3, L, _, true, w3, er3, rfl, fun G4 H4 x4 w4 => ?_⟩
    show (if true = true then _ else _)
    rw [if_pos rfl]
    cases e5 : kf (p1.put γ x) with
    | none =>
      rw [e5] at go
      cases go
    | some kk =>
      rw [e5] at go
      simp only [Option.bind_some] at go
      cases e6 : vf (p1.put γ x) with
      | none =>
        rw [e6] at go
        cases go
      | some vv =>
        rw [e6] at go
        simp only [Option.bind_some] at go
        refine ⟨_, G4, L, _, kk, w4, EnvR.mono x4 er3, e5, fun yk G5 H5 x5 w5 rk => ⟨_, G5, L, _, vv, w5, EnvR.mono (x4.trans x5) er3, e6, fun yv G6 H6 x6 w6 rv => ?_⟩⟩
        have r6 := rk_mono (((x3.trans x4).trans x5).trans x6) r2
        refine ⟨acc, KeyOf.key kk, KeyOf.of rk, w6.f _ _ upd_same, ?_, G6, putK acc (KeyOf.key kk) yv, putB d (KeyOf.key kk) vv, (((x2.trans x3).trans x4).trans x5).trans x6, ?_, rk_put rv r6, Nat.le_trans (putB_len (β := β) d _ _) (Nat.succ_le_succ hacc), go⟩
        · rw [← paired_len r6]
          exact Nat.lt_of_lt_of_le (Nat.lt_of_le_of_lt hacc (Nat.lt_of_lt_of_le hlt hlen)) line_ge
        · have := w6.set (u := .dK (putK acc (KeyOf.key kk) yv)) upd_same
          rw [upd_upd] at this
          exact this
  · have hj' : n = xs.length := by omega
    subst hj'
    rw [List.drop_length] at go
    unfold dcGo at go
    cases go
    refine .inl ⟨(wl (upd F D (.dK acc)) G2 H' x2 w2 xs.length).2 (Nat.le_refl _), ?_⟩
    have gD : G2 D = none := w2.d D _ upd_same
    have ex := Ex.upd (o := HO.dK acc) gD
    have w5 : W F (upd G2 D (.dK acc)) H' := by
      have := w2.free (p := D) upd_same
      refine this.less fun a o z => ?_
      have ha : a ≠ D := fun y => by
        rw [y, fd.2] at z
        cases z
      rw [del_ne ha, upd_ne ha]
      exact z
    exact q _ _ H' ((x1.trans x2).trans ex) w5 ⟨D, acc, rfl, upd_same, rk_mono ex r2⟩
variable {kx vx iter : Expr} {scope : Scope} {tpos : Pos} {x : Str}
/-- {k: v for x in iter} -/
theorem ve_dc1 (p1 : Put i Γ α1 Γ1) {g : Γ → Option (List α1)} {kf : Γ1 → Option κ} {vf : Γ1 → Option β} {fr : Γ → Option (Dct β)} (efr : fdc1 p1 g kf vf = fr) (hc : X.calm = true) (hN : X.N.Nodup) (hi : VI X (.Name x tpos) iter g) (ok : blkC X.N X.env.scope scope [(x, i)] = true)
    (hg : ∀ (s : Shared) (H : Hp) (C : Addr) (cl : List (Str × Addr)) (fp : List Addr), PG (X.blk s H scope (compEnvC scope cl C X.env) fp) (.Name x tpos) (gName i))
    (hk : ∀ (s : Shared) (H : Hp) (C : Addr) (cl : List (Str × Addr)) (fp : List Addr), VE (X.blk s H scope (compEnvC scope cl C X.env) fp) kx kf)
    (hv : ∀ (s : Shared) (H : Hp) (C : Addr) (cl : List (Str × Addr)) (fp : List Addr), VE (X.blk s H scope (compEnvC scope cl C X.env) fp) vx vf) (hs : ∀ x, foldedSetIterable iter X.env x = pure x := by intro _; rfl) :
    VE X (.DictComp kx vx [⟨.Name x tpos, iter, [], 0⟩] scope pos) fr := by
  subst efr
  exact PE.le (pe_dc (own := [(x, i)]) (g := gName i) (tt := tet X.K (fyes (Γ := Γ1))) hc hN hi (blkOk_by ok) hg (fun _ _ _ _ _ => vts_nil) hk hv hs) fun σ H Q h => tdc1 (t := fyes) h
end
end Vx
/-! lists of one's own as arguments; two lists at once; joins with a draw -/
namespace Vx
open Rep (rep)
open EnvR (er)
open PySem PySem.Spec PyProof.Rows L2
section
variable {Γ Γ1 Γ2 Γd S ρ : Type} [EnvR Γ] [EnvR Γ1] [EnvR Γ2] [EnvR Γd] [Md S] {α β : Type} [Rep α] [Rep β] {X : Cx} {K : PySem.W.Frag} {R : RR ρ} {a b e o : Expr} {p1 p2 pos apos : Pos} {i j : Nat} {x : Str}
/-- tuple(xs), xs of one's own -/
theorem ve_tupO (o : Own i Γ α Γd) {fr : Γ → Option (Tup α)} (efr : (fun γ => some (⟨o.get γ⟩ : Tup α)) = fr) (hm : X.mg "tuple" = none) (hN : X.N[i]? = some x := by rfl) (hv : Vis X.env.scope x := by first | exact Or.inl rfl | exact Or.inr (Or.inl rfl) | exact Or.inr (Or.inr rfl)) (hd : (x == ("__debug__" : Str)) = false := by decide)
    (hcd : (x == ("__classdict__" : Str)) = false := by decide) (hg : Gl X "tuple" := by rfl) (he : starEach [.Name x p1] X.env = (false, eval (.Name x p1) X.env) :: starEach [] X.env := by rfl) (hpl : (backTo pos (starEach [] X.env)).any (·.1) = false := by rfl) : VE X (.Call (.Name "tuple" p2) [.Name x p1] [] pos) fr := by
  subst efr
  exact PE.le (pe_callTy call_tuple_of hg hm (by decide +kernel) (pa_cons (pe_var hN hv hd hcd) pa_nil he) (he := he) (hpl := hpl)) fun σ H Q ⟨F, G, L, γ, z, w, hh, ea, q⟩ => by
    cases ea
    obtain ⟨qa, vs, k1, k2, k3, k4, _⟩ := o.ok hh
    refine ⟨.ref qa, k1, qa, vs, rfl, .inl ⟨SqL.of (w.f _ _ k3), fun l hl => ?_⟩⟩
    obtain ⟨G2, x2, w2, r2⟩ := tup_new w hl k4
    exact q _ G2 _ x2 w2 r2
/-- ''.join(..) with a draw -/
theorem me_join {f : Γ → Option (Str × Γ)} {g : Γ → Option (List Str × Γ)} (ho : ME X o f) (he : ME X e g) (hs : starEach [e] X.env = [(false, eval e X.env)] := by rfl) (hbase : attributeBase o "join" X.env (eval o X.env) = eval o X.env := by rfl) (hline : (apos.endLine == pos.line) = true := by rfl) :
    ME X (.Call (.Attribute o "join" apos) [e] [] pos) (m2 jn f g) := PE.le (pe_join ho he hs hbase hline) fun σ H Q ⟨F, G, L, γ, z, γ', w, hh, ea, q⟩ => by
  obtain ⟨x, γ1, y, e1, e2, e3⟩ := m2_some ea
  unfold jn at e3
  split at e3
  · rename_i hl
    cases e3
    refine ⟨F, G, L, γ, x, γ1, w, hh, e1, fun v F2 G2 H2 x2 w2 o2 h2 r2 => ⟨⟨x, r2⟩, F2, G2, L, γ1, y, γ', w2, h2, e2, fun u F3 G3 H3 x3 w3 o3 h3 r3 => ?_⟩⟩
    obtain ⟨p, vs, g1, g2, g3⟩ := r3
    rw [strs_of g3] at g2
    exact ⟨x, p, y, r2, by rw [g1], .inl (.inl (.inl (w3.g _ _ g2))), by omega, q _ F3 _ _ (x2.trans x3) w3 (off_trans o2 o3) h3 rfl⟩
  · cases e3
/-- list(range(n)) -/
def lrng (n : Int) : Option (List Int) := if 0 ≤ n ∧ n ≤ 100000 then some (rng 0 n) else none
theorem vf_lrng {f : Γ → Option Int} (hc : X.calm = true) (hm : X.mg "list" = none) (hm2 : X.mg "range" = none) (h : VE X a f) (hg : Gl X "list" := by rfl) (hg2 : Gl X "range" := by rfl) (na2 : starEach [a] X.env = (false, eval a X.env) :: starEach [] X.env := by rfl)
    (na : starEach [.Call (.Name "range" p1) [a] [] apos] X.env = (false, eval (.Call (.Name "range" p1) [a] [] apos) X.env) :: starEach [] X.env := by rfl) : VF X (.Call (.Name "list" p2) [.Call (.Name "range" p1) [a] [] apos] [] pos) (f1 lrng f) :=
  PE.le (pe_listRg hc hg hm (prg_1 hg2 hm2 h na2) na) fun σ H Q ⟨F, G, L, γ, z, w, hh, ea, q⟩ => by
    unfold f1 at ea
    cases e1 : f γ with
    | none => rw [e1] at ea; cases ea
    | some n =>
      rw [e1] at ea
      replace ea : lrng n = some z := ea
      unfold lrng at ea
      split at ea
      case isFalse => cases ea
      rename_i hn
      cases ea
      refine ⟨F, G, L, γ, n, w, hh, e1, fun v G2 H2 x2 w2 r2 => ?_⟩
      cases r2
      refine ⟨n, rfl, RgOk.of_le (by omega) (by omega) (by omega) (by omega), fun qa hqa => ?_⟩
      have e : rgV 0 n = (rng 0 n).map V.int := by
        unfold rgV rng
        rw [List.map_map]
        rfl
      rw [e]
      obtain ⟨w3, r3⟩ := rf_new w2 hqa (of_ints (K := X.K) (G := G2) (xs := rng 0 n))
      exact q _ G2 _ x2 w3 r3
/-- a pair, with a draw -/
theorem me_pair {f : Γ → Option ((α × β × Unit) × Γ)} {kt : Nat} (h : MA X [a, b] f) : ME X (.Tuple [a, b] kt pos) (m1 pairT f) := PE.le (pe_tup h) fun σ H Q ⟨F, G, L, γ, z, γ', w, he, ea, q⟩ => by
  obtain ⟨x, e1, e2⟩ := m1_some ea
  cases e2
  refine ⟨F, G, L, γ, x, γ', w, he, e1, fun vs F2 G2 H2 x2 w2 o2 h2 r2 => ?_⟩
  obtain ⟨v, u, e, h3, h4⟩ := rl2 r2
  subst e
  refine ⟨(by decide : 2 ≤ sizeLine), fun p hp => ?_⟩
  have ex := Ex.upd (o := HO.tup [v, u]) (w2.fresh hp).1
  exact q _ F2 _ _ (x2.trans ex) (w2.new hp) o2 (EnvR.mono ex h2) ⟨p, v, u, rfl, upd_same, Rep.mono ex h3, Rep.mono ex h4⟩
end
section
variable {Γ : Type} [EnvR Γ] {X : Cx} {A : Type} [RepL A] {k : Nat} {psn : List Str} {p pos : Pos} {e : Expr} {es : List Expr}
variable {Γ' ρ : Type} [EnvR Γ'] {R : RR ρ} {value : Expr} {p1 p2 : Pos} {x : Str}
theorem vd_s1 {f : OI0 × Γ → Option Str} {fr : OI0 × Γ → Option (Fl (OI1 × Γ) Unit ρ)} (T : TmF X.K) (efr : sf1 f = fr) (hv : VE X value f) (hN : X.N[0]? = some x := by rfl) (hvs : Vis X.env.scope x := by first | exact Or.inl rfl | exact Or.inr (Or.inl rfl) | exact Or.inr (Or.inr rfl)) (hd : (x == ("__debug__" : Str)) = false := by decide)
    (hcd : (x == ("__classdict__" : Str)) = false := by decide) (hs : swapsWith value (some (.Attribute (.Name x p1) "_things" p2)) pos.line X.env = pure false := by rfl) : VS X Unit R (.Assign [.Attribute (.Name x p1) "_things" p2] value pos) fr := by
  obtain ⟨C, h1, h2, n1, n2, n3⟩ := T
  exact vs_f1 efr h1 h2 n1 hv hN hvs hd hcd hs
theorem vd_s2 {f : OI1 × Γ → Option (Tup Str)} {fr : OI1 × Γ → Option (Fl (OI2 × Γ) Unit ρ)} (T : TmF X.K) (efr : sf2 f = fr) (hv : VE X value f) (hN : X.N[0]? = some x := by rfl) (hvs : Vis X.env.scope x := by first | exact Or.inl rfl | exact Or.inr (Or.inl rfl) | exact Or.inr (Or.inr rfl)) (hd : (x == ("__debug__" : Str)) = false := by decide)
    (hcd : (x == ("__classdict__" : Str)) = false := by decide) (hs : swapsWith value (some (.Attribute (.Name x p1) "_closed" p2)) pos.line X.env = pure false := by rfl) : VS X Unit R (.Assign [.Attribute (.Name x p1) "_closed" p2] value pos) fr := by
  obtain ⟨C, h1, h2, n1, n2, n3⟩ := T
  exact vs_f2 efr h1 h2 n2 hv hN hvs hd hcd hs
theorem vd_s3 {f : OI2 × Γ → Option (Dct Str)} {fr : OI2 × Γ → Option (Fl (OI3 × Γ) Unit ρ)} (T : TmF X.K) (efr : sf3 f = fr) (hv : VE X value f) (hN : X.N[0]? = some x := by rfl) (hvs : Vis X.env.scope x := by first | exact Or.inl rfl | exact Or.inr (Or.inl rfl) | exact Or.inr (Or.inr rfl)) (hd : (x == ("__debug__" : Str)) = false := by decide)
    (hcd : (x == ("__classdict__" : Str)) = false := by decide) (hs : swapsWith value (some (.Attribute (.Name x p1) "_around" p2)) pos.line X.env = pure false := by rfl) : VS X Unit R (.Assign [.Attribute (.Name x p1) "_around" p2] value pos) fr := by
  obtain ⟨C, h1, h2, n1, n2, n3⟩ := T
  exact vs_f3 efr h1 h2 n3 hv hN hvs hd hcd hs
end
end Vx
/-! a local that a loop has set, perhaps -/
namespace Vx
open Rep (rep)
open EnvR (er)
open PySem PySem.Spec PyProof.Rows L2
structure Mb (α : Type) where
  v : Option α
instance {α : Type} [Rep α] : Slot (Mb α) := ⟨fun K G _ L o t => L = [] ∧ ∀ a, t.v = some a → ∃ v, o = some v ∧ rep K G a v, fun e ⟨h1, h2⟩ => ⟨h1, fun a ha => let ⟨v, h3, h4⟩ := h2 a ha; ⟨v, h3, Rep.mono e h4⟩⟩, fun _ h => h, fun h q hq => by
  rw [h.1] at hq
  cases hq⟩
instance {α : Type} [Rep α] : VSlot (Mb α) := ⟨fun h => h.1⟩
section
variable {Γ Γ' Γe S ρ α τ : Type} [EnvR Γ] [EnvR Γ'] [EnvR Γe] [Md S] [Rep α] [Rep τ] {X : Cx} {R : RR ρ} {elt iter : Expr} {ifs : List Expr} {scope : Scope} {pos tpos spos py : Pos} {x y : Str} {i j : Nat}
/-- name = [.. with draws ..], the name a plain local -/
theorem vs_setLcM (pt : Put i Γ (List α) Γ') (c : PB j Γ τ Γe) {g : Γ → Option (List τ × Γ)} {t : Γe → Option (Bool × Γe)} {e : Γe → Option (α × Γe)} {fr : Γ → Option (Fl Γ' S ρ)} (efr : ssetm (S := S) pt (mlc c.p c.b g t e) = fr) (hc : X.calm = true) (hN : X.N.Nodup) (hi : MI X (.Name x tpos) iter g) (ok : blkC X.N X.env.scope scope [(x, j)] = true)
    (hg : ∀ (s : Shared) (H : Hp) (C : Addr) (cl : List (Str × Addr)) (fp : List Addr), PG (X.blk s H scope (compEnvC scope cl C X.env) fp) (.Name x tpos) (gName j))
    (ht : ∀ (s : Shared) (H : Hp) (C : Addr) (cl : List (Str × Addr)) (fp : List Addr), MTs (X.blk s H scope (compEnvC scope cl C X.env) fp) ifs t)
    (he : ∀ (s : Shared) (H : Hp) (C : Addr) (cl : List (Str × Addr)) (fp : List Addr), ME (X.blk s H scope (compEnvC scope cl C X.env) fp) elt e)
    (hsw : swapsWith (.ListComp elt [⟨.Name x tpos, iter, ifs, 0⟩] scope pos) (some (.Name y py)) spos.line X.env = pure true := by rfl) (hn : X.N[i]? = some y := by rfl) (hyl : X.env.scope.names.lookup y = some .local := by rfl) (ho : Md.okI S i = true := by rfl) (hs : ∀ x, foldedSetIterable iter X.env x = pure x := by intro _; rfl) :
    VS X S R (.Assign [.Name y py] (.ListComp elt [⟨.Name x tpos, iter, ifs, 0⟩] scope pos) spos) fr := by
  subst efr
  exact PS.le (ps_setLc (own := [(x, j)]) (g := gName j) hc hN hn hyl hsw hi (blkOk_by ok) hg ht he hs) fun D σ H ⟨F, G, L, γ, q, r, wd, nd, hh, ha, ea, k⟩ => by
    unfold ssetm at ea
    cases e1 : mlc c.p c.b g t e γ with
    | none => rw [e1] at ea; cases ea
    | some z =>
      obtain ⟨z, γ'⟩ := z
      rw [e1] at ea
      cases ea
      refine tlc (σ := σ) (Q := fun v H1 => D.nx (σ.set i (some v)) H1) ⟨F, G, L, γ, z, γ', wd, hh, e1, fun v F2 G2 H2 x2 w2 o2 er2 ⟨c, vs, h1, hF, hG, hH, hr⟩ => ?_⟩
      have ex : Ex G2 (upd G2 c (.lst vs)) := Ex.upd hG
      have w3 : W F2 (upd G2 c (.lst vs)) H2 := ⟨fun a o u => by
        by_cases hap : a = c
        · subst hap
          rw [upd_same] at u
          rw [← u]
          exact hH
        · rw [upd_ne hap] at u
          exact w2.g a o u, w2.f, fun a o u => by
        have hap : a ≠ c := fun b => by
          rw [b, hF] at u
          cases u
        rw [upd_ne hap]
        exact w2.d a o u⟩
      exact k _ L F2 _ H2 (x2.trans ex) w3 nd (Off.of o2) Sub.refl (pt.ok (EnvR.mono ex er2) ⟨c, vs, h1, upd_same, Paired.mono (fun _ _ u => Rep.mono ex u) hr⟩) (Md.keep ho ha)
end
end Vx
/-! x, y, z = a list, with draws -/
namespace Vx
open Rep (rep)
open EnvR (er)
open PySem PySem.Spec PyProof.Rows L2
instance : DatE (Option Str) := ⟨fun x y => by
  cases x with
  | none =>
    cases y with
    | none => rfl
    | some b => rfl
  | some a =>
    cases y with
    | none => rfl
    | some b =>
      show PyData.eqv (PyData.str a) (PyData.str b) = _
      have := DatE.eqv a b
      have e : decide (some a = some b) = decide (a = b) := decide_eq_decide.mpr (by simp)
      rw [e]
      exact this⟩
end Vx
namespace Vx
open Rep (rep)
open EnvR (er)
open PySem PySem.Spec PyProof.Rows L2
/-! a tuple from behind -/
end Vx
/-! x == y of two objects of one class that has its own word for it -/
namespace Vx
open Rep (rep)
open EnvR (er)
open PySem PySem.Spec PyProof.Rows L2
section
variable {X : Cx} {k : Nat} {g C : Addr} {fd : FuncData} {ps : List Str} {sp : Sp}
def rOwnI (C : Addr) (sp : Sp) : R2 := fun x y H Q => ∃ a dx fs b dy gs, x = .ref a ∧ y = .ref b ∧ H a = some (.ins C dx fs) ∧ H b = some (.ins C dy gs) ∧ sp [x, y] H Q E0
theorem op_ownI {op : CmpOp} (hop : ∀ a b, compareOp op a b = richCompare op a b) (hs : PySem.W.findIn X.K (.ref C) (cmpInfo op).2.1 = some (some (.ref g))) (hf : PySem.W.isFn X.K (.ref g) = true) (F : GnOk X.prog X.w X.K X.mg X.base k g fd ps sp) (hgd : X.A.guards = some []) (hr : Room k X.A) (hb : Binds X.K fd ps []) : OpR X (compareOp op) (rOwnI C sp) := by
  intro pins s σ H x y v u Q I rx ry h
  obtain ⟨a, dx, fs, b, dy, gs, rfl, rfl, ha, hb', q⟩ := h
  cases (show v = Value.ref a from rx)
  cases (show u = Value.ref b from ry)
  obtain ⟨mA, O, _⟩ := ins_get I.hok ha
  obtain ⟨od, J, _⟩ := O.look
  obtain ⟨mB, O', _⟩ := ins_get I.hok hb'
  obtain ⟨od', J', _⟩ := O'.look
  obtain ⟨m, hF⟩ := I.fr
  rw [hop]
  have r2 : Vals [V.ref a, V.ref b] [Value.ref a, Value.ref b] := .cons rfl (.cons rfl .nil)
  have hl : [Value.ref a, Value.ref b].length = ps.length := F.len _ _ _ _ q
  have bt := hb s [Value.ref a, Value.ref b] I.kIn (by rw [List.append_nil]; exact hl)
  rw [List.append_nil] at bt
  have hn : PySem.W.notFirst X.K C (.ref C) = true := by
    unfold PySem.W.notFirst
    simp
  refine PySem.W.cmp_K (op := op) (tb := .ref C) hr.units0 hF I.ok.mod.kin J J'.type hn hs hf ?_
  apply wpAny_call
  apply codeAny_mono (g_run F hgd hr bt I r2 q)
  intro r s' z
  cases r with
  | error _ => exact z.elim
  | ok fl =>
    cases fl with
    | ret w =>
      obtain ⟨z', H', I', rz, qz⟩ := z
      exact SlX.cmpback rz ⟨z', H', I', rz, qz⟩
    | next => exact z.elim
    | brk => exact z.elim
    | cont => exact z.elim
theorem o_ownI {K : PySem.W.Frag} {C : Addr} (at_ : ClsAt K C) {ρ : Type} [Rep ρ] {mi : Clo × Clo × Unit → Option ρ} : Op2 (rOwnI C (spF K mi)) (RE K (α := Clo)) (RE K (α := Clo)) (RE K) (fun x y => mi (x, y, ())) := fun F G H x y z vx vy Q w rx ry e k => by
  obtain ⟨p, C', dx, vc, va, h1, h2, h3, h4, h5⟩ := id rx
  obtain ⟨q, C2, dy, vc2, va2, g1, g2, g3, g4, g5⟩ := id ry
  have := at_.one h2
  subst this
  have := at_.one g2
  subst this
  subst h1 g1
  refine ⟨p, dx, _, q, dy, _, rfl, rfl, w.g _ _ h3, w.g _ _ g3, ?_⟩
  exact ⟨F, G, (x, y, ()), z, w, ⟨_, _, rfl, rx, ⟨_, _, rfl, ry, rfl⟩⟩, e, fun v G4 H4 x4 w4 r4 => k v G4 H4 x4 w4 r4⟩
variable {Γ : Type} [EnvR Γ] {a b : Expr} {pos : Pos}
theorem vd_eqC {mi : Clo × Clo × Unit → Option Bool} {f h : Γ → Option Clo} {ps : List Str} (D : DfMt X.prog X.w X.K X.mg X.base "__eq__" k ps (spF X.K mi)) (hgd : X.A.guards = some []) (hr : Room k X.A) (h1 : VE X a f) (h2 : VE X b h) (hmk : behindInMarks CmpOp.Eq b = false := by rfl) : VE X (.Compare a [.Eq] [b] pos) (f2 (fun x y => mi (x, y, ())) f h) := by
  obtain ⟨C, g, fd, at_, _, hm, hb, G⟩ := D
  exact vo_cmp (R1 := RE X.K) (R2 := RE X.K) (φ := fun x y => mi (x, y, ())) (op_ownI (op := .Eq) (fun _ _ => rfl) hm.at_ hm.fn G hgd hr hb) (o_ownI (mi := mi) at_) re_mono h1 h2 hmk
end
end Vx
/-! a drawn list is walked -/
namespace Vx
open Rep (rep)
open EnvR (er)
open PySem PySem.Spec PyProof.Rows L2
section
variable {Γ : Type} [EnvR Γ] {τ : Type} [Rep τ] {X : Cx} {tg e : Expr}
theorem mi_list {f : Γ → Option (List τ × Γ)} (h : ME X e f) : MI X tg e f := PI.le (pi_list h) fun σ H R ⟨F, G, L, γ, xs, γ', w, he, ea, q⟩ =>
  ⟨F, G, L, γ, xs, γ', w, he, ea, fun v F2 G2 H2 e2 w2 of er2 ⟨p, vs, h1, h2, h3⟩ => ⟨p, h1, ⟨vs, .inl (.inl (w2.g _ _ h2))⟩, q _ F2 G2 H2 e2 w2 of er2 (walks_list h2 h3)⟩⟩
end
end Vx
/-! sorted of a list of plain data, so of pairs of texts -/
namespace Vx
open Rep (rep)
open EnvR (er)
open PySem PySem.Spec PyProof.Rows L2
/-- data that can be sorted -/
class DatS (α : Type) [Rep α] [Dat α] : Prop where
  ali : ∀ x y : α, PySem.W.alike (Dat.d x) (Dat.d y) = true
  srt : ∀ xs : List α, PySem.W.Sortable (xs.map Dat.d)
instance : DatS (T2 Str Str) := ⟨fun x y => by
    show PySem.W.alike (.tuple [.str x.a, .str x.b]) (.tuple [.str y.a, .str y.b]) = true
    simp [PySem.W.alike, PySem.W.alikeAll], fun xs => PySem.W.Sortable.tuples fun b => ⟨_, _, rfl⟩⟩
/-- the order in which plain data come -/
def srtP {α : Type} [Rep α] [Dat α] (xs : List α) : List α := xs.mergeSort (PySem.W.dataLe false Dat.d)
theorem srtP_perm {α : Type} [Rep α] [Dat α] (xs : List α) : (srtP xs).Perm xs := List.mergeSort_perm _ _
section
variable {X : Cx} {α : Type} [Rep α] [Dat α] [DatS α]
def rSrtP (α : Type) [Rep α] [Dat α] (K : PySem.W.Frag) : List V → Hp → VK → Prop := fun vs H Q => ∃ (b : Addr) (ws : List V) (xs : List α) (P : α → V → Prop), vs = [.ref b] ∧ SqL K H b ws ∧ PySem.Paired P xs ws ∧ (∀ x w, P x w → Dp K H w (Dat.d x)) ∧ xs.length ≤ 100000 ∧ ∀ p us, H p = none → PySem.Paired P (srtP xs) us → Q (.ref p) (upd H p (.lst us))
theorem each_of {P : α → V → Prop} : ∀ {xs : List α} {ws : List V} {us : List Value}, PySem.Paired P xs ws → Vals ws us → PySem.W.EachIs (fun v b => ∃ z, RelV z v ∧ P b z) us xs
  | _, _, _, .nil, .nil => .nil
  | _, _, _, .cons r t, .cons r2 t2 => .cons ⟨_, r2, r⟩ (each_of t t2)
theorem of_each {P : α → V → Prop} : ∀ {us : List Value} {xs : List α}, PySem.W.EachIs (fun v b => ∃ z, RelV z v ∧ P b z) us xs → ∃ ws, PySem.Paired P xs ws ∧ Vals ws us
  | _, _, .nil => ⟨[], .nil, .nil⟩
  | _, _, .cons ⟨z, r, p⟩ t => by
    obtain ⟨ws, h1, h2⟩ := of_each t
    exact ⟨z :: ws, .cons p h1, .cons r h2⟩
theorem cr_srtP (hu : X.A.units + 64 < cLine) (hd : Dat.dep α ≤ 60 := by decide) : CallR X (.builtin "sorted") (rSrtP α X.K) := by
  intro pins s σ H vs us Q I r h
  obtain ⟨b, ws, xs, P, rfl, hs, hp, hg, hz, k⟩ := h
  obtain ⟨its, rv, hl, _⟩ := I.list hs
  rw [Vals.ref1 r]
  have es := each_of hp rv
  have hL : xs.length ≤ sizeLine := Nat.le_trans hz (by decide)
  have er : PySem.W.EachIs (fun v b => ∃ as, Reads s.heap v (Dat.d b) as) its xs := es.mono fun v x ⟨z, rz, pz⟩ => Dp.reads I (Dat.d x) z v (hg x z pz) rz
  apply PySem.W.sorted_data (enc := Dat.d) hl.isList es er (PySem.W.AllAlike.of DatS.ali) (DatS.srt xs) hL
  · intro x _
    have := Dat.depth x
    omega
  intro out hlen eo
  obtain ⟨ws2, so, sv⟩ := of_each eo
  obtain ⟨ep, he'⟩ := PyProof.Rows.sortedAll_at s.heap its out.toArray
  have hn : H (s.heap.objs.size + 1) = none := I.hok.fresh (Nat.le_succ _)
  have lz : ws2.length ≤ sizeLine := by
    rw [← paired_len so, (List.mergeSort_perm _ _).length_eq]
    exact hL
  exact ⟨.ref _, _, I.laid (t' := s.toks) (o := .lst ws2) (fun _ _ => PyProof.Rows.sortedAll_old) (Nat.le_succ _) ⟨lz, out, ep, sv, he'⟩, rfl, k _ _ hn so⟩
def srtLP (a : List α × Unit) : Option (List α) := if a.1.length ≤ 100000 then some (srtP a.1) else none
theorem o_srtLP {K : PySem.W.Frag} : OpA (rSrtP α K) K (RF K) (srtLP (α := α)) := fun F G H a y vs Q w r e k => by
  obtain ⟨v, h1, p, us, h2, h3, h4⟩ := rl1 r
  unfold srtLP at e
  split at e
  · rename_i hl
    cases e
    subst h2
    exact ⟨p, us, a.1, rep K G, h1, .inl (.inl (w.g _ _ h3)), h4, fun x z hx => Dat.ok hx w.g, hl, fun l us2 hl so => let ⟨w2, r2⟩ := rf_new w hl so; k _ _ _ (Ex.refl G) w2 r2⟩
  · cases e
end
end Vx
/-! [e for x in xs for y in ys] -/
namespace Vx
open Rep (rep)
open EnvR (er)
open PySem PySem.Spec PyProof.Rows L2
/-- a slot of which nothing is known may be empty -/
structure Nn (i : Nat) (Γ : Type) [EnvR Γ] : Prop where
  ok : ∀ {K : PySem.W.Frag} {G F : Hp} {L : List Addr} {σ : L2.St} {γ : Γ}, EnvR.er K G F L σ γ → EnvR.er K G F L (σ.set i none) γ
theorem nz {Γ : Type} [EnvR Γ] : Nn 0 (Any × Γ) := ⟨fun ⟨L1, L2, o, σ', h1, h2, h3, h4, h5⟩ => ⟨L1, L2, none, σ', h1, by subst h2; rfl, h3, h4, h5⟩⟩
theorem ns {i : Nat} {τ₀ Γ : Type} [Slot τ₀] [EnvR Γ] (n : Nn i Γ) : Nn (i + 1) (τ₀ × Γ) := ⟨fun ⟨L1, L2, o, σ', h1, h2, h3, h4, h5⟩ => ⟨L1, L2, o, σ'.set i none, h1, by subst h2; rfl, h3, n.ok h4, h5⟩⟩
section
variable {Γ Γ1 Γ2 : Type} [EnvR Γ] [EnvR Γ1] [EnvR Γ2] {α τ τ1 : Type} [Rep τ] [Rep τ1] [Rep α] {i i1 : Nat}
def catGo (h : τ → Option (List α)) : List τ → Option (List α)
  | [] => some []
  | x :: xs => (h x).bind fun ys => (catGo h xs).map (ys ++ ·)
def flc1 (p1 : Put i1 Γ1 τ1 Γ2) (t : Γ1 → Option Bool) (g1 : Γ1 → Option (List τ1)) (t1 : Γ2 → Option Bool) (e : Γ2 → Option α) : Γ1 → Option (List α) := fun γ => (t γ).bind fun b => if b then (g1 γ).bind fun ys => if ys.length ≤ 300 then lcGo (fun y => t1 (p1.put γ y)) (fun y => e (p1.put γ y)) ys else none else some []
def flc2 (p : Put i Γ τ Γ1) (p1 : Put i1 Γ1 τ1 Γ2) (g : Γ → Option (List τ)) (t : Γ1 → Option Bool) (g1 : Γ1 → Option (List τ1)) (t1 : Γ2 → Option Bool) (e : Γ2 → Option α) : Γ → Option (List α) := fun γ => (g γ).bind fun xs => if xs.length ≤ 300 then catGo (fun x => flc1 p1 t g1 t1 e (p.put γ x)) xs else none
theorem set2 {σ : L2.St} {i : Nat} {a b : Option V} : (σ.set i a).set i b = σ.set i b := set_set'
theorem tlcp2 {K : PySem.W.Frag} {p : Put i Γ τ Γ1} {p1 : Put i1 Γ1 τ1 Γ2} (n : Nn i1 Γ) (hij : i ≠ i1) {g : Γ → Option (List τ)} {t : Γ1 → Option Bool} {g1 : Γ1 → Option (List τ1)} {t1 : Γ2 → Option Bool} {e : Γ2 → Option α} {σ : L2.St} {H : Hp} {Q : VK} (h : tev K (RF K) (flc2 p p1 g t g1 t1 e) σ H Q) :
    tLc2 (tiv K g) (gName i) (tet K t) (tiv K g1) (gName i1) (tet K t1) (tev K (RE K) e) [i, i1] [i1] σ H Q := by
  obtain ⟨F, G, L, γ, zs, w, he, ea, q⟩ := h
  unfold flc2 at ea
  cases e0 : g γ with
  | none => rw [e0] at ea; cases ea
  | some xs =>
  rw [e0] at ea
  simp only [Option.bind_some] at ea
  split at ea
  case isFalse => cases ea
  rename_i hlen
  refine ⟨F, G, L, γ, xs, w, he, e0, fun J G1 H1 x1 w1 wl D hD => ?_⟩
  have fd := w1.fresh hD
  have nD : ∀ q ∈ L, q ≠ D := fun q hq z => EnvR.there he q hq (by rw [z]; exact fd.2)
  refine ⟨fun j m H' => m = xs.length - j ∧ j ≤ xs.length ∧ ∃ G2 acc ys rest, Ex G1 G2 ∧ W (upd F D (.lst acc)) G2 H' ∧ PySem.Paired (rep K G2) ys acc ∧ acc.length ≤ 300 * j ∧
      catGo (fun x => flc1 p1 t g1 t1 e (p.put γ x)) (xs.drop j) = some rest ∧ zs = ys ++ rest, ⟨xs.length, by simp, Nat.zero_le _, G1, [], [], zs, Ex.refl _, w1.own hD, .nil, Nat.zero_le _, ea, rfl⟩, ?_⟩
  rintro j m H' ⟨rfl, hj, G2, acc, ys, rest, x2, w2, r2, hacc, go, rfl⟩
  by_cases hlt : j < xs.length
  · obtain ⟨x, hx⟩ : ∃ x, xs[j]? = some x := ⟨xs[j], List.getElem?_eq_getElem hlt⟩
    obtain ⟨hgo, hyl⟩ := (wl (upd F D (.lst acc)) G2 H' x2 w2 j).1 x hx
    have hdrop : xs.drop j = x :: xs.drop (j + 1) := by
      rw [List.drop_eq_getElem_cons hlt]
      have : xs[j] = x := Option.some.inj ((List.getElem?_eq_getElem hlt).symm.trans hx)
      rw [this]
    rw [hdrop] at go
    unfold catGo at go
    refine .inr ⟨hgo, fun H3 => ∃ G2 acc ys rest', Ex G1 G2 ∧ W (upd F D (.lst acc)) G2 H3 ∧ PySem.Paired (rep K G2) ys acc ∧ acc.length ≤ 300 * (j + 1) ∧
      catGo (fun x => flc1 p1 t g1 t1 e (p.put γ x)) (xs.drop (j + 1)) = some rest' ∧ _ = ys ++ rest', fun H3 z => ⟨xs.length - (j + 1), by omega, rfl, hlt, z⟩, fun xv H3 hy => ?_⟩
    obtain ⟨G3, x3, w3, rx⟩ := hyl xv H3 hy
    have er3 : EnvR.er K G3 (upd F D (.lst acc)) L ((σ.set i1 none).set i (some xv)) (p.put γ x) := p.ok (n.ok (EnvR.keep (fun q hq => upd_ne (nD q hq)) (EnvR.mono ((x1.trans x2).trans x3) he))) rx
    have ew : (wipe σ [i, i1]).set i (some xv) = (σ.set i1 none).set i (some xv) := by
      show ((σ.set i1 none).set i none).set i (some xv) = _
      rw [set2]
    show wipe ((wipe σ [i, i1]).set i (some xv)) [i, i1] = wipe σ [i, i1] ∧ _
    refine ⟨by show ((((σ.set i1 none).set i none).set i (some xv)).set i1 none).set i none = (σ.set i1 none).set i none; rw [set2, List.set_comm (some xv) none hij, set2, set2], ?_⟩
    show tet K t ((wipe σ [i, i1]).set i (some xv)) H3 _
    rw [ew]
    cases e1 : flc1 p1 t g1 t1 e (p.put γ x) with
    | none =>
      rw [e1] at go
      cases go
    | some in1 =>
    rw [e1] at go
    simp only [Option.bind_some] at go
    cases eg : catGo (fun x => flc1 p1 t g1 t1 e (p.put γ x)) (xs.drop (j + 1)) with
    | none =>
      rw [eg] at go
      cases go
    | some rest' =>
    rw [eg] at go
    simp only [Option.map_some] at go
    cases go
    unfold flc1 at e1
    cases et : t (p.put γ x) with
    | none =>
      rw [et] at e1
      cases e1
    | some b =>
      rw [et] at e1
      simp only [Option.bind_some] at e1
      refine ⟨_, G3, L, _, b, w3, er3, et, fun G4 H4 x4 w4 => ?_⟩
      cases b with
      | false =>
        simp only [Bool.false_eq_true, if_false] at e1 ⊢
        cases e1
        exact ⟨G4, acc, ys, rest', (x2.trans x3).trans x4, w4, Paired.mono (fun _ _ z => Rep.mono (x3.trans x4) z) r2, by omega, rfl, rfl⟩
      | true =>
        simp only [if_true] at e1 ⊢
        cases eg1 : g1 (p.put γ x) with
        | none =>
          rw [eg1] at e1
          cases e1
        | some us =>
        rw [eg1] at e1
        simp only [Option.bind_some] at e1
        split at e1
        case isFalse => cases e1
        rename_i hlen1
        refine ⟨_, G4, L, _, us, w4, EnvR.mono x4 er3, eg1, fun J1 G5 H5 x5 w5 wl1 => ?_⟩
        have x25 : Ex G2 G5 := (x3.trans x4).trans x5
        refine ⟨fun k m H6 => m = us.length - k ∧ k ≤ us.length ∧ ∃ G6 acc2 ys2 rest2, Ex G5 G6 ∧ W (upd F D (.lst acc2)) G6 H6 ∧ PySem.Paired (rep K G6) ys2 acc2 ∧ acc2.length ≤ 300 * j + k ∧
          lcGo (fun y => t1 (p1.put (p.put γ x) y)) (fun y => e (p1.put (p.put γ x) y)) (us.drop k) = some rest2 ∧ ys ++ in1 = ys2 ++ rest2, ⟨us.length, by simp, Nat.zero_le _, G5, acc, ys, in1, Ex.refl _, w5, Paired.mono (fun _ _ z => Rep.mono x25 z) r2, hacc, e1, rfl⟩, ?_⟩
        rintro k m H6 ⟨rfl, hk, G6, acc2, ys2, rest2, x6, w6, r6, hacc2, go2, eq2⟩
        by_cases hlt2 : k < us.length
        · obtain ⟨y, hy2⟩ : ∃ y, us[k]? = some y := ⟨us[k], List.getElem?_eq_getElem hlt2⟩
          obtain ⟨hgo2, hyl2⟩ := (wl1 (upd F D (.lst acc2)) G6 H6 x6 w6 k).1 y hy2
          have hdrop2 : us.drop k = y :: us.drop (k + 1) := by
            rw [List.drop_eq_getElem_cons hlt2]
            have : us[k] = y := Option.some.inj ((List.getElem?_eq_getElem hlt2).symm.trans hy2)
            rw [this]
          rw [hdrop2] at go2
          unfold lcGo at go2
          refine .inr ⟨hgo2, fun H7 => ∃ G6 acc2 ys2 rest2, Ex G5 G6 ∧ W (upd F D (.lst acc2)) G6 H7 ∧ PySem.Paired (rep K G6) ys2 acc2 ∧ acc2.length ≤ 300 * j + (k + 1) ∧
            lcGo (fun y => t1 (p1.put (p.put γ x) y)) (fun y => e (p1.put (p.put γ x) y)) (us.drop (k + 1)) = some rest2 ∧ ys ++ in1 = ys2 ++ rest2, fun H7 z => ⟨us.length - (k + 1), by omega, rfl, hlt2, z⟩, fun yv H7 hy7 => ?_⟩
          obtain ⟨G7, x7, w7, ry⟩ := hyl2 yv H7 hy7
          have er7 : EnvR.er K G7 (upd F D (.lst acc2)) L (((σ.set i1 none).set i (some xv)).set i1 (some yv)) (p1.put (p.put γ x) y) := p1.ok (EnvR.keep (fun q hq => by rw [upd_ne (nD q hq), upd_ne (nD q hq)]) (EnvR.mono (((x4.trans x5).trans x6).trans x7) er3)) ry
          show wipe ((wipe ((σ.set i1 none).set i (some xv)) [i1]).set i1 (some yv)) [i1] = wipe ((σ.set i1 none).set i (some xv)) [i1] ∧ _
          refine ⟨by show ((((σ.set i1 none).set i (some xv)).set i1 none).set i1 (some yv)).set i1 none = ((σ.set i1 none).set i (some xv)).set i1 none; rw [set2, set2], ?_⟩
          show tet K t1 ((wipe ((σ.set i1 none).set i (some xv)) [i1]).set i1 (some yv)) H7 _
          rw [show (wipe ((σ.set i1 none).set i (some xv)) [i1]).set i1 (some yv) = ((σ.set i1 none).set i (some xv)).set i1 (some yv) from set2]
          cases et1 : t1 (p1.put (p.put γ x) y) with
          | none =>
            rw [et1] at go2
            cases go2
          | some b =>
            rw [et1] at go2
            simp only [Option.bind_some] at go2
            refine ⟨_, G7, L, _, b, w7, er7, et1, fun G8 H8 x8 w8 => ?_⟩
            cases b with
            | false =>
              simp only [Bool.false_eq_true, if_false] at go2 ⊢
              exact ⟨G8, acc2, ys2, rest2, (x6.trans x7).trans x8, w8, Paired.mono (fun _ _ z => Rep.mono (x7.trans x8) z) r6, by omega, go2, eq2⟩
            | true =>
              simp only [if_true] at go2 ⊢
              cases ee : e (p1.put (p.put γ x) y) with
              | none =>
                rw [ee] at go2
                cases go2
              | some u =>
                rw [ee] at go2
                simp only [Option.bind_some] at go2
                cases eg2 : lcGo (fun y => t1 (p1.put (p.put γ x) y)) (fun y => e (p1.put (p.put γ x) y)) (us.drop (k + 1)) with
                | none =>
                  rw [eg2] at go2
                  cases go2
                | some rest3 =>
                  rw [eg2] at go2
                  simp only [Option.map_some] at go2
                  cases go2
                  refine ⟨_, G8, L, _, u, w8, EnvR.mono x8 er7, ee, fun uv G9 H9 x9 w9 ru => ?_⟩
                  refine ⟨acc2, w9.f _ _ upd_same, Nat.lt_of_lt_of_le (show acc2.length < 100000 by omega) line_ge, G9, acc2 ++ [uv], ys2 ++ [u], rest3, ((x6.trans x7).trans x8).trans x9, ?_,
                    paired_app (Paired.mono (fun _ _ z => Rep.mono ((x7.trans x8).trans x9) z) r6) (.cons ru .nil), ?_, (by first | exact eg2 | rfl), ?_⟩
                  · have := w9.set (u := .lst (acc2 ++ [uv])) upd_same
                    rw [upd_upd] at this
                    exact this
                  · rw [List.length_append, List.length_singleton]
                    omega
                  · rw [eq2, List.append_assoc]
                    rfl
        · have hk2 : us.length ≤ k := Nat.le_of_not_lt hlt2
          refine .inl ⟨(wl1 (upd F D (.lst acc2)) G6 H6 x6 w6 k).2 hk2, ?_⟩
          rw [List.drop_eq_nil_of_le hk2] at go2
          cases go2
          rw [List.append_nil] at eq2
          exact ⟨G6, acc2, ys2, rest', ((x2.trans x25).trans x6), w6, r6, by omega, rfl, by rw [← eq2, List.append_assoc]⟩
  · have hj2 : xs.length ≤ j := Nat.le_of_not_lt hlt
    refine .inl ⟨(wl (upd F D (.lst acc)) G2 H' x2 w2 j).2 hj2, ?_⟩
    rw [List.drop_eq_nil_of_le hj2] at go
    unfold catGo at go
    cases go
    rw [List.append_nil] at q
    have fDx : ∀ acc : List V, Ex F (upd F D (.lst acc)) := fun acc a o z => by
      rw [upd_ne (fun y => by rw [y, fd.2] at z; cases z)]
      exact z
    exact q _ G2 H' (x1.trans x2) (w2.less (fDx acc)) ⟨D, acc, rfl, fd.2, w2.d D _ upd_same, w2.f _ _ upd_same, r2⟩
variable {X : Cx} {elt iter iter1 : Expr} {ifs ifs1 : List Expr} {scope : Scope} {pos tpos tpos1 : Pos} {x x1 : Str}
theorem vf_lc2_ (p : Put i Γ τ Γ1) (p1 : Put i1 Γ1 τ1 Γ2) (n : Nn i1 Γ) {g : Γ → Option (List τ)} {t : Γ1 → Option Bool} {g1 : Γ1 → Option (List τ1)} {t1 : Γ2 → Option Bool} {e : Γ2 → Option α} {fr : Γ → Option (List α)} (efr : flc2 p p1 g t g1 t1 e = fr) (hc : X.calm = true) (hN : X.N.Nodup) (hi : VI X (.Name x tpos) iter g) (ok : blkC X.N X.env.scope scope [(x, i), (x1, i1)] = true)
    (hg : ∀ (s : Shared) (H : Hp) (C : Addr) (cl : List (Str × Addr)) (fp : List Addr), PG (X.blk s H scope (compEnvC scope cl C X.env) fp) (.Name x tpos) (gName i))
    (ht : ∀ (s : Shared) (H : Hp) (C : Addr) (cl : List (Str × Addr)) (fp : List Addr), VTs (X.blk s H scope (compEnvC scope cl C X.env) fp) ifs t)
    (hi1 : ∀ (s : Shared) (H : Hp) (C : Addr) (cl : List (Str × Addr)) (fp : List Addr), VI (X.blk s H scope (compEnvC scope cl C X.env) fp) (.Name x1 tpos1) iter1 g1)
    (hg1 : ∀ (s : Shared) (H : Hp) (C : Addr) (cl : List (Str × Addr)) (fp : List Addr), PG (X.blk s H scope (compEnvC scope cl C X.env) fp) (.Name x1 tpos1) (gName i1))
    (ht1 : ∀ (s : Shared) (H : Hp) (C : Addr) (cl : List (Str × Addr)) (fp : List Addr), VTs (X.blk s H scope (compEnvC scope cl C X.env) fp) ifs1 t1)
    (he : ∀ (s : Shared) (H : Hp) (C : Addr) (cl : List (Str × Addr)) (fp : List Addr), VE (X.blk s H scope (compEnvC scope cl C X.env) fp) elt e) (hij : i ≠ i1 := by decide) (hs : ∀ x, foldedSetIterable iter X.env x = pure x := by intro _; rfl) (hs1 : ∀ env x, foldedSetIterable iter1 env x = pure x := by intro _ _; rfl) :
    VF X (.ListComp elt [⟨.Name x tpos, iter, ifs, 0⟩, ⟨.Name x1 tpos1, iter1, ifs1, 0⟩] scope pos) fr := by
  subst efr
  exact PE.le (pe_lc2 (own := [(x, i), (x1, i1)]) (vs1 := [i1]) (g := gName i) (g1 := gName i1) hc hN hi (blkOk_by ok) (by simp) hg ht hi1 hg1 ht1 he hs hs1) fun σ H Q h => tlcp2 n hij h
end
end Vx
/-! an own list that never changes again; an own list made with draws -/
namespace Vx
open Rep (rep)
open EnvR (er)
open PySem PySem.Spec PyProof.Rows L2
instance : DatS Int := ⟨fun x y => rfl, fun xs => PySem.W.Sortable.others fun b => ⟨(fun h => by cases h), (fun _ h => by cases h)⟩⟩
instance : DatS Str := ⟨fun x y => rfl, fun xs => PySem.W.Sortable.others fun b => ⟨(fun h => by cases h), (fun _ h => by cases h)⟩⟩
structure Frz (i : Nat) (Γ α Γ' : Type) [EnvR Γ] [Rep α] [EnvR Γ'] where
  fr : Γ → Γ'
  ok : ∀ {K : PySem.W.Frag} {G F : Hp} {L : List Addr} {σ : L2.St} {γ : Γ}, er K G F L σ γ → ∃ q vs L', q ∈ L ∧ F q = some (.lst vs) ∧ L'.Sublist L ∧ (G q = none → er K (upd G q (.lst vs)) (del F q) L' σ (fr γ))
def fz {Γ α : Type} [EnvR Γ] [Rep α] : Frz 0 (OL α × Γ) α (List α × Γ) := ⟨fun γ => (γ.1.l, γ.2), fun {K G F L σ γ} ⟨L1, L2, o, σ', h1, h2, ⟨q, vs, h3, h4, h5, h6⟩, h7, h8⟩ => by
  subst h2
  have hq : q ∉ L2 := h8 q (by rw [h3]; exact List.mem_singleton.mpr rfl)
  refine ⟨q, vs, L2, by rw [h1, h3]; exact List.mem_append_left _ (List.mem_singleton.mpr rfl), h5, by rw [h1]; exact List.sublist_append_right _ _, fun hG => ?_⟩
  have ex : Ex G (upd G q (.lst vs)) := Ex.upd hG
  exact ⟨[], L2, o, σ', rfl, rfl, ⟨rfl, _, h4, q, vs, rfl, upd_same, Paired.mono (fun _ _ z => Rep.mono ex z) h6⟩, EnvR.keep (fun b hb => del_ne (fun z => hq (by rw [← z]; exact hb))) (EnvR.mono ex h7), fun _ hb => by cases hb⟩⟩
def fs {i : Nat} {τ Γ α Γ' : Type} [Slot τ] [EnvR Γ] [Rep α] [EnvR Γ'] (w : Frz i Γ α Γ') : Frz (i + 1) (τ × Γ) α (τ × Γ') := ⟨fun γ => (γ.1, w.fr γ.2), fun {K G F L σ γ} ⟨L1, L2, o, σ', h1, h2, h3, h4, h5⟩ => by
  obtain ⟨q, vs, L', k1, k2, k3, k4⟩ := w.ok h4
  subst h2
  have hq : q ∉ L1 := fun z => h5 q z k1
  refine ⟨q, vs, L1 ++ L', by rw [h1]; exact List.mem_append_right _ k1, k2, by rw [h1]; exact List.Sublist.append (List.Sublist.refl _) k3, fun hG => ?_⟩
  exact ⟨L1, L', o, σ', rfl, rfl, Slot.keep (fun b hb => del_ne (fun z => hq (by rw [← z]; exact hb))) (Slot.mono (Ex.upd hG) h3), k4 hG, fun b hb hb' => h5 b hb (k3.subset hb')⟩⟩
section
variable {Γ Γ' Γ'' S ρ α : Type} [EnvR Γ] [EnvR Γ'] [EnvR Γ''] [Md S] [Rep α] {X : Cx} {R : RR ρ} {sts : List Stmt} {e : Expr} {pos : Pos} {i : Nat}
def sfrz (z : Frz i Γ α Γ') (g : Γ' → Option (Fl Γ'' S ρ)) : Γ → Option (Fl Γ'' S ρ) := fun γ => g (z.fr γ)
theorem vss_frz (z : Frz i Γ α Γ') {g : Γ' → Option (Fl Γ'' S ρ)} {fr : Γ → Option (Fl Γ'' S ρ)} (efr : sfrz z g = fr) (h : VSs X S R sts g) : VSs X S R sts fr := by
  subst efr
  exact PSs.le h fun D σ H ⟨F, G, L, γ, p, r, wd, nd, he, ha, ea, q⟩ => by
    obtain ⟨a, vs, L', k1, k2, k3, k4⟩ := z.ok he
    have hG : G a = none := wd.d a _ k2
    exact ⟨del F a, upd G a (.lst vs), L', z.fr γ, p, r, wd.free k2, nd.sublist k3, k4 hG, ha, ea, q.trans (Ex.upd hG) (fun b o hb e => by rw [del_ne (fun z => hb (by rw [z]; exact k1))]; exact e) (fun b hb => .inl (k3.subset hb))⟩
/-- x = a list just made with draws, to be changed -/
def snewm (p : PutO i Γ α Γ') (f : Γ → Option (List α × Γ)) : Γ → Option (Fl Γ' S ρ) := fun γ => (f γ).map fun (xs, γ) => .nx (p.put γ xs)
end
/-! in, not in: whole numbers in a list or a tuple -/
end Vx
/-! sorted(a text); sorted(a tuple of texts) -/
namespace Vx
open Rep (rep)
open EnvR (er)
open PySem PySem.Spec PyProof.Rows L2
section
variable {P : Program} {w : World} {A : Around} {E : Value → Shared → Prop} {s : Shared}
theorem code_textS {R : Result → Shared → Prop} (hh : A.handled = none) (x : Str) (t : Tok) (hn : x.cps.size ≤ sizeLine)
    (hR : ∀ h' tk acc' c', (∀ b o, s.heap.get? b = some o → h'.get? b = some o) → h'.get? s.heap.objs.size = some (Obj.mk (.type "list") none (.seq acc' c') #[]) → ItemsOf (SignAt x) acc' x.cps.size → R (.ok (.ret (.ref s.heap.objs.size))) { s with heap := h', toks := tk }) :
    codeAny (model P w) A (.builtin "proto.collect" ⟨[.str x t], []⟩) R s := by
  refine codeAny_builtin F.entry_proto_collect ?_
  rw [Around.under_plainId F.plain_proto_collect]
  change wpAny _ A.in1 (newList [] >>= fun l => again (Code.builtin "list.__iadd__" ⟨[l, Value.str x t], []⟩)) _ _ s
  apply wpAny_bind
  refine wpAny_newObj_type ?_
  refine wpAny_pure ⟨plainId_quiet F.plain_list_iadd _, ?_⟩
  refine codeAny_builtin F.entry_list_iadd ?_
  rw [Around.under_plainId F.plain_list_iadd]
  change wpAny _ A.in1 (Builtin.List.listExtendWith (Value.ref s.heap.objs.size) (Value.str x t) (Value.ref s.heap.objs.size)) _ _ _
  refine wpAny_extend_str (s := { s with heap := s.heap.push { cls := .type "list", data := .seq #[] } }) hh x t s.heap.objs.size (.ref s.heap.objs.size) 0 (Heap.get?_push_size _ rfl) (fun h' tk acc c' k1 k2 k3 => ?_) hn
  refine hR h' tk acc c' (fun b o e => k1 b o (fun z => ?_) (Heap.get?_push_of_some _ e)) k2 k3
  rw [z] at e
  exact Nat.lt_irrefl _ (Heap.lt_size e)
theorem collect_textS {Q : List Value → Shared → Prop} (hh : A.handled = none) (x : Str) (t : Tok) (hn : x.cps.size ≤ sizeLine)
    (hQ : ∀ s' acc, (∀ b o, s.heap.get? b = some o → s'.heap.get? b = some o) → s'.gens = s.gens → s'.os = s.os → s.heap.objs.size ≤ s'.heap.objs.size → ItemsOf (SignAt x) acc x.cps.size → Q acc.toList s') : wpAny (model P w) A (collect (.str x t)) Q E s := by
  unfold collect
  apply wpAny_bind
  apply wpAny_runValue
  refine code_textS hh x t hn fun h' tk acc c' k1 k2 k3 => ?_
  refine wpAny_bind (wpAny_load k2 ?_)
  apply wpAny_pure
  exact hQ _ acc k1 rfl rfl (Nat.le_of_lt (Heap.lt_size k2)) k3
theorem sorted_textS {z : Str} {t : Tok} {Q : Value → Shared → Prop} (hz0 : z.cps.size ≤ sizeLine) (hh : A.handled = none) (hu : A.units + 64 < cLine)
    (hQ : ∀ s' p (out : Array Value) (c : Nat), (∀ b o, s.heap.get? b = some o → s'.heap.get? b = some o) → s'.gens = s.gens → s'.os = s.os → s.heap.objs.size ≤ p → s'.heap.get? p = some (seqObj "list" out c) → StrsAre out.toList (srt (signs z)) → Q (.ref p) s') :
    wpAny (model P w) A (call (.builtin "sorted") [.str z t]) Q E s := by
  apply Calls.call_function_entry kind_sorted plain_sorted entry_sorted (args_sorted1 _)
  unfold Builtin.«sorted»
  refine wpAny_bind (m := checkCount "sorted" 1 1 _) (wpAny_pure ?_)
  apply wpAny_bind
  apply collect_textS (A := A.in1) hh z t hz0
  intro s1 acc k1 g1 o1 hge hacc
  have sv := signs_at hacc
  have st : StrsAre acc.toList (signs z) := sv.strs
  have ev := each_strs st
  have len : acc.toList.length ≤ sizeLine := by rw [Array.length_toList, hacc.1]; exact hz0
  apply wpAny_bind
  refine wpAny_newList ?_ len
  have hoL : (s1.heap.push (seqObj "list" acc.toList.toArray 0)).get? s1.heap.objs.size = some (seqObj "list" acc.toList.toArray 0) := Heap.get?_push_size _ rfl
  apply wpAny_bind
  apply wpAny_holding
  have er : PySem.W.EachIs (fun v b => ∃ as, Reads (s1.heap.push (seqObj "list" acc.toList.toArray 0)) v (PyData.str b) as ∧ s1.heap.objs.size ∉ as) acc.toList (signs z) := each_reads2 ev
  apply PySem.W.list_sort_data (s := { s1 with heap := s1.heap.push (seqObj "list" acc.toList.toArray 0) }) (enc := PyData.str) hoL ev er (strs_alike _) (strs_sortable _) (by simpa [signs] using hz0)
  · intro b _
    show A.units + 1 + 1 + 0 < cLine
    omega
  intro out hlen eo
  rw [strs_le] at eo
  obtain ⟨c, hc⟩ := sortedHeap_at (vs := acc.toList) (out := out.toArray) hoL
  apply wpAny_pure
  refine ⟨_, rfl, hQ _ s1.heap.objs.size out.toArray c ?_ g1 o1 hge hc ?_⟩
  · intro b u e
    have q := k1 b u e
    have hlt := Heap.lt_size q
    show (sortedHeap (s1.heap.push (seqObj "list" acc.toList.toArray 0)) s1.heap.objs.size acc.toList out.toArray).get? b = some u
    rw [sortedHeap_old (Nat.ne_of_lt hlt) (by rw [size_push']; exact Nat.lt_succ_of_lt hlt)]
    exact Heap.get?_push_of_some _ q
  · exact strs_each eo
end
section
variable {X : Cx}
def rSrtS : List V → Hp → VK → Prop := fun vs H Q => ∃ z : Str, vs = [.str z] ∧ z.cps.size ≤ 100000 ∧ ∀ p, H p = none → Q (.ref p) (upd H p (.lst ((srt (signs z)).map V.str)))
theorem cr_srtS (hc : X.calm = true) (hu : X.A.units + 64 < cLine) : CallR X (.builtin "sorted") rSrtS := by
  intro pins s σ H vs us Q I r h
  obtain ⟨z, rfl, hz, k⟩ := h
  obtain ⟨u, rfl, t, rfl⟩ := vals1 r
  have hZ : z.cps.size ≤ sizeLine := Nat.le_trans hz (by decide)
  apply sorted_textS hZ (I.ok.hd hc) hu
  intro s' p out c hk' hgn hos hp hget hst
  have hn : H p = none := I.hok.fresh hp
  have lz : ((srt (signs z)).map V.str).length ≤ sizeLine := by
    rw [List.length_map, (srt_perm _).length_eq]
    simpa [signs] using hZ
  have J := I.call (h' := s'.heap) (g' := s'.gens) (d' := s'.drawn) (t' := s'.toks) (ch := []) (Un.laid hk' hp hn) (I.hok.laid hk' hp (o := .lst ((srt (signs z)).map V.str)) ⟨lz, out.toList, c, vals_of_strs hst, by rw [Array.toArray_toList]; exact hget⟩) (by rw [hgn]; exact I.bare) (fun _ z => nomatch z)
  have e : s' = { s with heap := s'.heap, gens := s'.gens, drawn := s'.drawn, toks := s'.toks } := by
    cases s'
    cases hos
    rfl
  rw [e]
  exact ⟨.ref p, _, J, rfl, k p hn⟩
def srtS (a : Str × Unit) : Option (List Str) := if a.1.cps.size ≤ 100000 then some (srt (signs a.1)) else none
theorem o_srtS {K : PySem.W.Frag} : OpA rSrtS K (RF K) srtS := fun F G H a y vs Q w r e k => by
  obtain ⟨v, h1, h2⟩ := rl1 r
  cases h2
  unfold srtS at e
  split at e
  case isFalse => cases e
  rename_i hz
  cases e
  refine ⟨a.1, h1, hz, fun l hl => ?_⟩
  obtain ⟨w3, r3⟩ := rf_new w hl (rep_strs (K := K) (G := G) (xs := srt (signs a.1)))
  exact k _ G _ (Ex.refl G) w3 r3
end
end Vx
/-! a list of one's own that does not change while an expression is looked at -/
namespace Vx
open Rep (rep)
open EnvR (er)
open PySem PySem.Spec PyProof.Rows L2
/-- values that lean on no object -/
class FlatR (α : Type) [Rep α] : Prop where
  flat : ∀ {K : PySem.W.Frag} {G G' : Hp} {a : α} {v : V}, rep K G a v → rep K G' a v
instance : FlatR Int := ⟨fun h => h⟩
instance : FlatR Bool := ⟨fun h => h⟩
instance : FlatR Str := ⟨fun h => h⟩
instance : FlatR Unit := ⟨fun h => h⟩
instance {α : Type} [Rep α] [FlatR α] : FlatR (Option α) := ⟨fun {K G G' a v} h => by
  cases a with
  | none => exact h
  | some x => exact FlatR.flat (α := α) h⟩
section
variable {Γ Γ' α β : Type} [EnvR Γ] [EnvR Γ'] [Rep α] [Rep β] [FlatR β] {X : Cx} {e : Expr} {i : Nat}
theorem tmp_back {F G G2 H2 : Hp} {q : Addr} {o : HO} (hF : F q = some o) (hG : G q = none) (x2 : Ex (upd G q o) G2) (w2 : W (del F q) G2 H2) : Ex G (del G2 q) ∧ W F (del G2 q) H2 := by
  have g2 : G2 q = some o := x2 q o upd_same
  refine ⟨fun a u h => ?_, ⟨fun a u h => ?_, fun a u h => ?_, fun a u h => ?_⟩⟩
  · have ne : a ≠ q := fun z => by rw [z, hG] at h; cases h
    rw [del_ne ne]
    exact x2 a u (by rw [upd_ne ne]; exact h)
  · by_cases z : a = q
    · rw [z, del_same] at h
      cases h
    · rw [del_ne z] at h
      exact w2.g a u h
  · by_cases z : a = q
    · subst z
      rw [hF] at h
      rw [← h]
      exact w2.g _ _ g2
    · exact w2.f a u (by rw [del_ne z]; exact h)
  · by_cases z : a = q
    · rw [z]
      exact del_same
    · rw [del_ne z]
      exact w2.d a u (by rw [del_ne z]; exact h)
theorem ve_tmp (z : Frz i Γ α Γ') {f : Γ' → Option β} {fr : Γ → Option β} (efr : (fun γ => f (z.fr γ)) = fr) (h : VE X e f) : VE X e fr := by
  subst efr
  exact PE.le h fun σ H Q ⟨F, G, L, γ, a, w, he, ea, q⟩ => by
    obtain ⟨p, vs, L', k1, k2, k3, k4⟩ := z.ok he
    have hG : G p = none := w.d p _ k2
    refine ⟨del F p, upd G p (.lst vs), L', z.fr γ, a, w.free k2, k4 hG, ea, fun v G2 H2 x2 w2 r2 => ?_⟩
    obtain ⟨x3, w3⟩ := tmp_back k2 hG x2 w2
    exact q v _ H2 x3 w3 (FlatR.flat (α := β) r2)
end
/-! text.index(sign) -/
/-! xs[i], xs[j] = xs[j], xs[i], xs of one's own -/
end Vx
/-! x != y of two objects of one class that has its own word for == -/
namespace Vx
open Rep (rep)
open EnvR (er)
open PySem PySem.Spec PyProof.Rows L2
/-! len(set(a text)) -/
/-! name = [.. for x in xs ..], xs of one's own, the name a plain local -/
end Vx
/-! enumerate(a text); tests of == and != between objects -/
namespace Vx
open Rep (rep)
open EnvR (er)
open PySem PySem.Spec PyProof.Rows L2
end Vx
/-! a dict of one's own, read -/
namespace Vx
open Rep (rep)
open EnvR (er)
open PySem PySem.Spec PyProof.Rows L2
section
variable {Γ : Type} [EnvR Γ] {β κ : Type} [Rep β] [Rep κ] [KeyOf κ] {X : Cx} {e b c : Expr} {pos apos : Pos} {i : Nat}
def dgetO (o : OwnD i Γ β) (g : Γ → Option κ) : Γ → Option β := fun γ => (g γ).bind fun k => valB (o.get γ) (KeyOf.key k)
theorem ve_dgetO (o : OwnD i Γ β) {x : Str} {p1 : Pos} {g : Γ → Option κ} {fr : Γ → Option β} (efr : dgetO o g = fr) (hu : X.A.units + 1 < cLine) (hb : VE X b g) (hs : NoSl b) (hN : X.N[i]? = some x := by rfl) (hvs : Vis X.env.scope x := by first | exact Or.inl rfl | exact Or.inr (Or.inl rfl) | exact Or.inr (Or.inr rfl)) (hd : (x == ("__debug__" : Str)) = false := by decide)
    (hcd : (x == ("__classdict__" : Str)) = false := by decide) : VE X (.Subscript (.Name x p1) b pos) fr := by
  subst efr
  exact PE.le (pe_dget hu (pe_var hN hvs hd hcd) hb hs) fun σ H Q ⟨F, G, L, γ, y, w, hh, ea, q⟩ => by
    unfold dgetO at ea
    cases e1 : g γ with
    | none => rw [e1] at ea; cases ea
    | some k =>
      rw [e1] at ea
      obtain ⟨p, vs, k1, k2, k3, k4, k5⟩ := o.ok hh
      refine ⟨.ref p, k1, F, G, L, γ, k, w, hh, e1, fun u G3 H3 x3 w3 r3 => ?_⟩
      obtain ⟨v, h4, h5⟩ := rk_val (rk_mono x3 k4) ea
      exact ⟨p, v, rfl, .inl ⟨vs, KeyOf.key k, .inl (w3.f _ _ k3), KeyOf.of r3, h4.symm⟩, q _ _ _ x3 w3 h5⟩
end
end Vx
/-! lists cut, lists from behind, the greatest of a list of whole numbers -/
namespace Vx
open Rep (rep)
open EnvR (er)
open PySem PySem.Spec PyProof.Rows L2
/-! ### max of a list of whole numbers -/
section
variable {X : Cx}
theorem reads_ints (h : Heap) : ∀ {xs : List Int} {us : List Value}, Vals (xs.map V.int) us → ReadsAll h us (xs.map .int) []
  | [], _, .nil => .nil
  | x :: xs, _, .cons r t => by
    obtain ⟨t1, rfl⟩ := r
    exact ReadsAll.cons (as := []) (bs := []) (Reads.int _ _) (reads_ints h t)
theorem depth_ints : ∀ xs : List Int, PyData.depthAll (xs.map .int) ≤ 0
  | [] => Nat.le_refl _
  | x :: xs => by
    have := depth_ints xs
    simp only [List.map_cons, PyData.depthAll, PyData.depth]
    omega
end
section
variable {Γ Γ1 Γ2 S ρ : Type} [EnvR Γ] [EnvR Γ1] [EnvR Γ2] [Md S] {α β : Type} [Rep α] [Rep β] {X : Cx} {R : RR ρ} {e : Expr} {pos : Pos} {i j : Nat}
def sunpM (p1 : Put i Γ α Γ1) (p2 : Put j Γ1 β Γ2) (f : Γ → Option (T2 α β × Γ)) : Γ → Option (Fl Γ2 S ρ) := fun γ => (f γ).map fun t => .nx (p2.put (p1.put t.2 t.1.a) t.1.b)
theorem vs_unpM (p1 : Put i Γ α Γ1) (p2 : Put j Γ1 β Γ2) {x y : Str} {px py pt : Pos} {kt : Nat} {f : Γ → Option (T2 α β × Γ)} {fr : Γ → Option (Fl Γ2 S ρ)} (efr : sunpM (S := S) p1 p2 f = fr) (hc : X.calm = true) (hN : X.N.Nodup) (h : ME X e f) (hi : X.N[i]? = some x := by rfl) (hj : X.N[j]? = some y := by rfl)
    (hx : Loc X.env.scope x := by first | exact Or.inl rfl | exact Or.inr rfl) (hy : Loc X.env.scope y := by first | exact Or.inl rfl | exact Or.inr rfl) (hfx : X.fn x = true ∨ X.env.scope.names.lookup x = some .local := by first | exact .inl rfl | exact .inr rfl) (hfy : X.fn y = true ∨ X.env.scope.names.lookup y = some .local := by first | exact .inl rfl | exact .inr rfl)
    (h2 : (assignEach [.Name x px, .Name y py] X.env).map (·.2) = assign (.Name x px) X.env :: (assignEach [.Name y py] X.env).map (·.2) := by rfl) (h3 : (assignEach [.Name y py] X.env).map (·.2) = assign (.Name y py) X.env :: (assignEach [] X.env).map (·.2) := by rfl)
    (hln : (assignEach [.Name x px, .Name y py] X.env).length = 2 := by rfl) (hst : (assignEach [.Name x px, .Name y py] X.env).findIdx? (·.1) = none := by rfl)
    (hs : swapsWithSole [.Tuple [.Name x px, .Name y py] kt pt] e pos.line X.env = pure false := by rfl) (hw : swappedStores [.Tuple [.Name x px, .Name y py] kt pt] e X.env = pure none := by rfl)
    (h1 : (assignEach [.Tuple [.Name x px, .Name y py] kt pt] X.env).map (·.2) = [assign (.Tuple [.Name x px, .Name y py] kt pt) X.env] := by rfl) (ho : Md.okI S i = true := by rfl) (ho' : Md.okI S j = true := by rfl) : VS X S R (.Assign [.Tuple [.Name x px, .Name y py] kt pt] e pos) fr := by
  subst efr
  exact PS.le (ps_asg h (pg_tup (n := 2) hc (pgs_cons (pg_name hN hi hx hfx) (pgs_cons (pg_name hN hj hy hfy) pgs_nil h3) h2) hln hst) hs hw h1) fun D σ H ⟨F, G, L, γ, p, r, wd, nd, he, ha, ea, k⟩ => by
    unfold sunpM at ea
    cases e1 : f γ with
    | none => rw [e1] at ea; cases ea
    | some t =>
      rw [e1] at ea
      cases ea
      refine ⟨F, G, L, γ, t.1, t.2, wd, he, e1, fun v F2 G2 H2 x2 w2 of er2 ⟨q, va, vb, g1, g2, g3, g4⟩ => ?_⟩
      refine ⟨q, _, g1, .inl (.inl (w2.g _ _ g2)), rfl, va, [vb], rfl, vb, [], rfl, rfl, ?_⟩
      exact k _ L F2 G2 H2 x2 w2 nd (Off.of of) Sub.refl (p2.ok (p1.ok er2 g3) g4) (Md.keep ho' (Md.keep ho ha))
end
end Vx
/-! [e for x, y in pairs if ..] -/
namespace Vx
open Rep (rep)
open EnvR (er)
open PySem PySem.Spec PyProof.Rows L2
section
variable {Γ : Type} [EnvR Γ] {α α1 α2 : Type} [Rep α1] [Rep α2] [Rep α] {i j : Nat} {Γ1 Γe : Type} [EnvR Γ1] [EnvR Γe]
def flcp (p1 : Put i Γ α1 Γ1) (p2 : Put j Γ1 α2 Γe) (g : Γ → Option (List (T2 α1 α2))) (t : Γe → Option Bool) (e : Γe → Option α) : Γ → Option (List α) := fun γ => (g γ).bind fun xs => if xs.length ≤ 100000 then lcGo (fun x => t (p2.put (p1.put γ x.a) x.b)) (fun x => e (p2.put (p1.put γ x.a) x.b)) xs else none
/-- the turns of a comprehension that changes nothing -/
theorem tlcpP (hij : i ≠ j) {K : PySem.W.Frag} {p1 : Put i Γ α1 Γ1} {p2 : Put j Γ1 α2 Γe} {g : Γ → Option (List (T2 α1 α2))} {t : Γe → Option Bool} {e : Γe → Option α} {σ : L2.St} {H : Hp} {Q : VK} (h : tev K (RF K) (flcp p1 p2 g t e) σ H Q) :
    tLc (tiv K g) (gPair K i j) (tet K t) (tev K (RE K) e) [i, j] σ H Q := by
  obtain ⟨F, G, L, γ, zs, w, he, ea, q⟩ := h
  unfold flcp at ea
  cases e0 : g γ with
  | none => rw [e0] at ea; cases ea
  | some xs =>
  rw [e0] at ea
  simp only [Option.bind_some] at ea
  split at ea
  case isFalse => cases ea
  rename_i hlen
  refine ⟨F, G, L, γ, xs, w, he, e0, fun J G1 H1 x1 w1 wl D hD => ?_⟩
  have fd := w1.fresh hD
  have nD : ∀ q ∈ L, q ≠ D := fun q hq z => EnvR.there he q hq (by rw [z]; exact fd.2)
  refine ⟨fun n m H' => m = xs.length - n ∧ n ≤ xs.length ∧ ∃ G2 acc ys rest, Ex G1 G2 ∧ W (upd F D (.lst acc)) G2 H' ∧ PySem.Paired (rep K G2) ys acc ∧ acc.length ≤ n ∧
      lcGo (fun x => t (p2.put (p1.put γ x.a) x.b)) (fun x => e (p2.put (p1.put γ x.a) x.b)) (xs.drop n) = some rest ∧ zs = ys ++ rest, ⟨xs.length, by simp, Nat.zero_le _, G1, [], [], zs, Ex.refl _, w1.own hD, .nil, Nat.zero_le _, ea, rfl⟩, ?_⟩
  rintro n m H' ⟨rfl, hj, G2, acc, ys, rest, x2, w2, r2, hacc, go, rfl⟩
  have fDx : ∀ acc : List V, Ex F (upd F D (.lst acc)) := fun acc a o z => by
    rw [upd_ne (fun y => by rw [y, fd.2] at z; cases z)]
    exact z
  by_cases hlt : n < xs.length
  · obtain ⟨x, hx⟩ : ∃ x, xs[n]? = some x := ⟨xs[n], List.getElem?_eq_getElem hlt⟩
    obtain ⟨hgo, hyl⟩ := (wl (upd F D (.lst acc)) G2 H' x2 w2 n).1 x hx
    have hdrop : xs.drop n = x :: xs.drop (n + 1) := by
      rw [List.drop_eq_getElem_cons hlt]
      have : xs[n] = x := Option.some.inj ((List.getElem?_eq_getElem hlt).symm.trans hx)
      rw [this]
    rw [hdrop] at go
    unfold lcGo at go
    refine .inr ⟨hgo, fun H3 => ∃ G2 acc ys rest', Ex G1 G2 ∧ W (upd F D (.lst acc)) G2 H3 ∧ PySem.Paired (rep K G2) ys acc ∧ acc.length ≤ n + 1 ∧
      lcGo (fun x => t (p2.put (p1.put γ x.a) x.b)) (fun x => e (p2.put (p1.put γ x.a) x.b)) (xs.drop (n + 1)) = some rest' ∧ _ = ys ++ rest', fun H3 z => ⟨xs.length - (n + 1), by omega, rfl, hlt, z⟩, fun xv H3 hy => ?_⟩
    obtain ⟨G3, x3, w3, p, va, vb, h1, h2, h3, h4⟩ := hyl xv H3 hy
    refine ⟨p, [va, vb], h1, .inl (.inl (w3.g _ _ h2)), rfl, va, [vb], rfl, vb, [], rfl, rfl, wipe2' hij, ?_⟩
    rw [wipe2 hij]
    have er3 : er K G3 (upd F D (.lst acc)) L ((σ.set i (some va)).set j (some vb)) (p2.put (p1.put γ x.a) x.b) := p2.ok (p1.ok (EnvR.keep (fun q hq => upd_ne (nD q hq)) (EnvR.mono ((x1.trans x2).trans x3) he)) h3) h4
    cases et : t (p2.put (p1.put γ x.a) x.b) with
    | none =>
      rw [et] at go
      cases go
    | some b =>
      rw [et] at go
      simp only [Option.bind_some] at go
      refine ⟨_, G3, L, _, b, w3, er3, et, fun G4 H4 x4 w4 => ?_⟩
      cases b with
      | false =>
        simp only [Bool.false_eq_true, if_false] at go ⊢
        exact ⟨G4, acc, ys, rest, (x2.trans x3).trans x4, w4, Paired.mono (fun _ _ z => Rep.mono (x3.trans x4) z) r2, by omega, go, rfl⟩
      | true =>
        simp only [if_true] at go ⊢
        cases ee : e (p2.put (p1.put γ x.a) x.b) with
        | none =>
          rw [ee] at go
          cases go
        | some y =>
          rw [ee] at go
          simp only [Option.bind_some] at go
          cases eg : lcGo (fun x => t (p2.put (p1.put γ x.a) x.b)) (fun x => e (p2.put (p1.put γ x.a) x.b)) (xs.drop (n + 1)) with
          | none =>
            rw [eg] at go
            cases go
          | some rest' =>
            rw [eg] at go
            simp only [Option.map_some] at go
            cases go
            refine ⟨_, G4, L, _, y, w4, EnvR.mono x4 er3, ee, fun yv G5 H5 x5 w5 ry => ?_⟩
            refine ⟨acc, w5.f _ _ upd_same, Nat.lt_of_lt_of_le (Nat.lt_of_le_of_lt hacc (Nat.lt_of_lt_of_le hlt hlen)) line_ge, G5, acc ++ [yv], ys ++ [y], rest', ((x2.trans x3).trans x4).trans x5, ?_,
              paired_app (Paired.mono (fun _ _ z => Rep.mono ((x3.trans x4).trans x5) z) r2) (.cons ry .nil), ?_, (by first | exact eg | rfl), ?_⟩
            · have := w5.set (u := .lst (acc ++ [yv])) upd_same
              rw [upd_upd] at this
              exact this
            · rw [List.length_append, List.length_singleton]
              omega
            · rw [List.append_assoc]
              rfl
  · have hn' : n = xs.length := by omega
    subst hn'
    rw [List.drop_length] at go
    unfold lcGo at go
    cases go
    refine .inl ⟨(wl (upd F D (.lst acc)) G2 H' x2 w2 xs.length).2 (Nat.le_refl _), ?_⟩
    rw [List.append_nil] at q
    exact q _ G2 H' (x1.trans x2) (w2.less (fDx acc)) ⟨D, acc, rfl, fd.2, w2.d D _ upd_same, w2.f _ _ upd_same, r2⟩
variable {X : Cx} {elt iter : Expr} {ifs : List Expr} {scope : Scope} {pos tpos px py : Pos} {x y : Str} {k0 : Nat}
theorem vf_lcp_ (p1 : Put i Γ α1 Γ1) (p2 : Put j Γ1 α2 Γe) {g : Γ → Option (List (T2 α1 α2))} {t : Γe → Option Bool} {e : Γe → Option α} {fr : Γ → Option (List α)} (efr : flcp p1 p2 g t e = fr) (hc : X.calm = true) (hN : X.N.Nodup) (hi : VI X (.Tuple [.Name x px, .Name y py] k0 tpos) iter g) (ok : blkC X.N X.env.scope scope [(x, i), (y, j)] = true)
    (hg : ∀ (s : Shared) (H : Hp) (C : Addr) (cl : List (Str × Addr)) (fp : List Addr), PG (X.blk s H scope (compEnvC scope cl C X.env) fp) (.Tuple [.Name x px, .Name y py] k0 tpos) (gPair X.K i j))
    (ht : ∀ (s : Shared) (H : Hp) (C : Addr) (cl : List (Str × Addr)) (fp : List Addr), VTs (X.blk s H scope (compEnvC scope cl C X.env) fp) ifs t)
    (he : ∀ (s : Shared) (H : Hp) (C : Addr) (cl : List (Str × Addr)) (fp : List Addr), VE (X.blk s H scope (compEnvC scope cl C X.env) fp) elt e) (hij : i ≠ j := by decide) (hs : ∀ x, foldedSetIterable iter X.env x = pure x := by intro _; rfl) :
    VF X (.ListComp elt [⟨.Tuple [.Name x px, .Name y py] k0 tpos, iter, ifs, 0⟩] scope pos) fr := by
  subst efr
  exact PE.le (pe_lc (own := [(x, i), (y, j)]) (g := gPair X.K i j) hc hN hi (blkOk_by ok) hg ht he hs) fun σ H Q h => tlcpP hij h
end
end Vx
/-! three names at once -/
namespace Vx
open Rep (rep)
open EnvR (er)
open PySem PySem.Spec PyProof.Rows L2
end Vx
/-! len of an object of the class that has its own word for it -/
namespace Vx
open Rep (rep)
open EnvR (er)
open PySem PySem.Spec PyProof.Rows L2
end Vx
/-! dicts of one's own: locked while they are walked, made of pairs -/
namespace Vx
open Rep (rep)
open EnvR (er)
open PySem PySem.Spec PyProof.Rows L2
structure Lk (β : Type) where
  l : List (Key × β)
instance {β : Type} [Rep β] : Rep (Lk β) := ⟨fun K G x v => ∃ p od kvs, v = .ref p ∧ G p = some (.frz od (.dK kvs)) ∧ PySem.Paired (RK K G) x.l kvs,
  fun e ⟨p, od, kvs, h1, h2, h3⟩ => ⟨p, od, kvs, h1, e _ _ h2, rk_mono e h3⟩⟩
structure FrzD (i : Nat) (Γ β Γ' : Type) [EnvR Γ] [Rep β] [EnvR Γ'] where
  fr : Γ → Γ'
  ok : ∀ {K : PySem.W.Frag} {G F : Hp} {L : List Addr} {σ : L2.St} {γ : Γ}, er K G F L σ γ → ∃ q kvs L', q ∈ L ∧ F q = some (.dK kvs) ∧ L'.Sublist L ∧ (∀ od, G q = none → er K (upd G q (.frz od (.dK kvs))) (del F q) L' σ (fr γ))
def fdz {Γ β : Type} [EnvR Γ] [Rep β] : FrzD 0 (OD β × Γ) β (Lk β × Γ) := ⟨fun γ => (⟨γ.1.l⟩, γ.2), fun {K G F L σ γ} ⟨L1, L2, o, σ', h1, h2, ⟨q, vs, h3, h4, h5, h6⟩, h7, h8⟩ => by
  subst h2
  have hq : q ∉ L2 := h8 q (by rw [h3]; exact List.mem_singleton.mpr rfl)
  refine ⟨q, vs, L2, by rw [h1, h3]; exact List.mem_append_left _ (List.mem_singleton.mpr rfl), h5, by rw [h1]; exact List.sublist_append_right _ _, fun od hG => ?_⟩
  have ex : Ex G (upd G q (.frz od (.dK vs))) := Ex.upd hG
  exact ⟨[], L2, o, σ', rfl, rfl, ⟨rfl, _, h4, q, od, vs, rfl, upd_same, rk_mono ex h6⟩, EnvR.keep (fun b hb => del_ne (fun z => hq (by rw [← z]; exact hb))) (EnvR.mono ex h7), fun _ hb => by cases hb⟩⟩
def fds {i : Nat} {τ Γ β Γ' : Type} [Slot τ] [EnvR Γ] [Rep β] [EnvR Γ'] (w : FrzD i Γ β Γ') : FrzD (i + 1) (τ × Γ) β (τ × Γ') := ⟨fun γ => (γ.1, w.fr γ.2), fun {K G F L σ γ} ⟨L1, L2, o, σ', h1, h2, h3, h4, h5⟩ => by
  obtain ⟨q, vs, L', k1, k2, k3, k4⟩ := w.ok h4
  subst h2
  have hq : q ∉ L1 := fun z => h5 q z k1
  refine ⟨q, vs, L1 ++ L', by rw [h1]; exact List.mem_append_right _ k1, k2, by rw [h1]; exact List.Sublist.append (List.Sublist.refl _) k3, fun od hG => ?_⟩
  exact ⟨L1, L', o, σ', rfl, rfl, Slot.keep (fun b hb => del_ne (fun z => hq (by rw [← z]; exact hb))) (Slot.mono (Ex.upd hG) h3), k4 od hG, fun b hb hb' => h5 b hb (k3.subset hb')⟩⟩
/-- values that lean on no locked thing -/
class NoF (α : Type) [Rep α] : Prop where
  off : ∀ {K : PySem.W.Frag} {G : Hp} {q : Addr} {od : Obj} {u : HO} {a : α} {v : V}, G q = some (.frz od u) → rep K G a v → rep K (del G q) a v
instance : NoF Int := ⟨fun _ h => h⟩
instance : NoF Bool := ⟨fun _ h => h⟩
instance : NoF Str := ⟨fun _ h => h⟩
instance {α β : Type} [Rep α] [Rep β] [NoF α] [NoF β] : NoF (T2 α β) := ⟨fun {K G q od u a v} hq ⟨p, va, vb, h1, h2, h3, h4⟩ => ⟨p, va, vb, h1, by
  rw [del_ne (fun z => by rw [z, hq] at h2; cases h2)]
  exact h2, NoF.off hq h3, NoF.off hq h4⟩⟩
section
variable {Γ Γ' α β : Type} [EnvR Γ] [EnvR Γ'] [Rep α] [Rep β] [NoF α] {X : Cx} {e : Expr} {i : Nat}
theorem vf_lockD (z : FrzD i Γ β Γ') {f : Γ' → Option (List α)} {fr : Γ → Option (List α)} (efr : (fun γ => f (z.fr γ)) = fr) (h : VF X e f) : VF X e fr := by
  subst efr
  exact PE.le (pe_lock h) fun σ H Q ⟨F, G, L, γ, a, w, he, ea, q⟩ => by
    obtain ⟨p, kvs, L', k1, k2, k3, k4⟩ := z.ok he
    have hG : G p = none := w.d p _ k2
    refine ⟨p, .dK kvs, w.f _ _ k2, trivial, fun od => ⟨del F p, upd G p (.frz od (.dK kvs)), L', z.fr γ, a, ⟨fun b u hb => ?_, fun b u hb => ?_, fun b u hb => ?_⟩, k4 od hG, ea, fun v G2 H2 x2 w2 r2 => ?_⟩⟩
    · by_cases c : b = p
      · subst c
        rw [upd_same] at hb ⊢
        exact hb
      · rw [upd_ne c] at hb ⊢
        exact w.g b u hb
    · by_cases c : b = p
      · rw [c, del_same] at hb
        cases hb
      · rw [del_ne c] at hb
        rw [upd_ne c]
        exact w.f b u hb
    · by_cases c : b = p
      · rw [c, del_same] at hb
        cases hb
      · rw [del_ne c] at hb
        rw [upd_ne c]
        exact w.d b u hb
    · have g2 : G2 p = some (.frz od (.dK kvs)) := x2 _ _ upd_same
      refine ⟨w2.g _ _ g2, ?_⟩
      obtain ⟨c, us, h1, hF, hG2, hH, hr⟩ := r2
      have ne : c ≠ p := fun z => by
        rw [z, g2] at hG2
        cases hG2
      rw [del_ne ne] at hF
      refine q v (del G2 p) _ (fun b u hb => ?_) ⟨fun b u hb => ?_, fun b u hb => ?_, fun b u hb => ?_⟩ ⟨c, us, h1, hF, by rw [del_ne ne]; exact hG2, by rw [upd_ne ne]; exact hH, Paired.mono (fun _ _ u => NoF.off g2 u) hr⟩
      · have c : b ≠ p := fun z => by rw [z, hG] at hb; cases hb
        rw [del_ne c]
        exact x2 b u (by rw [upd_ne c]; exact hb)
      · by_cases c : b = p
        · rw [c, del_same] at hb
          cases hb
        · rw [del_ne c] at hb
          rw [upd_ne c]
          exact w2.g b u hb
      · by_cases c : b = p
        · subst c
          rw [k2] at hb
          rw [upd_same]
          exact hb
        · rw [upd_ne c]
          exact w2.f b u (by rw [del_ne c]; exact hb)
      · by_cases c : b = p
        · rw [c]
          exact del_same
        · rw [del_ne c]
          exact w2.d b u (by rw [del_ne c]; exact hb)
end
section
variable {Γ : Type} [EnvR Γ] {β κ τ : Type} [Rep β] [Rep κ] [KeyOf κ] {X : Cx} {a b tg e : Expr} {pos : Pos}
def lget (d : Lk β) (k : κ) : Option β := valB d.l (KeyOf.key k)
theorem ve_lget {f : Γ → Option (Lk β)} {g : Γ → Option κ} (hu : X.A.units + 1 < cLine) (ha : VE X a f) (hb : VE X b g) (hs : NoSl b) : VE X (.Subscript a b pos) (f2 lget f g) :=
  PE.le (pe_dget hu ha hb hs) fun σ H Q ⟨F, G, L, γ, z, w, he, ea, q⟩ => by
    obtain ⟨x, y, e1, e2, e3⟩ := f2_some ea
    refine ⟨F, G, L, γ, x, w, he, e1, fun v G2 H2 x2 w2 r2 => ⟨F, G2, L, γ, y, w2, EnvR.mono x2 he, e2, fun u G3 H3 x3 w3 r3 => ?_⟩⟩
    obtain ⟨p, od, kvs, h1, h2, h3⟩ := (Rep.mono x3 r2 : rep X.K G3 x v)
    obtain ⟨o, h4, h5⟩ := rk_val h3 e3
    refine ⟨p, o, h1, .inl ⟨kvs, KeyOf.key y, .inr ⟨od, w3.g _ _ h2⟩, KeyOf.of r3, h4.symm⟩, q _ _ _ (x2.trans x3) w3 h5⟩
def lkeys (κ : Type) [Rep κ] [KeyOf κ] (d : Lk β) : Option (List κ) := keysOf d.l
theorem walks_lk {K : PySem.W.Frag} {G : Hp} {p : Addr} {od : Obj} {kvs : List (Key × V)} {d : List (Key × β)} {ks : List κ} (h : G p = some (.frz od (.dK kvs))) (r : PySem.Paired (RK K G) d kvs) (e : keysOf d = some ks) : Walks K G (Itk p od kvs) ks := fun F' G' H' x w i => by
  have hH : H' p = some (.frz od (.dK kvs)) := w.g _ _ (x _ _ h)
  have pr := keys_rep (κ := κ) r e
  have hl : ks.length = kvs.length := by rw [paired_len pr, List.length_map]
  refine ⟨fun t ht => ?_, fun hi => ⟨hH, by omega⟩⟩
  obtain ⟨v, hv, rv⟩ := paired_get pr ht
  have hi : i < ks.length := (List.getElem?_eq_some_iff.mp ht).1
  refine ⟨⟨hH, by omega⟩, fun y H'' hy => ?_⟩
  obtain ⟨rfl, k, u, hk, rfl⟩ := hy
  refine ⟨G', Ex.refl _, w, ?_⟩
  rw [List.getElem?_map, hk] at hv
  cases hv
  exact Rep.mono x rv
theorem vi_lkeys (κ : Type) [Rep κ] [KeyOf κ] {f : Γ → Option (Lk β)} (h : VE X e f) : VI X tg e (f1 (lkeys κ) f) := PI.le (pi_keys h) fun σ H R ⟨F, G, L, γ, ks, w, he, ea, q⟩ => by
  unfold f1 at ea
  cases e1 : f γ with
  | none => rw [e1] at ea; cases ea
  | some d =>
    rw [e1] at ea
    refine ⟨F, G, L, γ, d, w, he, e1, fun v G2 H2 x2 w2 ⟨p, od, kvs, h1, h2, h3⟩ => ⟨p, od, h1, .inl ⟨kvs, w2.g _ _ h2, q _ G2 H2 x2 w2 (walks_lk h2 h3 ea)⟩⟩⟩
end
/-! dict(pairs) -/
def RFd (K : PySem.W.Frag) {β : Type} [Rep β] : RR (List (Key × β)) := fun F G H xs v => ∃ p ks, v = .ref p ∧ F p = none ∧ G p = none ∧ H p = some (.dK ks) ∧ PySem.Paired (RK K G) xs ks
section
variable {β κ : Type} [Rep β] [Rep κ] [KeyOf κ] {K : PySem.W.Frag}
def mergeB (xs : List (T2 κ β)) : List (Key × β) := xs.foldl (fun acc t => putB acc (KeyOf.key t.a) t.b) []
theorem rk_fold {G : Hp} : ∀ {xs : List (T2 κ β)} {kvs : List (Key × V)} {d : List (Key × β)} {ds : List (Key × V)}, PySem.Paired (fun (t : T2 κ β) (kv : Key × V) => kv.1 = KeyOf.key t.a ∧ rep K G t.b kv.2) xs kvs → PySem.Paired (RK K G) d ds → PySem.Paired (RK K G) (xs.foldl (fun acc t => putB acc (KeyOf.key t.a) t.b) d) (mergeK ds kvs)
  | _, _, _, _, .nil, h => h
  | t :: xs, kv :: kvs, d, ds, .cons r q, h => by
    have := rk_fold q (rk_put (k := kv.1) r.2 h)
    rw [r.1] at this
    show PySem.Paired _ _ (mergeK (putK ds kv.1 kv.2) kvs)
    rw [r.1]
    exact this
theorem pairs_rep {G : Hp} : ∀ {xs : List (T2 κ β)} {ws : List V}, PySem.Paired (rep K G) xs ws → ∃ ps kvs, ws = ps.map V.ref ∧ PySem.Paired (fun (p : Addr) (kv : Key × V) => G p = some (.tup [kV kv.1, kv.2])) ps kvs ∧ PySem.Paired (fun (t : T2 κ β) (kv : Key × V) => kv.1 = KeyOf.key t.a ∧ rep K G t.b kv.2) xs kvs
  | _, _, .nil => ⟨[], [], rfl, .nil, .nil⟩
  | t :: xs, w :: ws, .cons ⟨p, va, vb, h1, h2, h3, h4⟩ q => by
    obtain ⟨ps, kvs, k1, k2, k3⟩ := pairs_rep q
    refine ⟨p :: ps, (KeyOf.key t.a, vb) :: kvs, by rw [h1, k1]; rfl, .cons ?_ k2, .cons ⟨rfl, h4⟩ k3⟩
    rw [h2, KeyOf.of h3]
def dictP (a : List (T2 κ β) × Unit) : Option (List (Key × β)) := some (mergeB a.1)
abbrev rDictP (K : PySem.W.Frag) : List V → Hp → VK → Prop := fun xs H Q => ∃ (a : Addr) (ps : List Addr) (kvs : List (Key × V)), xs = [.ref a] ∧ SqL K H a (ps.map V.ref) ∧ PySem.Paired (fun p kv => SqT K H p [kV kv.1, kv.2]) ps kvs ∧ ∀ p, H p = none → Q (.ref p) (upd H p (.dK (mergeK [] kvs)))
theorem o_dictP : OpA (rDictP K) K (RFd K) (dictP (κ := κ) (β := β)) := fun F G H a y vs Q w r e k => by
  obtain ⟨v, e1, p, ws, e2, hp, pr⟩ := rl1 r
  cases e
  obtain ⟨ps, kvs, k1, k2, k3⟩ := pairs_rep pr
  refine ⟨p, ps, kvs, by rw [e1, e2], .inl (.inl (by rw [← k1]; exact w.g _ _ hp)), Paired.mono (fun q kv hq => .inl (.inl (w.g _ _ hq))) k2, fun q hq => ?_⟩
  have fr := w.fresh hq
  refine k _ G _ (Ex.refl _) ⟨fun b u hb => ?_, fun b u hb => ?_, w.d⟩ ⟨q, _, rfl, fr.2, fr.1, upd_same, rk_fold k3 .nil⟩
  · rw [upd_ne (fun z => by rw [z, fr.1] at hb; cases hb)]
    exact w.g b u hb
  · rw [upd_ne (fun z => by rw [z, fr.2] at hb; cases hb)]
    exact w.f b u hb
end
section
variable {Γ Γ' S ρ β : Type} [EnvR Γ] [EnvR Γ'] [Md S] [Rep β] {X : Cx} {R : RR ρ} {e : Expr} {pos : Pos} {i : Nat}
def toD (d : List (Key × β)) : Option (Dct β) := some ⟨d⟩
theorem W.give {F G H : Hp} {q : Addr} {o : HO} (w : W F G H) (hF : F q = none) (hG : G q = none) (hH : H q = some o) : W F (upd G q o) H := ⟨fun b u hb => by
  by_cases c : b = q
  · subst c
    rw [upd_same] at hb
    rw [hH]
    exact hb
  · rw [upd_ne c] at hb
    exact w.g b u hb, w.f, fun b u hb => by
  by_cases c : b = q
  · rw [c, hF] at hb
    cases hb
  · rw [upd_ne c]
    exact w.d b u hb⟩
theorem VF.upd {f : Γ → Option (List (Key × β))} (h : VO X e (RFd X.K) f) : VE X e (f1 toD f) := PE.le h fun σ H Q ⟨F, G, L, γ, a, w, he, ea, q⟩ => by
  unfold f1 at ea
  cases e1 : f γ with
  | none => rw [e1] at ea; cases ea
  | some y =>
    rw [e1] at ea
    cases ea
    refine ⟨F, G, L, γ, y, w, he, e1, fun v G2 H2 x2 w2 ⟨p, ks, h1, h2, h3, h4, h5⟩ => ?_⟩
    exact q v _ H2 (x2.trans (Ex.upd h3)) (W.give w2 h2 h3 h4) ⟨p, ks, h1, upd_same, rk_mono (Ex.upd h3) h5⟩
theorem mo_upd {f : Γ → Option (List (Key × β) × Γ)} (h : MO X e (RFd X.K) f) : ME X e (m1 toD f) := PE.le h fun σ H Q ⟨F, G, L, γ, a, γ', w, he, ea, q⟩ => by
  obtain ⟨y, e1, e2⟩ := m1_some ea
  cases e2
  refine ⟨F, G, L, γ, y, γ', w, he, e1, fun v F2 G2 H2 x2 w2 of er2 ⟨p, ks, h1, h2, h3, h4, h5⟩ => ?_⟩
  exact q v F2 _ H2 (x2.trans (Ex.upd h3)) (W.give w2 h2 h3 h4) of (EnvR.mono (Ex.upd h3) er2) ⟨p, ks, h1, upd_same, rk_mono (Ex.upd h3) h5⟩
/-- x = a dict just made, one's own -/
def snewF (p : PutD i Γ β Γ') (f : Γ → Option (List (Key × β))) : Γ → Option (Fl Γ' S ρ) := fun γ => (f γ).map fun xs => .nx (p.put γ xs)
theorem vs_newF_ (pt : PutD i Γ β Γ') {x : Str} {pos' : Pos} {f : Γ → Option (List (Key × β))} {fr : Γ → Option (Fl Γ' S ρ)} (efr : snewF (S := S) pt f = fr) (hN : X.N.Nodup) (h : VO X e (RFd X.K) f) (hi : X.N[i]? = some x := by rfl) (hx : Loc X.env.scope x := by first | exact Or.inl rfl | exact Or.inr rfl) (ho : Md.okI S i = true := by rfl) (hs : swapsWith e (some (.Name x pos')) pos.line X.env = pure false := by rfl)
    (hf : X.fn x = true ∨ X.env.scope.names.lookup x = some .local := by first | exact .inl rfl | exact .inr rfl) : VS X S R (.Assign [.Name x pos'] e pos) fr := by
  subst efr
  exact PS.le (ps_set hN hi hx h hs hf) fun D σ H ⟨F, G, L, γ, p, r, wd, nd, he, ha, ea, k⟩ => by
    unfold snewF at ea
    cases e1 : f γ with
    | none => rw [e1] at ea; cases ea
    | some y =>
      rw [e1] at ea
      cases ea
      refine ⟨F, G, L, γ, y, wd, he, e1, fun v G2 H2 x2 w2 ⟨q, vs, ev, hF, hG, hH, r2⟩ => ?_⟩
      subst ev
      have hq : q ∉ L := fun z => EnvR.there he q z hF
      obtain ⟨L', l1, l2, l3⟩ := pt.ok (F := L2.upd F q (.dK vs)) (EnvR.keep (fun b hb => upd_ne (fun z => hq (by rw [← z]; exact hb))) (EnvR.mono x2 he)) hq upd_same r2
      exact k _ L' (L2.upd F q (.dK vs)) G2 H2 x2 (w2.take hF hG hH) (l2 nd) (off_new hF) (fun b hb => (l1 b hb).imp id fun z => by rw [z]; exact hF) l3 (Md.keep ho ha)
end
/-! {0: 0, 1: 1, 2: 2, 3: 3} -/
section
variable {Γ : Type} [EnvR Γ] {X : Cx} {pos : Pos}
def dct4 : List (Key × Int) := [(.inl 0, 0), (.inl 1, 1), (.inl 2, 2), (.inl 3, 3)]
theorem vo_disp4 {j1 j2 j3 j4 j5 j6 j7 j8} {p1 p2 p3 p4 p5 p6 p7 p8 : Pos} : VO X (.Dict [some (.Constant (.int 0) j1 p1), some (.Constant (.int 1) j2 p2), some (.Constant (.int 2) j3 p3), some (.Constant (.int 3) j4 p4)] [.Constant (.int 0) j5 p5, .Constant (.int 1) j6 p6, .Constant (.int 2) j7 p7, .Constant (.int 3) j8 p8] pos) (RFd X.K (β := Int)) (fc (Γ := Γ) dct4) :=
  PE.le (pe_disp (pps_cons pe_int pe_int (pps_cons pe_int pe_int (pps_cons pe_int pe_int (pps_cons pe_int pe_int pps_nil)))) rfl rfl (by simp) (show 4 ≤ 15 by decide)) fun σ H Q ⟨F, G, L, γ, a, w, he, ea, q⟩ => by
    cases ea
    intro p hp
    have fr := w.fresh hp
    refine ⟨upd_same, [(.inl 0, .int 0), (.inl 1, .int 1), (.inl 2, .int 2), (.inl 3, .int 3)], rfl, by decide, ?_⟩
    rw [upd_upd]
    refine q _ G _ (Ex.refl _) ⟨fun b u hb => ?_, fun b u hb => ?_, w.d⟩ ⟨p, _, rfl, fr.2, fr.1, upd_same, ?_⟩
    · rw [upd_ne (fun z => by rw [z, fr.1] at hb; cases hb)]
      exact w.g b u hb
    · rw [upd_ne (fun z => by rw [z, fr.2] at hb; cases hb)]
      exact w.f b u hb
    · exact .cons ⟨rfl, rfl⟩ (.cons ⟨rfl, rfl⟩ (.cons ⟨rfl, rfl⟩ (.cons ⟨rfl, rfl⟩ .nil)))
end
end Vx
/-! [e for x, y in pairs if ..], the pairs made with draws; x, y = [..], v by a tuple -/
namespace Vx
open Rep (rep)
open EnvR (er)
open PySem PySem.Spec PyProof.Rows L2
section
variable {Γ : Type} [EnvR Γ] {α α1 α2 : Type} [Rep α1] [Rep α2] [Rep α] {i j : Nat} {Γ1 Γe : Type} [EnvR Γ1] [EnvR Γe]
def flcpm (p1 : Put i Γ α1 Γ1) (p2 : Put j Γ1 α2 Γe) (g : Γ → Option (List (T2 α1 α2) × Γ)) (t : Γe → Option Bool) (e : Γe → Option α) : Γ → Option (List α × Γ) := fun γ => (g γ).bind fun (xs, γ) => if xs.length ≤ 100000 then (lcGo (fun x => t (p2.put (p1.put γ x.a) x.b)) (fun x => e (p2.put (p1.put γ x.a) x.b)) xs).map (·, γ) else none
/-- the turns of a comprehension that changes nothing -/
theorem tlcpPM (hij : i ≠ j) {K : PySem.W.Frag} {p1 : Put i Γ α1 Γ1} {p2 : Put j Γ1 α2 Γe} {g : Γ → Option (List (T2 α1 α2) × Γ)} {t : Γe → Option Bool} {e : Γe → Option α} {σ : L2.St} {H : Hp} {Q : VK} (h : tem K (RF K) (flcpm p1 p2 g t e) σ H Q) :
    tLc (tim K g) (gPair K i j) (tet K t) (tev K (RE K) e) [i, j] σ H Q := by
  obtain ⟨F0, G0, L, γ0, zs, γ, w0, he0, ea, q⟩ := h
  unfold flcpm at ea
  cases e0 : g γ0 with
  | none => rw [e0] at ea; cases ea
  | some y =>
  obtain ⟨xs, γ1⟩ := y
  rw [e0] at ea
  simp only [Option.bind_some] at ea
  split at ea
  case isFalse => cases ea
  rename_i hlen
  cases ez : lcGo (fun x => t (p2.put (p1.put γ1 x.a) x.b)) (fun x => e (p2.put (p1.put γ1 x.a) x.b)) xs with
  | none => rw [ez] at ea; cases ea
  | some zs' =>
  rw [ez] at ea
  simp only [Option.map_some] at ea
  cases ea
  have ea := ez
  refine ⟨F0, G0, L, γ0, xs, γ, w0, he0, e0, fun J F G1 H1 x1 w1 off he wl D hD => ?_⟩
  have fd := w1.fresh hD
  have nD : ∀ q ∈ L, q ≠ D := fun q hq z => EnvR.there he q hq (by rw [z]; exact fd.2)
  refine ⟨fun n m H' => m = xs.length - n ∧ n ≤ xs.length ∧ ∃ G2 acc ys rest, Ex G1 G2 ∧ W (upd F D (.lst acc)) G2 H' ∧ PySem.Paired (rep K G2) ys acc ∧ acc.length ≤ n ∧
      lcGo (fun x => t (p2.put (p1.put γ x.a) x.b)) (fun x => e (p2.put (p1.put γ x.a) x.b)) (xs.drop n) = some rest ∧ zs = ys ++ rest, ⟨xs.length, by simp, Nat.zero_le _, G1, [], [], zs, Ex.refl _, w1.own hD, .nil, Nat.zero_le _, ea, rfl⟩, ?_⟩
  rintro n m H' ⟨rfl, hj, G2, acc, ys, rest, x2, w2, r2, hacc, go, rfl⟩
  have fDx : ∀ acc : List V, Ex F (upd F D (.lst acc)) := fun acc a o z => by
    rw [upd_ne (fun y => by rw [y, fd.2] at z; cases z)]
    exact z
  by_cases hlt : n < xs.length
  · obtain ⟨x, hx⟩ : ∃ x, xs[n]? = some x := ⟨xs[n], List.getElem?_eq_getElem hlt⟩
    obtain ⟨hgo, hyl⟩ := (wl (upd F D (.lst acc)) G2 H' x2 w2 n).1 x hx
    have hdrop : xs.drop n = x :: xs.drop (n + 1) := by
      rw [List.drop_eq_getElem_cons hlt]
      have : xs[n] = x := Option.some.inj ((List.getElem?_eq_getElem hlt).symm.trans hx)
      rw [this]
    rw [hdrop] at go
    unfold lcGo at go
    refine .inr ⟨hgo, fun H3 => ∃ G2 acc ys rest', Ex G1 G2 ∧ W (upd F D (.lst acc)) G2 H3 ∧ PySem.Paired (rep K G2) ys acc ∧ acc.length ≤ n + 1 ∧
      lcGo (fun x => t (p2.put (p1.put γ x.a) x.b)) (fun x => e (p2.put (p1.put γ x.a) x.b)) (xs.drop (n + 1)) = some rest' ∧ _ = ys ++ rest', fun H3 z => ⟨xs.length - (n + 1), by omega, rfl, hlt, z⟩, fun xv H3 hy => ?_⟩
    obtain ⟨G3, x3, w3, p, va, vb, h1, h2, h3, h4⟩ := hyl xv H3 hy
    refine ⟨p, [va, vb], h1, .inl (.inl (w3.g _ _ h2)), rfl, va, [vb], rfl, vb, [], rfl, rfl, wipe2' hij, ?_⟩
    rw [wipe2 hij]
    have er3 : er K G3 (upd F D (.lst acc)) L ((σ.set i (some va)).set j (some vb)) (p2.put (p1.put γ x.a) x.b) := p2.ok (p1.ok (EnvR.keep (fun q hq => upd_ne (nD q hq)) (EnvR.mono (x2.trans x3) he)) h3) h4
    cases et : t (p2.put (p1.put γ x.a) x.b) with
    | none =>
      rw [et] at go
      cases go
    | some b =>
      rw [et] at go
      simp only [Option.bind_some] at go
      refine ⟨_, G3, L, _, b, w3, er3, et, fun G4 H4 x4 w4 => ?_⟩
      cases b with
      | false =>
        simp only [Bool.false_eq_true, if_false] at go ⊢
        exact ⟨G4, acc, ys, rest, (x2.trans x3).trans x4, w4, Paired.mono (fun _ _ z => Rep.mono (x3.trans x4) z) r2, by omega, go, rfl⟩
      | true =>
        simp only [if_true] at go ⊢
        cases ee : e (p2.put (p1.put γ x.a) x.b) with
        | none =>
          rw [ee] at go
          cases go
        | some y =>
          rw [ee] at go
          simp only [Option.bind_some] at go
          cases eg : lcGo (fun x => t (p2.put (p1.put γ x.a) x.b)) (fun x => e (p2.put (p1.put γ x.a) x.b)) (xs.drop (n + 1)) with
          | none =>
            rw [eg] at go
            cases go
          | some rest' =>
            rw [eg] at go
            simp only [Option.map_some] at go
            cases go
            refine ⟨_, G4, L, _, y, w4, EnvR.mono x4 er3, ee, fun yv G5 H5 x5 w5 ry => ?_⟩
            refine ⟨acc, w5.f _ _ upd_same, Nat.lt_of_lt_of_le (Nat.lt_of_le_of_lt hacc (Nat.lt_of_lt_of_le hlt hlen)) line_ge, G5, acc ++ [yv], ys ++ [y], rest', ((x2.trans x3).trans x4).trans x5, ?_,
              paired_app (Paired.mono (fun _ _ z => Rep.mono ((x3.trans x4).trans x5) z) r2) (.cons ry .nil), ?_, (by first | exact eg | rfl), ?_⟩
            · have := w5.set (u := .lst (acc ++ [yv])) upd_same
              rw [upd_upd] at this
              exact this
            · rw [List.length_append, List.length_singleton]
              omega
            · rw [List.append_assoc]
              rfl
  · have hn' : n = xs.length := by omega
    subst hn'
    rw [List.drop_length] at go
    unfold lcGo at go
    cases go
    refine .inl ⟨(wl (upd F D (.lst acc)) G2 H' x2 w2 xs.length).2 (Nat.le_refl _), ?_⟩
    rw [List.append_nil] at q
    exact q _ F G2 H' (x1.trans x2) (w2.less (fDx acc)) off (EnvR.mono x2 he) ⟨D, acc, rfl, fd.2, w2.d D _ upd_same, w2.f _ _ upd_same, r2⟩
variable {X : Cx} {elt iter : Expr} {ifs : List Expr} {scope : Scope} {pos tpos px py : Pos} {x y : Str} {k0 : Nat}
theorem mf_lcpm_ (p1 : Put i Γ α1 Γ1) (p2 : Put j Γ1 α2 Γe) {g : Γ → Option (List (T2 α1 α2) × Γ)} {t : Γe → Option Bool} {e : Γe → Option α} {fr : Γ → Option (List α × Γ)} (efr : flcpm p1 p2 g t e = fr) (hc : X.calm = true) (hN : X.N.Nodup) (hi : MI X (.Tuple [.Name x px, .Name y py] k0 tpos) iter g) (ok : blkC X.N X.env.scope scope [(x, i), (y, j)] = true)
    (hg : ∀ (s : Shared) (H : Hp) (C : Addr) (cl : List (Str × Addr)) (fp : List Addr), PG (X.blk s H scope (compEnvC scope cl C X.env) fp) (.Tuple [.Name x px, .Name y py] k0 tpos) (gPair X.K i j))
    (ht : ∀ (s : Shared) (H : Hp) (C : Addr) (cl : List (Str × Addr)) (fp : List Addr), VTs (X.blk s H scope (compEnvC scope cl C X.env) fp) ifs t)
    (he : ∀ (s : Shared) (H : Hp) (C : Addr) (cl : List (Str × Addr)) (fp : List Addr), VE (X.blk s H scope (compEnvC scope cl C X.env) fp) elt e) (hij : i ≠ j := by decide) (hs : ∀ x, foldedSetIterable iter X.env x = pure x := by intro _; rfl) :
    MO X (.ListComp elt [⟨.Tuple [.Name x px, .Name y py] k0 tpos, iter, ifs, 0⟩] scope pos) (RF X.K) fr := by
  subst efr
  exact PE.le (pe_lc (own := [(x, i), (y, j)]) (g := gPair X.K i j) hc hN hi (blkOk_by ok) hg ht he hs) fun σ H Q h => tlcpPM hij h
end
section
variable {Γ Γ1 Γ2 S ρ : Type} [EnvR Γ] [EnvR Γ1] [EnvR Γ2] [Md S] {α β : Type} [Rep α] [Rep β] {X : Cx} {R : RR ρ} {a b : Expr} {pos : Pos} {i j : Nat}
/-- x, y = a list to be changed, a value: stored out of a tuple -/
def sunpO (p1 : PutO i Γ α Γ1) (p2 : Put j Γ1 β Γ2) (f : Γ → Option (List α)) (g : Γ → Option β) : Γ → Option (Fl Γ2 S ρ) := fun γ => (f γ).bind fun xs => (g γ).map fun y => .nx (p2.put (p1.put γ xs) y)
theorem vs_unpO (pa : PutO i Γ α Γ1) (pb : Put j Γ1 β Γ2) {x y : Str} {px py pt : Pos} {kt kt2 : Nat} {pt2 : Pos} {f : Γ → Option (List α)} {g : Γ → Option β} {fr : Γ → Option (Fl Γ2 S ρ)} (efr : sunpO (S := S) pa pb f g = fr) (hc : X.calm = true) (hN : X.N.Nodup) (ha : VF X a f) (hb : VE X b g) (hi : X.N[i]? = some x := by rfl) (hj : X.N[j]? = some y := by rfl)
    (hx : Loc X.env.scope x := by first | exact Or.inl rfl | exact Or.inr rfl) (hy : Loc X.env.scope y := by first | exact Or.inl rfl | exact Or.inr rfl) (hfx : X.fn x = true ∨ X.env.scope.names.lookup x = some .local := by first | exact .inl rfl | exact .inr rfl) (hfy : X.fn y = true ∨ X.env.scope.names.lookup y = some .local := by first | exact .inl rfl | exact .inr rfl)
    (h2 : (assignEach [.Name x px, .Name y py] X.env).map (·.2) = assign (.Name x px) X.env :: (assignEach [.Name y py] X.env).map (·.2) := by rfl) (h3 : (assignEach [.Name y py] X.env).map (·.2) = assign (.Name y py) X.env :: (assignEach [] X.env).map (·.2) := by rfl)
    (hln : (assignEach [.Name x px, .Name y py] X.env).length = 2 := by rfl) (hst : (assignEach [.Name x px, .Name y py] X.env).findIdx? (·.1) = none := by rfl)
    (hs : swapsWithSole [.Tuple [.Name x px, .Name y py] kt pt] (.Tuple [a, b] kt2 pt2) pos.line X.env = pure false := by rfl) (hw : swappedStores [.Tuple [.Name x px, .Name y py] kt pt] (.Tuple [a, b] kt2 pt2) X.env = pure none := by rfl)
    (h1 : (assignEach [.Tuple [.Name x px, .Name y py] kt pt] X.env).map (·.2) = [assign (.Tuple [.Name x px, .Name y py] kt pt) X.env] := by rfl) (ho : Md.okI S i = true := by rfl) (ho' : Md.okI S j = true := by rfl)
    (g1 : starEach [a, b] X.env = (false, eval a X.env) :: starEach [b] X.env := by rfl) (g2 : starEach [b] X.env = (false, eval b X.env) :: starEach [] X.env := by rfl) : VS X S R (.Assign [.Tuple [.Name x px, .Name y py] kt pt] (.Tuple [a, b] kt2 pt2) pos) fr := by
  subst efr
  exact PS.le (ps_asg (pe_tup (pa_cons ha (pa_cons hb pa_nil g2) g1)) (pg_tup (n := 2) hc (pgs_cons (pg_name hN hi hx hfx) (pgs_cons (pg_name hN hj hy hfy) pgs_nil h3) h2) hln hst) hs hw h1) fun D σ H ⟨F, G, L, γ, p, r, wd, nd, he, hat, ea, k⟩ => by
    unfold sunpO at ea
    cases e1 : f γ with
    | none => rw [e1] at ea; cases ea
    | some xs =>
      rw [e1] at ea
      simp only [Option.bind_some] at ea
      cases e2 : g γ with
      | none => rw [e2] at ea; cases ea
      | some z =>
        rw [e2] at ea
        cases ea
        refine ⟨F, G, L, γ, xs, wd, he, e1, fun v G2 H2 x2 w2 ⟨q, vs, ev, hF, hG, hH, r2⟩ => ?_⟩
        subst ev
        have hq : q ∉ L := fun z => EnvR.there he q z hF
        have er2 : er X.K G2 (upd F q (.lst vs)) L σ γ := EnvR.keep (fun b hb => upd_ne (fun z => hq (by rw [← z]; exact hb))) (EnvR.mono x2 he)
        refine ⟨upd F q (.lst vs), G2, L, γ, z, w2.take hF hG hH, er2, e2, fun v' G3 H3 x3 w3 r3 => ?_⟩
        refine ⟨show 2 ≤ sizeLine by decide, fun t ht => ?_⟩
        have ft := w3.fresh ht
        refine ⟨t, _, rfl, .inl (.inl upd_same), rfl, .ref q, [v'], rfl, v', [], rfl, rfl, ?_⟩
        have er3 : er X.K G3 (upd F q (.lst vs)) L σ γ := EnvR.mono x3 er2
        obtain ⟨L1, l1, l2, l3⟩ := pa.ok er3 hq upd_same (Paired.mono (fun _ _ z => Rep.mono x3 z) r2)
        refine k _ L1 (upd F q (.lst vs)) G3 _ (x2.trans x3) ⟨fun b u hb => ?_, fun b u hb => ?_, w3.d⟩ (l2 nd) (off_new hF) (fun b hb => (l1 b hb).imp id fun z => by rw [z]; exact hF) (pb.ok l3 r3) (Md.keep ho' (Md.keep ho hat))
        · rw [upd_ne (fun z => by rw [z, ft.1] at hb; cases hb)]
          exact w3.g b u hb
        · rw [upd_ne (fun z => by rw [z, ft.2] at hb; cases hb)]
          exact w3.f b u hb
end
end Vx
/-! -1; min of a list -/
namespace Vx
open Rep (rep)
open EnvR (er)
open PySem PySem.Spec PyProof.Rows L2
section
variable {Γ : Type} [EnvR Γ] {X : Cx} {pos : Pos}
theorem ve_neg {n : Int} {j} {p : Pos} : VE X (.UnaryOp .USub (.Constant (.int n) j p) pos) (fc (Γ := Γ) (-n)) := PE.le (pe_un un_neg pe_int) fun σ H Q ⟨F, G, L, γ, a, w, h, ea, q⟩ => by
  cases ea
  exact ⟨n, rfl, q _ G H (Ex.refl _) w rfl⟩
end
def minI (a : List Int × Unit) : Option Int := match a.1 with
  | [] => none
  | x :: xs => if xs.length ≤ 100000 then some (xs.foldl min x) else none
def rMinI (K : PySem.W.Frag) : List V → Hp → VK → Prop := fun vs H Q => ∃ (b : Addr) (x : Int) (xs : List Int), vs = [.ref b] ∧ SqL K H b ((x :: xs).map V.int) ∧ xs.length ≤ 100000 ∧ Q (.int (xs.foldl min x)) H
section
variable {X : Cx}
theorem cr_minI (hu : X.A.units + 64 < cLine) (hc : X.calm = true) : CallR X (.builtin "min") (rMinI X.K) := by
  intro pins s σ H vs us Q I r h
  obtain ⟨b, x, xs, rfl, hs, hz, k⟩ := h
  obtain ⟨its, rv, hl, _⟩ := I.list hs
  rw [Vals.ref1 r]
  refine PySem.W.min_list_data (I.ok.hd hc) hl.isList (x := .int x) (xs := xs.map .int) (reads_ints _ rv) ⟨fun a ha c hc => ?_, fun a ha => ?_⟩ ?_ (fun i v h' tk bs hi hr hk => ?_)
  · obtain ⟨a, _, rfl⟩ := List.mem_map.mp (show a ∈ (x :: xs).map PyData.int from ha)
    obtain ⟨c, _, rfl⟩ := List.mem_map.mp (show c ∈ (x :: xs).map PyData.int from hc)
    simp [PySem.W.alike]
  · obtain ⟨a, _, rfl⟩ := List.mem_map.mp (show a ∈ (x :: xs).map PyData.int from ha)
    exact fun e => by cases e
  · have := depth_ints (x :: xs)
    rw [List.map_cons] at this
    omega
  · rw [PySem.W.minD_ints] at hr
    cases hr with
    | int i t => exact ⟨.int (xs.foldl min x), H, I.kept (t' := tk) hk, ⟨t, rfl⟩, k⟩
end
theorem o_minI {K : PySem.W.Frag} : OpA (rMinI K) K (RE K) minI := fun F G H a y vs Q w r e k => by
  obtain ⟨v, h1, p, us, h2, h3, h4⟩ := rl1 r
  unfold minI at e
  split at e
  · cases e
  · rename_i x xs ex
    split at e
    · rename_i hl
      cases e
      subst h2
      rw [ex] at h4
      have := ints_of h4
      subst this
      exact ⟨p, x, xs, h1, .inl (.inl (w.g _ _ h3)), hl, k _ G H (Ex.refl G) w rfl⟩
    · cases e
end Vx
namespace K67
open Vx.Rep (rep)
open Vx.EnvR (er)
open PySem PySem.Spec PyProof.Rows L2 Vx
def topS (i : Nat) : Stmt := PySem.Challenge.pw_closerworks_k67_whole_books_by_one_look.main.body.getD i (.Pass ⟨0, 0, 0, 0⟩)
def topC (i j : Nat) : Stmt := match topS i with
  | .ClassDef _ _ _ body _ _ _ _ _ _ _ => body.getD j (.Pass ⟨0, 0, 0, 0⟩)
  | s => s
theorem reL {α β δ : Type} [Rep α] {K : PySem.W.Frag} {r : L2.R2} {R2 : RR β} {R3 : RR δ} {φ : List α → β → Option δ} (h : Op2 r (RL K (α := α)) R2 R3 φ) : Op2 r (RE K (α := List α)) R2 R3 φ := fun F G H x y z vx vy Q w rx ry e k => h F G H x y z vx vy Q w (rl_of rx) ry e k
structure Top (K : PySem.W.Frag) (mg : Str → Option Value) : Prop where
  f_is_letter : Tf K mg "is_letter" (topS 14) ["sign"]
  f_is_word : Tf K mg "is_word" (topS 15) ["value"]
  f_is_any_lot : Tf K mg "is_any_lot" (topS 16) ["value"]
  f_is_things : Tf K mg "is_things" (topS 17) ["value"]
  f_has_all : Tf K mg "has_all" (topS 24) ["lot", "part"]
  f_is_lot : Tf K mg "is_lot" (topS 18) ["things", "value"]
  f_is_thing : Tf K mg "is_thing" (topS 19) ["things", "value"]
  f_check_things : Tf K mg "check_things" (topS 20) ["things"]
  f_check_lot : Tf K mg "check_lot" (topS 21) ["things", "lot"]
  f_check_thing : Tf K mg "check_thing" (topS 22) ["things", "thing"]
  f_first_wrong : Tf K mg "first_wrong" (topS 23) ["things", "values"]
  f_in_either : Tf K mg "in_either" (topS 25) ["one", "other"]
  f_lots_by_number : Tf K mg "lots_by_number" (topS 26) ["things"]
  f_number_by_lot : Tf K mg "number_by_lot" (topS 27) ["things"]
  f_numbers_of : Tf K mg "numbers_of" (topS 28) ["things", "lots"]
  f_family_of : Tf K mg "family_of" (topS 29) ["things", "numbers"]
  f_least_numbers : Tf K mg "least_numbers" (topS 30) ["numbers"]
  f_least_of : Tf K mg "least_of" (topS 31) ["things", "lots"]
  f_meets_of : Tf K mg "meets_of" (topS 32) ["things", "lots"]
  f_is_system : Tf K mg "is_system" (topS 37) ["things", "values"]
  f_check_closed : Tf K mg "check_closed" (topS 35) ["things", "closed"]
  f_first_around : Tf K mg "first_around" (topS 39) ["lots", "part"]
  f_lots_around : Tf K mg "lots_around" (topS 38) ["things", "closed"]
  f_Closer___init__ : TmI K mg "Closer.__init__" (topC 34 0) ["self", "things", "closed"]
  f_Closer_things : TmP K "things" "Closer.things" (topC 34 2) ["self"]
  f_Closer_closed : TmP K "closed" "Closer.closed" (topC 34 3) ["self"]
  f_Closer_around : TmM K "around" "Closer.around" (topC 34 7) ["self", "lot"]
  f_Closer___eq__ : TmM K "__eq__" "Closer.__eq__" (topC 34 6) ["self", "other"]
  f_check_closer : Tf K mg "check_closer" (topS 36) ["closer"]
  f_is_rule : Tf K mg "is_rule" (topS 43) ["things", "value"]
  f_wrong_rule : Tf K mg "wrong_rule" (topS 44) ["things", "rules"]
  f_check_book : Tf K mg "check_book" (topS 45) ["things", "book"]
  f_by_rules : Tf K mg "by_rules" (topS 46) ["things", "book"]
  f_reasons_of : Tf K mg "reasons_of" (topS 62) ["closer", "thing"]
  f_reasons : Tf K mg "reasons" (topS 63) ["closer", "thing"]
  f_plain_book : Tf K mg "plain_book" (topS 64) ["closer"]
  f_check_rule : Tf K mg "check_rule" (topS 48) ["things", "rule"]
  f_keeps : Tf K mg "keeps" (topS 49) ["lot", "rule"]
  f_holds : Tf K mg "holds" (topS 52) ["closer", "rule"]
  f_first_broken : Tf K mg "first_broken" (topS 50) ["book", "lot"]
  f_led_on : Tf K mg "led_on" (topS 51) ["book", "lot"]
  f_around_by : Tf K mg "around_by" (topS 53) ["things", "book", "lot"]
  f_steps : Tf K mg "steps" (topS 54) ["things", "book", "lot"]
  f_follows : Tf K mg "follows" (topS 55) ["things", "book", "rule"]
  f_Closer_is_closed : TmM K "is_closed" "Closer.is_closed" (topC 34 8) ["self", "lot"]
  f_stem_of : Tf K mg "stem_of" (topS 57) ["closer"]
  f_stem : Tf K mg "stem" (topS 58) ["closer"]
  f_Closer___len__ : TmM K "__len__" "Closer.__len__" (topC 34 5) ["self"]
  f_is_of : Tf K mg "is_of" (topS 59) ["closer", "book"]
  f_is_needless : Tf K mg "is_needless" (topS 60) ["book", "at"]
  f_needless : Tf K mg "needless" (topS 61) ["things", "book"]
  f__law_hopper : Tf K mg "_law_hopper" (topS 66) ["_law_script", "_law_k"]
  f__law_spill : Tf K mg "_law_spill" (topS 67) ["_law_hopper_here", "_law_many"]
  f__law_out_of : Tf K mg "_law_out_of" (topS 68) ["_law_hopper_here", "_law_bowl"]
  f__law_tags : Tf K mg "_law_tags" (topS 69) ["_law_hopper_here", "_law_most"]
  f__law_bag : Tf K mg "_law_bag" (topS 70) ["_law_hopper_here", "_law_tags_here"]
  f__law_bags : Tf K mg "_law_bags" (topS 71) ["_law_tags_here"]
  f__law_in : Tf K mg "_law_in" (topS 72) ["_law_one", "_law_other"]
  f__law_both : Tf K mg "_law_both" (topS 73) ["_law_one", "_law_other"]
  f__law_any : Tf K mg "_law_any" (topS 74) ["_law_one", "_law_other"]
  f__law_about : Tf K mg "_law_about" (topS 75) ["_law_shut", "_law_tags_here", "_law_bag_here"]
  f__law_met : Tf K mg "_law_met" (topS 76) ["_law_tags_here", "_law_bags_here"]
  f__law_keeping : Tf K mg "_law_keeping" (topS 77) ["_law_tags_here", "_law_book"]
  f__law_rules : Tf K mg "_law_rules" (topS 78) ["_law_hopper_here", "_law_tags_here", "_law_most"]
  f__law_joined : Tf K mg "_law_joined" (topS 79) ["_law_tags_here", "_law_ties", "_law_bag_here"]
  f__law_world : Tf K mg "_law_world" (topS 80) ["_law_hopper_here", "_law_tags_here"]
  f__law_looked : Tf K mg "_law_looked" (topS 81) ["_law_book", "_law_bag_here"]
  f__law_leaner : Tf K mg "_law_leaner" (topS 82) ["_law_tags_here", "_law_book"]
  f__law_used : Tf K mg "_law_used" (topS 83) ["_law_book", "_law_bag_here", "_law_path"]
  f__law_right : Tf K mg "_law_right" (topS 84) ["_law_hopper_here"]
  f_law : Tf K mg "law" (topS 85) ["_law_script"]
  b_len : mg "len" = none
  b_all : mg "all" = none
  b_any : mg "any" = none
  b_abs : mg "abs" = none
  b_int : mg "int" = none
  b_min : mg "min" = none
  b_max : mg "max" = none
  b_tuple : mg "tuple" = none
  b_repr : mg "repr" = none
  b_isinstance : mg "isinstance" = none
  b_str : mg "str" = none
  b_range : mg "range" = none
  b_enumerate : mg "enumerate" = none
  b_sorted : mg "sorted" = none
  b_set : mg "set" = none
  b_list : mg "list" = none
  b_divmod : mg "divmod" = none
  b_dict : mg "dict" = none
  c_MOST_THINGS : ∃ t, mg "MOST_THINGS" = some (.int 7 t)
  c_MOST_RULES : ∃ t, mg "MOST_RULES" = some (.int 200 t)
  cloF : TmF K
  isClo : TmIs K mg
theorem sc_is_letter : FnScope ["sign"] ["sign"] (defScope (topS 14)) := ⟨rfl, rfl, rfl, by decide +kernel, rfl, by decide +kernel, by decide +kernel⟩
def P_is_letter : { m : Str×Unit → Option Bool // ∀ {P : Program} {w : World} {K : PySem.W.Frag} {mg : Str → Option Value} {base : Heap}, Top K mg → Df P w K mg base "is_letter" (topS 14) 1 ["sign"] (spF K m) } :=
  ⟨_, fun {P w K mg base} T => df_F T.f_is_letter sc_is_letter (ic i0) (fun cdv A outer s H f hgd hr => (vs_cons (vs_ret (ve_chain op_le_str op_le_str o_sLe o_sLe ve_str (ve_var gz) ve_str)) (vs_nil (wid (Γ := Unit)))))⟩
def m_is_letter := P_is_letter.1
theorem d_is_letter {P : Program} {w : World} {K : PySem.W.Frag} {mg : Str → Option Value} {base : Heap} (T : Top K mg) : Df P w K mg base "is_letter" (topS 14) 1 ["sign"] (spF K m_is_letter) := P_is_letter.2 T
theorem sc_is_word : FnScope ["value", "ahead", "sign"] ["value"] (defScope (topS 15)) := ⟨rfl, rfl, rfl, by decide +kernel, rfl, by decide +kernel, by decide +kernel⟩
def P_is_word : { m : Str×Unit → Option Bool // ∀ {P : Program} {w : World} {K : PySem.W.Frag} {mg : Str → Option Value} {base : Heap}, Top K mg → Df P w K mg base "is_word" (topS 15) 2 ["value"] (spF K m) } :=
  ⟨_, fun {P w K mg base} T => df_F T.f_is_word sc_is_word (ic (ia (ia i0))) (fun cdv A outer s H f hgd hr => (vs_cons (vs_if (vt_not (vt_val (ve_isStr (ve_var gz) T.b_isinstance T.b_str))) (vs_cons (vs_ret ve_bl) (vs_nil wid)) (vs_nil wid)) (vs_cons (vs_set_ (ps pz) rfl sc_is_word.nd ve_str) (vs_cons (vs_forn wid (ps (ps pz)) rfl PassesOwn.never rfl (vi_str (ve_var gz)) (pg_name (i := 2) sc_is_word.nd rfl (by first | exact Or.inl rfl | exact Or.inr rfl)) (vs_cons (vs_if (vw_t (vw_or (vt_cmp op_le_str o_sLe re_mono (ve_var (gs (gs gz))) (ve_var (gs gz)) rfl) (vw_or1 (vt_not (vt_val (vd_call (d_is_letter T) hgd (rm hr) (va_cons (ve_var (gs (gs gz))) va_nil))))))) (vs_cons (vs_ret ve_bl) (vs_nil wid)) (vs_nil wid)) (vs_cons (vs_set_ (ps pz) rfl sc_is_word.nd (ve_var (gs (gs gz)))) (vs_nil (wk (wk (wa wn))))))) (vs_cons (vs_ret ve_bl) (vs_nil (wid (Γ := Unit))))))))⟩
def m_is_word := P_is_word.1
theorem d_is_word {P : Program} {w : World} {K : PySem.W.Frag} {mg : Str → Option Value} {base : Heap} (T : Top K mg) : Df P w K mg base "is_word" (topS 15) 2 ["value"] (spF K m_is_word) := P_is_word.2 T
theorem sc_is_any_lot : FnScope ["value"] ["value"] (defScope (topS 16)) := ⟨rfl, rfl, rfl, by decide +kernel, rfl, by decide +kernel, by decide +kernel⟩
def P_is_any_lot : { m : Str×Unit → Option Bool // ∀ {P : Program} {w : World} {K : PySem.W.Frag} {mg : Str → Option Value} {base : Heap}, Top K mg → Df P w K mg base "is_any_lot" (topS 16) 3 ["value"] (spF K m) } :=
  ⟨_, fun {P w K mg base} T => df_F T.f_is_any_lot sc_is_any_lot (ic i0) (fun cdv A outer s H f hgd hr => (vs_cons (vs_ret (ve_and (vd_call (d_is_word T) hgd (rm hr) (va_cons (ve_var gz) va_nil)) (ve_one (vo_cmp op_le o_iLe re_mono (vo_blt call_len o_lenS (va_cons (ve_var gz) va_nil) T.b_len) (ve_gint T.c_MOST_THINGS) rfl)))) (vs_nil (wid (Γ := Unit)))))⟩
def m_is_any_lot := P_is_any_lot.1
theorem d_is_any_lot {P : Program} {w : World} {K : PySem.W.Frag} {mg : Str → Option Value} {base : Heap} (T : Top K mg) : Df P w K mg base "is_any_lot" (topS 16) 3 ["value"] (spF K m_is_any_lot) := P_is_any_lot.2 T
theorem sc_is_things : FnScope ["value"] ["value"] (defScope (topS 17)) := ⟨rfl, rfl, rfl, by decide +kernel, rfl, by decide +kernel, by decide +kernel⟩
def P_is_things : { m : Str×Unit → Option Bool // ∀ {P : Program} {w : World} {K : PySem.W.Frag} {mg : Str → Option Value} {base : Heap}, Top K mg → Df P w K mg base "is_things" (topS 17) 4 ["value"] (spF K m) } :=
  ⟨_, fun {P w K mg base} T => df_F T.f_is_things sc_is_things (ic i0) (fun cdv A outer s H f hgd hr => (vs_cons (vs_ret (ve_and (vd_call (d_is_any_lot T) hgd (rm hr) (va_cons (ve_var gz) va_nil)) (ve_one (vo_cmp op_ne o_sNe re_mono (ve_var gz) ve_str rfl)))) (vs_nil (wid (Γ := Unit)))))⟩
def m_is_things := P_is_things.1
theorem d_is_things {P : Program} {w : World} {K : PySem.W.Frag} {mg : Str → Option Value} {base : Heap} (T : Top K mg) : Df P w K mg base "is_things" (topS 17) 4 ["value"] (spF K m_is_things) := P_is_things.2 T
theorem sc_has_all : FnScope ["lot", "part", "letter"] ["lot", "part"] (defScope (topS 24)) := ⟨rfl, rfl, rfl, by decide +kernel, rfl, by decide +kernel, by decide +kernel⟩
def P_has_all : { m : Str×Str×Unit → Option Bool // ∀ {P : Program} {w : World} {K : PySem.W.Frag} {mg : Str → Option Value} {base : Heap}, Top K mg → Df P w K mg base "has_all" (topS 24) 1 ["lot", "part"] (spF K m) } :=
  ⟨_, fun {P w K mg base} T => df_F T.f_has_all sc_has_all (ic (ic (ia i0))) (fun cdv A outer s H f hgd hr => (vs_cons (vs_ret (vo_blt (cr_all rfl) o_allB (va_cons (VF.up (vf_lc_ (ps (ps pz)) rfl rfl sc_has_all.nd (vi_str (ve_var (gs gz))) (by rfl) (fun _ _ _ _ _ => pg_name (i := 2) sc_has_all.nd rfl (by first | exact Or.inl rfl | exact Or.inr rfl)) (fun _ _ _ _ _ => vts_nil) (fun _ _ _ _ _ => (vo_cmp op_in_sign o_sIn re_mono (ve_var (gs (gs gz))) (ve_var gz) rfl)))) va_nil) T.b_all)) (vs_nil (wid (Γ := Unit)))))⟩
def m_has_all := P_has_all.1
theorem d_has_all {P : Program} {w : World} {K : PySem.W.Frag} {mg : Str → Option Value} {base : Heap} (T : Top K mg) : Df P w K mg base "has_all" (topS 24) 1 ["lot", "part"] (spF K m_has_all) := P_has_all.2 T
theorem sc_is_lot : FnScope ["things", "value"] ["things", "value"] (defScope (topS 18)) := ⟨rfl, rfl, rfl, by decide +kernel, rfl, by decide +kernel, by decide +kernel⟩
def P_is_lot : { m : Str×Str×Unit → Option Bool // ∀ {P : Program} {w : World} {K : PySem.W.Frag} {mg : Str → Option Value} {base : Heap}, Top K mg → Df P w K mg base "is_lot" (topS 18) 3 ["things", "value"] (spF K m) } :=
  ⟨_, fun {P w K mg base} T => df_F T.f_is_lot sc_is_lot (ic (ic i0)) (fun cdv A outer s H f hgd hr => (vs_cons (vs_ret (ve_and (vd_call (d_is_word T) hgd (rm hr) (va_cons (ve_var (gs gz)) va_nil)) (ve_one (vd_call (d_has_all T) hgd (rm hr) (va_cons (ve_var gz) (va_cons (ve_var (gs gz)) va_nil)))))) (vs_nil (wid (Γ := Unit)))))⟩
def m_is_lot := P_is_lot.1
theorem d_is_lot {P : Program} {w : World} {K : PySem.W.Frag} {mg : Str → Option Value} {base : Heap} (T : Top K mg) : Df P w K mg base "is_lot" (topS 18) 3 ["things", "value"] (spF K m_is_lot) := P_is_lot.2 T
theorem sc_is_thing : FnScope ["things", "value"] ["things", "value"] (defScope (topS 19)) := ⟨rfl, rfl, rfl, by decide +kernel, rfl, by decide +kernel, by decide +kernel⟩
def P_is_thing : { m : Str×Str×Unit → Option Bool // ∀ {P : Program} {w : World} {K : PySem.W.Frag} {mg : Str → Option Value} {base : Heap}, Top K mg → Df P w K mg base "is_thing" (topS 19) 4 ["things", "value"] (spF K m) } :=
  ⟨_, fun {P w K mg base} T => df_F T.f_is_thing sc_is_thing (ic (ic i0)) (fun cdv A outer s H f hgd hr => (vs_cons (vs_ret (ve_and (vd_call (d_is_lot T) hgd (rm hr) (va_cons (ve_var gz) (va_cons (ve_var (gs gz)) va_nil))) (ve_one (vo_cmp op_eq o_sEq re_mono (vo_blt call_len o_lenS (va_cons (ve_var (gs gz)) va_nil) T.b_len) ve_int rfl)))) (vs_nil (wid (Γ := Unit)))))⟩
def m_is_thing := P_is_thing.1
theorem d_is_thing {P : Program} {w : World} {K : PySem.W.Frag} {mg : Str → Option Value} {base : Heap} (T : Top K mg) : Df P w K mg base "is_thing" (topS 19) 4 ["things", "value"] (spF K m_is_thing) := P_is_thing.2 T
theorem sc_check_things : FnScope ["things"] ["things"] (defScope (topS 20)) := ⟨rfl, rfl, rfl, by decide +kernel, rfl, by decide +kernel, by decide +kernel⟩
def P_check_things : { m : Str×Unit → Option Unit // ∀ {P : Program} {w : World} {K : PySem.W.Frag} {mg : Str → Option Value} {base : Heap}, Top K mg → Df P w K mg base "check_things" (topS 20) 5 ["things"] (spF K m) } :=
  ⟨_, fun {P w K mg base} T => df_U T.f_check_things sc_check_things (ic i0) (fun cdv A outer s H f hgd hr => (vs_cons (vs_if (vt_not (vt_val (vd_call (d_is_things T) hgd (rm hr) (va_cons (ve_var gz) va_nil)))) vss_never (vs_nil wid)) (vs_nil wid)))⟩
def m_check_things := P_check_things.1
theorem d_check_things {P : Program} {w : World} {K : PySem.W.Frag} {mg : Str → Option Value} {base : Heap} (T : Top K mg) : Df P w K mg base "check_things" (topS 20) 5 ["things"] (spF K m_check_things) := P_check_things.2 T
theorem sc_check_lot : FnScope ["things", "lot"] ["things", "lot"] (defScope (topS 21)) := ⟨rfl, rfl, rfl, by decide +kernel, rfl, by decide +kernel, by decide +kernel⟩
def P_check_lot : { m : Str×Str×Unit → Option Unit // ∀ {P : Program} {w : World} {K : PySem.W.Frag} {mg : Str → Option Value} {base : Heap}, Top K mg → Df P w K mg base "check_lot" (topS 21) 4 ["things", "lot"] (spF K m) } :=
  ⟨_, fun {P w K mg base} T => df_U T.f_check_lot sc_check_lot (ic (ic i0)) (fun cdv A outer s H f hgd hr => (vs_cons (vs_if (vt_not (vt_val (vd_call (d_is_lot T) hgd (rm hr) (va_cons (ve_var gz) (va_cons (ve_var (gs gz)) va_nil))))) vss_never (vs_nil wid)) (vs_nil wid)))⟩
def m_check_lot := P_check_lot.1
theorem d_check_lot {P : Program} {w : World} {K : PySem.W.Frag} {mg : Str → Option Value} {base : Heap} (T : Top K mg) : Df P w K mg base "check_lot" (topS 21) 4 ["things", "lot"] (spF K m_check_lot) := P_check_lot.2 T
theorem sc_check_thing : FnScope ["things", "thing"] ["things", "thing"] (defScope (topS 22)) := ⟨rfl, rfl, rfl, by decide +kernel, rfl, by decide +kernel, by decide +kernel⟩
def P_check_thing : { m : Str×Str×Unit → Option Unit // ∀ {P : Program} {w : World} {K : PySem.W.Frag} {mg : Str → Option Value} {base : Heap}, Top K mg → Df P w K mg base "check_thing" (topS 22) 5 ["things", "thing"] (spF K m) } :=
  ⟨_, fun {P w K mg base} T => df_U T.f_check_thing sc_check_thing (ic (ic i0)) (fun cdv A outer s H f hgd hr => (vs_cons (vs_if (vt_not (vt_val (vd_call (d_is_thing T) hgd (rm hr) (va_cons (ve_var gz) (va_cons (ve_var (gs gz)) va_nil))))) vss_never (vs_nil wid)) (vs_nil wid)))⟩
def m_check_thing := P_check_thing.1
theorem d_check_thing {P : Program} {w : World} {K : PySem.W.Frag} {mg : Str → Option Value} {base : Heap} (T : Top K mg) : Df P w K mg base "check_thing" (topS 22) 5 ["things", "thing"] (spF K m_check_thing) := P_check_thing.2 T
theorem sc_first_wrong : FnScope ["things", "values", "at", "value"] ["things", "values"] (defScope (topS 23)) := ⟨rfl, rfl, rfl, by decide +kernel, rfl, by decide +kernel, by decide +kernel⟩
def P_first_wrong : { m : (Str×(Tup Str)×Unit) → Option (Option Int) // ∀ {P : Program} {w : World} {K : PySem.W.Frag} {mg : Str → Option Value} {base : Heap}, Top K mg → Df P w K mg base "first_wrong" (topS 23) 4 ["things", "values"] (spF K m) } :=
  ⟨_, fun {P w K mg base} T => df_F T.f_first_wrong sc_first_wrong (ic (ic (ia (ia i0)))) (fun cdv A outer s H f hgd hr => (vs_cons (vs_forp wid (ps (ps pz)) (ps (ps (ps pz))) rfl PassesOwn.never rfl (vi_enumT (ve_var (gs gz)) T.b_enumerate) (pg_tup rfl (pgs_cons (pg_name (i := 2) sc_first_wrong.nd rfl (by first | exact Or.inl rfl | exact Or.inr rfl)) (pgs_cons (pg_name (i := 3) sc_first_wrong.nd rfl (by first | exact Or.inl rfl | exact Or.inr rfl)) pgs_nil))) (vs_cons (vs_if (vw_t (vw_or (vt_not (vt_val (vd_call (d_is_lot T) hgd (rm hr) (va_cons (ve_var gz) (va_cons (ve_var (gs (gs (gs gz)))) va_nil))))) (vw_or1 (vw_t (vw_and (vt_cmp op_gt o_iGt re_mono (ve_var (gs (gs gz))) ve_int rfl) (vw_and1 (vt_cmp op_le_str o_sLe re_mono (ve_var (gs (gs (gs gz)))) (vo_ix ix_tup o_tIx re_mono (ve_var (gs gz)) (vo_op op_sub o_iSub re_mono (ve_var (gs (gs gz))) ve_int)) rfl))))))) (vs_cons (vs_ret (VE.some (ve_var (gs (gs gz))))) (vs_nil wid)) (vs_nil wid)) (vs_nil (wk (wk (wa (wa wn))))))) (vs_cons (vs_ret (ve_nonO (α := Int))) (vs_nil (wid (Γ := Unit))))))⟩
def m_first_wrong := P_first_wrong.1
theorem d_first_wrong {P : Program} {w : World} {K : PySem.W.Frag} {mg : Str → Option Value} {base : Heap} (T : Top K mg) : Df P w K mg base "first_wrong" (topS 23) 4 ["things", "values"] (spF K m_first_wrong) := P_first_wrong.2 T
theorem sc_in_either : FnScope ["one", "other"] ["one", "other"] (defScope (topS 25)) := ⟨rfl, rfl, rfl, by decide +kernel, rfl, by decide +kernel, by decide +kernel⟩
def P_in_either : { m : Str×Str×Unit → Option Str // ∀ {P : Program} {w : World} {K : PySem.W.Frag} {mg : Str → Option Value} {base : Heap}, Top K mg → Df P w K mg base "in_either" (topS 25) 1 ["one", "other"] (spF K m) } :=
  ⟨_, fun {P w K mg base} T => df_F T.f_in_either sc_in_either (ic (ic i0)) (fun cdv A outer s H f hgd hr => (vs_cons (vs_ret (ve_join ve_str (VF.up (vf_ssS rfl (un64 hr) T.b_sorted T.b_set (vo_op op_add_str o_sAdd re_mono (ve_var gz) (ve_var (gs gz))))))) (vs_nil (wid (Γ := Unit)))))⟩
def m_in_either := P_in_either.1
theorem d_in_either {P : Program} {w : World} {K : PySem.W.Frag} {mg : Str → Option Value} {base : Heap} (T : Top K mg) : Df P w K mg base "in_either" (topS 25) 1 ["one", "other"] (spF K m_in_either) := P_in_either.2 T
theorem sc_lots_by_number : FnScope ["things", "lots", "letter", "lot"] ["things"] (defScope (topS 26)) := ⟨rfl, rfl, rfl, by decide +kernel, rfl, by decide +kernel, by decide +kernel⟩
def P_lots_by_number : { m : Str×Unit → Option (List Str) // ∀ {P : Program} {w : World} {K : PySem.W.Frag} {mg : Str → Option Value} {base : Heap}, Top K mg → Df P w K mg base "lots_by_number" (topS 26) 1 ["things"] (spF K m) } :=
  ⟨_, fun {P w K mg base} T => df_F T.f_lots_by_number sc_lots_by_number (ic (ia (ia (ia i0)))) (fun cdv A outer s H f hgd hr => (vs_cons (vs_set_ (ps pz) rfl sc_lots_by_number.nd (VF.up (vf_lst (vls_cons ve_str vls_nil)))) (vs_cons (vs_forn wid (ps (ps pz)) rfl PassesOwn.never rfl (vi_str (ve_var gz)) (pg_name (i := 2) sc_lots_by_number.nd rfl (by first | exact Or.inl rfl | exact Or.inr rfl)) (vs_cons (vs_set_ (ps pz) rfl sc_lots_by_number.nd (VF.up (vo_op op_cat o_lCat rl_mono (VE.l (ve_var (gs gz))) (VE.l (VF.up (vf_lc_ (ps (ps (ps pz))) rfl rfl sc_lots_by_number.nd (vi_list (ve_var (gs gz))) (by rfl) (fun _ _ _ _ _ => pg_name (i := 3) sc_lots_by_number.nd rfl (by first | exact Or.inl rfl | exact Or.inr rfl)) (fun _ _ _ _ _ => vts_nil) (fun _ _ _ _ _ => (vo_op op_add_str o_sAdd re_mono (ve_var (gs (gs (gs gz)))) (ve_var (gs (gs gz))))))))))) (vs_nil (wk (wk (wa (wk wn))))))) (vs_cons (vs_ret (ve_var (gs gz))) (vs_nil (wid (Γ := Unit)))))))⟩
def m_lots_by_number := P_lots_by_number.1
theorem d_lots_by_number {P : Program} {w : World} {K : PySem.W.Frag} {mg : Str → Option Value} {base : Heap} (T : Top K mg) : Df P w K mg base "lots_by_number" (topS 26) 1 ["things"] (spF K m_lots_by_number) := P_lots_by_number.2 T
theorem sc_number_by_lot : FnScope ["things", "number", "lot"] ["things"] (defScope (topS 27)) := ⟨rfl, rfl, rfl, by decide +kernel, rfl, by decide +kernel, by decide +kernel⟩
def P_number_by_lot : { m : Str×Unit → Option (Dct Int) // ∀ {P : Program} {w : World} {K : PySem.W.Frag} {mg : Str → Option Value} {base : Heap}, Top K mg → Df P w K mg base "number_by_lot" (topS 27) 2 ["things"] (spF K m) } :=
  ⟨_, fun {P w K mg base} T => df_F T.f_number_by_lot sc_number_by_lot (ic (ia (ia i0))) (fun cdv A outer s H f hgd hr => (vs_cons (vs_ret (ve_dc_ (ps pz) (ps (ps pz)) rfl rfl sc_number_by_lot.nd (vi_enumL (vd_call (d_lots_by_number T) hgd (rm hr) (va_cons (ve_var gz) va_nil)) T.b_enumerate) (by rfl) (fun _ _ _ _ _ => pg_tup rfl (pgs_cons (pg_name (i := 1) sc_number_by_lot.nd rfl (by first | exact Or.inl rfl | exact Or.inr rfl)) (pgs_cons (pg_name (i := 2) sc_number_by_lot.nd rfl (by first | exact Or.inl rfl | exact Or.inr rfl)) pgs_nil))) (fun _ _ _ _ _ => (ve_var (gs (gs gz)))) (fun _ _ _ _ _ => (ve_var (gs gz))))) (vs_nil (wid (Γ := Unit)))))⟩
def m_number_by_lot := P_number_by_lot.1
theorem d_number_by_lot {P : Program} {w : World} {K : PySem.W.Frag} {mg : Str → Option Value} {base : Heap} (T : Top K mg) : Df P w K mg base "number_by_lot" (topS 27) 2 ["things"] (spF K m_number_by_lot) := P_number_by_lot.2 T
theorem sc_numbers_of : FnScope ["things", "lots", "number", "lot"] ["things", "lots"] (defScope (topS 28)) := ⟨rfl, rfl, rfl, by decide +kernel, rfl, by decide +kernel, by decide +kernel⟩
def P_numbers_of : { m : (Str×(Tup Str)×Unit) → Option (List Int) // ∀ {P : Program} {w : World} {K : PySem.W.Frag} {mg : Str → Option Value} {base : Heap}, Top K mg → Df P w K mg base "numbers_of" (topS 28) 3 ["things", "lots"] (spF K m) } :=
  ⟨_, fun {P w K mg base} T => df_F T.f_numbers_of sc_numbers_of (ic (ic (ia (ia i0)))) (fun cdv A outer s H f hgd hr => (vs_cons (vs_set_ (ps (ps pz)) rfl sc_numbers_of.nd (vd_call (d_number_by_lot T) hgd (rm hr) (va_cons (ve_var gz) va_nil))) (vs_cons (vs_ret (VF.up (vf_lc_ (ps (ps (ps pz))) rfl rfl sc_numbers_of.nd (vi_tup (ve_var (gs gz))) (by rfl) (fun _ _ _ _ _ => pg_name (i := 3) sc_numbers_of.nd rfl (by first | exact Or.inl rfl | exact Or.inr rfl)) (fun _ _ _ _ _ => vts_nil) (fun _ _ _ _ _ => (ve_dget (un1 hr) (ve_var (gs (gs gz))) (ve_var (gs (gs (gs gz)))) (by intro _ _; rfl)))))) (vs_nil (wid (Γ := Unit))))))⟩
def m_numbers_of := P_numbers_of.1
theorem d_numbers_of {P : Program} {w : World} {K : PySem.W.Frag} {mg : Str → Option Value} {base : Heap} (T : Top K mg) : Df P w K mg base "numbers_of" (topS 28) 3 ["things", "lots"] (spF K m_numbers_of) := P_numbers_of.2 T
def P_numbers_ofL : { m : (Str×(List Str)×Unit) → Option (List Int) // ∀ {P : Program} {w : World} {K : PySem.W.Frag} {mg : Str → Option Value} {base : Heap}, Top K mg → Df P w K mg base "numbers_of" (topS 28) 3 ["things", "lots"] (spF K m) } :=
  ⟨_, fun {P w K mg base} T => df_F T.f_numbers_of sc_numbers_of (ic (ic (ia (ia i0)))) (fun cdv A outer s H f hgd hr => (vs_cons (vs_set_ (ps (ps pz)) rfl sc_numbers_of.nd (vd_call (d_number_by_lot T) hgd (rm hr) (va_cons (ve_var gz) va_nil))) (vs_cons (vs_ret (VF.up (vf_lc_ (ps (ps (ps pz))) rfl rfl sc_numbers_of.nd (vi_list (ve_var (gs gz))) (by rfl) (fun _ _ _ _ _ => pg_name (i := 3) sc_numbers_of.nd rfl (by first | exact Or.inl rfl | exact Or.inr rfl)) (fun _ _ _ _ _ => vts_nil) (fun _ _ _ _ _ => (ve_dget (un1 hr) (ve_var (gs (gs gz))) (ve_var (gs (gs (gs gz)))) (by intro _ _; rfl)))))) (vs_nil (wid (Γ := Unit))))))⟩
def m_numbers_ofL := P_numbers_ofL.1
theorem d_numbers_ofL {P : Program} {w : World} {K : PySem.W.Frag} {mg : Str → Option Value} {base : Heap} (T : Top K mg) : Df P w K mg base "numbers_of" (topS 28) 3 ["things", "lots"] (spF K m_numbers_ofL) := P_numbers_ofL.2 T
theorem sc_family_of : FnScope ["things", "numbers", "lots", "number"] ["things", "numbers"] (defScope (topS 29)) := ⟨rfl, rfl, rfl, by decide +kernel, rfl, by decide +kernel, by decide +kernel⟩
def P_family_of : { m : (Str×(List Int)×Unit) → Option (Tup Str) // ∀ {P : Program} {w : World} {K : PySem.W.Frag} {mg : Str → Option Value} {base : Heap}, Top K mg → Df P w K mg base "family_of" (topS 29) 2 ["things", "numbers"] (spF K m) } :=
  ⟨_, fun {P w K mg base} T => df_F T.f_family_of sc_family_of (ic (ic (ia (ia i0)))) (fun cdv A outer s H f hgd hr => (vs_cons (vs_set_ (ps (ps pz)) rfl sc_family_of.nd (vd_call (d_lots_by_number T) hgd (rm hr) (va_cons (ve_var gz) va_nil))) (vs_cons (vs_ret (vo_bty call_tuple_of o_tupL (va_cons (VF.up (vo_blt (cr_srt (un64 hr)) o_srtL (va_cons (VF.up (vf_lc_ (ps (ps (ps pz))) rfl rfl sc_family_of.nd (vi_list (ve_var (gs gz))) (by rfl) (fun _ _ _ _ _ => pg_name (i := 3) sc_family_of.nd rfl (by first | exact Or.inl rfl | exact Or.inr rfl)) (fun _ _ _ _ _ => vts_nil) (fun _ _ _ _ _ => (vo_ix ix_list o_lIx rl_mono (VE.l (ve_var (gs (gs gz)))) (ve_var (gs (gs (gs gz)))))))) va_nil) T.b_sorted)) va_nil) T.b_tuple)) (vs_nil (wid (Γ := Unit))))))⟩
def m_family_of := P_family_of.1
theorem d_family_of {P : Program} {w : World} {K : PySem.W.Frag} {mg : Str → Option Value} {base : Heap} (T : Top K mg) : Df P w K mg base "family_of" (topS 29) 2 ["things", "numbers"] (spF K m_family_of) := P_family_of.2 T
theorem sc_least_numbers : FnScope ["numbers", "lot", "part"] ["numbers"] (defScope (topS 30)) := ⟨rfl, rfl, rfl, by decide +kernel, rfl, by decide +kernel, by decide +kernel⟩
def P_least_numbers : { m : ((List Int)×Unit) → Option (List Int) // ∀ {P : Program} {w : World} {K : PySem.W.Frag} {mg : Str → Option Value} {base : Heap}, Top K mg → Df P w K mg base "least_numbers" (topS 30) 1 ["numbers"] (spF K m) } :=
  ⟨_, fun {P w K mg base} T => df_F T.f_least_numbers sc_least_numbers (ic (ia (ia i0))) (fun cdv A outer s H f hgd hr => (vs_cons (vs_ret (VF.up (vf_lc_ (ps pz) rfl rfl sc_least_numbers.nd (vi_list (ve_var gz)) (by rfl) (fun _ _ _ _ _ => pg_name (i := 1) sc_least_numbers.nd rfl (by first | exact Or.inl rfl | exact Or.inr rfl)) (fun _ _ _ _ _ => (vts_one (vt_not (vt_val (vo_blt (cr_any rfl) o_anyB (va_cons (VF.up (vf_lc_ (ps (ps pz)) rfl rfl sc_least_numbers.nd (vi_list (ve_var gz)) (by rfl) (fun _ _ _ _ _ => pg_name (i := 2) sc_least_numbers.nd rfl (by first | exact Or.inl rfl | exact Or.inr rfl)) (fun _ _ _ _ _ => vts_nil) (fun _ _ _ _ _ => (ve_and (vo_cmp op_ne o_sNe re_mono (ve_var (gs (gs gz))) (ve_var (gs gz)) rfl) (ve_one (vo_cmp op_eq o_sEq re_mono (vo_op op_and o_iAnd re_mono (ve_var (gs (gs gz))) (ve_var (gs gz))) (ve_var (gs (gs gz))) rfl)))))) va_nil) T.b_any))))) (fun _ _ _ _ _ => (ve_var (gs gz)))))) (vs_nil (wid (Γ := Unit)))))⟩
def m_least_numbers := P_least_numbers.1
theorem d_least_numbers {P : Program} {w : World} {K : PySem.W.Frag} {mg : Str → Option Value} {base : Heap} (T : Top K mg) : Df P w K mg base "least_numbers" (topS 30) 1 ["numbers"] (spF K m_least_numbers) := P_least_numbers.2 T
theorem sc_least_of : FnScope ["things", "lots"] ["things", "lots"] (defScope (topS 31)) := ⟨rfl, rfl, rfl, by decide +kernel, rfl, by decide +kernel, by decide +kernel⟩
def P_least_of : { m : (Str×(List Str)×Unit) → Option (Tup Str) // ∀ {P : Program} {w : World} {K : PySem.W.Frag} {mg : Str → Option Value} {base : Heap}, Top K mg → Df P w K mg base "least_of" (topS 31) 4 ["things", "lots"] (spF K m) } :=
  ⟨_, fun {P w K mg base} T => df_F T.f_least_of sc_least_of (ic (ic i0)) (fun cdv A outer s H f hgd hr => (vs_cons (vs_ret (vd_call (d_family_of T) hgd (rm hr) (va_cons (ve_var gz) (va_cons (vd_call (d_least_numbers T) hgd (rm hr) (va_cons (vd_call (d_numbers_ofL T) hgd (rm hr) (va_cons (ve_var gz) (va_cons (VF.up (vf_ssL rfl (un64 hr) T.b_sorted T.b_set (VE.l (ve_var (gs gz))))) va_nil))) va_nil)) va_nil)))) (vs_nil (wid (Γ := Unit)))))⟩
def m_least_of := P_least_of.1
theorem d_least_of {P : Program} {w : World} {K : PySem.W.Frag} {mg : Str → Option Value} {base : Heap} (T : Top K mg) : Df P w K mg base "least_of" (topS 31) 4 ["things", "lots"] (spF K m_least_of) := P_least_of.2 T
theorem sc_meets_of : FnScope ["things", "lots", "whole", "found", "number", "other"] ["things", "lots"] (defScope (topS 32)) := ⟨rfl, rfl, rfl, by decide +kernel, rfl, by decide +kernel, by decide +kernel⟩
def P_meets_of : { m : (Str×(Tup Str)×Unit) → Option (Tup Str) // ∀ {P : Program} {w : World} {K : PySem.W.Frag} {mg : Str → Option Value} {base : Heap}, Top K mg → Df P w K mg base "meets_of" (topS 32) 4 ["things", "lots"] (spF K m) } :=
  ⟨_, fun {P w K mg base} T => df_F T.f_meets_of sc_meets_of (ic (ic (ia (ia (ia (ia i0)))))) (fun cdv A outer s H f hgd hr => (vs_cons (vs_set_ (ps (ps pz)) rfl sc_meets_of.nd (vo_op op_sub o_iSub re_mono (vo_blt call_len o_lenL (va_cons (vd_call (d_lots_by_number T) hgd (rm hr) (va_cons (ve_var gz) va_nil)) va_nil) T.b_len) ve_int)) (vs_cons (vs_newD_ (κ := Int) (pds (pds (pds pdz))) rfl sc_meets_of.nd (ve_var (gs (gs gz))) ve_bl) (vs_cons (vs_forn wid (ps (ps (ps (ps pz)))) rfl PassesOwn.never rfl (vi_list (vd_call (d_numbers_of T) hgd (rm hr) (va_cons (ve_var gz) (va_cons (ve_var (gs gz)) va_nil)))) (pg_name (i := 4) sc_meets_of.nd rfl (by first | exact Or.inl rfl | exact Or.inr rfl)) (vs_cons (vs_forn wid (ps (ps (ps (ps (ps pz))))) rfl PassesOwn.never rfl (vi_list (VF.up (vf_keys_ Int (ds (ds (ds dz))) rfl rfl T.b_list))) (pg_name (i := 5) sc_meets_of.nd rfl (by first | exact Or.inl rfl | exact Or.inr rfl)) (vs_cons (vs_dput_ (ds (ds (ds dz))) rfl (un1 hr) (vo_op op_and o_iAnd re_mono (ve_var (gs (gs (gs (gs gz))))) (ve_var (gs (gs (gs (gs (gs gz))))))) ve_bl) (vs_nil (wk (wk (wk (wk (wk (wa wn))))))))) (vs_nil (wk (wk (wk (wk (wa (wk wn))))))))) (vs_cons (vs_ret (vd_call (d_family_of T) hgd (rm hr) (va_cons (ve_var gz) (va_cons (VF.up (vf_keys_ Int (ds (ds (ds dz))) rfl rfl T.b_list)) va_nil)))) (vs_nil (wid (Γ := Unit))))))))⟩
def m_meets_of := P_meets_of.1
theorem d_meets_of {P : Program} {w : World} {K : PySem.W.Frag} {mg : Str → Option Value} {base : Heap} (T : Top K mg) : Df P w K mg base "meets_of" (topS 32) 4 ["things", "lots"] (spF K m_meets_of) := P_meets_of.2 T
theorem sc_is_system : FnScope ["things", "values"] ["things", "values"] (defScope (topS 37)) := ⟨rfl, rfl, rfl, by decide +kernel, rfl, by decide +kernel, by decide +kernel⟩
def P_is_system : { m : (Str×(Tup Str)×Unit) → Option Bool // ∀ {P : Program} {w : World} {K : PySem.W.Frag} {mg : Str → Option Value} {base : Heap}, Top K mg → Df P w K mg base "is_system" (topS 37) 5 ["things", "values"] (spF K m) } :=
  ⟨_, fun {P w K mg base} T => df_F T.f_is_system sc_is_system (ic (ic i0)) (fun cdv A outer s H f hgd hr => (vs_cons (vs_ret (ve_and (vo_cmp op_isN o_isN re_mono (vd_call (d_first_wrong T) hgd (rm hr) (va_cons (ve_var gz) (va_cons (ve_var (gs gz)) va_nil))) ve_non rfl) (ve_one (vo_cmp (op_eqP (un60 hr)) o_dEq re_mono (vd_call (d_meets_of T) hgd (rm hr) (va_cons (ve_var gz) (va_cons (ve_var (gs gz)) va_nil))) (ve_var (gs gz)) rfl)))) (vs_nil (wid (Γ := Unit)))))⟩
def m_is_system := P_is_system.1
theorem d_is_system {P : Program} {w : World} {K : PySem.W.Frag} {mg : Str → Option Value} {base : Heap} (T : Top K mg) : Df P w K mg base "is_system" (topS 37) 5 ["things", "values"] (spF K m_is_system) := P_is_system.2 T
theorem sc_check_closed : FnScope ["things", "closed", "wrong"] ["things", "closed"] (defScope (topS 35)) := ⟨rfl, rfl, rfl, by decide +kernel, rfl, by decide +kernel, by decide +kernel⟩
def P_check_closed : { m : (Str×(Tup Str)×Unit) → Option Unit // ∀ {P : Program} {w : World} {K : PySem.W.Frag} {mg : Str → Option Value} {base : Heap}, Top K mg → Df P w K mg base "check_closed" (topS 35) 6 ["things", "closed"] (spF K m) } :=
  ⟨_, fun {P w K mg base} T => df_U T.f_check_closed sc_check_closed (ic (ic (ia i0))) (fun cdv A outer s H f hgd hr => (vs_cons (vs_if (vt_not (vt_val (ve_isTup (ve_var (gs gz)) T.b_isinstance T.b_tuple))) vss_never (vs_nil wid)) (vs_cons (vs_set_ (ps (ps pz)) rfl sc_check_closed.nd (vd_call (d_first_wrong T) hgd (rm hr) (va_cons (ve_var gz) (va_cons (ve_var (gs gz)) va_nil)))) (vs_cons (vs_if (vt_cmp op_notN o_notN re_mono (ve_var (gs (gs gz))) ve_non rfl) vss_never (vs_nil wid)) (vs_cons (vs_if (vt_not (vt_val (vd_call (d_is_system T) hgd (rm hr) (va_cons (ve_var gz) (va_cons (ve_var (gs gz)) va_nil))))) vss_never (vs_nil wid)) (vs_nil wid))))))⟩
def m_check_closed := P_check_closed.1
theorem d_check_closed {P : Program} {w : World} {K : PySem.W.Frag} {mg : Str → Option Value} {base : Heap} (T : Top K mg) : Df P w K mg base "check_closed" (topS 35) 6 ["things", "closed"] (spF K m_check_closed) := P_check_closed.2 T
theorem sc_first_around : FnScope ["lots", "part", "at"] ["lots", "part"] (defScope (topS 39)) := ⟨rfl, rfl, rfl, by decide +kernel, rfl, by decide +kernel, by decide +kernel⟩
def P_first_around : { m : ((List Str)×Str×Unit) → Option Str // ∀ {P : Program} {w : World} {K : PySem.W.Frag} {mg : Str → Option Value} {base : Heap}, Top K mg → Df P w K mg base "first_around" (topS 39) 2 ["lots", "part"] (spF K m) } :=
  ⟨_, fun {P w K mg base} T => df_F T.f_first_around sc_first_around (ic (ic (ia i0))) (fun cdv A outer s H f hgd hr => (vs_cons (vs_set_ (ps (ps pz)) rfl sc_first_around.nd ve_int) (vs_cons (vs_while_ wid 1000 rfl PassesOwn.never (vt_not (vt_val (vd_call (d_has_all T) hgd (rm hr) (va_cons (vo_ix ix_list o_lIx rl_mono (VE.l (ve_var gz)) (ve_var (gs (gs gz)))) (va_cons (ve_var (gs gz)) va_nil))))) (vs_cons (vs_aug (gs (gs gz)) (ps (ps pz)) rfl sc_first_around.nd ve_int) (vs_nil wid))) (vs_cons (vs_ret (vo_ix ix_list o_lIx rl_mono (VE.l (ve_var gz)) (ve_var (gs (gs gz))))) (vs_nil (wid (Γ := Unit)))))))⟩
def m_first_around := P_first_around.1
theorem d_first_around {P : Program} {w : World} {K : PySem.W.Frag} {mg : Str → Option Value} {base : Heap} (T : Top K mg) : Df P w K mg base "first_around" (topS 39) 2 ["lots", "part"] (spF K m_first_around) := P_first_around.2 T
theorem sc_lots_around : FnScope ["things", "closed", "by_size", "lot"] ["things", "closed"] (defScope (topS 38)) := ⟨rfl, rfl, rfl, by decide +kernel, rfl, by decide +kernel, by decide +kernel⟩
def P_lots_around : { m : (Str×(Tup Str)×Unit) → Option (Dct Str) // ∀ {P : Program} {w : World} {K : PySem.W.Frag} {mg : Str → Option Value} {base : Heap}, Top K mg → Df P w K mg base "lots_around" (topS 38) 3 ["things", "closed"] (spF K m) } :=
  ⟨_, fun {P w K mg base} T => df_F T.f_lots_around sc_lots_around (ic (ic (ia (ia i0)))) (fun cdv A outer s H f hgd hr => (vs_cons (vs_set_ (ps (ps pz)) rfl sc_lots_around.nd (VF.up (vf_sortK (un64 hr) T.b_sorted T.b_len (ve_var (gs gz))))) (vs_cons (vs_ret (ve_dc1 (ps (ps (ps pz))) rfl rfl sc_lots_around.nd (vi_list (vd_call (d_lots_by_number T) hgd (rm hr) (va_cons (ve_var gz) va_nil))) (by rfl) (fun _ _ _ _ _ => pg_name (i := 3) sc_lots_around.nd rfl (by first | exact Or.inl rfl | exact Or.inr rfl)) (fun _ _ _ _ _ => (ve_var (gs (gs (gs gz))))) (fun _ _ _ _ _ => (vd_call (d_first_around T) hgd (rm hr) (va_cons (ve_var (gs (gs gz))) (va_cons (ve_var (gs (gs (gs gz)))) va_nil)))))) (vs_nil (wid (Γ := Unit))))))⟩
def m_lots_around := P_lots_around.1
theorem d_lots_around {P : Program} {w : World} {K : PySem.W.Frag} {mg : Str → Option Value} {base : Heap} (T : Top K mg) : Df P w K mg base "lots_around" (topS 38) 3 ["things", "closed"] (spF K m_lots_around) := P_lots_around.2 T
theorem sc_Closer___init__ : FnScope ["self", "things", "closed"] ["self", "things", "closed"] (defScope (topC 34 0)) := ⟨rfl, rfl, rfl, by decide +kernel, rfl, by decide +kernel, by decide +kernel⟩
def P_Closer___init__ : { m : (Str×(Tup Str)×Unit) → Option Clo // ∀ {P : Program} {w : World} {K : PySem.W.Frag} {mg : Str → Option Value} {base : Heap}, Top K mg → DfI P w K mg base 7 ["self", "things", "closed"] (spI K m) } :=
  ⟨_, fun {P w K mg base} T => df_I T.f_Closer___init__ sc_Closer___init__ (ic (ic i0)) (by
      intro γ c q γ' h p
      cases e1 : m_check_things (γ.1, ()) with
      | none => simp only [sseq, sex, sf1, sf2, sf3, snil, Fl.bnd, f1, fv, fcons, fnil, gs, gz, wid, Option.bind_some, e1, Option.map_none, Option.bind_none] at h; cases h
      | some u1 =>
        cases e2 : m_check_closed (γ.1, γ.2.1, ()) with
        | none => simp only [sseq, sex, sf1, sf2, sf3, snil, Fl.bnd, f1, fv, fcons, fnil, gs, gz, wid, Option.bind_some, Option.map_some, e1, e2, Option.map_none, Option.bind_none] at h; cases h
        | some u2 =>
          cases e3 : m_lots_around (γ.1, γ.2.1, ()) with
          | none => simp only [sseq, sex, sf1, sf2, sf3, snil, Fl.bnd, f1, fv, fcons, fnil, gs, gz, wid, Option.bind_some, Option.map_some, e1, e2, e3, Option.map_none, Option.bind_none] at h; cases h
          | some u3 =>
            simp only [sseq, sex, sf1, sf2, sf3, snil, Fl.bnd, f1, fv, fcons, fnil, gs, gz, wid, Option.bind_some, Option.map_some, e1, e2, e3] at h ⊢
            cases h
            exact ⟨_, rfl⟩) (fun cdv A outer s H f hgd hr => (vs_cons (vs_ex (vd_call (d_check_things T) hgd (rm hr) (va_cons (ve_var (gs gz)) va_nil))) (vs_cons (vs_ex (vd_call (d_check_closed T) hgd (rm hr) (va_cons (ve_var (gs gz)) (va_cons (ve_var (gs (gs gz))) va_nil)))) (vs_cons (vd_s1 T.cloF rfl (ve_var (gs gz))) (vs_cons (vd_s2 T.cloF rfl (ve_var (gs (gs gz)))) (vs_cons (vd_s3 T.cloF rfl (vd_call (d_lots_around T) hgd (rm hr) (va_cons (ve_var (gs gz)) (va_cons (ve_var (gs (gs gz))) va_nil)))) (vs_nil wid)))))))⟩
def m_Closer___init__ := P_Closer___init__.1
theorem d_Closer___init__ {P : Program} {w : World} {K : PySem.W.Frag} {mg : Str → Option Value} {base : Heap} (T : Top K mg) : DfI P w K mg base 7 ["self", "things", "closed"] (spI K m_Closer___init__) := P_Closer___init__.2 T
theorem sc_Closer_things : FnScope ["self"] ["self"] (defScope (topC 34 2)) := ⟨rfl, rfl, rfl, by decide +kernel, rfl, by decide +kernel, by decide +kernel⟩
def P_Closer_things : { m : Clo×Unit → Option Str // ∀ {P : Program} {w : World} {K : PySem.W.Frag} {mg : Str → Option Value} {base : Heap}, Top K mg → DfP P w K mg base "things" 1 ["self"] (spF K m) } :=
  ⟨_, fun {P w K mg base} T => df_P T.f_Closer_things sc_Closer_things (ic i0) (fun cdv A outer s H f hgd hr => (vs_cons (vs_ret (vd_fT T.cloF (ve_var gz))) (vs_nil (wid (Γ := Unit)))))⟩
def m_Closer_things := P_Closer_things.1
theorem d_Closer_things {P : Program} {w : World} {K : PySem.W.Frag} {mg : Str → Option Value} {base : Heap} (T : Top K mg) : DfP P w K mg base "things" 1 ["self"] (spF K m_Closer_things) := P_Closer_things.2 T
theorem sc_Closer_around : FnScope ["self", "lot"] ["self", "lot"] (defScope (topC 34 7)) := ⟨rfl, rfl, rfl, by decide +kernel, rfl, by decide +kernel, by decide +kernel⟩
def P_Closer_around : { m : Clo×Str×Unit → Option Str // ∀ {P : Program} {w : World} {K : PySem.W.Frag} {mg : Str → Option Value} {base : Heap}, Top K mg → DfMt P w K mg base "around" 5 ["self", "lot"] (spF K m) } :=
  ⟨_, fun {P w K mg base} T => df_Mt T.f_Closer_around sc_Closer_around (ic (ic i0)) (fun cdv A outer s H f hgd hr => (vs_cons (vs_ex (vd_call (d_check_lot T) hgd (rm hr) (va_cons (vd_fT T.cloF (ve_var gz)) (va_cons (ve_var (gs gz)) va_nil)))) (vs_cons (vs_ret (ve_dget (un1 hr) (vd_fA T.cloF (ve_var gz)) (ve_var (gs gz)) (by intro _ _; rfl))) (vs_nil (wid (Γ := Unit))))))⟩
def m_Closer_around := P_Closer_around.1
theorem d_Closer_around {P : Program} {w : World} {K : PySem.W.Frag} {mg : Str → Option Value} {base : Heap} (T : Top K mg) : DfMt P w K mg base "around" 5 ["self", "lot"] (spF K m_Closer_around) := P_Closer_around.2 T
theorem sc_Closer___eq__ : FnScope ["self", "other"] ["self", "other"] (defScope (topC 34 6)) := ⟨rfl, rfl, rfl, by decide +kernel, rfl, by decide +kernel, by decide +kernel⟩
def P_Closer___eq__ : { m : Clo×Clo×Unit → Option Bool // ∀ {P : Program} {w : World} {K : PySem.W.Frag} {mg : Str → Option Value} {base : Heap}, Top K mg → DfMt P w K mg base "__eq__" 1 ["self", "other"] (spF K m) } :=
  ⟨_, fun {P w K mg base} T => df_Mt T.f_Closer___eq__ sc_Closer___eq__ (ic (ic i0)) (fun cdv A outer s H f hgd hr => (vs_cons (vs_ret (ve_and (ve_isClo T.isClo (ve_var (gs gz)) T.b_isinstance) (ve_and (vo_cmp op_eq o_sEq re_mono (vd_fT T.cloF (ve_var gz)) (vd_fT T.cloF (ve_var (gs gz))) rfl) (ve_one (vo_cmp (op_eqP (un60 hr)) o_dEq re_mono (vd_fC T.cloF (ve_var gz)) (vd_fC T.cloF (ve_var (gs gz))) rfl))))) (vs_nil (wid (Γ := Unit)))))⟩
def m_Closer___eq__ := P_Closer___eq__.1
theorem d_Closer___eq__ {P : Program} {w : World} {K : PySem.W.Frag} {mg : Str → Option Value} {base : Heap} (T : Top K mg) : DfMt P w K mg base "__eq__" 1 ["self", "other"] (spF K m_Closer___eq__) := P_Closer___eq__.2 T
theorem sc_check_closer : FnScope ["closer"] ["closer"] (defScope (topS 36)) := ⟨rfl, rfl, rfl, by decide +kernel, rfl, by decide +kernel, by decide +kernel⟩
def P_check_closer : { m : Clo×Unit → Option Unit // ∀ {P : Program} {w : World} {K : PySem.W.Frag} {mg : Str → Option Value} {base : Heap}, Top K mg → Df P w K mg base "check_closer" (topS 36) 1 ["closer"] (spF K m) } :=
  ⟨_, fun {P w K mg base} T => df_U T.f_check_closer sc_check_closer (ic i0) (fun cdv A outer s H f hgd hr => (vs_cons (vs_if (vt_not (vt_val (ve_isClo T.isClo (ve_var gz) T.b_isinstance))) vss_never (vs_nil wid)) (vs_nil wid)))⟩
def m_check_closer := P_check_closer.1
theorem d_check_closer {P : Program} {w : World} {K : PySem.W.Frag} {mg : Str → Option Value} {base : Heap} (T : Top K mg) : Df P w K mg base "check_closer" (topS 36) 1 ["closer"] (spF K m_check_closer) := P_check_closer.2 T
theorem sc_is_rule : FnScope ["things", "value"] ["things", "value"] (defScope (topS 43)) := ⟨rfl, rfl, rfl, by decide +kernel, rfl, by decide +kernel, by decide +kernel⟩
def P_is_rule : { m : (Str×(T2 Str Str)×Unit) → Option Bool // ∀ {P : Program} {w : World} {K : PySem.W.Frag} {mg : Str → Option Value} {base : Heap}, Top K mg → Df P w K mg base "is_rule" (topS 43) 4 ["things", "value"] (spF K m) } :=
  ⟨_, fun {P w K mg base} T => df_F T.f_is_rule sc_is_rule (ic (ic i0)) (fun cdv A outer s H f hgd hr => (vs_cons (vs_ret (ve_and (ve_isT2 (ve_var (gs gz)) T.b_isinstance T.b_tuple) (ve_and (vo_cmp op_eq o_sEq re_mono (vo_blt call_len o_len2 (va_cons (ve_var (gs gz)) va_nil) T.b_len) ve_int rfl) (ve_and (vd_call (d_is_lot T) hgd (rm hr) (va_cons (ve_var gz) (va_cons (vo_ix ix_tup o_ix0 re_mono (ve_var (gs gz)) ve_int) va_nil))) (ve_one (vd_call (d_is_lot T) hgd (rm hr) (va_cons (ve_var gz) (va_cons (vo_ix ix_tup o_ix1 re_mono (ve_var (gs gz)) ve_int) va_nil)))))))) (vs_nil (wid (Γ := Unit)))))⟩
def m_is_rule := P_is_rule.1
theorem d_is_rule {P : Program} {w : World} {K : PySem.W.Frag} {mg : Str → Option Value} {base : Heap} (T : Top K mg) : Df P w K mg base "is_rule" (topS 43) 4 ["things", "value"] (spF K m_is_rule) := P_is_rule.2 T
theorem sc_wrong_rule : FnScope ["things", "rules", "at", "rule"] ["things", "rules"] (defScope (topS 44)) := ⟨rfl, rfl, rfl, by decide +kernel, rfl, by decide +kernel, by decide +kernel⟩
def P_wrong_rule : { m : (Str×(Tup (T2 Str Str))×Unit) → Option (Option Int) // ∀ {P : Program} {w : World} {K : PySem.W.Frag} {mg : Str → Option Value} {base : Heap}, Top K mg → Df P w K mg base "wrong_rule" (topS 44) 5 ["things", "rules"] (spF K m) } :=
  ⟨_, fun {P w K mg base} T => df_F T.f_wrong_rule sc_wrong_rule (ic (ic (ia (ia i0)))) (fun cdv A outer s H f hgd hr => (vs_cons (vs_forp wid (ps (ps pz)) (ps (ps (ps pz))) rfl PassesOwn.never rfl (vi_enumT (ve_var (gs gz)) T.b_enumerate) (pg_tup rfl (pgs_cons (pg_name (i := 2) sc_wrong_rule.nd rfl (by first | exact Or.inl rfl | exact Or.inr rfl)) (pgs_cons (pg_name (i := 3) sc_wrong_rule.nd rfl (by first | exact Or.inl rfl | exact Or.inr rfl)) pgs_nil))) (vs_cons (vs_if (vw_t (vw_or (vt_cmp op_ge o_iGe re_mono (ve_var (gs (gs gz))) (ve_gint T.c_MOST_RULES) rfl) (vw_or1 (vt_not (vt_val (vd_call (d_is_rule T) hgd (rm hr) (va_cons (ve_var gz) (va_cons (ve_var (gs (gs (gs gz)))) va_nil)))))))) (vs_cons (vs_ret (VE.some (ve_var (gs (gs gz))))) (vs_nil wid)) (vs_nil wid)) (vs_nil (wk (wk (wa (wa wn))))))) (vs_cons (vs_ret (ve_nonO (α := Int))) (vs_nil (wid (Γ := Unit))))))⟩
def m_wrong_rule := P_wrong_rule.1
theorem d_wrong_rule {P : Program} {w : World} {K : PySem.W.Frag} {mg : Str → Option Value} {base : Heap} (T : Top K mg) : Df P w K mg base "wrong_rule" (topS 44) 5 ["things", "rules"] (spF K m_wrong_rule) := P_wrong_rule.2 T
theorem sc_check_book : FnScope ["things", "book", "wrong"] ["things", "book"] (defScope (topS 45)) := ⟨rfl, rfl, rfl, by decide +kernel, rfl, by decide +kernel, by decide +kernel⟩
def P_check_book : { m : (Str×(Tup (T2 Str Str))×Unit) → Option Unit // ∀ {P : Program} {w : World} {K : PySem.W.Frag} {mg : Str → Option Value} {base : Heap}, Top K mg → Df P w K mg base "check_book" (topS 45) 6 ["things", "book"] (spF K m) } :=
  ⟨_, fun {P w K mg base} T => df_U T.f_check_book sc_check_book (ic (ic (ia i0))) (fun cdv A outer s H f hgd hr => (vs_cons (vs_if (vt_not (vt_val (ve_isTup (ve_var (gs gz)) T.b_isinstance T.b_tuple))) vss_never (vs_nil wid)) (vs_cons (vs_set_ (ps (ps pz)) rfl sc_check_book.nd (vd_call (d_wrong_rule T) hgd (rm hr) (va_cons (ve_var gz) (va_cons (ve_var (gs gz)) va_nil)))) (vs_cons (vs_if (vt_cmp op_notN o_notN re_mono (ve_var (gs (gs gz))) ve_non rfl) vss_never (vs_nil wid)) (vs_nil wid)))))⟩
def m_check_book := P_check_book.1
theorem d_check_book {P : Program} {w : World} {K : PySem.W.Frag} {mg : Str → Option Value} {base : Heap} (T : Top K mg) : Df P w K mg base "check_book" (topS 45) 6 ["things", "book"] (spF K m_check_book) := P_check_book.2 T
theorem sc_by_rules : FnScope ["things", "book", "number", "kept", "needed", "added", "first", "then", "lot"] ["things", "book"] (defScope (topS 46)) := ⟨rfl, rfl, rfl, by decide +kernel, rfl, by decide +kernel, by decide +kernel⟩
def P_by_rules : { m : (Str×(Tup (T2 Str Str))×Unit) → Option Clo // ∀ {P : Program} {w : World} {K : PySem.W.Frag} {mg : Str → Option Value} {base : Heap}, Top K mg → Df P w K mg base "by_rules" (topS 46) 9 ["things", "book"] (spF K m) } :=
  ⟨_, fun {P w K mg base} T => df_F T.f_by_rules sc_by_rules (ic (ic (ia (ia (ia (ia (ia (ia (ia i0))))))))) (fun cdv A outer s H f hgd hr => (vs_cons (vs_ex (vd_call (d_check_things T) hgd (rm hr) (va_cons (ve_var gz) va_nil))) (vs_cons (vs_ex (vd_call (d_check_book T) hgd (rm hr) (va_cons (ve_var gz) (va_cons (ve_var (gs gz)) va_nil)))) (vs_cons (vs_set_ (ps (ps pz)) rfl sc_by_rules.nd (vd_call (d_number_by_lot T) hgd (rm hr) (va_cons (ve_var gz) va_nil))) (vs_cons (vs_set_ (ps (ps (ps pz))) rfl sc_by_rules.nd (VF.up (vf_lrng rfl T.b_list T.b_range (vo_blt call_len o_lenL (va_cons (vd_call (d_lots_by_number T) hgd (rm hr) (va_cons (ve_var gz) va_nil)) va_nil) T.b_len)))) (vs_cons (vs_forp wid (ps (ps (ps (ps pz)))) (ps (ps (ps (ps (ps pz))))) rfl PassesOwn.never rfl (vi_tup (ve_var (gs gz))) (pg_tup rfl (pgs_cons (pg_name (i := 4) sc_by_rules.nd rfl (by first | exact Or.inl rfl | exact Or.inr rfl)) (pgs_cons (pg_name (i := 5) sc_by_rules.nd rfl (by first | exact Or.inl rfl | exact Or.inr rfl)) pgs_nil))) (vs_cons (vs_unp (ps (ps (ps (ps (ps (ps pz)))))) (ps (ps (ps (ps (ps (ps (ps pz))))))) rfl rfl sc_by_rules.nd (ve_pair (va_cons (ve_dget (un1 hr) (ve_var (gs (gs gz))) (ve_var (gs (gs (gs (gs gz))))) (by intro _ _; rfl)) (va_cons (ve_dget (un1 hr) (ve_var (gs (gs gz))) (ve_var (gs (gs (gs (gs (gs gz)))))) (by intro _ _; rfl)) va_nil)))) (vs_cons (vs_setLc (ps (ps (ps pz))) (ps (ps (ps (ps (ps (ps (ps (ps pz)))))))) rfl rfl sc_by_rules.nd (vi_list (ve_var (gs (gs (gs gz))))) (by rfl) (fun _ _ _ _ _ => pg_name (i := 8) sc_by_rules.nd rfl (by first | exact Or.inl rfl | exact Or.inr rfl)) (fun _ _ _ _ _ => (vts_one (vw_t (vw_or (vt_cmp op_ne o_sNe re_mono (vo_op op_and o_iAnd re_mono (ve_var (gs (gs (gs (gs (gs (gs (gs (gs gz))))))))) (ve_var (gs (gs (gs (gs (gs (gs gz)))))))) (ve_var (gs (gs (gs (gs (gs (gs gz))))))) rfl) (vw_or1 (vt_cmp op_eq o_sEq re_mono (vo_op op_and o_iAnd re_mono (ve_var (gs (gs (gs (gs (gs (gs (gs (gs gz))))))))) (ve_var (gs (gs (gs (gs (gs (gs (gs gz))))))))) (ve_var (gs (gs (gs (gs (gs (gs (gs gz)))))))) rfl)))))) (fun _ _ _ _ _ => (ve_var (gs (gs (gs (gs (gs (gs (gs (gs gz))))))))))) (vs_nil (wk (wk (wk (wk (wa (wa (wa (wa (wk wn))))))))))))) (vs_cons (vs_ret (vd_make (d_Closer___init__ T) hgd (rm hr) (va_cons (ve_var gz) (va_cons (vd_call (d_family_of T) hgd (rm hr) (va_cons (ve_var gz) (va_cons (ve_var (gs (gs (gs gz)))) va_nil))) va_nil)))) (vs_nil (wid (Γ := Unit))))))))))⟩
def m_by_rules := P_by_rules.1
theorem d_by_rules {P : Program} {w : World} {K : PySem.W.Frag} {mg : Str → Option Value} {base : Heap} (T : Top K mg) : Df P w K mg base "by_rules" (topS 46) 9 ["things", "book"] (spF K m_by_rules) := P_by_rules.2 T
theorem sc_reasons_of : FnScope ["closer", "thing", "lots", "lot"] ["closer", "thing"] (defScope (topS 62)) := ⟨rfl, rfl, rfl, by decide +kernel, rfl, by decide +kernel, by decide +kernel⟩
def P_reasons_of : { m : Clo×Str×Unit → Option (Tup Str) // ∀ {P : Program} {w : World} {K : PySem.W.Frag} {mg : Str → Option Value} {base : Heap}, Top K mg → Df P w K mg base "reasons_of" (topS 62) 6 ["closer", "thing"] (spF K m) } :=
  ⟨_, fun {P w K mg base} T => df_F T.f_reasons_of sc_reasons_of (ic (ic (ia (ia i0)))) (fun cdv A outer s H f hgd hr => (vs_cons (vs_setLc (ps (ps pz)) (ps (ps (ps pz))) rfl rfl sc_reasons_of.nd (vi_list (vd_call (d_lots_by_number T) hgd (rm hr) (va_cons (vd_prop (d_Closer_things T) hgd (rm hr) (ve_var gz)) va_nil))) (by rfl) (fun _ _ _ _ _ => pg_name (i := 3) sc_reasons_of.nd rfl (by first | exact Or.inl rfl | exact Or.inr rfl)) (fun _ _ _ _ _ => (vts_one (vw_t (vw_and (vt_cmp op_notIn_sign o_sNotIn re_mono (ve_var (gs gz)) (ve_var (gs (gs (gs gz)))) rfl) (vw_and1 (vt_cmp op_in_sign o_sIn re_mono (ve_var (gs gz)) (vd_meth (d_Closer_around T) hgd (rm hr) (ve_var gz) (va_cons (ve_var (gs (gs (gs gz)))) va_nil)) rfl)))))) (fun _ _ _ _ _ => (ve_var (gs (gs (gs gz)))))) (vs_cons (vs_ret (vd_call (d_least_of T) hgd (rm hr) (va_cons (vd_prop (d_Closer_things T) hgd (rm hr) (ve_var gz)) (va_cons (ve_var (gs (gs gz))) va_nil)))) (vs_nil (wid (Γ := Unit))))))⟩
def m_reasons_of := P_reasons_of.1
theorem d_reasons_of {P : Program} {w : World} {K : PySem.W.Frag} {mg : Str → Option Value} {base : Heap} (T : Top K mg) : Df P w K mg base "reasons_of" (topS 62) 6 ["closer", "thing"] (spF K m_reasons_of) := P_reasons_of.2 T
theorem sc_reasons : FnScope ["closer", "thing"] ["closer", "thing"] (defScope (topS 63)) := ⟨rfl, rfl, rfl, by decide +kernel, rfl, by decide +kernel, by decide +kernel⟩
def P_reasons : { m : Clo×Str×Unit → Option (Tup Str) // ∀ {P : Program} {w : World} {K : PySem.W.Frag} {mg : Str → Option Value} {base : Heap}, Top K mg → Df P w K mg base "reasons" (topS 63) 7 ["closer", "thing"] (spF K m) } :=
  ⟨_, fun {P w K mg base} T => df_F T.f_reasons sc_reasons (ic (ic i0)) (fun cdv A outer s H f hgd hr => (vs_cons (vs_ex (vd_call (d_check_closer T) hgd (rm hr) (va_cons (ve_var gz) va_nil))) (vs_cons (vs_ex (vd_call (d_check_thing T) hgd (rm hr) (va_cons (vd_prop (d_Closer_things T) hgd (rm hr) (ve_var gz)) (va_cons (ve_var (gs gz)) va_nil)))) (vs_cons (vs_ret (vd_call (d_reasons_of T) hgd (rm hr) (va_cons (ve_var gz) (va_cons (ve_var (gs gz)) va_nil)))) (vs_nil (wid (Γ := Unit)))))))⟩
def m_reasons := P_reasons.1
theorem d_reasons {P : Program} {w : World} {K : PySem.W.Frag} {mg : Str → Option Value} {base : Heap} (T : Top K mg) : Df P w K mg base "reasons" (topS 63) 7 ["closer", "thing"] (spF K m_reasons) := P_reasons.2 T
theorem sc_plain_book : FnScope ["closer", "thing", "reason"] ["closer"] (defScope (topS 64)) := ⟨rfl, rfl, rfl, by decide +kernel, rfl, by decide +kernel, by decide +kernel⟩
def P_plain_book : { m : Clo×Unit → Option (Tup (T2 Str Str)) // ∀ {P : Program} {w : World} {K : PySem.W.Frag} {mg : Str → Option Value} {base : Heap}, Top K mg → Df P w K mg base "plain_book" (topS 64) 7 ["closer"] (spF K m) } :=
  ⟨_, fun {P w K mg base} T => df_F T.f_plain_book sc_plain_book (ic (ia (ia i0))) (fun cdv A outer s H f hgd hr => (vs_cons (vs_ex (vd_call (d_check_closer T) hgd (rm hr) (va_cons (ve_var gz) va_nil))) (vs_cons (vs_ret (vo_bty call_tuple_of o_tupL (va_cons (VF.up (vo_blt (cr_srtP (α := T2 Str Str) (un64 hr)) o_srtLP (va_cons (VF.up (vf_lc2_ (ps pz) (ps (ps pz)) (ns (ns nz)) rfl rfl sc_plain_book.nd (vi_str (vd_prop (d_Closer_things T) hgd (rm hr) (ve_var gz))) (by rfl) (fun _ _ _ _ _ => pg_name (i := 1) sc_plain_book.nd rfl (by first | exact Or.inl rfl | exact Or.inr rfl)) (fun _ _ _ _ _ => vts_nil) (fun _ _ _ _ _ => (vi_tup (vd_call (d_reasons_of T) hgd (rm hr) (va_cons (ve_var gz) (va_cons (ve_var (gs gz)) va_nil))))) (fun _ _ _ _ _ => pg_name (i := 2) sc_plain_book.nd rfl (by first | exact Or.inl rfl | exact Or.inr rfl)) (fun _ _ _ _ _ => vts_nil) (fun _ _ _ _ _ => (ve_pair (va_cons (ve_var (gs (gs gz))) (va_cons (ve_var (gs gz)) va_nil)))))) va_nil) T.b_sorted)) va_nil) T.b_tuple)) (vs_nil (wid (Γ := Unit))))))⟩
def m_plain_book := P_plain_book.1
theorem d_plain_book {P : Program} {w : World} {K : PySem.W.Frag} {mg : Str → Option Value} {base : Heap} (T : Top K mg) : Df P w K mg base "plain_book" (topS 64) 7 ["closer"] (spF K m_plain_book) := P_plain_book.2 T
theorem sc_check_rule : FnScope ["things", "rule"] ["things", "rule"] (defScope (topS 48)) := ⟨rfl, rfl, rfl, by decide +kernel, rfl, by decide +kernel, by decide +kernel⟩
def P_check_rule : { m : (Str×(T2 Str Str)×Unit) → Option Unit // ∀ {P : Program} {w : World} {K : PySem.W.Frag} {mg : Str → Option Value} {base : Heap}, Top K mg → Df P w K mg base "check_rule" (topS 48) 5 ["things", "rule"] (spF K m) } :=
  ⟨_, fun {P w K mg base} T => df_U T.f_check_rule sc_check_rule (ic (ic i0)) (fun cdv A outer s H f hgd hr => (vs_cons (vs_if (vt_not (vt_val (vd_call (d_is_rule T) hgd (rm hr) (va_cons (ve_var gz) (va_cons (ve_var (gs gz)) va_nil))))) vss_never (vs_nil wid)) (vs_nil wid)))⟩
def m_check_rule := P_check_rule.1
theorem d_check_rule {P : Program} {w : World} {K : PySem.W.Frag} {mg : Str → Option Value} {base : Heap} (T : Top K mg) : Df P w K mg base "check_rule" (topS 48) 5 ["things", "rule"] (spF K m_check_rule) := P_check_rule.2 T
theorem sc_keeps : FnScope ["lot", "rule", "needed", "added"] ["lot", "rule"] (defScope (topS 49)) := ⟨rfl, rfl, rfl, by decide +kernel, rfl, by decide +kernel, by decide +kernel⟩
def P_keeps : { m : (Str×(T2 Str Str)×Unit) → Option Bool // ∀ {P : Program} {w : World} {K : PySem.W.Frag} {mg : Str → Option Value} {base : Heap}, Top K mg → Df P w K mg base "keeps" (topS 49) 2 ["lot", "rule"] (spF K m) } :=
  ⟨_, fun {P w K mg base} T => df_F T.f_keeps sc_keeps (ic (ic (ia (ia i0)))) (fun cdv A outer s H f hgd hr => (vs_cons (vs_unp (ps (ps pz)) (ps (ps (ps pz))) rfl rfl sc_keeps.nd (ve_var (gs gz))) (vs_cons (vs_ret (ve_or (ve_not (vd_call (d_has_all T) hgd (rm hr) (va_cons (ve_var gz) (va_cons (ve_var (gs (gs gz))) va_nil)))) (ve_one (vd_call (d_has_all T) hgd (rm hr) (va_cons (ve_var gz) (va_cons (ve_var (gs (gs (gs gz)))) va_nil)))))) (vs_nil (wid (Γ := Unit))))))⟩
def m_keeps := P_keeps.1
theorem d_keeps {P : Program} {w : World} {K : PySem.W.Frag} {mg : Str → Option Value} {base : Heap} (T : Top K mg) : Df P w K mg base "keeps" (topS 49) 2 ["lot", "rule"] (spF K m_keeps) := P_keeps.2 T
theorem sc_holds : FnScope ["closer", "rule"] ["closer", "rule"] (defScope (topS 52)) := ⟨rfl, rfl, rfl, by decide +kernel, rfl, by decide +kernel, by decide +kernel⟩
def P_holds : { m : (Clo×(T2 Str Str)×Unit) → Option Bool // ∀ {P : Program} {w : World} {K : PySem.W.Frag} {mg : Str → Option Value} {base : Heap}, Top K mg → Df P w K mg base "holds" (topS 52) 6 ["closer", "rule"] (spF K m) } :=
  ⟨_, fun {P w K mg base} T => df_F T.f_holds sc_holds (ic (ic i0)) (fun cdv A outer s H f hgd hr => (vs_cons (vs_ex (vd_call (d_check_closer T) hgd (rm hr) (va_cons (ve_var gz) va_nil))) (vs_cons (vs_ex (vd_call (d_check_rule T) hgd (rm hr) (va_cons (vd_prop (d_Closer_things T) hgd (rm hr) (ve_var gz)) (va_cons (ve_var (gs gz)) va_nil)))) (vs_cons (vs_ret (vd_call (d_keeps T) hgd (rm hr) (va_cons (vd_meth (d_Closer_around T) hgd (rm hr) (ve_var gz) (va_cons (vo_ix ix_tup o_ix0 re_mono (ve_var (gs gz)) ve_int) va_nil)) (va_cons (ve_var (gs gz)) va_nil)))) (vs_nil (wid (Γ := Unit)))))))⟩
def m_holds := P_holds.1
theorem d_holds {P : Program} {w : World} {K : PySem.W.Frag} {mg : Str → Option Value} {base : Heap} (T : Top K mg) : Df P w K mg base "holds" (topS 52) 6 ["closer", "rule"] (spF K m_holds) := P_holds.2 T
theorem sc_first_broken : FnScope ["book", "lot", "at", "rule"] ["book", "lot"] (defScope (topS 50)) := ⟨rfl, rfl, rfl, by decide +kernel, rfl, by decide +kernel, by decide +kernel⟩
def P_first_broken : { m : ((Tup (T2 Str Str))×Str×Unit) → Option (Option Int) // ∀ {P : Program} {w : World} {K : PySem.W.Frag} {mg : Str → Option Value} {base : Heap}, Top K mg → Df P w K mg base "first_broken" (topS 50) 3 ["book", "lot"] (spF K m) } :=
  ⟨_, fun {P w K mg base} T => df_F T.f_first_broken sc_first_broken (ic (ic (ia (ia i0)))) (fun cdv A outer s H f hgd hr => (vs_cons (vs_forp wid (ps (ps pz)) (ps (ps (ps pz))) rfl PassesOwn.never rfl (vi_enumT (ve_var gz) T.b_enumerate) (pg_tup rfl (pgs_cons (pg_name (i := 2) sc_first_broken.nd rfl (by first | exact Or.inl rfl | exact Or.inr rfl)) (pgs_cons (pg_name (i := 3) sc_first_broken.nd rfl (by first | exact Or.inl rfl | exact Or.inr rfl)) pgs_nil))) (vs_cons (vs_if (vt_not (vt_val (vd_call (d_keeps T) hgd (rm hr) (va_cons (ve_var (gs gz)) (va_cons (ve_var (gs (gs (gs gz)))) va_nil))))) (vs_cons (vs_ret (VE.some (ve_var (gs (gs gz))))) (vs_nil wid)) (vs_nil wid)) (vs_nil (wk (wk (wa (wa wn))))))) (vs_cons (vs_ret (ve_nonO (α := Int))) (vs_nil (wid (Γ := Unit))))))⟩
def m_first_broken := P_first_broken.1
theorem d_first_broken {P : Program} {w : World} {K : PySem.W.Frag} {mg : Str → Option Value} {base : Heap} (T : Top K mg) : Df P w K mg base "first_broken" (topS 50) 3 ["book", "lot"] (spF K m_first_broken) := P_first_broken.2 T
def P_first_brokenL : { m : ((List (T2 Str Str))×Str×Unit) → Option (Option Int) // ∀ {P : Program} {w : World} {K : PySem.W.Frag} {mg : Str → Option Value} {base : Heap}, Top K mg → Df P w K mg base "first_broken" (topS 50) 3 ["book", "lot"] (spF K m) } :=
  ⟨_, fun {P w K mg base} T => df_F T.f_first_broken sc_first_broken (ic (ic (ia (ia i0)))) (fun cdv A outer s H f hgd hr => (vs_cons (vs_forp wid (ps (ps pz)) (ps (ps (ps pz))) rfl PassesOwn.never rfl (vi_enumL (ve_var gz) T.b_enumerate) (pg_tup rfl (pgs_cons (pg_name (i := 2) sc_first_broken.nd rfl (by first | exact Or.inl rfl | exact Or.inr rfl)) (pgs_cons (pg_name (i := 3) sc_first_broken.nd rfl (by first | exact Or.inl rfl | exact Or.inr rfl)) pgs_nil))) (vs_cons (vs_if (vt_not (vt_val (vd_call (d_keeps T) hgd (rm hr) (va_cons (ve_var (gs gz)) (va_cons (ve_var (gs (gs (gs gz)))) va_nil))))) (vs_cons (vs_ret (VE.some (ve_var (gs (gs gz))))) (vs_nil wid)) (vs_nil wid)) (vs_nil (wk (wk (wa (wa wn))))))) (vs_cons (vs_ret (ve_nonO (α := Int))) (vs_nil (wid (Γ := Unit))))))⟩
def m_first_brokenL := P_first_brokenL.1
theorem d_first_brokenL {P : Program} {w : World} {K : PySem.W.Frag} {mg : Str → Option Value} {base : Heap} (T : Top K mg) : Df P w K mg base "first_broken" (topS 50) 3 ["book", "lot"] (spF K m_first_brokenL) := P_first_brokenL.2 T
theorem sc_led_on : FnScope ["book", "lot", "used", "come", "broken"] ["book", "lot"] (defScope (topS 51)) := ⟨rfl, rfl, rfl, by decide +kernel, rfl, by decide +kernel, by decide +kernel⟩
def P_led_on : { m : ((Tup (T2 Str Str))×Str×Unit) → Option (T2 (Tup Int) Str) // ∀ {P : Program} {w : World} {K : PySem.W.Frag} {mg : Str → Option Value} {base : Heap}, Top K mg → Df P w K mg base "led_on" (topS 51) 4 ["book", "lot"] (spF K m) } :=
  ⟨_, fun {P w K mg base} T => df_F T.f_led_on sc_led_on (ic (ic (ia (ia (ia i0))))) (fun cdv A outer s H f hgd hr => (vs_cons (vs_new_ (pos' (pos' poz)) rfl sc_led_on.nd (vf_lst (vls_nil (α := Int)))) (vs_cons (vs_set_ (ps (ps (ps pz))) rfl sc_led_on.nd (ve_var (gs gz))) (vs_cons (vs_set_ (ps (ps (ps (ps pz)))) rfl sc_led_on.nd (vd_call (d_first_broken T) hgd (rm hr) (va_cons (ve_var gz) (va_cons (ve_var (gs (gs (gs gz)))) va_nil)))) (vs_cons (vs_while_ wid 1000 rfl PassesOwn.never (vt_cmp op_notN o_notN re_mono (ve_var (gs (gs (gs (gs gz))))) ve_non rfl) (vs_cons (vs_app_ (os (os oz)) rfl (vo_up (VE.unw (ve_var (gs (gs (gs (gs gz))))))) (hpe := fun t h => pe_bm PySem.F.plainAttrs_list PySem.F.slot_list_append PySem.F.type_list_append mt_append (pe_var (i := 2) rfl (by first | exact Or.inl rfl | exact Or.inr (Or.inl rfl) | exact Or.inr (Or.inr rfl)) (by decide) (by decide)) h)) (vs_cons (vs_set_ (ps (ps (ps pz))) rfl sc_led_on.nd (vd_call (d_in_either T) hgd (rm hr) (va_cons (ve_var (gs (gs (gs gz)))) (va_cons (vo_ix ix_tup o_ix1 re_mono (vo_ix ix_tup o_tIx re_mono (ve_var gz) (VE.unw (ve_var (gs (gs (gs (gs gz))))))) ve_int) va_nil)))) (vs_cons (vs_set_ (ps (ps (ps (ps pz)))) rfl sc_led_on.nd (vd_call (d_first_broken T) hgd (rm hr) (va_cons (ve_var gz) (va_cons (ve_var (gs (gs (gs gz)))) va_nil)))) (vs_nil wid))))) (vs_cons (vs_ret (ve_pair (va_cons (ve_tupO (os (os oz)) rfl T.b_tuple) (va_cons (ve_var (gs (gs (gs gz)))) va_nil)))) (vs_nil (wid (Γ := Unit)))))))))⟩
def m_led_on := P_led_on.1
theorem d_led_on {P : Program} {w : World} {K : PySem.W.Frag} {mg : Str → Option Value} {base : Heap} (T : Top K mg) : Df P w K mg base "led_on" (topS 51) 4 ["book", "lot"] (spF K m_led_on) := P_led_on.2 T
theorem sc_around_by : FnScope ["things", "book", "lot"] ["things", "book", "lot"] (defScope (topS 53)) := ⟨rfl, rfl, rfl, by decide +kernel, rfl, by decide +kernel, by decide +kernel⟩
def P_around_by : { m : (Str×(Tup (T2 Str Str))×Str×Unit) → Option Str // ∀ {P : Program} {w : World} {K : PySem.W.Frag} {mg : Str → Option Value} {base : Heap}, Top K mg → Df P w K mg base "around_by" (topS 53) 7 ["things", "book", "lot"] (spF K m) } :=
  ⟨_, fun {P w K mg base} T => df_F T.f_around_by sc_around_by (ic (ic (ic i0))) (fun cdv A outer s H f hgd hr => (vs_cons (vs_ex (vd_call (d_check_things T) hgd (rm hr) (va_cons (ve_var gz) va_nil))) (vs_cons (vs_ex (vd_call (d_check_book T) hgd (rm hr) (va_cons (ve_var gz) (va_cons (ve_var (gs gz)) va_nil)))) (vs_cons (vs_ex (vd_call (d_check_lot T) hgd (rm hr) (va_cons (ve_var gz) (va_cons (ve_var (gs (gs gz))) va_nil)))) (vs_cons (vs_ret (vo_ix ix_tup o_ix1 re_mono (vd_call (d_led_on T) hgd (rm hr) (va_cons (ve_var (gs gz)) (va_cons (ve_var (gs (gs gz))) va_nil))) ve_int)) (vs_nil (wid (Γ := Unit))))))))⟩
def m_around_by := P_around_by.1
theorem d_around_by {P : Program} {w : World} {K : PySem.W.Frag} {mg : Str → Option Value} {base : Heap} (T : Top K mg) : Df P w K mg base "around_by" (topS 53) 7 ["things", "book", "lot"] (spF K m_around_by) := P_around_by.2 T
theorem sc_steps : FnScope ["things", "book", "lot"] ["things", "book", "lot"] (defScope (topS 54)) := ⟨rfl, rfl, rfl, by decide +kernel, rfl, by decide +kernel, by decide +kernel⟩
def P_steps : { m : (Str×(Tup (T2 Str Str))×Str×Unit) → Option (Tup Int) // ∀ {P : Program} {w : World} {K : PySem.W.Frag} {mg : Str → Option Value} {base : Heap}, Top K mg → Df P w K mg base "steps" (topS 54) 7 ["things", "book", "lot"] (spF K m) } :=
  ⟨_, fun {P w K mg base} T => df_F T.f_steps sc_steps (ic (ic (ic i0))) (fun cdv A outer s H f hgd hr => (vs_cons (vs_ex (vd_call (d_check_things T) hgd (rm hr) (va_cons (ve_var gz) va_nil))) (vs_cons (vs_ex (vd_call (d_check_book T) hgd (rm hr) (va_cons (ve_var gz) (va_cons (ve_var (gs gz)) va_nil)))) (vs_cons (vs_ex (vd_call (d_check_lot T) hgd (rm hr) (va_cons (ve_var gz) (va_cons (ve_var (gs (gs gz))) va_nil)))) (vs_cons (vs_ret (vo_ix ix_tup o_ix0 re_mono (vd_call (d_led_on T) hgd (rm hr) (va_cons (ve_var (gs gz)) (va_cons (ve_var (gs (gs gz))) va_nil))) ve_int)) (vs_nil (wid (Γ := Unit))))))))⟩
def m_steps := P_steps.1
theorem d_steps {P : Program} {w : World} {K : PySem.W.Frag} {mg : Str → Option Value} {base : Heap} (T : Top K mg) : Df P w K mg base "steps" (topS 54) 7 ["things", "book", "lot"] (spF K m_steps) := P_steps.2 T
theorem sc_follows : FnScope ["things", "book", "rule"] ["things", "book", "rule"] (defScope (topS 55)) := ⟨rfl, rfl, rfl, by decide +kernel, rfl, by decide +kernel, by decide +kernel⟩
def P_follows : { m : (Str×(Tup (T2 Str Str))×(T2 Str Str)×Unit) → Option Bool // ∀ {P : Program} {w : World} {K : PySem.W.Frag} {mg : Str → Option Value} {base : Heap}, Top K mg → Df P w K mg base "follows" (topS 55) 7 ["things", "book", "rule"] (spF K m) } :=
  ⟨_, fun {P w K mg base} T => df_F T.f_follows sc_follows (ic (ic (ic i0))) (fun cdv A outer s H f hgd hr => (vs_cons (vs_ex (vd_call (d_check_things T) hgd (rm hr) (va_cons (ve_var gz) va_nil))) (vs_cons (vs_ex (vd_call (d_check_book T) hgd (rm hr) (va_cons (ve_var gz) (va_cons (ve_var (gs gz)) va_nil)))) (vs_cons (vs_ex (vd_call (d_check_rule T) hgd (rm hr) (va_cons (ve_var gz) (va_cons (ve_var (gs (gs gz))) va_nil)))) (vs_cons (vs_ret (vd_call (d_keeps T) hgd (rm hr) (va_cons (vo_ix ix_tup o_ix1 re_mono (vd_call (d_led_on T) hgd (rm hr) (va_cons (ve_var (gs gz)) (va_cons (vo_ix ix_tup o_ix0 re_mono (ve_var (gs (gs gz))) ve_int) va_nil))) ve_int) (va_cons (ve_var (gs (gs gz))) va_nil)))) (vs_nil (wid (Γ := Unit))))))))⟩
def m_follows := P_follows.1
theorem d_follows {P : Program} {w : World} {K : PySem.W.Frag} {mg : Str → Option Value} {base : Heap} (T : Top K mg) : Df P w K mg base "follows" (topS 55) 7 ["things", "book", "rule"] (spF K m_follows) := P_follows.2 T
theorem sc_Closer_is_closed : FnScope ["self", "lot"] ["self", "lot"] (defScope (topC 34 8)) := ⟨rfl, rfl, rfl, by decide +kernel, rfl, by decide +kernel, by decide +kernel⟩
def P_Closer_is_closed : { m : Clo×Str×Unit → Option Bool // ∀ {P : Program} {w : World} {K : PySem.W.Frag} {mg : Str → Option Value} {base : Heap}, Top K mg → DfMt P w K mg base "is_closed" 5 ["self", "lot"] (spF K m) } :=
  ⟨_, fun {P w K mg base} T => df_Mt T.f_Closer_is_closed sc_Closer_is_closed (ic (ic i0)) (fun cdv A outer s H f hgd hr => (vs_cons (vs_ex (vd_call (d_check_lot T) hgd (rm hr) (va_cons (vd_fT T.cloF (ve_var gz)) (va_cons (ve_var (gs gz)) va_nil)))) (vs_cons (vs_ret (vo_cmp op_eq o_sEq re_mono (ve_dget (un1 hr) (vd_fA T.cloF (ve_var gz)) (ve_var (gs gz)) (by intro _ _; rfl)) (ve_var (gs gz)) rfl)) (vs_nil (wid (Γ := Unit))))))⟩
def m_Closer_is_closed := P_Closer_is_closed.1
theorem d_Closer_is_closed {P : Program} {w : World} {K : PySem.W.Frag} {mg : Str → Option Value} {base : Heap} (T : Top K mg) : DfMt P w K mg base "is_closed" 5 ["self", "lot"] (spF K m_Closer_is_closed) := P_Closer_is_closed.2 T
theorem sc_stem_of : FnScope ["closer", "found", "lot"] ["closer"] (defScope (topS 57)) := ⟨rfl, rfl, rfl, by decide +kernel, rfl, by decide +kernel, by decide +kernel⟩
def P_stem_of : { m : Clo×Unit → Option (Tup (T2 Str Str)) // ∀ {P : Program} {w : World} {K : PySem.W.Frag} {mg : Str → Option Value} {base : Heap}, Top K mg → Df P w K mg base "stem_of" (topS 57) 6 ["closer"] (spF K m) } :=
  ⟨_, fun {P w K mg base} T => df_F T.f_stem_of sc_stem_of (ic (ia (ia i0))) (fun cdv A outer s H f hgd hr => (vs_cons (vs_new_ (pos' poz) rfl sc_stem_of.nd (vf_lst (vls_nil (α := T2 Str Str)))) (vs_cons (vs_forn wid (ps (ps pz)) rfl PassesOwn.never rfl (vi_list (vd_call (d_lots_by_number T) hgd (rm hr) (va_cons (vd_prop (d_Closer_things T) hgd (rm hr) (ve_var gz)) va_nil))) (pg_name (i := 2) sc_stem_of.nd rfl (by first | exact Or.inl rfl | exact Or.inr rfl)) (vs_cons (vs_if (vw_t (vw_and (vt_not (vt_val (vd_meth (d_Closer_is_closed T) hgd (rm hr) (ve_var gz) (va_cons (ve_var (gs (gs gz))) va_nil)))) (vw_and1 (vt_cmp op_isN o_isN re_mono (ve_tmp (fs fz) rfl (vd_call (d_first_brokenL T) hgd (rm hr) (va_cons (ve_var (gs gz)) (va_cons (ve_var (gs (gs gz))) va_nil)))) ve_non rfl)))) (vs_cons (vs_app_ (os oz) rfl (vo_up (ve_pair (va_cons (ve_var (gs (gs gz))) (va_cons (vd_meth (d_Closer_around T) hgd (rm hr) (ve_var gz) (va_cons (ve_var (gs (gs gz))) va_nil)) va_nil)))) (hpe := fun t h => pe_bm PySem.F.plainAttrs_list PySem.F.slot_list_append PySem.F.type_list_append mt_append (pe_var (i := 1) rfl (by first | exact Or.inl rfl | exact Or.inr (Or.inl rfl) | exact Or.inr (Or.inr rfl)) (by decide) (by decide)) h)) (vs_nil wid)) (vs_nil wid)) (vs_nil (wk (wk (wa wn)))))) (vss_frz (fs fz) rfl (vs_cons (vs_ret (vo_bty call_tuple_of o_tupL (va_cons (VF.up (vo_blt (cr_srtP (α := T2 Str Str) (un64 hr)) o_srtLP (va_cons (ve_var (gs gz)) va_nil) T.b_sorted)) va_nil) T.b_tuple)) (vs_nil (wid (Γ := Unit))))))))⟩
def m_stem_of := P_stem_of.1
theorem d_stem_of {P : Program} {w : World} {K : PySem.W.Frag} {mg : Str → Option Value} {base : Heap} (T : Top K mg) : Df P w K mg base "stem_of" (topS 57) 6 ["closer"] (spF K m_stem_of) := P_stem_of.2 T
theorem sc_stem : FnScope ["closer"] ["closer"] (defScope (topS 58)) := ⟨rfl, rfl, rfl, by decide +kernel, rfl, by decide +kernel, by decide +kernel⟩
def P_stem : { m : Clo×Unit → Option (Tup (T2 Str Str)) // ∀ {P : Program} {w : World} {K : PySem.W.Frag} {mg : Str → Option Value} {base : Heap}, Top K mg → Df P w K mg base "stem" (topS 58) 7 ["closer"] (spF K m) } :=
  ⟨_, fun {P w K mg base} T => df_F T.f_stem sc_stem (ic i0) (fun cdv A outer s H f hgd hr => (vs_cons (vs_ex (vd_call (d_check_closer T) hgd (rm hr) (va_cons (ve_var gz) va_nil))) (vs_cons (vs_ret (vd_call (d_stem_of T) hgd (rm hr) (va_cons (ve_var gz) va_nil))) (vs_nil (wid (Γ := Unit))))))⟩
def m_stem := P_stem.1
theorem d_stem {P : Program} {w : World} {K : PySem.W.Frag} {mg : Str → Option Value} {base : Heap} (T : Top K mg) : Df P w K mg base "stem" (topS 58) 7 ["closer"] (spF K m_stem) := P_stem.2 T
theorem sc_is_of : FnScope ["closer", "book"] ["closer", "book"] (defScope (topS 59)) := ⟨rfl, rfl, rfl, by decide +kernel, rfl, by decide +kernel, by decide +kernel⟩
def P_is_of : { m : (Clo×(Tup (T2 Str Str))×Unit) → Option Bool // ∀ {P : Program} {w : World} {K : PySem.W.Frag} {mg : Str → Option Value} {base : Heap}, Top K mg → Df P w K mg base "is_of" (topS 59) 10 ["closer", "book"] (spF K m) } :=
  ⟨_, fun {P w K mg base} T => df_F T.f_is_of sc_is_of (ic (ic i0)) (fun cdv A outer s H f hgd hr => (vs_cons (vs_ex (vd_call (d_check_closer T) hgd (rm hr) (va_cons (ve_var gz) va_nil))) (vs_cons (vs_ex (vd_call (d_check_book T) hgd (rm hr) (va_cons (vd_prop (d_Closer_things T) hgd (rm hr) (ve_var gz)) (va_cons (ve_var (gs gz)) va_nil)))) (vs_cons (vs_ret (vd_eqC (d_Closer___eq__ T) hgd (rm hr) (vd_call (d_by_rules T) hgd (rm hr) (va_cons (vd_prop (d_Closer_things T) hgd (rm hr) (ve_var gz)) (va_cons (ve_var (gs gz)) va_nil))) (ve_var gz))) (vs_nil (wid (Γ := Unit)))))))⟩
def m_is_of := P_is_of.1
theorem d_is_of {P : Program} {w : World} {K : PySem.W.Frag} {mg : Str → Option Value} {base : Heap} (T : Top K mg) : Df P w K mg base "is_of" (topS 59) 10 ["closer", "book"] (spF K m_is_of) := P_is_of.2 T
theorem sc_is_needless : FnScope ["book", "at", "others"] ["book", "at"] (defScope (topS 60)) := ⟨rfl, rfl, rfl, by decide +kernel, rfl, by decide +kernel, by decide +kernel⟩
def P_is_needless : { m : ((Tup (T2 Str Str))×Int×Unit) → Option Bool // ∀ {P : Program} {w : World} {K : PySem.W.Frag} {mg : Str → Option Value} {base : Heap}, Top K mg → Df P w K mg base "is_needless" (topS 60) 5 ["book", "at"] (spF K m) } :=
  ⟨_, fun {P w K mg base} T => df_F T.f_is_needless sc_is_needless (ic (ic (ia i0))) (fun cdv A outer s H f hgd hr => (vs_cons (vs_set_ (ps (ps pz)) rfl sc_is_needless.nd (vo_op op_catA o_catA re_mono (ve_cutTo (ve_var gz) (ve_var (gs gz))) (ve_cutFrom (ve_var gz) (vo_op op_add o_iAdd re_mono (ve_var (gs gz)) ve_int)))) (vs_cons (vs_ret (vd_call (d_keeps T) hgd (rm hr) (va_cons (vo_ix ix_tup o_ix1 re_mono (vd_call (d_led_on T) hgd (rm hr) (va_cons (ve_var (gs (gs gz))) (va_cons (vo_ix ix_tup o_ix0 re_mono (vo_ix ix_tup o_tIx re_mono (ve_var gz) (ve_var (gs gz))) ve_int) va_nil))) ve_int) (va_cons (vo_ix ix_tup o_tIx re_mono (ve_var gz) (ve_var (gs gz))) va_nil)))) (vs_nil (wid (Γ := Unit))))))⟩
def m_is_needless := P_is_needless.1
theorem d_is_needless {P : Program} {w : World} {K : PySem.W.Frag} {mg : Str → Option Value} {base : Heap} (T : Top K mg) : Df P w K mg base "is_needless" (topS 60) 5 ["book", "at"] (spF K m_is_needless) := P_is_needless.2 T
theorem sc_needless : FnScope ["things", "book", "at"] ["things", "book"] (defScope (topS 61)) := ⟨rfl, rfl, rfl, by decide +kernel, rfl, by decide +kernel, by decide +kernel⟩
def P_needless : { m : (Str×(Tup (T2 Str Str))×Unit) → Option (Tup Int) // ∀ {P : Program} {w : World} {K : PySem.W.Frag} {mg : Str → Option Value} {base : Heap}, Top K mg → Df P w K mg base "needless" (topS 61) 7 ["things", "book"] (spF K m) } :=
  ⟨_, fun {P w K mg base} T => df_F T.f_needless sc_needless (ic (ic (ia i0))) (fun cdv A outer s H f hgd hr => (vs_cons (vs_ex (vd_call (d_check_things T) hgd (rm hr) (va_cons (ve_var gz) va_nil))) (vs_cons (vs_ex (vd_call (d_check_book T) hgd (rm hr) (va_cons (ve_var gz) (va_cons (ve_var (gs gz)) va_nil)))) (vs_cons (vs_ret (vo_bty call_tuple_of o_tupL (va_cons (VF.up (vf_lc_ (ps (ps pz)) rfl rfl sc_needless.nd (vi_range1 (vo_blt call_len o_lenT (va_cons (ve_var (gs gz)) va_nil) T.b_len) T.b_range) (by rfl) (fun _ _ _ _ _ => pg_name (i := 2) sc_needless.nd rfl (by first | exact Or.inl rfl | exact Or.inr rfl)) (fun _ _ _ _ _ => (vts_one (vt_val (vd_call (d_is_needless T) hgd (rm hr) (va_cons (ve_var (gs gz)) (va_cons (ve_var (gs (gs gz))) va_nil)))))) (fun _ _ _ _ _ => (ve_var (gs (gs gz)))))) va_nil) T.b_tuple)) (vs_nil (wid (Γ := Unit)))))))⟩
def m_needless := P_needless.1
theorem d_needless {P : Program} {w : World} {K : PySem.W.Frag} {mg : Str → Option Value} {base : Heap} (T : Top K mg) : Df P w K mg base "needless" (topS 61) 7 ["things", "book"] (spF K m_needless) := P_needless.2 T
theorem sc__law_hopper : FnScope ["_law_script", "_law_k", "_law_own", "_law_stirred", "_law_entry"] ["_law_script", "_law_k"] (defScope (topS 66)) := ⟨rfl, rfl, rfl, by decide +kernel, rfl, by decide +kernel, by decide +kernel⟩
def P__law_hopper : { m : Scr×Int×Unit → Option (List Int) // ∀ {P : Program} {w : World} {K : PySem.W.Frag} {mg : Str → Option Value} {base : Heap}, Top K mg → Df P w K mg base "_law_hopper" (topS 66) 1 ["_law_script", "_law_k"] (spN K m) } :=
  ⟨_, fun {P w K mg base} T => df_N T.f__law_hopper sc__law_hopper (ic (ic (ia (ia (ia i0))))) (fun cdv A outer s H f hgd hr => (vs_cons (vs_set_ (ps (ps pz)) rfl sc__law_hopper.nd (vo_if (vt_cmp op_lt o_iLt re_mono (ve_var (gs gz)) (vo_blt call_len o_lenC (va_cons (ve_var gz) va_nil) T.b_len) rfl) (vo_bty call_int1 o_int (va_cons (vo_ix ix_list o_cIx re_mono (ve_var gz) (ve_var (gs gz))) va_nil) T.b_int) (vo_op op_add o_iAdd re_mono (vo_op op_mul o_iMul re_mono ve_int (ve_var (gs gz))) ve_int))) (vs_cons (vs_set_ (ps (ps (ps pz))) rfl sc__law_hopper.nd (vo_op op_add o_iAdd re_mono ve_int (vo_op op_mul o_iMul re_mono ve_int (ve_var (gs gz))))) (vs_cons (vs_forn wid (ps (ps (ps (ps pz)))) rfl PassesOwn.never rfl (vi_list (VF.up (vf_scrTo (ve_var gz) ve_int))) (pg_name (i := 4) sc__law_hopper.nd rfl (by first | exact Or.inl rfl | exact Or.inr rfl)) (vs_cons (vs_set_ (ps (ps (ps pz))) rfl sc__law_hopper.nd (vo_op op_mod o_iMod re_mono (vo_bty call_int1 o_int (va_cons (vo_op op_add o_iAdd re_mono (vo_op op_mul o_iMul re_mono (ve_var (gs (gs (gs gz)))) ve_int) (vo_op op_mod o_iMod re_mono (vo_bty call_int1 o_int (va_cons (ve_var (gs (gs (gs (gs gz))))) va_nil) T.b_int) ve_int)) va_nil) T.b_int) ve_int)) (vs_nil (wk (wk (wk (wk (wa wn)))))))) (vs_cons (vs_ret (vf_lst (vls_cons (vo_op op_mod o_iMod re_mono (vo_bty call_int1 o_int (va_cons (vo_op op_add o_iAdd re_mono (vo_op op_mul o_iMul re_mono (ve_var (gs (gs (gs gz)))) ve_int) (vo_op op_mod o_iMod re_mono (ve_var (gs (gs gz))) ve_int)) va_nil) T.b_int) ve_int) (vls_cons ve_int (vls_cons (vo_if (vw_t (vw_or (vt_cmp op_lt o_iLt re_mono (ve_var (gs (gs gz))) ve_int rfl) (vw_or1 (vt_cmp op_ge o_iGe re_mono (ve_var (gs (gs gz))) (vo_op op_pow o_iPow re_mono ve_int ve_int) rfl)))) (vo_blt call_abs o_abs (va_cons (ve_var (gs (gs gz))) va_nil) T.b_abs) ve_int) vls_nil))))) (vs_nil (wid (Γ := Unit))))))))⟩
def m__law_hopper := P__law_hopper.1
theorem d__law_hopper {P : Program} {w : World} {K : PySem.W.Frag} {mg : Str → Option Value} {base : Heap} (T : Top K mg) : Df P w K mg base "_law_hopper" (topS 66) 1 ["_law_script", "_law_k"] (spN K m__law_hopper) := P__law_hopper.2 T
theorem sc__law_spill : FnScope ["_law_hopper_here", "_law_many", "_law_figure"] ["_law_hopper_here", "_law_many"] (defScope (topS 67)) := ⟨rfl, rfl, rfl, by decide +kernel, rfl, by decide +kernel, by decide +kernel⟩
def P__law_spill : { m : List Int → Int×Unit → Option (Int × List Int) // ∀ {P : Program} {w : World} {K : PySem.W.Frag} {mg : Str → Option Value} {base : Heap}, Top K mg → Df P w K mg base "_law_spill" (topS 67) 1 ["_law_hopper_here", "_law_many"] (spM K m) } :=
  ⟨_, fun {P w K mg base} T => df_M T.f__law_spill sc__law_spill (ic (ia i0)) (fun cdv A outer s H f hgd hr => (vs_cons (vs_set1_ oz rfl (vo_op op_add o_iAdd re_mono (vo_ix ix_list o_lIx rl_mono (vl_own oz) ve_int) ve_int) ve_int) (vs_cons (vs_if (vt_cmp op_gt o_iGt re_mono (vo_ix ix_list o_lIx rl_mono (vl_own oz) ve_int) ve_int rfl) (vs_cons (vs_dm_ oz (ps (ps pz)) rfl rfl sc__law_spill.nd (va_cons (vo_bty call_int1 o_int (va_cons (vo_ix ix_list o_lIx rl_mono (vl_own oz) ve_int) va_nil) T.b_int) (va_cons (ve_var (gs gz)) va_nil)) T.b_divmod) (vs_cons (vs_ret (ve_var (gs (gs gz)))) (vs_nil wid))) (vs_nil wid)) (vs_cons (vs_set1_ oz rfl (vo_op op_mod o_iMod re_mono (vo_bty call_int1 o_int (va_cons (vo_op op_add o_iAdd re_mono (vo_op op_add o_iAdd re_mono (vo_op op_mul o_iMul re_mono (vo_ix ix_list o_lIx rl_mono (vl_own oz) ve_int) ve_int) (vo_op op_mul o_iMul re_mono (vo_ix ix_list o_lIx rl_mono (vl_own oz) ve_int) ve_int)) (vo_op op_mul o_iMul re_mono (vo_op op_fdiv o_iDiv re_mono (vo_ix ix_list o_lIx rl_mono (vl_own oz) ve_int) ve_int) ve_int)) va_nil) T.b_int) ve_int) ve_int) (vs_cons (vs_ret (vo_op op_mod o_iMod re_mono (vo_bty call_int1 o_int (va_cons (vo_op op_fdiv o_iDiv re_mono (vo_ix ix_list o_lIx rl_mono (vl_own oz) ve_int) ve_int) va_nil) T.b_int) (ve_var (gs gz)))) (vs_nil (wid (Γ := Unit))))))))⟩
def m__law_spill := P__law_spill.1
theorem d__law_spill {P : Program} {w : World} {K : PySem.W.Frag} {mg : Str → Option Value} {base : Heap} (T : Top K mg) : Df P w K mg base "_law_spill" (topS 67) 1 ["_law_hopper_here", "_law_many"] (spM K m__law_spill) := P__law_spill.2 T
theorem sc__law_out_of : FnScope ["_law_hopper_here", "_law_bowl"] ["_law_hopper_here", "_law_bowl"] (defScope (topS 68)) := ⟨rfl, rfl, rfl, by decide +kernel, rfl, by decide +kernel, by decide +kernel⟩
def P__law_out_of : { m : List Int → Str×Unit → Option (Str × List Int) // ∀ {P : Program} {w : World} {K : PySem.W.Frag} {mg : Str → Option Value} {base : Heap}, Top K mg → Df P w K mg base "_law_out_of" (topS 68) 2 ["_law_hopper_here", "_law_bowl"] (spM K m) } :=
  ⟨_, fun {P w K mg base} T => df_M T.f__law_out_of sc__law_out_of (ic i0) (fun cdv A outer s H f hgd hr => (vs_cons (vs_retM (mo_ix ix_str o_sIx re_mmono (vo_up (ve_var (gs gz))) (md_draw (d__law_spill T) hgd (rm hr) (pe_var (i := 0) rfl (by first | exact Or.inl rfl | exact Or.inr (Or.inl rfl) | exact Or.inr (Or.inr rfl)) (by decide) (by decide)) (va_up (va_cons (vo_blt call_len o_lenS (va_cons (ve_var (gs gz)) va_nil) T.b_len) va_nil))))) (vs_nil (wid (Γ := Unit)))))⟩
def m__law_out_of := P__law_out_of.1
theorem d__law_out_of {P : Program} {w : World} {K : PySem.W.Frag} {mg : Str → Option Value} {base : Heap} (T : Top K mg) : Df P w K mg base "_law_out_of" (topS 68) 2 ["_law_hopper_here", "_law_bowl"] (spM K m__law_out_of) := P__law_out_of.2 T
def P__law_out_ofL : { m : List Int → ((List Str)×Unit) → Option (Str × List Int) // ∀ {P : Program} {w : World} {K : PySem.W.Frag} {mg : Str → Option Value} {base : Heap}, Top K mg → Df P w K mg base "_law_out_of" (topS 68) 2 ["_law_hopper_here", "_law_bowl"] (spM K m) } :=
  ⟨_, fun {P w K mg base} T => df_M T.f__law_out_of sc__law_out_of (ic i0) (fun cdv A outer s H f hgd hr => (vs_cons (vs_retM (mo_ix ix_list (reL o_lIx) re_mmono (vo_up (ve_var (gs gz))) (md_draw (d__law_spill T) hgd (rm hr) (pe_var (i := 0) rfl (by first | exact Or.inl rfl | exact Or.inr (Or.inl rfl) | exact Or.inr (Or.inr rfl)) (by decide) (by decide)) (va_up (va_cons (vo_blt call_len o_lenL (va_cons (ve_var (gs gz)) va_nil) T.b_len) va_nil))))) (vs_nil (wid (Γ := Unit)))))⟩
def m__law_out_ofL := P__law_out_ofL.1
theorem d__law_out_ofL {P : Program} {w : World} {K : PySem.W.Frag} {mg : Str → Option Value} {base : Heap} (T : Top K mg) : Df P w K mg base "_law_out_of" (topS 68) 2 ["_law_hopper_here", "_law_bowl"] (spM K m__law_out_ofL) := P__law_out_ofL.2 T
theorem sc__law_tags : FnScope ["_law_hopper_here", "_law_most", "_law_many"] ["_law_hopper_here", "_law_most"] (defScope (topS 69)) := ⟨rfl, rfl, rfl, by decide +kernel, rfl, by decide +kernel, by decide +kernel⟩
def P__law_tags : { m : List Int → Int×Unit → Option (Str × List Int) // ∀ {P : Program} {w : World} {K : PySem.W.Frag} {mg : Str → Option Value} {base : Heap}, Top K mg → Df P w K mg base "_law_tags" (topS 69) 3 ["_law_hopper_here", "_law_most"] (spM K m) } :=
  ⟨_, fun {P w K mg base} T => df_M T.f__law_tags sc__law_tags (ic (ia i0)) (fun cdv A outer s H f hgd hr => (vs_cons (vs_setM_ (ps (ps pz)) rfl sc__law_tags.nd (mo_op op_add o_iAdd re_mmono (vo_up ve_int) (md_draw (d__law_spill T) hgd (rm hr) (pe_var (i := 0) rfl (by first | exact Or.inl rfl | exact Or.inr (Or.inl rfl) | exact Or.inr (Or.inr rfl)) (by decide) (by decide)) (va_up (va_cons (ve_var (gs gz)) va_nil))))) (vs_cons (vs_retM (me_sliceTo (md_draw (d__law_out_ofL T) hgd (rm hr) (pe_var (i := 0) rfl (by first | exact Or.inl rfl | exact Or.inr (Or.inl rfl) | exact Or.inr (Or.inr rfl)) (by decide) (by decide)) (va_up (va_cons (VF.up (vf_lst (vls_cons ve_str (vls_cons ve_str (vls_cons ve_str vls_nil))))) va_nil))) (vo_up (ve_var (gs (gs gz)))))) (vs_nil (wid (Γ := Unit))))))⟩
def m__law_tags := P__law_tags.1
theorem d__law_tags {P : Program} {w : World} {K : PySem.W.Frag} {mg : Str → Option Value} {base : Heap} (T : Top K mg) : Df P w K mg base "_law_tags" (topS 69) 3 ["_law_hopper_here", "_law_most"] (spM K m__law_tags) := P__law_tags.2 T
theorem sc__law_bag : FnScope ["_law_hopper_here", "_law_tags_here", "_law_tag", "_law_side"] ["_law_hopper_here", "_law_tags_here"] (defScope (topS 70)) := ⟨rfl, rfl, rfl, by decide +kernel, rfl, by decide +kernel, by decide +kernel⟩
def P__law_bag : { m : List Int → Str×Unit → Option (Str × List Int) // ∀ {P : Program} {w : World} {K : PySem.W.Frag} {mg : Str → Option Value} {base : Heap}, Top K mg → Df P w K mg base "_law_bag" (topS 70) 2 ["_law_hopper_here", "_law_tags_here"] (spM K m) } :=
  ⟨_, fun {P w K mg base} T => df_M T.f__law_bag sc__law_bag (ic (ia (ia i0))) (fun cdv A outer s H f hgd hr => (vs_cons (vs_retM (me_join (vo_up ve_str) (mo_keep (mf_lcpm_ (ps (ps pz)) (ps (ps (ps pz))) rfl rfl sc__law_bag.nd (mi_list (mo_keep (mf_lc_ (cs (cs cz)) rfl rfl sc__law_bag.nd (vi_up (vi_str (ve_var (gs gz)))) (by rfl) (fun _ _ _ _ _ => pg_name (i := 2) sc__law_bag.nd rfl (by first | exact Or.inl rfl | exact Or.inr rfl)) (fun _ _ _ _ _ => (vts_up vts_nil)) (fun _ _ _ _ _ => (me_pair (ma_cons (vo_up (ve_var (gs (gs gz)))) (ma_cons (md_draw (d__law_spill T) hgd (rm hr) (pe_var (i := 0) rfl (by first | exact Or.inl rfl | exact Or.inr (Or.inl rfl) | exact Or.inr (Or.inr rfl)) (by decide) (by decide)) (va_up (va_cons ve_int va_nil))) (va_up va_nil)))))))) (by rfl) (fun _ _ _ _ _ => pg_tup rfl (pgs_cons (pg_name (i := 2) sc__law_bag.nd rfl (by first | exact Or.inl rfl | exact Or.inr rfl)) (pgs_cons (pg_name (i := 3) sc__law_bag.nd rfl (by first | exact Or.inl rfl | exact Or.inr rfl)) pgs_nil))) (fun _ _ _ _ _ => (vts_one (vt_cmp op_eq o_sEq re_mono (ve_var (gs (gs (gs gz)))) ve_int rfl))) (fun _ _ _ _ _ => (ve_var (gs (gs gz)))))))) (vs_nil (wid (Γ := Unit)))))⟩
def m__law_bag := P__law_bag.1
theorem d__law_bag {P : Program} {w : World} {K : PySem.W.Frag} {mg : Str → Option Value} {base : Heap} (T : Top K mg) : Df P w K mg base "_law_bag" (topS 70) 2 ["_law_hopper_here", "_law_tags_here"] (spM K m__law_bag) := P__law_bag.2 T
theorem sc__law_bags : FnScope ["_law_tags_here", "_law_found", "_law_tag", "_law_bag_here"] ["_law_tags_here"] (defScope (topS 71)) := ⟨rfl, rfl, rfl, by decide +kernel, rfl, by decide +kernel, by decide +kernel⟩
def P__law_bags : { m : Str×Unit → Option (List Str) // ∀ {P : Program} {w : World} {K : PySem.W.Frag} {mg : Str → Option Value} {base : Heap}, Top K mg → Df P w K mg base "_law_bags" (topS 71) 1 ["_law_tags_here"] (spF K m) } :=
  ⟨_, fun {P w K mg base} T => df_F T.f__law_bags sc__law_bags (ic (ia (ia (ia i0)))) (fun cdv A outer s H f hgd hr => (vs_cons (vs_set_ (ps pz) rfl sc__law_bags.nd (VF.up (vf_lst (vls_cons ve_str vls_nil)))) (vs_cons (vs_forn wid (ps (ps pz)) rfl PassesOwn.never rfl (vi_str (ve_var gz)) (pg_name (i := 2) sc__law_bags.nd rfl (by first | exact Or.inl rfl | exact Or.inr rfl)) (vs_cons (vs_set_ (ps pz) rfl sc__law_bags.nd (VF.up (vo_op op_cat o_lCat rl_mono (VE.l (ve_var (gs gz))) (VE.l (VF.up (vf_lc_ (ps (ps (ps pz))) rfl rfl sc__law_bags.nd (vi_list (ve_var (gs gz))) (by rfl) (fun _ _ _ _ _ => pg_name (i := 3) sc__law_bags.nd rfl (by first | exact Or.inl rfl | exact Or.inr rfl)) (fun _ _ _ _ _ => vts_nil) (fun _ _ _ _ _ => (vo_op op_add_str o_sAdd re_mono (ve_var (gs (gs (gs gz)))) (ve_var (gs (gs gz))))))))))) (vs_nil (wk (wk (wa (wk wn))))))) (vs_cons (vs_ret (VF.up (vo_blt (cr_srt (un64 hr)) o_srtL (va_cons (ve_var (gs gz)) va_nil) T.b_sorted))) (vs_nil (wid (Γ := Unit)))))))⟩
def m__law_bags := P__law_bags.1
theorem d__law_bags {P : Program} {w : World} {K : PySem.W.Frag} {mg : Str → Option Value} {base : Heap} (T : Top K mg) : Df P w K mg base "_law_bags" (topS 71) 1 ["_law_tags_here"] (spF K m__law_bags) := P__law_bags.2 T
theorem sc__law_in : FnScope ["_law_one", "_law_other", "_law_tag"] ["_law_one", "_law_other"] (defScope (topS 72)) := ⟨rfl, rfl, rfl, by decide +kernel, rfl, by decide +kernel, by decide +kernel⟩
def P__law_in : { m : Str×Str×Unit → Option Bool // ∀ {P : Program} {w : World} {K : PySem.W.Frag} {mg : Str → Option Value} {base : Heap}, Top K mg → Df P w K mg base "_law_in" (topS 72) 1 ["_law_one", "_law_other"] (spF K m) } :=
  ⟨_, fun {P w K mg base} T => df_F T.f__law_in sc__law_in (ic (ic (ia i0))) (fun cdv A outer s H f hgd hr => (vs_cons (vs_ret (vo_blt (cr_all rfl) o_allB (va_cons (VF.up (vf_lc_ (ps (ps pz)) rfl rfl sc__law_in.nd (vi_str (ve_var gz)) (by rfl) (fun _ _ _ _ _ => pg_name (i := 2) sc__law_in.nd rfl (by first | exact Or.inl rfl | exact Or.inr rfl)) (fun _ _ _ _ _ => vts_nil) (fun _ _ _ _ _ => (vo_cmp op_in_sign o_sIn re_mono (ve_var (gs (gs gz))) (ve_var (gs gz)) rfl)))) va_nil) T.b_all)) (vs_nil (wid (Γ := Unit)))))⟩
def m__law_in := P__law_in.1
theorem d__law_in {P : Program} {w : World} {K : PySem.W.Frag} {mg : Str → Option Value} {base : Heap} (T : Top K mg) : Df P w K mg base "_law_in" (topS 72) 1 ["_law_one", "_law_other"] (spF K m__law_in) := P__law_in.2 T
theorem sc__law_both : FnScope ["_law_one", "_law_other", "_law_tag"] ["_law_one", "_law_other"] (defScope (topS 73)) := ⟨rfl, rfl, rfl, by decide +kernel, rfl, by decide +kernel, by decide +kernel⟩
def P__law_both : { m : Str×Str×Unit → Option Str // ∀ {P : Program} {w : World} {K : PySem.W.Frag} {mg : Str → Option Value} {base : Heap}, Top K mg → Df P w K mg base "_law_both" (topS 73) 1 ["_law_one", "_law_other"] (spF K m) } :=
  ⟨_, fun {P w K mg base} T => df_F T.f__law_both sc__law_both (ic (ic (ia i0))) (fun cdv A outer s H f hgd hr => (vs_cons (vs_ret (ve_join ve_str (VF.up (vf_lc_ (ps (ps pz)) rfl rfl sc__law_both.nd (vi_str (ve_var gz)) (by rfl) (fun _ _ _ _ _ => pg_name (i := 2) sc__law_both.nd rfl (by first | exact Or.inl rfl | exact Or.inr rfl)) (fun _ _ _ _ _ => (vts_one (vt_cmp op_in_sign o_sIn re_mono (ve_var (gs (gs gz))) (ve_var (gs gz)) rfl))) (fun _ _ _ _ _ => (ve_var (gs (gs gz)))))))) (vs_nil (wid (Γ := Unit)))))⟩
def m__law_both := P__law_both.1
theorem d__law_both {P : Program} {w : World} {K : PySem.W.Frag} {mg : Str → Option Value} {base : Heap} (T : Top K mg) : Df P w K mg base "_law_both" (topS 73) 1 ["_law_one", "_law_other"] (spF K m__law_both) := P__law_both.2 T
theorem sc__law_any : FnScope ["_law_one", "_law_other"] ["_law_one", "_law_other"] (defScope (topS 74)) := ⟨rfl, rfl, rfl, by decide +kernel, rfl, by decide +kernel, by decide +kernel⟩
def P__law_any : { m : Str×Str×Unit → Option Str // ∀ {P : Program} {w : World} {K : PySem.W.Frag} {mg : Str → Option Value} {base : Heap}, Top K mg → Df P w K mg base "_law_any" (topS 74) 1 ["_law_one", "_law_other"] (spF K m) } :=
  ⟨_, fun {P w K mg base} T => df_F T.f__law_any sc__law_any (ic (ic i0)) (fun cdv A outer s H f hgd hr => (vs_cons (vs_ret (ve_join ve_str (VF.up (vf_ssS rfl (un64 hr) T.b_sorted T.b_set (vo_op op_add_str o_sAdd re_mono (ve_var gz) (ve_var (gs gz))))))) (vs_nil (wid (Γ := Unit)))))⟩
def m__law_any := P__law_any.1
theorem d__law_any {P : Program} {w : World} {K : PySem.W.Frag} {mg : Str → Option Value} {base : Heap} (T : Top K mg) : Df P w K mg base "_law_any" (topS 74) 1 ["_law_one", "_law_other"] (spF K m__law_any) := P__law_any.2 T
theorem sc__law_about : FnScope ["_law_shut", "_law_tags_here", "_law_bag_here", "_law_found", "_law_each"] ["_law_shut", "_law_tags_here", "_law_bag_here"] (defScope (topS 75)) := ⟨rfl, rfl, rfl, by decide +kernel, rfl, by decide +kernel, by decide +kernel⟩
def P__law_about : { m : ((Tup Str)×Str×Str×Unit) → Option Str // ∀ {P : Program} {w : World} {K : PySem.W.Frag} {mg : Str → Option Value} {base : Heap}, Top K mg → Df P w K mg base "_law_about" (topS 75) 2 ["_law_shut", "_law_tags_here", "_law_bag_here"] (spF K m) } :=
  ⟨_, fun {P w K mg base} T => df_F T.f__law_about sc__law_about (ic (ic (ic (ia (ia i0))))) (fun cdv A outer s H f hgd hr => (vs_cons (vs_set_ (ps (ps (ps pz))) rfl sc__law_about.nd (ve_var (gs gz))) (vs_cons (vs_forn wid (ps (ps (ps (ps pz)))) rfl PassesOwn.never rfl (vi_tup (ve_var gz)) (pg_name (i := 4) sc__law_about.nd rfl (by first | exact Or.inl rfl | exact Or.inr rfl)) (vs_cons (vs_if (vt_val (vd_call (d__law_in T) hgd (rm hr) (va_cons (ve_var (gs (gs gz))) (va_cons (ve_var (gs (gs (gs (gs gz))))) va_nil)))) (vs_cons (vs_set_ (ps (ps (ps pz))) rfl sc__law_about.nd (vd_call (d__law_both T) hgd (rm hr) (va_cons (ve_var (gs (gs (gs gz)))) (va_cons (ve_var (gs (gs (gs (gs gz))))) va_nil)))) (vs_nil wid)) (vs_nil wid)) (vs_nil (wk (wk (wk (wk (wa wn)))))))) (vs_cons (vs_ret (ve_var (gs (gs (gs gz))))) (vs_nil (wid (Γ := Unit)))))))⟩
def m__law_about := P__law_about.1
theorem d__law_about {P : Program} {w : World} {K : PySem.W.Frag} {mg : Str → Option Value} {base : Heap} (T : Top K mg) : Df P w K mg base "_law_about" (topS 75) 2 ["_law_shut", "_law_tags_here", "_law_bag_here"] (spF K m__law_about) := P__law_about.2 T
theorem sc__law_met : FnScope ["_law_tags_here", "_law_bags_here", "_law_found", "_law_bag_here", "_law_each"] ["_law_tags_here", "_law_bags_here"] (defScope (topS 76)) := ⟨rfl, rfl, rfl, by decide +kernel, rfl, by decide +kernel, by decide +kernel⟩
def P__law_met : { m : (Str×(List Str)×Unit) → Option (Tup Str) // ∀ {P : Program} {w : World} {K : PySem.W.Frag} {mg : Str → Option Value} {base : Heap}, Top K mg → Df P w K mg base "_law_met" (topS 76) 2 ["_law_tags_here", "_law_bags_here"] (spF K m) } :=
  ⟨_, fun {P w K mg base} T => df_F T.f__law_met sc__law_met (ic (ic (ia (ia (ia i0))))) (fun cdv A outer s H f hgd hr => (vs_cons (vs_set_ (ps (ps pz)) rfl sc__law_met.nd (VF.up (vf_lst (vls_cons (ve_var gz) vls_nil)))) (vs_cons (vs_forn wid (ps (ps (ps pz))) rfl PassesOwn.never rfl (vi_list (ve_var (gs gz))) (pg_name (i := 3) sc__law_met.nd rfl (by first | exact Or.inl rfl | exact Or.inr rfl)) (vs_cons (vs_set_ (ps (ps pz)) rfl sc__law_met.nd (VF.up (vf_ssL rfl (un64 hr) T.b_sorted T.b_set (VE.l (VF.up (vo_op op_cat o_lCat rl_mono (VE.l (ve_var (gs (gs gz)))) (VE.l (VF.up (vf_lc_ (ps (ps (ps (ps pz)))) rfl rfl sc__law_met.nd (vi_list (ve_var (gs (gs gz)))) (by rfl) (fun _ _ _ _ _ => pg_name (i := 4) sc__law_met.nd rfl (by first | exact Or.inl rfl | exact Or.inr rfl)) (fun _ _ _ _ _ => vts_nil) (fun _ _ _ _ _ => (vd_call (d__law_both T) hgd (rm hr) (va_cons (ve_var (gs (gs (gs gz)))) (va_cons (ve_var (gs (gs (gs (gs gz))))) va_nil))))))))))))) (vs_nil (wk (wk (wk (wa (wk wn)))))))) (vs_cons (vs_ret (vo_bty call_tuple_of o_tupL (va_cons (ve_var (gs (gs gz))) va_nil) T.b_tuple)) (vs_nil (wid (Γ := Unit)))))))⟩
def m__law_met := P__law_met.1
theorem d__law_met {P : Program} {w : World} {K : PySem.W.Frag} {mg : Str → Option Value} {base : Heap} (T : Top K mg) : Df P w K mg base "_law_met" (topS 76) 2 ["_law_tags_here", "_law_bags_here"] (spF K m__law_met) := P__law_met.2 T
theorem sc__law_keeping : FnScope ["_law_tags_here", "_law_book", "_law_found", "_law_bag_here", "_law_first", "_law_then"] ["_law_tags_here", "_law_book"] (defScope (topS 77)) := ⟨rfl, rfl, rfl, by decide +kernel, rfl, by decide +kernel, by decide +kernel⟩
def P__law_keeping : { m : (Str×(Tup (T2 Str Str))×Unit) → Option (Tup Str) // ∀ {P : Program} {w : World} {K : PySem.W.Frag} {mg : Str → Option Value} {base : Heap}, Top K mg → Df P w K mg base "_law_keeping" (topS 77) 2 ["_law_tags_here", "_law_book"] (spF K m) } :=
  ⟨_, fun {P w K mg base} T => df_F T.f__law_keeping sc__law_keeping (ic (ic (ia (ia (ia (ia i0)))))) (fun cdv A outer s H f hgd hr => (vs_cons (vs_new_ (pos' (pos' poz)) rfl sc__law_keeping.nd (vf_lst (vls_nil (α := Str)))) (vs_cons (vs_forn wid (ps (ps (ps pz))) rfl PassesOwn.never rfl (vi_list (vd_call (d__law_bags T) hgd (rm hr) (va_cons (ve_var gz) va_nil))) (pg_name (i := 3) sc__law_keeping.nd rfl (by first | exact Or.inl rfl | exact Or.inr rfl)) (vs_cons (vs_if (vt_val (vo_blt (cr_all rfl) o_allB (va_cons (VF.up (vf_lcp_ (ps (ps (ps (ps pz)))) (ps (ps (ps (ps (ps pz))))) rfl rfl sc__law_keeping.nd (vi_tup (ve_var (gs gz))) (by rfl) (fun _ _ _ _ _ => pg_tup rfl (pgs_cons (pg_name (i := 4) sc__law_keeping.nd rfl (by first | exact Or.inl rfl | exact Or.inr rfl)) (pgs_cons (pg_name (i := 5) sc__law_keeping.nd rfl (by first | exact Or.inl rfl | exact Or.inr rfl)) pgs_nil))) (fun _ _ _ _ _ => vts_nil) (fun _ _ _ _ _ => (ve_or (vd_call (d__law_in T) hgd (rm hr) (va_cons (ve_var (gs (gs (gs (gs (gs gz)))))) (va_cons (ve_var (gs (gs (gs gz)))) va_nil))) (ve_one (ve_not (vd_call (d__law_in T) hgd (rm hr) (va_cons (ve_var (gs (gs (gs (gs gz))))) (va_cons (ve_var (gs (gs (gs gz)))) va_nil))))))))) va_nil) T.b_all)) (vs_cons (vs_app_ (os (os oz)) rfl (vo_up (ve_var (gs (gs (gs gz))))) (hpe := fun t h => pe_bm PySem.F.plainAttrs_list PySem.F.slot_list_append PySem.F.type_list_append mt_append (pe_var (i := 2) rfl (by first | exact Or.inl rfl | exact Or.inr (Or.inl rfl) | exact Or.inr (Or.inr rfl)) (by decide) (by decide)) h)) (vs_nil wid)) (vs_nil wid)) (vs_nil (wk (wk (wk (wa (wk (wk wn))))))))) (vs_cons (vs_ret (ve_tupO (os (os oz)) rfl T.b_tuple)) (vs_nil (wid (Γ := Unit)))))))⟩
def m__law_keeping := P__law_keeping.1
theorem d__law_keeping {P : Program} {w : World} {K : PySem.W.Frag} {mg : Str → Option Value} {base : Heap} (T : Top K mg) : Df P w K mg base "_law_keeping" (topS 77) 2 ["_law_tags_here", "_law_book"] (spF K m__law_keeping) := P__law_keeping.2 T
def P__law_keepingL : { m : (Str×(List (T2 Str Str))×Unit) → Option (Tup Str) // ∀ {P : Program} {w : World} {K : PySem.W.Frag} {mg : Str → Option Value} {base : Heap}, Top K mg → Df P w K mg base "_law_keeping" (topS 77) 2 ["_law_tags_here", "_law_book"] (spF K m) } :=
  ⟨_, fun {P w K mg base} T => df_F T.f__law_keeping sc__law_keeping (ic (ic (ia (ia (ia (ia i0)))))) (fun cdv A outer s H f hgd hr => (vs_cons (vs_new_ (pos' (pos' poz)) rfl sc__law_keeping.nd (vf_lst (vls_nil (α := Str)))) (vs_cons (vs_forn wid (ps (ps (ps pz))) rfl PassesOwn.never rfl (vi_list (vd_call (d__law_bags T) hgd (rm hr) (va_cons (ve_var gz) va_nil))) (pg_name (i := 3) sc__law_keeping.nd rfl (by first | exact Or.inl rfl | exact Or.inr rfl)) (vs_cons (vs_if (vt_val (vo_blt (cr_all rfl) o_allB (va_cons (VF.up (vf_lcp_ (ps (ps (ps (ps pz)))) (ps (ps (ps (ps (ps pz))))) rfl rfl sc__law_keeping.nd (vi_list (ve_var (gs gz))) (by rfl) (fun _ _ _ _ _ => pg_tup rfl (pgs_cons (pg_name (i := 4) sc__law_keeping.nd rfl (by first | exact Or.inl rfl | exact Or.inr rfl)) (pgs_cons (pg_name (i := 5) sc__law_keeping.nd rfl (by first | exact Or.inl rfl | exact Or.inr rfl)) pgs_nil))) (fun _ _ _ _ _ => vts_nil) (fun _ _ _ _ _ => (ve_or (vd_call (d__law_in T) hgd (rm hr) (va_cons (ve_var (gs (gs (gs (gs (gs gz)))))) (va_cons (ve_var (gs (gs (gs gz)))) va_nil))) (ve_one (ve_not (vd_call (d__law_in T) hgd (rm hr) (va_cons (ve_var (gs (gs (gs (gs gz))))) (va_cons (ve_var (gs (gs (gs gz)))) va_nil))))))))) va_nil) T.b_all)) (vs_cons (vs_app_ (os (os oz)) rfl (vo_up (ve_var (gs (gs (gs gz))))) (hpe := fun t h => pe_bm PySem.F.plainAttrs_list PySem.F.slot_list_append PySem.F.type_list_append mt_append (pe_var (i := 2) rfl (by first | exact Or.inl rfl | exact Or.inr (Or.inl rfl) | exact Or.inr (Or.inr rfl)) (by decide) (by decide)) h)) (vs_nil wid)) (vs_nil wid)) (vs_nil (wk (wk (wk (wa (wk (wk wn))))))))) (vs_cons (vs_ret (ve_tupO (os (os oz)) rfl T.b_tuple)) (vs_nil (wid (Γ := Unit)))))))⟩
def m__law_keepingL := P__law_keepingL.1
theorem d__law_keepingL {P : Program} {w : World} {K : PySem.W.Frag} {mg : Str → Option Value} {base : Heap} (T : Top K mg) : Df P w K mg base "_law_keeping" (topS 77) 2 ["_law_tags_here", "_law_book"] (spF K m__law_keepingL) := P__law_keepingL.2 T
theorem sc__law_rules : FnScope ["_law_hopper_here", "_law_tags_here", "_law_most", "_law_k"] ["_law_hopper_here", "_law_tags_here", "_law_most"] (defScope (topS 78)) := ⟨rfl, rfl, rfl, by decide +kernel, rfl, by decide +kernel, by decide +kernel⟩
def P__law_rules : { m : List Int → Str×Int×Unit → Option ((Tup (T2 Str Str)) × List Int) // ∀ {P : Program} {w : World} {K : PySem.W.Frag} {mg : Str → Option Value} {base : Heap}, Top K mg → Df P w K mg base "_law_rules" (topS 78) 3 ["_law_hopper_here", "_law_tags_here", "_law_most"] (spM K m) } :=
  ⟨_, fun {P w K mg base} T => df_M T.f__law_rules sc__law_rules (ic (ic (ia i0))) (fun cdv A outer s H f hgd hr => (vs_cons (vs_retM (mo_bty call_tuple_of o_tupL (ma_cons (mo_keep (mf_lc_ (cs (cs (cs cz))) rfl rfl sc__law_rules.nd (mi_range1 (md_draw (d__law_spill T) hgd (rm hr) (pe_var (i := 0) rfl (by first | exact Or.inl rfl | exact Or.inr (Or.inl rfl) | exact Or.inr (Or.inr rfl)) (by decide) (by decide)) (va_up (va_cons (vo_op op_add o_iAdd re_mono (ve_var (gs (gs gz))) ve_int) va_nil))) T.b_range) (by rfl) (fun _ _ _ _ _ => pg_name (i := 3) sc__law_rules.nd rfl (by first | exact Or.inl rfl | exact Or.inr rfl)) (fun _ _ _ _ _ => (vts_up vts_nil)) (fun _ _ _ _ _ => (me_pair (ma_cons (md_draw (d__law_bag T) hgd (rm hr) (pe_var (i := 0) rfl (by first | exact Or.inl rfl | exact Or.inr (Or.inl rfl) | exact Or.inr (Or.inr rfl)) (by decide) (by decide)) (va_up (va_cons (ve_var (gs gz)) va_nil))) (ma_cons (md_draw (d__law_bag T) hgd (rm hr) (pe_var (i := 0) rfl (by first | exact Or.inl rfl | exact Or.inr (Or.inl rfl) | exact Or.inr (Or.inr rfl)) (by decide) (by decide)) (va_up (va_cons (ve_var (gs gz)) va_nil))) (va_up va_nil))))))) (va_up va_nil)) T.b_tuple)) (vs_nil (wid (Γ := Unit)))))⟩
def m__law_rules := P__law_rules.1
theorem d__law_rules {P : Program} {w : World} {K : PySem.W.Frag} {mg : Str → Option Value} {base : Heap} (T : Top K mg) : Df P w K mg base "_law_rules" (topS 78) 3 ["_law_hopper_here", "_law_tags_here", "_law_most"] (spM K m__law_rules) := P__law_rules.2 T
theorem sc__law_joined : FnScope ["_law_tags_here", "_law_ties", "_law_bag_here", "_law_spots", "_law_tag", "_law_one", "_law_last", "_law_here", "_law_there", "_law_spot"] ["_law_tags_here", "_law_ties", "_law_bag_here"] (defScope (topS 79)) := ⟨rfl, rfl, rfl, by decide +kernel, rfl, by decide +kernel, by decide +kernel⟩
def P__law_joined : { m : (Str×(Dct (T2 Int Int))×Str×Unit) → Option Str // ∀ {P : Program} {w : World} {K : PySem.W.Frag} {mg : Str → Option Value} {base : Heap}, Top K mg → Df P w K mg base "_law_joined" (topS 79) 1 ["_law_tags_here", "_law_ties", "_law_bag_here"] (spF K m) } :=
  ⟨_, fun {P w K mg base} T => df_F T.f__law_joined sc__law_joined (ic (ic (ic (ia (ia (ia (ia (ia (ia (ia i0)))))))))) (fun cdv A outer s H f hgd hr => (vs_cons (vs_newF_ (pds (pds (pds pdz))) rfl sc__law_joined.nd vo_disp4) (vs_cons (vs_forn wid (ps (ps (ps (ps pz)))) rfl PassesOwn.never rfl (vi_str (ve_var (gs (gs gz)))) (pg_name (i := 4) sc__law_joined.nd rfl (by first | exact Or.inl rfl | exact Or.inr rfl)) (vs_cons (vs_unp (ps (ps (ps (ps (ps pz))))) (ps (ps (ps (ps (ps (ps pz)))))) rfl rfl sc__law_joined.nd (ve_dget (un1 hr) (ve_var (gs gz)) (ve_var (gs (gs (gs (gs gz))))) (by intro _ _; rfl))) (vs_cons (vs_unp (ps (ps (ps (ps (ps (ps (ps pz))))))) (ps (ps (ps (ps (ps (ps (ps (ps pz)))))))) rfl rfl sc__law_joined.nd (ve_pair (va_cons (ve_dgetO (ds (ds (ds dz))) rfl (un1 hr) (ve_var (gs (gs (gs (gs (gs gz)))))) (by intro _ _; rfl)) (va_cons (ve_dgetO (ds (ds (ds dz))) rfl (un1 hr) (ve_var (gs (gs (gs (gs (gs (gs gz))))))) (by intro _ _; rfl)) va_nil)))) (vs_cons (vs_newF_ (pds (pds (pds pdz))) rfl sc__law_joined.nd (vo_bty (call_dictP rfl) o_dictP (va_cons (VF.up (vf_lockD (fds (fds (fds fdz))) rfl (vf_lc_ (ps (ps (ps (ps (ps (ps (ps (ps (ps pz))))))))) rfl rfl sc__law_joined.nd (vi_lkeys Int (ve_var (gs (gs (gs gz))))) (by rfl) (fun _ _ _ _ _ => pg_name (i := 9) sc__law_joined.nd rfl (by first | exact Or.inl rfl | exact Or.inr rfl)) (fun _ _ _ _ _ => vts_nil) (fun _ _ _ _ _ => (ve_pair (va_cons (ve_var (gs (gs (gs (gs (gs (gs (gs (gs (gs gz)))))))))) (va_cons (vo_if (vt_cmp op_eq o_sEq re_mono (ve_lget (un1 hr) (ve_var (gs (gs (gs gz)))) (ve_var (gs (gs (gs (gs (gs (gs (gs (gs (gs gz)))))))))) (by intro _ _; rfl)) (ve_var (gs (gs (gs (gs (gs (gs (gs (gs gz))))))))) rfl) (ve_var (gs (gs (gs (gs (gs (gs (gs gz)))))))) (ve_lget (un1 hr) (ve_var (gs (gs (gs gz)))) (ve_var (gs (gs (gs (gs (gs (gs (gs (gs (gs gz)))))))))) (by intro _ _; rfl))) va_nil))))))) va_nil) T.b_dict)) (vs_nil (wk (wk (wk (wk (wa (wa (wa (wa (wa (wk wn))))))))))))))) (vs_cons (vs_ret (ve_join ve_str (VF.up (vf_lc_ (ps (ps (ps (ps pz)))) rfl rfl sc__law_joined.nd (vi_str (ve_var gz)) (by rfl) (fun _ _ _ _ _ => pg_name (i := 4) sc__law_joined.nd rfl (by first | exact Or.inl rfl | exact Or.inr rfl)) (fun _ _ _ _ _ => (vts_one (vt_cmp op_eq o_sEq re_mono (ve_dgetO (ds (ds (ds dz))) rfl (un1 hr) (vo_ix ix_tup o_ix0 re_mono (ve_dget (un1 hr) (ve_var (gs gz)) (ve_var (gs (gs (gs (gs gz))))) (by intro _ _; rfl)) ve_int) (by intro _ _; rfl)) (ve_dgetO (ds (ds (ds dz))) rfl (un1 hr) (vo_ix ix_tup o_ix1 re_mono (ve_dget (un1 hr) (ve_var (gs gz)) (ve_var (gs (gs (gs (gs gz))))) (by intro _ _; rfl)) ve_int) (by intro _ _; rfl)) rfl))) (fun _ _ _ _ _ => (ve_var (gs (gs (gs (gs gz)))))))))) (vs_nil (wid (Γ := Unit)))))))⟩
def m__law_joined := P__law_joined.1
theorem d__law_joined {P : Program} {w : World} {K : PySem.W.Frag} {mg : Str → Option Value} {base : Heap} (T : Top K mg) : Df P w K mg base "_law_joined" (topS 79) 1 ["_law_tags_here", "_law_ties", "_law_bag_here"] (spF K m__law_joined) := P__law_joined.2 T
theorem sc__law_world : FnScope ["_law_hopper_here", "_law_tags_here", "_law_way", "_law_ties", "_law_heads", "_law_k", "_law_tails", "_law_row", "_law_left", "_law_tag", "_law_head", "_law_bag_here"] ["_law_hopper_here", "_law_tags_here"] (defScope (topS 80)) := ⟨rfl, rfl, rfl, by decide +kernel, rfl, by decide +kernel, by decide +kernel⟩
def P__law_world : { m : List Int → Str×Unit → Option ((Tup Str) × List Int) // ∀ {P : Program} {w : World} {K : PySem.W.Frag} {mg : Str → Option Value} {base : Heap}, Top K mg → Df P w K mg base "_law_world" (topS 80) 4 ["_law_hopper_here", "_law_tags_here"] (spM K m) } :=
  ⟨_, fun {P w K mg base} T => df_M T.f__law_world sc__law_world (ic (ia (ia (ia (ia (ia (ia (ia (ia (ia (ia i0))))))))))) (fun cdv A outer s H f hgd hr => (vs_cons (vs_setM_ (ps (ps pz)) rfl sc__law_world.nd (md_draw (d__law_spill T) hgd (rm hr) (pe_var (i := 0) rfl (by first | exact Or.inl rfl | exact Or.inr (Or.inl rfl) | exact Or.inr (Or.inr rfl)) (by decide) (by decide)) (va_up (va_cons ve_int va_nil)))) (vs_cons (vs_if (vt_cmp op_eq o_sEq re_mono (ve_var (gs (gs gz))) ve_int rfl) (vs_cons (vs_retM (md_call (d__law_met T) hgd (rm hr) (ma_cons (vo_up (ve_var (gs gz))) (ma_cons (mo_keep (mf_lc_ (cs (cs (cs (cs (cs cz))))) rfl rfl sc__law_world.nd (mi_range1 (md_draw (d__law_spill T) hgd (rm hr) (pe_var (i := 0) rfl (by first | exact Or.inl rfl | exact Or.inr (Or.inl rfl) | exact Or.inr (Or.inr rfl)) (by decide) (by decide)) (va_up (va_cons ve_int va_nil))) T.b_range) (by rfl) (fun _ _ _ _ _ => pg_name (i := 5) sc__law_world.nd rfl (by first | exact Or.inl rfl | exact Or.inr rfl)) (fun _ _ _ _ _ => (vts_up vts_nil)) (fun _ _ _ _ _ => (md_draw (d__law_bag T) hgd (rm hr) (pe_var (i := 0) rfl (by first | exact Or.inl rfl | exact Or.inr (Or.inl rfl) | exact Or.inr (Or.inr rfl)) (by decide) (by decide)) (va_up (va_cons (ve_var (gs gz)) va_nil)))))) (va_up va_nil))))) (vs_nil wid)) (vs_nil wid)) (vs_cons (vs_if (vt_cmp op_eq o_sEq re_mono (ve_var (gs (gs gz))) ve_int rfl) (vs_cons (vs_retM (md_call (d__law_keeping T) hgd (rm hr) (ma_cons (vo_up (ve_var (gs gz))) (ma_cons (md_draw (d__law_rules T) hgd (rm hr) (pe_var (i := 0) rfl (by first | exact Or.inl rfl | exact Or.inr (Or.inl rfl) | exact Or.inr (Or.inr rfl)) (by decide) (by decide)) (va_up (va_cons (ve_var (gs gz)) (va_cons ve_int va_nil)))) (va_up va_nil))))) (vs_nil wid)) (vs_nil wid)) (vs_cons (vs_if (vt_cmp op_eq o_sEq re_mono (ve_var (gs (gs gz))) ve_int rfl) (vs_cons (vs_setLcM (ps (ps (ps (ps pz)))) (cs (cs (cs (cs (cs cz))))) rfl rfl sc__law_world.nd (mi_range1 (md_draw (d__law_spill T) hgd (rm hr) (pe_var (i := 0) rfl (by first | exact Or.inl rfl | exact Or.inr (Or.inl rfl) | exact Or.inr (Or.inr rfl)) (by decide) (by decide)) (va_up (va_cons ve_int va_nil))) T.b_range) (by rfl) (fun _ _ _ _ _ => pg_name (i := 5) sc__law_world.nd rfl (by first | exact Or.inl rfl | exact Or.inr rfl)) (fun _ _ _ _ _ => (vts_up vts_nil)) (fun _ _ _ _ _ => (md_draw (d__law_out_of T) hgd (rm hr) (pe_var (i := 0) rfl (by first | exact Or.inl rfl | exact Or.inr (Or.inl rfl) | exact Or.inr (Or.inr rfl)) (by decide) (by decide)) (va_up (va_cons (ve_var (gs gz)) va_nil))))) (vs_cons (vs_retM (md_call (d__law_keepingL T) hgd (rm hr) (ma_cons (vo_up (ve_var (gs gz))) (ma_cons (mo_keep (mf_lc_ (cs (cs (cs (cs (cs (cs (cs (cs (cs (cs cz)))))))))) rfl rfl sc__law_world.nd (vi_up (vi_list (ve_var (gs (gs (gs (gs gz))))))) (by rfl) (fun _ _ _ _ _ => pg_name (i := 10) sc__law_world.nd rfl (by first | exact Or.inl rfl | exact Or.inr rfl)) (fun _ _ _ _ _ => (vts_up vts_nil)) (fun _ _ _ _ _ => (me_pair (ma_cons (vo_up (ve_var (gs (gs (gs (gs (gs (gs (gs (gs (gs (gs gz)))))))))))) (ma_cons (md_draw (d__law_bag T) hgd (rm hr) (pe_var (i := 0) rfl (by first | exact Or.inl rfl | exact Or.inr (Or.inl rfl) | exact Or.inr (Or.inr rfl)) (by decide) (by decide)) (va_up (va_cons (ve_var (gs gz)) va_nil))) (va_up va_nil))))))) (va_up va_nil))))) (vs_nil wid))) (vs_nil wid)) (vs_cons (vs_if (vt_cmp op_eq o_sEq re_mono (ve_var (gs (gs gz))) ve_int rfl) (vs_cons (vs_unpO (pos' (pos' (pos' (pos' (pos' (pos' poz)))))) (ps (ps (ps (ps (ps (ps (ps pz))))))) rfl rfl sc__law_world.nd (vf_lst (vls_cons ve_str vls_nil)) ve_str) (vs_cons (vs_forn wid (ps (ps (ps (ps (ps pz))))) rfl PassesOwn.never rfl (vi_range1 (vo_op op_mul o_iMul re_mono ve_int (vo_blt call_len o_lenS (va_cons (ve_var (gs gz)) va_nil) T.b_len)) T.b_range) (pg_name (i := 5) sc__law_world.nd rfl (by first | exact Or.inl rfl | exact Or.inr rfl)) (vs_cons (vs_setLc (ps (ps (ps (ps (ps (ps (ps (ps pz)))))))) (ps (ps (ps (ps (ps (ps (ps (ps (ps pz))))))))) rfl rfl sc__law_world.nd (vi_str (ve_var (gs gz))) (by rfl) (fun _ _ _ _ _ => pg_name (i := 9) sc__law_world.nd rfl (by first | exact Or.inl rfl | exact Or.inr rfl)) (fun _ _ _ _ _ => (vts_one (vt_cmp op_notIn_sign o_sNotIn re_mono (ve_var (gs (gs (gs (gs (gs (gs (gs (gs (gs gz)))))))))) (ve_var (gs (gs (gs (gs (gs (gs (gs gz)))))))) rfl))) (fun _ _ _ _ _ => (ve_var (gs (gs (gs (gs (gs (gs (gs (gs (gs gz)))))))))))) (vs_cons (vs_setM_ (ps (ps (ps (ps (ps (ps (ps pz))))))) rfl sc__law_world.nd (mo_if (vt_up (vt_cmp (op_neP (un60 hr)) o_dNe re_mono (ve_var (gs (gs (gs (gs (gs (gs (gs (gs gz))))))))) (VF.up (vf_lst (vls_nil (α := Str)))) rfl)) (mo_op op_add_str o_sAdd re_mmono (md_draw (d__law_out_ofL T) hgd (rm hr) (pe_var (i := 0) rfl (by first | exact Or.inl rfl | exact Or.inr (Or.inl rfl) | exact Or.inr (Or.inr rfl)) (by decide) (by decide)) (va_up (va_cons (ve_var (gs (gs (gs (gs (gs (gs (gs (gs gz))))))))) va_nil))) (vo_up (ve_var (gs (gs (gs (gs (gs (gs (gs gz)))))))))) (md_draw (d__law_out_of T) hgd (rm hr) (pe_var (i := 0) rfl (by first | exact Or.inl rfl | exact Or.inr (Or.inl rfl) | exact Or.inr (Or.inr rfl)) (by decide) (by decide)) (va_up (va_cons (ve_var (gs gz)) va_nil))))) (vs_cons (vs_app_ (os (os (os (os (os (os oz)))))) rfl (vo_up (ve_join ve_str (VF.up (vo_blt (cr_srtS rfl (un64 hr)) o_srtS (va_cons (ve_var (gs (gs (gs (gs (gs (gs (gs gz)))))))) va_nil) T.b_sorted)))) (hpe := fun t h => pe_bm PySem.F.plainAttrs_list PySem.F.slot_list_append PySem.F.type_list_append mt_append (pe_var (i := 6) rfl (by first | exact Or.inl rfl | exact Or.inr (Or.inl rfl) | exact Or.inr (Or.inr rfl)) (by decide) (by decide)) h)) (vs_nil (wk (wk (wk (wk (wk (wa (wk (wk (wa (wk (wk (wk wn))))))))))))))))) (vss_frz (fs (fs (fs (fs (fs (fs fz)))))) rfl (vs_cons (vs_ret (vd_call (d__law_met T) hgd (rm hr) (va_cons (ve_var (gs gz)) (va_cons (ve_var (gs (gs (gs (gs (gs (gs gz))))))) va_nil)))) (vs_nil wid))))) (vs_nil wid)) (vs_cons (vs_setM_ (ps (ps (ps pz))) rfl sc__law_world.nd (mo_upd (mo_bty (call_dictP rfl) o_dictP (ma_cons (mo_keep (mf_lc_ (cs (cs (cs (cs (cs (cs (cs (cs (cs cz))))))))) rfl rfl sc__law_world.nd (vi_up (vi_str (ve_var (gs gz)))) (by rfl) (fun _ _ _ _ _ => pg_name (i := 9) sc__law_world.nd rfl (by first | exact Or.inl rfl | exact Or.inr rfl)) (fun _ _ _ _ _ => (vts_up vts_nil)) (fun _ _ _ _ _ => (me_pair (ma_cons (vo_up (ve_var (gs (gs (gs (gs (gs (gs (gs (gs (gs gz))))))))))) (ma_cons (me_pair (ma_cons (md_draw (d__law_spill T) hgd (rm hr) (pe_var (i := 0) rfl (by first | exact Or.inl rfl | exact Or.inr (Or.inl rfl) | exact Or.inr (Or.inr rfl)) (by decide) (by decide)) (va_up (va_cons ve_int va_nil))) (ma_cons (md_draw (d__law_spill T) hgd (rm hr) (pe_var (i := 0) rfl (by first | exact Or.inl rfl | exact Or.inr (Or.inl rfl) | exact Or.inr (Or.inr rfl)) (by decide) (by decide)) (va_up (va_cons ve_int va_nil))) (va_up va_nil)))) (va_up va_nil))))))) (va_up va_nil)) T.b_dict))) (vs_cons (vs_ret (vo_bty call_tuple_of o_tupL (va_cons (VF.up (vf_ssL rfl (un64 hr) T.b_sorted T.b_set (VE.l (VF.up (vf_lc_ (ps (ps (ps (ps (ps (ps (ps (ps (ps (ps (ps pz))))))))))) rfl rfl sc__law_world.nd (vi_list (vd_call (d__law_bags T) hgd (rm hr) (va_cons (ve_var (gs gz)) va_nil))) (by rfl) (fun _ _ _ _ _ => pg_name (i := 11) sc__law_world.nd rfl (by first | exact Or.inl rfl | exact Or.inr rfl)) (fun _ _ _ _ _ => vts_nil) (fun _ _ _ _ _ => (vd_call (d__law_joined T) hgd (rm hr) (va_cons (ve_var (gs gz)) (va_cons (ve_var (gs (gs (gs gz)))) (va_cons (ve_var (gs (gs (gs (gs (gs (gs (gs (gs (gs (gs (gs gz)))))))))))) va_nil)))))))))) va_nil) T.b_tuple)) (vs_nil (wid (Γ := Unit)))))))))))⟩
def m__law_world := P__law_world.1
theorem d__law_world {P : Program} {w : World} {K : PySem.W.Frag} {mg : Str → Option Value} {base : Heap} (T : Top K mg) : Df P w K mg base "_law_world" (topS 80) 4 ["_law_hopper_here", "_law_tags_here"] (spM K m__law_world) := P__law_world.2 T
theorem sc__law_looked : FnScope ["_law_book", "_law_bag_here", "_law_found", "_law_first", "_law_then"] ["_law_book", "_law_bag_here"] (defScope (topS 81)) := ⟨rfl, rfl, rfl, by decide +kernel, rfl, by decide +kernel, by decide +kernel⟩
def P__law_looked : { m : ((Tup (T2 Str Str))×Str×Unit) → Option Str // ∀ {P : Program} {w : World} {K : PySem.W.Frag} {mg : Str → Option Value} {base : Heap}, Top K mg → Df P w K mg base "_law_looked" (topS 81) 2 ["_law_book", "_law_bag_here"] (spF K m) } :=
  ⟨_, fun {P w K mg base} T => df_F T.f__law_looked sc__law_looked (ic (ic (ia (ia (ia i0))))) (fun cdv A outer s H f hgd hr => (vs_cons (vs_set_ (ps (ps pz)) rfl sc__law_looked.nd (ve_var (gs gz))) (vs_cons (vs_forp wid (ps (ps (ps pz))) (ps (ps (ps (ps pz)))) rfl PassesOwn.never rfl (vi_tup (ve_var gz)) (pg_tup rfl (pgs_cons (pg_name (i := 3) sc__law_looked.nd rfl (by first | exact Or.inl rfl | exact Or.inr rfl)) (pgs_cons (pg_name (i := 4) sc__law_looked.nd rfl (by first | exact Or.inl rfl | exact Or.inr rfl)) pgs_nil))) (vs_cons (vs_if (vt_val (vd_call (d__law_in T) hgd (rm hr) (va_cons (ve_var (gs (gs (gs gz)))) (va_cons (ve_var (gs gz)) va_nil)))) (vs_cons (vs_set_ (ps (ps pz)) rfl sc__law_looked.nd (vd_call (d__law_any T) hgd (rm hr) (va_cons (ve_var (gs (gs gz))) (va_cons (ve_var (gs (gs (gs (gs gz))))) va_nil)))) (vs_nil wid)) (vs_nil wid)) (vs_nil (wk (wk (wk (wa (wa wn)))))))) (vs_cons (vs_ret (ve_var (gs (gs gz)))) (vs_nil (wid (Γ := Unit)))))))⟩
def m__law_looked := P__law_looked.1
theorem d__law_looked {P : Program} {w : World} {K : PySem.W.Frag} {mg : Str → Option Value} {base : Heap} (T : Top K mg) : Df P w K mg base "_law_looked" (topS 81) 2 ["_law_book", "_law_bag_here"] (spF K m__law_looked) := P__law_looked.2 T
theorem sc__law_leaner : FnScope ["_law_tags_here", "_law_book", "_law_turn", "_law_idle"] ["_law_tags_here", "_law_book"] (defScope (topS 82)) := ⟨rfl, rfl, rfl, by decide +kernel, rfl, by decide +kernel, by decide +kernel⟩
def P__law_leaner : { m : (Str×(Tup (T2 Str Str))×Unit) → Option (Tup (T2 Str Str)) // ∀ {P : Program} {w : World} {K : PySem.W.Frag} {mg : Str → Option Value} {base : Heap}, Top K mg → Df P w K mg base "_law_leaner" (topS 82) 8 ["_law_tags_here", "_law_book"] (spF K m) } :=
  ⟨_, fun {P w K mg base} T => df_F T.f__law_leaner sc__law_leaner (ic (ic (ia (ia i0)))) (fun cdv A outer s H f hgd hr => (vs_cons (vs_forn wid (ps (ps pz)) rfl PassesOwn.never rfl (vi_range1 ve_int T.b_range) (pg_name (i := 2) sc__law_leaner.nd rfl (by first | exact Or.inl rfl | exact Or.inr rfl)) (vs_cons (vs_set_ (ps (ps (ps pz))) rfl sc__law_leaner.nd (vd_call (d_needless T) hgd (rm hr) (va_cons (ve_var gz) (va_cons (ve_var (gs gz)) va_nil)))) (vs_cons (vs_if (vt_cmp (op_neP (un60 hr)) o_dNe re_mono (ve_var (gs (gs (gs gz)))) (ve_tupL (vls_nil (α := Int))) rfl) (vs_cons (vs_set_ (ps pz) rfl sc__law_leaner.nd (vo_op op_catA o_catA re_mono (ve_cutTo (ve_var (gs gz)) (vo_ix ix_tup o_tIx re_mono (ve_var (gs (gs (gs gz)))) ve_neg)) (ve_cutFrom (ve_var (gs gz)) (vo_op op_add o_iAdd re_mono (vo_ix ix_tup o_tIx re_mono (ve_var (gs (gs (gs gz)))) ve_neg) ve_int)))) (vs_nil wid)) (vs_nil wid)) (vs_nil (wk (wk (wa (wa wn)))))))) (vs_cons (vs_ret (ve_var (gs gz))) (vs_nil (wid (Γ := Unit))))))⟩
def m__law_leaner := P__law_leaner.1
theorem d__law_leaner {P : Program} {w : World} {K : PySem.W.Frag} {mg : Str → Option Value} {base : Heap} (T : Top K mg) : Df P w K mg base "_law_leaner" (topS 82) 8 ["_law_tags_here", "_law_book"] (spF K m__law_leaner) := P__law_leaner.2 T
theorem sc__law_used : FnScope ["_law_book", "_law_bag_here", "_law_path", "_law_index"] ["_law_book", "_law_bag_here", "_law_path"] (defScope (topS 83)) := ⟨rfl, rfl, rfl, by decide +kernel, rfl, by decide +kernel, by decide +kernel⟩
def P__law_used : { m : ((Tup (T2 Str Str))×Str×(Tup Int)×Unit) → Option (Option Str) // ∀ {P : Program} {w : World} {K : PySem.W.Frag} {mg : Str → Option Value} {base : Heap}, Top K mg → Df P w K mg base "_law_used" (topS 83) 2 ["_law_book", "_law_bag_here", "_law_path"] (spF K m) } :=
  ⟨_, fun {P w K mg base} T => df_F T.f__law_used sc__law_used (ic (ic (ic (ia i0)))) (fun cdv A outer s H f hgd hr => (vs_cons (vs_forn wid (ps (ps (ps pz))) rfl PassesOwn.never rfl (vi_tup (ve_var (gs (gs gz)))) (pg_name (i := 3) sc__law_used.nd rfl (by first | exact Or.inl rfl | exact Or.inr rfl)) (vs_cons (vs_if (vt_not (vt_val (vd_call (d__law_in T) hgd (rm hr) (va_cons (vo_ix ix_tup o_ix0 re_mono (vo_ix ix_tup o_tIx re_mono (ve_var gz) (ve_var (gs (gs (gs gz))))) ve_int) (va_cons (ve_var (gs gz)) va_nil))))) (vs_cons (vs_ret (ve_nonO (α := Str))) (vs_nil wid)) (vs_nil wid)) (vs_cons (vs_set_ (ps pz) rfl sc__law_used.nd (vd_call (d__law_any T) hgd (rm hr) (va_cons (ve_var (gs gz)) (va_cons (vo_ix ix_tup o_ix1 re_mono (vo_ix ix_tup o_tIx re_mono (ve_var gz) (ve_var (gs (gs (gs gz))))) ve_int) va_nil)))) (vs_nil (wk (wk (wk (wa wn)))))))) (vs_cons (vs_ret (VE.some (ve_var (gs gz)))) (vs_nil (wid (Γ := Unit))))))⟩
def m__law_used := P__law_used.1
theorem d__law_used {P : Program} {w : World} {K : PySem.W.Frag} {mg : Str → Option Value} {base : Heap} (T : Top K mg) : Df P w K mg base "_law_used" (topS 83) 2 ["_law_book", "_law_bag_here", "_law_path"] (spF K m__law_used) := P__law_used.2 T
theorem sc__law_right : FnScope ["_law_hopper_here", "_law_tags_here", "_law_shut", "_law_plain", "_law_lean", "_law_books_here", "_law_bag_here", "_law_rule", "_law_one", "_law_own", "_law_aim", "_law_first", "_law_then", "_law_due", "_law_k", "_law_book"] ["_law_hopper_here"] (defScope (topS 84)) := ⟨rfl, rfl, rfl, by decide +kernel, rfl, by decide +kernel, by decide +kernel⟩
def P__law_right : { m : List Int → Unit → Option (Bool × List Int) // ∀ {P : Program} {w : World} {K : PySem.W.Frag} {mg : Str → Option Value} {base : Heap}, Top K mg → Df P w K mg base "_law_right" (topS 84) 11 ["_law_hopper_here"] (spM K m) } :=
  ⟨_, fun {P w K mg base} T => df_M T.f__law_right sc__law_right (ia (ia (ia (ia (ia (ia (ia (ia (ia (ia (ia (ia (ia (ia (ia i0))))))))))))))) (fun cdv A outer s H f hgd hr => (vs_cons (vs_setM_ (ps pz) rfl sc__law_right.nd (md_draw (d__law_tags T) hgd (rm hr) (pe_var (i := 0) rfl (by first | exact Or.inl rfl | exact Or.inr (Or.inl rfl) | exact Or.inr (Or.inr rfl)) (by decide) (by decide)) (va_up (va_cons ve_int va_nil)))) (vs_cons (vs_setM_ (ps (ps pz)) rfl sc__law_right.nd (md_draw (d__law_world T) hgd (rm hr) (pe_var (i := 0) rfl (by first | exact Or.inl rfl | exact Or.inr (Or.inl rfl) | exact Or.inr (Or.inr rfl)) (by decide) (by decide)) (va_up (va_cons (ve_var (gs gz)) va_nil)))) (vs_cons (vs_unpM (ps (ps (ps (ps (ps (ps (ps (ps pz)))))))) (ps (ps (ps (ps (ps (ps (ps (ps (ps pz))))))))) rfl rfl sc__law_right.nd (me_pair (ma_cons (vo_up (vd_make (d_Closer___init__ T) hgd (rm hr) (va_cons (ve_var (gs gz)) (va_cons (ve_var (gs (gs gz))) va_nil)))) (ma_cons (md_draw (d__law_rules T) hgd (rm hr) (pe_var (i := 0) rfl (by first | exact Or.inl rfl | exact Or.inr (Or.inl rfl) | exact Or.inr (Or.inr rfl)) (by decide) (by decide)) (va_up (va_cons (ve_var (gs gz)) (va_cons ve_int va_nil)))) (va_up va_nil))))) (vs_cons (vs_set_ (ps (ps (ps pz))) rfl sc__law_right.nd (vd_call (d_plain_book T) hgd (rm hr) (va_cons (ve_var (gs (gs (gs (gs (gs (gs (gs (gs gz))))))))) va_nil))) (vs_cons (vs_set_ (ps (ps (ps (ps pz)))) rfl sc__law_right.nd (vd_call (d__law_leaner T) hgd (rm hr) (va_cons (ve_var (gs gz)) (va_cons (ve_var (gs (gs (gs gz)))) va_nil)))) (vs_cons (vs_set_ (ps (ps (ps (ps (ps pz))))) rfl sc__law_right.nd (VF.up (vf_lst (vls_cons (ve_var (gs (gs (gs gz)))) (vls_cons (vd_call (d_stem T) hgd (rm hr) (va_cons (ve_var (gs (gs (gs (gs (gs (gs (gs (gs gz))))))))) va_nil)) (vls_cons (ve_var (gs (gs (gs (gs gz))))) vls_nil)))))) (vs_cons (vs_if (vw_t (vw_or (vt_not (vt_val (vo_blt (cr_all rfl) o_allB (va_cons (VF.up (vf_lc_ (ps (ps (ps (ps (ps (ps (ps (ps (ps (ps (ps (ps (ps (ps (ps pz))))))))))))))) rfl rfl sc__law_right.nd (vi_list (ve_var (gs (gs (gs (gs (gs gz))))))) (by rfl) (fun _ _ _ _ _ => pg_name (i := 15) sc__law_right.nd rfl (by first | exact Or.inl rfl | exact Or.inr rfl)) (fun _ _ _ _ _ => vts_nil) (fun _ _ _ _ _ => (vd_call (d_is_of T) hgd (rm hr) (va_cons (ve_var (gs (gs (gs (gs (gs (gs (gs (gs gz))))))))) (va_cons (ve_var (gs (gs (gs (gs (gs (gs (gs (gs (gs (gs (gs (gs (gs (gs (gs gz)))))))))))))))) va_nil)))))) va_nil) T.b_all))) (vw_or1 (vt_cmp (op_neP (un60 hr)) o_dNe re_mono (vd_call (d_needless T) hgd (rm hr) (va_cons (ve_var (gs gz)) (va_cons (ve_var (gs (gs (gs (gs gz))))) va_nil))) (ve_tupL (vls_nil (α := Int))) rfl)))) (vs_cons (vs_ret ve_bl) (vs_nil wid)) (vs_nil wid)) (vs_cons (vs_if (vw_t (vw_or (vt_cmp op_gt o_iGt re_mono (vo_blt call_len o_lenT (va_cons (vd_call (d_stem T) hgd (rm hr) (va_cons (ve_var (gs (gs (gs (gs (gs (gs (gs (gs gz))))))))) va_nil)) va_nil) T.b_len) (vo_blt (cr_minI (un64 hr) rfl) o_minI (va_cons (VF.up (vf_lc_ (ps (ps (ps (ps (ps (ps (ps (ps (ps (ps (ps (ps (ps (ps (ps pz))))))))))))))) rfl rfl sc__law_right.nd (vi_list (ve_var (gs (gs (gs (gs (gs gz))))))) (by rfl) (fun _ _ _ _ _ => pg_name (i := 15) sc__law_right.nd rfl (by first | exact Or.inl rfl | exact Or.inr rfl)) (fun _ _ _ _ _ => vts_nil) (fun _ _ _ _ _ => (vo_blt call_len o_lenT (va_cons (ve_var (gs (gs (gs (gs (gs (gs (gs (gs (gs (gs (gs (gs (gs (gs (gs gz)))))))))))))))) va_nil) T.b_len)))) va_nil) T.b_min) rfl) (vw_or1 (vt_cmp op_gt o_iGt re_mono (vo_blt call_len o_lenT (va_cons (vd_call (d_stem T) hgd (rm hr) (va_cons (vd_call (d_by_rules T) hgd (rm hr) (va_cons (ve_var (gs gz)) (va_cons (ve_var (gs (gs (gs (gs (gs (gs (gs (gs (gs gz)))))))))) va_nil))) va_nil)) va_nil) T.b_len) (vo_blt call_len o_lenT (va_cons (ve_var (gs (gs (gs (gs (gs (gs (gs (gs (gs gz)))))))))) va_nil) T.b_len) rfl)))) (vs_cons (vs_ret ve_bl) (vs_nil wid)) (vs_nil wid)) (vs_cons (vs_forn wid (ps (ps (ps (ps (ps (ps pz)))))) rfl PassesOwn.never rfl (vi_list (vd_call (d__law_bags T) hgd (rm hr) (va_cons (ve_var (gs gz)) va_nil))) (pg_name (i := 6) sc__law_right.nd rfl (by first | exact Or.inl rfl | exact Or.inr rfl)) (vs_cons (vs_set_ (ps (ps (ps (ps (ps (ps (ps (ps (ps (ps pz)))))))))) rfl sc__law_right.nd (vd_call (d__law_about T) hgd (rm hr) (va_cons (ve_var (gs (gs gz))) (va_cons (ve_var (gs gz)) (va_cons (ve_var (gs (gs (gs (gs (gs (gs gz))))))) va_nil))))) (vs_cons (vs_if (vt_cmp op_ne o_sNe re_mono (vd_call (d__law_looked T) hgd (rm hr) (va_cons (ve_var (gs (gs (gs gz)))) (va_cons (ve_var (gs (gs (gs (gs (gs (gs gz))))))) va_nil))) (ve_var (gs (gs (gs (gs (gs (gs (gs (gs (gs (gs gz))))))))))) rfl) (vs_cons (vs_ret ve_bl) (vs_nil wid)) (vs_nil wid)) (vs_cons (vs_if (vt_cmp (op_neP (un60 hr)) o_dNe re_mono (VF.up (vf_lc_ (ps (ps (ps (ps (ps (ps (ps (ps (ps (ps (ps (ps (ps (ps (ps pz))))))))))))))) rfl rfl sc__law_right.nd (vi_list (ve_var (gs (gs (gs (gs (gs gz))))))) (by rfl) (fun _ _ _ _ _ => pg_name (i := 15) sc__law_right.nd rfl (by first | exact Or.inl rfl | exact Or.inr rfl)) (fun _ _ _ _ _ => vts_nil) (fun _ _ _ _ _ => (vd_call (d_around_by T) hgd (rm hr) (va_cons (ve_var (gs gz)) (va_cons (ve_var (gs (gs (gs (gs (gs (gs (gs (gs (gs (gs (gs (gs (gs (gs (gs gz)))))))))))))))) (va_cons (ve_var (gs (gs (gs (gs (gs (gs gz))))))) va_nil))))))) (VF.up (vo_op op_rep o_lRep rl_mono (VE.l (VF.up (vf_lst (vls_cons (ve_var (gs (gs (gs (gs (gs (gs (gs (gs (gs (gs gz))))))))))) vls_nil)))) ve_int)) rfl) (vs_cons (vs_ret ve_bl) (vs_nil wid)) (vs_nil wid)) (vs_cons (vs_if (vt_cmp op_ne o_sNe re_mono (VE.unw (vd_call (d__law_used T) hgd (rm hr) (va_cons (vd_call (d_stem T) hgd (rm hr) (va_cons (ve_var (gs (gs (gs (gs (gs (gs (gs (gs gz))))))))) va_nil)) (va_cons (ve_var (gs (gs (gs (gs (gs (gs gz))))))) (va_cons (vd_call (d_steps T) hgd (rm hr) (va_cons (ve_var (gs gz)) (va_cons (vd_call (d_stem T) hgd (rm hr) (va_cons (ve_var (gs (gs (gs (gs (gs (gs (gs (gs gz))))))))) va_nil)) (va_cons (ve_var (gs (gs (gs (gs (gs (gs gz))))))) va_nil)))) va_nil))))) (ve_var (gs (gs (gs (gs (gs (gs (gs (gs (gs (gs gz))))))))))) rfl) (vs_cons (vs_ret ve_bl) (vs_nil wid)) (vs_nil wid)) (vs_nil (wk (wk (wk (wk (wk (wk (wa (wk (wk (wk (wa (wk (wk (wk (wk (wk wn)))))))))))))))))))))) (vs_cons (vs_forp wid (ps (ps (ps (ps (ps (ps (ps (ps (ps (ps (ps pz))))))))))) (ps (ps (ps (ps (ps (ps (ps (ps (ps (ps (ps (ps pz)))))))))))) rfl PassesOwn.never rfl (vi_tup (ve_var (gs (gs (gs gz))))) (pg_tup rfl (pgs_cons (pg_name (i := 11) sc__law_right.nd rfl (by first | exact Or.inl rfl | exact Or.inr rfl)) (pgs_cons (pg_name (i := 12) sc__law_right.nd rfl (by first | exact Or.inl rfl | exact Or.inr rfl)) pgs_nil))) (vs_cons (vs_if (vt_cmp (op_neP (un60 hr)) o_dNe re_mono (VF.up (vf_lc_ (ps (ps (ps (ps (ps (ps pz)))))) rfl rfl sc__law_right.nd (vi_list (vd_call (d__law_bags T) hgd (rm hr) (va_cons (ve_var (gs (gs (gs (gs (gs (gs (gs (gs (gs (gs (gs gz)))))))))))) va_nil))) (by rfl) (fun _ _ _ _ _ => pg_name (i := 6) sc__law_right.nd rfl (by first | exact Or.inl rfl | exact Or.inr rfl)) (fun _ _ _ _ _ => (vts_one (vw_t (vw_and (vt_cmp op_ne o_sNe re_mono (ve_var (gs (gs (gs (gs (gs (gs gz))))))) (ve_var (gs (gs (gs (gs (gs (gs (gs (gs (gs (gs (gs gz)))))))))))) rfl) (vw_and1 (vt_cmp op_in_sign o_sIn re_mono (ve_var (gs (gs (gs (gs (gs (gs (gs (gs (gs (gs (gs (gs gz))))))))))))) (vd_call (d__law_about T) hgd (rm hr) (va_cons (ve_var (gs (gs gz))) (va_cons (ve_var (gs gz)) (va_cons (ve_var (gs (gs (gs (gs (gs (gs gz))))))) va_nil)))) rfl)))))) (fun _ _ _ _ _ => (ve_var (gs (gs (gs (gs (gs (gs gz)))))))))) (VF.up (vf_lst (vls_nil (α := Str)))) rfl) (vs_cons (vs_ret ve_bl) (vs_nil wid)) (vs_nil wid)) (vs_cons (vs_if (vt_cmp op_notIn_seq o_tNotIn re_mono (ve_var (gs (gs (gs (gs (gs (gs (gs (gs (gs (gs (gs gz)))))))))))) (vd_call (d_reasons T) hgd (rm hr) (va_cons (ve_var (gs (gs (gs (gs (gs (gs (gs (gs gz))))))))) (va_cons (ve_var (gs (gs (gs (gs (gs (gs (gs (gs (gs (gs (gs (gs gz))))))))))))) va_nil))) rfl) (vs_cons (vs_ret ve_bl) (vs_nil wid)) (vs_nil wid)) (vs_nil (wk (wk (wk (wk (wk (wk (wk (wk (wk (wk (wk (wa (wa (wk (wk (wk wn)))))))))))))))))))) (vs_cons (vs_fornM wid (ps (ps (ps (ps (ps (ps (ps pz))))))) rfl PassesOwn.never rfl (mi_list (mo_keep (mf_lc_ (cs (cs (cs (cs (cs (cs (cs (cs (cs (cs (cs (cs (cs (cs cz)))))))))))))) rfl rfl sc__law_right.nd (vi_up (vi_range1 ve_int T.b_range)) (by rfl) (fun _ _ _ _ _ => pg_name (i := 14) sc__law_right.nd rfl (by first | exact Or.inl rfl | exact Or.inr rfl)) (fun _ _ _ _ _ => (vts_up vts_nil)) (fun _ _ _ _ _ => (me_pair (ma_cons (md_draw (d__law_bag T) hgd (rm hr) (pe_var (i := 0) rfl (by first | exact Or.inl rfl | exact Or.inr (Or.inl rfl) | exact Or.inr (Or.inr rfl)) (by decide) (by decide)) (va_up (va_cons (ve_var (gs gz)) va_nil))) (ma_cons (md_draw (d__law_bag T) hgd (rm hr) (pe_var (i := 0) rfl (by first | exact Or.inl rfl | exact Or.inr (Or.inl rfl) | exact Or.inr (Or.inr rfl)) (by decide) (by decide)) (va_up (va_cons (ve_var (gs gz)) va_nil))) (va_up va_nil)))))))) (pg_name (i := 7) sc__law_right.nd rfl (by first | exact Or.inl rfl | exact Or.inr rfl)) (vs_cons (vs_set_ (ps (ps (ps (ps (ps (ps (ps (ps (ps (ps (ps (ps (ps pz))))))))))))) rfl sc__law_right.nd (vd_call (d__law_in T) hgd (rm hr) (va_cons (vo_ix ix_tup o_ix1 re_mono (ve_var (gs (gs (gs (gs (gs (gs (gs gz)))))))) ve_int) (va_cons (vd_call (d__law_about T) hgd (rm hr) (va_cons (ve_var (gs (gs gz))) (va_cons (ve_var (gs gz)) (va_cons (vo_ix ix_tup o_ix0 re_mono (ve_var (gs (gs (gs (gs (gs (gs (gs gz)))))))) ve_int) va_nil)))) va_nil)))) (vs_cons (vs_if (vt_cmp (op_neP (un60 hr)) o_dNe re_mono (VF.up (vo_op op_cat o_lCat rl_mono (VE.l (VF.up (vf_lst (vls_cons (vd_call (d_holds T) hgd (rm hr) (va_cons (ve_var (gs (gs (gs (gs (gs (gs (gs (gs gz))))))))) (va_cons (ve_var (gs (gs (gs (gs (gs (gs (gs gz)))))))) va_nil))) vls_nil)))) (VE.l (VF.up (vf_lc_ (ps (ps (ps (ps (ps (ps (ps (ps (ps (ps (ps (ps (ps (ps (ps pz))))))))))))))) rfl rfl sc__law_right.nd (vi_list (ve_var (gs (gs (gs (gs (gs gz))))))) (by rfl) (fun _ _ _ _ _ => pg_name (i := 15) sc__law_right.nd rfl (by first | exact Or.inl rfl | exact Or.inr rfl)) (fun _ _ _ _ _ => vts_nil) (fun _ _ _ _ _ => (vd_call (d_follows T) hgd (rm hr) (va_cons (ve_var (gs gz)) (va_cons (ve_var (gs (gs (gs (gs (gs (gs (gs (gs (gs (gs (gs (gs (gs (gs (gs gz)))))))))))))))) (va_cons (ve_var (gs (gs (gs (gs (gs (gs (gs gz)))))))) va_nil)))))))))) (VF.up (vo_op op_rep o_lRep rl_mono (VE.l (VF.up (vf_lst (vls_cons (ve_var (gs (gs (gs (gs (gs (gs (gs (gs (gs (gs (gs (gs (gs gz)))))))))))))) vls_nil)))) ve_int)) rfl) (vs_cons (vs_ret ve_bl) (vs_nil wid)) (vs_nil wid)) (vs_nil (wk (wk (wk (wk (wk (wk (wk (wa (wk (wk (wk (wk (wk (wa (wk (wk wn)))))))))))))))))))) (vs_cons (vs_ret ve_bl) (vs_nil (wid (Γ := Unit))))))))))))))))⟩
def m__law_right := P__law_right.1
theorem d__law_right {P : Program} {w : World} {K : PySem.W.Frag} {mg : Str → Option Value} {base : Heap} (T : Top K mg) : Df P w K mg base "_law_right" (topS 84) 11 ["_law_hopper_here"] (spM K m__law_right) := P__law_right.2 T
theorem sc_law : FnScope ["_law_script", "_law_k"] ["_law_script"] (defScope (topS 85)) := ⟨rfl, rfl, rfl, by decide +kernel, rfl, by decide +kernel, by decide +kernel⟩
def P_law : { m : Scr×Unit → Option Bool // ∀ {P : Program} {w : World} {K : PySem.W.Frag} {mg : Str → Option Value} {base : Heap}, Top K mg → Df P w K mg base "law" (topS 85) 12 ["_law_script"] (spF K m) } :=
  ⟨_, fun {P w K mg base} T => df_F T.f_law sc_law (ic (ia i0)) (fun cdv A outer s H f hgd hr => (vs_cons (vs_ret (vo_blt (cr_all rfl) o_allB (va_cons (VF.up (vf_lc_ (ps pz) rfl rfl sc_law.nd (vi_range1 (vo_blt (call_max2 rfl) o_max2 (va_cons ve_int (va_cons (vo_blt (call_min2 rfl) o_min2 (va_cons (vo_blt call_len o_lenC (va_cons (ve_var gz) va_nil) T.b_len) (va_cons ve_int va_nil)) T.b_min) va_nil)) T.b_max) T.b_range) (by rfl) (fun _ _ _ _ _ => pg_name (i := 1) sc_law.nd rfl (by first | exact Or.inl rfl | exact Or.inr rfl)) (fun _ _ _ _ _ => vts_nil) (fun _ _ _ _ _ => (vd_fresh (d__law_right T) hgd (rm hr) (vd_callN (d__law_hopper T) hgd (rm hr) (va_cons (ve_var gz) (va_cons (ve_var (gs gz)) va_nil))))))) va_nil) T.b_all)) (vs_nil (wid (Γ := Unit)))))⟩
def m_law := P_law.1
theorem d_law {P : Program} {w : World} {K : PySem.W.Frag} {mg : Str → Option Value} {base : Heap} (T : Top K mg) : Df P w K mg base "law" (topS 85) 12 ["_law_script"] (spF K m_law) := P_law.2 T
end K67
namespace K67
open Vx.Rep (rep)
open Vx.EnvR (er)
open PySem PySem.Spec PyProof.Rows L2 Vx
def S (l : List Nat) : Str := ⟨l.toArray⟩
theorem S_tl (s : Str) : S s.cps.toList = s := by
  cases s
  simp [S]
@[simp] theorem tl_S (l : List Nat) : (S l).cps.toList = l := by simp [S]
@[simp] theorem len_S (l : List Nat) : (S l).length = l.length := by simp [S, Str.length]
theorem S_inj {a b : List Nat} : S a = S b ↔ a = b := by
  constructor
  · intro h
    have := congrArg (fun s : Str => s.cps.toList) h
    simpa using this
  · intro h
    rw [h]
@[simp] theorem S_add (a b : List Nat) : S a ++ S b = S (a ++ b) := by
  show Str.append _ _ = _
  simp [S, Str.append]
theorem signs_S (l : List Nat) : Vx.signs (S l) = l.map fun c => S [c] := by
  simp [Vx.signs, S]
theorem sIn_S (c : Nat) (l : List Nat) : sIn (S [c]) (S l) = some (decide (c ∈ l)) := rfl
theorem sNotIn_S (c : Nat) (l : List Nat) : sNotIn (S [c]) (S l) = some (!decide (c ∈ l)) := rfl
theorem emp : Str.ofString "" = S [] := rfl
theorem join_S (l : List (List Nat)) : Txt.join (S []) (l.map S) = S l.flatten := by
  have e : ∀ l : List (List Nat), Str.join (S []) (l.map S) = S l.flatten := by
    intro l
    induction l with
    | nil => rfl
    | cons a r ih =>
      cases r with
      | nil => simp [Str.join]
      | cons b r =>
        rw [List.map_cons, List.map_cons]
        show S a ++ S [] ++ Str.join (S []) ((b :: r).map S) = _
        rw [ih]
        simp
  rw [TL.join_eq]
  exact e l
theorem sum_one : ∀ l : List Nat, ((l.map fun c => S [c]).map (·.length)).sum = l.length
  | [] => rfl
  | a :: r => by
    have := sum_one r
    simp only [List.map_cons, List.sum_cons, len_S, List.length_cons, List.length_nil] at this ⊢
    omega
theorem flat_one : ∀ l : List Nat, (l.map fun c => [c]).flatten = l
  | [] => rfl
  | a :: r => by
    have := flat_one r
    simp only [List.map_cons, List.flatten_cons, List.singleton_append, this]
theorem jn_S (l : List Nat) (h : l.length ≤ 100000) : jn (Str.ofString "") (l.map fun c => S [c]) = some (S l) := by
  have e : (l.map fun c => S [c]) = (l.map fun c => [c]).map S := by
    rw [List.map_map]
    rfl
  unfold jn
  rw [emp, if_pos (by rw [sum_one]; simpa using h), e, join_S, flat_one]
theorem lcGo_of {τ α : Type} {t : τ → Option Bool} {e : τ → Option α} {T : τ → Bool} {E : τ → α} : ∀ {xs : List τ}, (∀ x ∈ xs, t x = some (T x)) → (∀ x ∈ xs, T x = true → e x = some (E x)) → lcGo t e xs = some ((xs.filter T).map E)
  | [], _, _ => rfl
  | x :: xs, h, k => by
    unfold lcGo
    rw [h x List.mem_cons_self, Option.bind_some, lcGo_of (fun y hy => h y (List.mem_cons_of_mem _ hy)) (fun y hy => k y (List.mem_cons_of_mem _ hy))]
    cases hT : T x with
    | true => simp [k x List.mem_cons_self hT, hT]
    | false => simp [hT]
theorem filter_map_sign (l : List Nat) (p : Nat → Bool) (T : Str → Bool) (h : ∀ c, T (S [c]) = p c) : (l.map fun c => S [c]).filter T = (l.filter p).map fun c => S [c] := by
  induction l with
  | nil => rfl
  | cons a r ih =>
    rw [List.map_cons, List.filter_cons, List.filter_cons, h a]
    cases p a <;> simp [ih]
theorem has_all_S (b a : List Nat) (h : a.length ≤ 1000) : m_has_all (S b, S a, ()) = some (decide (∀ c ∈ a, c ∈ b)) := by
  show runF _ _ = _
  simp only [runF, runU, sseq, Fl.bnd, sret, sset, sif, sex, snever, f1, f2, fv, fc, fif, fand, foor, fnot, fcons, fnil, lcons, lnil, flc, gz, gs, pz, ps, ic, ia, i0, snil, wid, wn, wk, wa, Option.bind_some, Option.map_some, Option.map_map, Function.comp_def, fyes]
  rw [signs_S]
  rw [if_pos (by rw [List.length_map]; omega), lcGo_of (T := fun s => true) (E := fun s => decide (∃ c ∈ b, s = S [c]))]
  · rw [Option.bind_some, Option.bind_some]
    unfold Vx.allB
    simp only [Option.bind_some, Option.map_some]
    congr 1
    rw [Bool.eq_iff_iff]
    simp [S_inj]
  · intro s hs
    rfl
  · intro s hs _
    obtain ⟨c, hc, rfl⟩ := List.mem_map.mp hs
    rw [sIn_S]
    simp [S_inj]
theorem inside_S (a b : List Nat) (h : a.length ≤ 1000) : m__law_in (S a, S b, ()) = some (decide (∀ c ∈ a, c ∈ b)) := by
  show runF _ _ = _
  simp only [runF, runU, sseq, Fl.bnd, sret, sset, sif, sex, snever, f1, f2, fv, fc, fif, fand, foor, fnot, fcons, fnil, lcons, lnil, flc, gz, gs, pz, ps, ic, ia, i0, snil, wid, wn, wk, wa, Option.bind_some, Option.map_some, Option.map_map, Function.comp_def, fyes]
  rw [signs_S]
  rw [if_pos (by rw [List.length_map]; omega), lcGo_of (T := fun s => true) (E := fun s => decide (∃ c ∈ b, s = S [c]))]
  · rw [Option.bind_some, Option.bind_some]
    unfold Vx.allB
    simp only [Option.bind_some, Option.map_some]
    congr 1
    rw [Bool.eq_iff_iff]
    simp [S_inj]
  · intro s hs
    rfl
  · intro s hs _
    obtain ⟨c, hc, rfl⟩ := List.mem_map.mp hs
    rw [sIn_S]
    simp [S_inj]
theorem forL_then {τ Γ S ρ β : Type} {step : τ → Γ → Option (Fl Γ S ρ)} {k : Fl Γ S ρ → Option β} {r : Option β} (I : List τ → Γ → Prop) : ∀ {xs : List τ} {γ : Γ}, I xs γ → (∀ x xs γ, I (x :: xs) γ → ∃ γ', step x γ = some (.nx γ') ∧ I xs γ') → (∀ γ', I [] γ' → k (.nx γ') = r) → (forL step xs γ).bind k = r
  | [], γ, h0, _, hk => hk γ h0
  | x :: xs, γ, h0, hs, hk => by
    obtain ⟨γ', e, h1⟩ := hs x xs γ h0
    unfold forL
    rw [e, Option.bind_some]
    exact forL_then I h1 hs hk
structure Word (l : List Nat) : Prop where
  asc : l.Pairwise (· < ·)
  let_ : ∀ c ∈ l, 97 ≤ c ∧ c ≤ 122
theorem lt1 (c d : Nat) : ([c] < [d]) ↔ c < d := by
  rw [List.cons_lt_cons_iff]
  simp
theorem is_letter_S (c : Nat) : m_is_letter (S [c], ()) = some (decide (97 ≤ c ∧ c ≤ 122)) := by
  show runF _ _ = _
  simp only [runF, runU, sseq, Fl.bnd, sret, sset, sif, sex, snever, sfor, f1, f2, fv, fc, fif, fand, foor, fnot, fcons, fnil, fch, lcons, lnil, flc, gz, gs, pz, ps, ic, ia, i0, snil, wid, wn, wk, wa, Option.bind_some, Option.map_some, Option.map_map, Function.comp_def, fyes, Option.bind_assoc]
  have e1 : Str.ofString "a" = S [97] := rfl
  have e2 : Str.ofString "z" = S [122] := rfl
  rw [e1, e2]
  unfold sLe
  simp only [tl_S, lt1, Option.bind_some]
  by_cases h1 : c < 97 <;> by_cases h2 : 122 < c <;> simp [h1, h2] <;> omega
theorem is_word_S (l : List Nat) (h : Word l) : m_is_word (S l, ()) = some true := by
  show runF _ _ = _
  simp only [runF, runU, sseq, Fl.bnd, sret, sset, sif, sex, snever, sfor, f1, f2, fv, fc, fif, fand, foor, fnot, fcons, fnil, fch, lcons, lnil, flc, gz, gs, pz, ps, ic, ia, i0, snil, wid, wn, wk, wa, Option.bind_some, Option.map_some, Option.map_map, Function.comp_def, fyes, Option.bind_assoc]
  simp only [Bool.not_true, Bool.false_eq_true, if_false, Option.bind_some, Option.bind_assoc, signs_S]
  refine forL_then (fun xs γ => ∃ l' a, xs = (l'.map fun c => S [c]) ∧ γ = (S l, S a, ⟨⟩, ()) ∧ Word l' ∧ ∀ c ∈ l', a < [c]) ⟨l, [], rfl, rfl, h, fun c _ => List.nil_lt_cons ..⟩ ?_ ?_
  · rintro x xs γ ⟨l', a, h1, rfl, h3, h4⟩
    cases l' with
    | nil => cases h1
    | cons c r =>
      cases h1
      refine ⟨_, ?_, r, [c], rfl, rfl, ⟨(List.pairwise_cons.mp h3.asc).2, fun d hd => h3.let_ d (List.mem_cons_of_mem _ hd)⟩, fun d hd => (lt1 _ _).mpr ((List.pairwise_cons.mp h3.asc).1 d hd)⟩
      simp only [runF, runU, sseq, Fl.bnd, sret, sset, sif, sex, snever, sfor, f1, f2, fv, fc, fif, fand, foor, fnot, fcons, fnil, fch, lcons, lnil, flc, gz, gs, pz, ps, ic, ia, i0, snil, wid, wn, wk, wa, Option.bind_some, Option.map_some, Option.map_map, Function.comp_def, fyes, Option.bind_assoc]
      have e : sLe (S [c]) (S a) = some false := by
        unfold sLe
        simp [h4 c List.mem_cons_self]
      have e2 := h3.let_ c List.mem_cons_self
      rw [e]
      simp only [Option.bind_some, is_letter_S, e2, and_self, decide_true, Bool.not_true, Bool.false_eq_true, if_false, Option.map_some]
      first | done | rfl
  · rintro γ' ⟨l', a, h1, rfl, h3, h4⟩
    first | done | rfl
theorem is_any_lot_S (l : List Nat) (h : Word l) (hl : l.length ≤ 7) : m_is_any_lot (S l, ()) = some true := by
  show runF _ _ = _
  simp only [runF, runU, sseq, Fl.bnd, sret, sset, sif, sex, snever, sfor, f1, f2, fv, fc, fif, fand, foor, fnot, fcons, fnil, fch, lcons, lnil, flc, gz, gs, pz, ps, ic, ia, i0, snil, wid, wn, wk, wa, Option.bind_some, Option.map_some, Option.map_map, Function.comp_def, fyes, Option.bind_assoc]
  simp only [is_word_S l h, Option.bind_some, if_true, lenS, len_S, if_pos (show l.length ≤ 100000 by omega), iLe]
  simp
  omega
theorem is_things_S (l : List Nat) (h : Word l) (hl : l.length ≤ 7) (h0 : l ≠ []) : m_is_things (S l, ()) = some true := by
  show runF _ _ = _
  simp only [runF, runU, sseq, Fl.bnd, sret, sset, sif, sex, snever, sfor, f1, f2, fv, fc, fif, fand, foor, fnot, fcons, fnil, fch, lcons, lnil, flc, gz, gs, pz, ps, ic, ia, i0, snil, wid, wn, wk, wa, Option.bind_some, Option.map_some, Option.map_map, Function.comp_def, fyes, Option.bind_assoc]
  simp only [is_any_lot_S l h hl, Option.bind_some, if_true, sNe, emp, S_inj]
  simp [h0]
theorem is_lot_S (l a : List Nat) (h : Word a) (ha : ∀ c ∈ a, c ∈ l) (hn : a.length ≤ 1000) : m_is_lot (S l, S a, ()) = some true := by
  show runF _ _ = _
  simp only [runF, runU, sseq, Fl.bnd, sret, sset, sif, sex, snever, sfor, f1, f2, fv, fc, fif, fand, foor, fnot, fcons, fnil, fch, lcons, lnil, flc, gz, gs, pz, ps, ic, ia, i0, snil, wid, wn, wk, wa, Option.bind_some, Option.map_some, Option.map_map, Function.comp_def, fyes, Option.bind_assoc]
  simp only [is_word_S a h, Option.bind_some, if_true, has_all_S l a hn]
  simp
  exact ha
theorem chk_things_S (l : List Nat) (h : Word l) (hl : l.length ≤ 7) (h0 : l ≠ []) : m_check_things (S l, ()) = some () := by
  show runU _ _ = _
  simp only [runF, runU, sseq, Fl.bnd, sret, sset, sif, sex, snever, sfor, f1, f2, fv, fc, fif, fand, foor, fnot, fcons, fnil, fch, lcons, lnil, flc, gz, gs, pz, ps, ic, ia, i0, snil, wid, wn, wk, wa, Option.bind_some, Option.map_some, Option.map_map, Function.comp_def, fyes, Option.bind_assoc]
  simp [is_things_S l h hl h0]
theorem chk_lot_S (l a : List Nat) (h : Word a) (ha : ∀ c ∈ a, c ∈ l) (hn : a.length ≤ 1000) : m_check_lot (S l, S a, ()) = some () := by
  show runU _ _ = _
  simp only [runF, runU, sseq, Fl.bnd, sret, sset, sif, sex, snever, sfor, f1, f2, fv, fc, fif, fand, foor, fnot, fcons, fnil, fch, lcons, lnil, flc, gz, gs, pz, ps, ic, ia, i0, snil, wid, wn, wk, wa, Option.bind_some, Option.map_some, Option.map_map, Function.comp_def, fyes, Option.bind_assoc]
  simp [is_lot_S l a h ha hn]
def sel (l : List Nat) (k : Nat) : List Nat := l.filter fun c => k.testBit (l.idxOf c)
def grow (acc : List (List Nat)) (c : Nat) : List (List Nat) := acc ++ acc.map (· ++ [c])
def subs (l : List Nat) : List (List Nat) := l.foldl grow [[]]
theorem subs_snoc (l : List Nat) (c : Nat) : subs (l ++ [c]) = subs l ++ (subs l).map (· ++ [c]) := by
  unfold subs
  rw [List.foldl_append]
  rfl
theorem sel_snoc_lo (l : List Nat) (c : Nat) (hc : c ∉ l) (k : Nat) (hk : k < 2 ^ l.length) : sel (l ++ [c]) k = sel l k := by
  unfold sel
  rw [List.filter_append]
  have h1 : l.filter (fun d => k.testBit ((l ++ [c]).idxOf d)) = l.filter (fun d => k.testBit (l.idxOf d)) := by
    apply List.filter_congr
    intro d hd
    rw [List.idxOf_append, if_pos hd]
  have h2 : [c].filter (fun d => k.testBit ((l ++ [c]).idxOf d)) = [] := by
    rw [List.filter_cons, List.idxOf_append, if_neg hc]
    have : k.testBit (List.idxOf c [c] + l.length) = false := by
      rw [show List.idxOf c [c] = 0 by simp, Nat.zero_add]
      exact Nat.testBit_lt_two_pow hk
    rw [if_neg (by rw [this]; simp)]
    rfl
  rw [h1, h2, List.append_nil]
theorem sel_snoc_hi (l : List Nat) (c : Nat) (hc : c ∉ l) (k : Nat) (hk : k < 2 ^ l.length) : sel (l ++ [c]) (2 ^ l.length + k) = sel l k ++ [c] := by
  unfold sel
  rw [List.filter_append]
  have h1 : l.filter (fun d => (2 ^ l.length + k).testBit ((l ++ [c]).idxOf d)) = l.filter (fun d => k.testBit (l.idxOf d)) := by
    apply List.filter_congr
    intro d hd
    rw [List.idxOf_append, if_pos hd]
    exact Nat.testBit_two_pow_add_gt (List.idxOf_lt_length_of_mem hd) k
  have h2 : [c].filter (fun d => (2 ^ l.length + k).testBit ((l ++ [c]).idxOf d)) = [c] := by
    rw [List.filter_cons, List.idxOf_append, if_neg hc]
    have : (2 ^ l.length + k).testBit (List.idxOf c [c] + l.length) = true := by
      rw [show List.idxOf c [c] = 0 by simp, Nat.zero_add, Nat.testBit_two_pow_add_eq, Nat.testBit_lt_two_pow hk]
      rfl
    rw [if_pos (by rw [this])]
    rfl
  rw [h1, h2]
theorem subs_sel : ∀ (n : Nat) (l : List Nat), l.length = n → l.Nodup → subs l = (List.range (2 ^ n)).map (sel l)
  | 0, l, hn, _ => by
    have : l = [] := List.length_eq_zero_iff.mp hn
    subst this
    rfl
  | n + 1, l, hn, nd => by
    obtain ⟨r, c, rfl⟩ : ∃ r c, l = r ++ [c] := by
      rcases List.eq_nil_or_concat l with h | ⟨r, c, h⟩
      · rw [h] at hn
        cases hn
      · exact ⟨r, c, by rw [h, List.concat_eq_append]⟩
    have hr : r.length = n := by simpa using hn
    have nd' := List.nodup_append.mp nd
    have hc : c ∉ r := fun h => nd'.2.2 c h c (by simp) rfl
    rw [subs_snoc, subs_sel n r hr nd'.1, Nat.pow_succ, Nat.mul_two, List.range_add, List.map_append, List.map_map, List.map_map]
    congr 1
    · apply List.map_congr_left
      intro k hk
      exact (sel_snoc_lo r c hc k (by rw [hr]; exact List.mem_range.mp hk)).symm
    · apply List.map_congr_left
      intro k hk
      have := sel_snoc_hi r c hc k (by rw [hr]; exact List.mem_range.mp hk)
      rw [hr] at this
      exact this.symm
theorem filt_true {α : Type} (xs : List α) : xs.filter (fun _ => true) = xs := List.filter_eq_self.mpr fun _ _ => rfl
theorem lots_by_number_S (l : List Nat) (hl : l.length ≤ 7) : m_lots_by_number (S l, ()) = some ((subs l).map S) := by
  show runF _ _ = _
  simp only [runF, runU, sseq, Fl.bnd, sret, sset, sif, sex, snever, sfor, f1, f2, fv, fc, fif, fand, foor, fnot, fcons, fnil, fch, lcons, lnil, flc, gz, gs, pz, ps, ic, ia, i0, snil, wid, wn, wk, wa, Option.bind_some, Option.map_some, Option.map_map, Function.comp_def, fyes, Option.bind_assoc]
  simp only [short, List.length_cons, List.length_nil]
  rw [if_pos (by omega)]
  simp only [Option.bind_some, Option.map_some, Option.bind_assoc, signs_S]
  refine forL_then (fun xs γ => ∃ (l' : List Nat) (acc : List (List Nat)), xs = (l'.map fun c => S [c]) ∧ γ = (S l, acc.map S, (⟨⟩ : Any), (⟨⟩ : Any), ()) ∧ l'.foldl grow acc = subs l ∧ acc.length * 2 ^ l'.length ≤ 128 ∧ ∀ s ∈ acc, s.length + l'.length ≤ 7) ⟨l, [[]], rfl, rfl, rfl, ?_, ?_⟩ ?_ ?_
  · have : 2 ^ l.length ≤ 2 ^ 7 := Nat.pow_le_pow_right (by decide) hl
    simpa using this
  · intro s hs
    cases List.mem_singleton.mp hs
    simpa using hl
  · rintro x xs γ ⟨l', acc, h1, rfl, h3, h4, h5⟩
    cases l' with
    | nil => cases h1
    | cons c r =>
      cases h1
      have h6 : acc.length * 2 ^ r.length * 2 ≤ 128 := by
        rw [List.length_cons, Nat.pow_succ, ← Nat.mul_assoc] at h4
        exact h4
      have h7 : acc.length ≤ 128 := by
        have : 0 < 2 ^ r.length := Nat.two_pow_pos _
        have := Nat.le_mul_of_pos_right acc.length this
        omega
      refine ⟨_, ?_, r, grow acc c, rfl, rfl, h3, ?_, ?_⟩
      · simp only [List.length_map]
        rw [if_pos (by omega), lcGo_of (T := fun _ => true) (E := fun s => s ++ S [c])]
        · simp only [Option.bind_some, lCat, List.length_map, filt_true]
          rw [if_pos (by omega)]
          simp only [Option.map_some, Option.bind_some]
          unfold grow
          rw [List.map_append, List.map_map, List.map_map]
          have e : ((fun s => s ++ S [c]) ∘ S) = (S ∘ fun x => x ++ [c]) := by
            funext z
            exact S_add z [c]
          rw [e]
        · intro s _
          rfl
        · intro s hs _
          obtain ⟨z, hz, rfl⟩ := List.mem_map.mp hs
          have := h5 z hz
          unfold sAdd
          rw [if_pos (by simp only [len_S, List.length_cons, List.length_nil] at this ⊢; omega)]
      · unfold grow
        rw [List.length_append, List.length_map, ← Nat.two_mul, Nat.mul_assoc, Nat.mul_comm 2]
        exact h6
      · intro s hs
        unfold grow at hs
        rcases List.mem_append.mp hs with h | h
        · have := h5 s h
          rw [List.length_cons] at this
          omega
        · obtain ⟨z, hz, rfl⟩ := List.mem_map.mp h
          have := h5 z hz
          rw [List.length_cons] at this
          rw [List.length_append, List.length_singleton]
          omega
  · rintro γ' ⟨l', acc, h1, rfl, h3, h4, h5⟩
    have : l' = [] := by
      cases l' with
      | nil => rfl
      | cons => cases h1
    subst this
    show some (acc.map S) = _
    rw [← h3]
    rfl
theorem mem_sel {l : List Nat} {k c : Nat} : c ∈ sel l k ↔ c ∈ l ∧ k.testBit (l.idxOf c) = true := by
  unfold sel
  rw [List.mem_filter]
theorem bit_hi {k n p : Nat} (h : k < 2 ^ n) (hp : n ≤ p) : k.testBit p = false := Nat.testBit_lt_two_pow (Nat.lt_of_lt_of_le h (Nat.pow_le_pow_right (by decide) hp))
theorem bit_sel {l : List Nat} (nd : l.Nodup) {k p : Nat} (hp : p < l.length) : l[p] ∈ sel l k ↔ k.testBit p = true := by
  rw [mem_sel, List.Nodup.idxOf_getElem nd]
  simp
theorem sel_sub {l : List Nat} (nd : l.Nodup) {i j : Nat} (hi : i < 2 ^ l.length) : (∀ c ∈ sel l i, c ∈ sel l j) ↔ i &&& j = i := by
  constructor
  · intro h
    apply Nat.eq_of_testBit_eq
    intro p
    rw [Nat.testBit_and]
    by_cases hp : p < l.length
    · cases hb : i.testBit p with
      | false => rfl
      | true =>
        have := (bit_sel nd hp).mp (h _ ((bit_sel nd hp).mpr hb))
        rw [this]
        rfl
    · rw [bit_hi hi (by omega)]
      rfl
  · intro h c hc
    rw [mem_sel] at hc ⊢
    refine ⟨hc.1, ?_⟩
    have := hc.2
    rw [← h, Nat.testBit_and, Bool.and_eq_true] at this
    exact this.2
theorem sel_inj {l : List Nat} (nd : l.Nodup) {i j : Nat} (hi : i < 2 ^ l.length) (hj : j < 2 ^ l.length) (h : sel l i = sel l j) : i = j := by
  have h1 := (sel_sub nd (j := j) hi).mp (by rw [h]; exact fun _ z => z)
  have h2 := (sel_sub nd (j := i) hj).mp (by rw [h]; exact fun _ z => z)
  rw [← h1, Nat.and_comm, h2]
theorem sel_and (l : List Nat) (i j : Nat) : (sel l i).filter (fun c => decide (c ∈ sel l j)) = sel l (i &&& j) := by
  unfold sel
  rw [List.filter_filter]
  apply List.filter_congr
  intro c hc
  rw [Nat.testBit_and, Bool.eq_iff_iff]
  simp [List.mem_filter, hc, and_comm]
theorem sel_len (l : List Nat) (i : Nat) : (sel l i).length ≤ l.length := List.length_filter_le _ _
theorem enum_map {α β : Type} (f : α → β) : ∀ (xs : List α) (k : Nat), enumF k (xs.map f) = (enumF k xs).map fun t => ⟨t.a, f t.b⟩
  | [], _ => rfl
  | x :: xs, k => by
    show _ :: enumF (k + 1) (xs.map f) = _
    rw [enum_map f xs (k + 1)]
    rfl
theorem enum_range (n : Nat) : ∀ k : Nat, enumF k (List.range' k n) = (List.range' k n).map fun i => ⟨(i : Int), i⟩ := by
  induction n with
  | zero => intro k; rfl
  | succ n ih =>
    intro k
    rw [List.range'_succ]
    show ⟨(k : Int), k⟩ :: enumF (k + 1) (List.range' (k + 1) n) = _
    rw [ih (k + 1)]
    rfl
theorem dcGo_new {τ κ β : Type} [Rep κ] [KeyOf κ] {kf : τ → Option κ} {vf : τ → Option β} {kx : τ → κ} {vx : τ → β} : ∀ (xs : List τ) (d : List (Key × β)), (∀ x ∈ xs, kf x = some (kx x) ∧ vf x = some (vx x)) → (xs.map fun x => KeyOf.key (kx x)).Nodup → (∀ x ∈ xs, ∀ q ∈ d, q.1 ≠ KeyOf.key (kx x)) →
    dcGo kf vf xs d = some (d ++ xs.map fun x => (KeyOf.key (kx x), vx x))
  | [], d, _, _, _ => by simp [dcGo]
  | x :: xs, d, h1, h2, h3 => by
    unfold dcGo
    obtain ⟨e1, e2⟩ := h1 x List.mem_cons_self
    rw [e1, e2, Option.bind_some, Option.bind_some]
    have hp : putB d (KeyOf.key (kx x)) (vx x) = d ++ [(KeyOf.key (kx x), vx x)] := by
      unfold putB
      rw [if_neg]
      intro z
      obtain ⟨q, hq, e⟩ := List.any_eq_true.mp z
      exact h3 x List.mem_cons_self q hq (of_decide_eq_true e)
    rw [List.map_cons, List.nodup_cons] at h2
    rw [hp, dcGo_new xs _ (fun y hy => h1 y (List.mem_cons_of_mem _ hy)) h2.2]
    · simp
    · intro y hy q hq
      rcases List.mem_append.mp hq with h | h
      · exact h3 y (List.mem_cons_of_mem _ hy) q h
      · rw [List.mem_singleton.mp h]
        intro z
        exact h2.1 (List.mem_map.mpr ⟨y, hy, z.symm⟩)
theorem nodup_map {α β : Type} {f : α → β} : ∀ {xs : List α}, xs.Nodup → (∀ a ∈ xs, ∀ b ∈ xs, f a = f b → a = b) → (xs.map f).Nodup
  | [], _, _ => List.nodup_nil
  | x :: xs, h, k => by
    rw [List.nodup_cons] at h
    rw [List.map_cons, List.nodup_cons]
    refine ⟨fun z => ?_, nodup_map h.2 fun a ha b hb => k a (List.mem_cons_of_mem _ ha) b (List.mem_cons_of_mem _ hb)⟩
    obtain ⟨y, hy, e⟩ := List.mem_map.mp z
    have := k y (List.mem_cons_of_mem _ hy) x List.mem_cons_self e
    exact h.1 (this ▸ hy)
structure Lets (l : List Nat) : Prop where
  w : Word l
  n : l.length ≤ 7
  p : l ≠ []
theorem Lets.nd {l : List Nat} (h : Lets l) : l.Nodup := h.w.asc.imp fun h => Nat.ne_of_lt h
theorem lots_S {l : List Nat} (h : Lets l) : m_lots_by_number (S l, ()) = some ((List.range (2 ^ l.length)).map fun k => S (sel l k)) := by
  rw [lots_by_number_S l h.n, subs_sel _ l rfl h.nd, List.map_map]
  rfl
theorem p7 {l : List Nat} (h : Lets l) : 2 ^ l.length ≤ 128 := Nat.pow_le_pow_right (by decide) h.n
def numD (l : List Nat) : List (Key × Int) := (List.range (2 ^ l.length)).map fun k => (Sum.inr (S (sel l k)), (k : Int))
theorem number_by_lot_S {l : List Nat} (h : Lets l) : m_number_by_lot (S l, ()) = some ⟨numD l⟩ := by
  show runF _ _ = _
  simp only [runF, runU, sseq, Fl.bnd, sret, sset, sif, sex, snever, sfor, f1, f2, fv, fc, fif, fand, foor, fnot, fcons, fnil, fch, lcons, lnil, flc, gz, gs, pz, ps, ic, ia, i0, snil, wid, wn, wk, wa, Option.bind_some, Option.map_some, Option.map_map, Function.comp_def, fyes, Option.bind_assoc]
  simp only [lots_S h, Option.bind_some, fdc]
  have e : enumF 0 ((List.range (2 ^ l.length)).map fun k => S (sel l k)) = (List.range (2 ^ l.length)).map fun (k : Nat) => (⟨(k : Int), S (sel l k)⟩ : T2 Int Str) := by
    rw [enum_map, List.range_eq_range', enum_range, List.map_map]
    rfl
  simp only [f1, lots_S h, Option.bind_some, fcons, fnil, fv, e, List.length_map, List.length_range]
  rw [if_pos (by have := p7 h; omega), dcGo_new (kx := fun x => x.b) (vx := fun x => x.a)]
  · simp only [List.nil_append, List.map_map, Option.map_some, Option.bind_some]
    rfl
  · intro x _
    exact ⟨rfl, rfl⟩
  · rw [List.map_map]
    apply nodup_map List.nodup_range
    intro i hi j hj e
    have e2 : S (sel l i) = S (sel l j) := Sum.inr.inj e
    exact sel_inj h.nd (List.mem_range.mp hi) (List.mem_range.mp hj) (S_inj.mp e2)
  · intro x _ q hq
    cases hq
theorem band (a b : Nat) : Builtin.bitAnd (a : Int) (b : Int) = ((a &&& b : Nat) : Int) := by
  unfold Builtin.bitAnd
  rw [decide_eq_true (Int.natCast_nonneg a), decide_eq_true (Int.natCast_nonneg b)]
  rfl
def T (l : List Nat) (F : List Nat) : List Str := F.map fun k => S (sel l k)
def Z (F : List Nat) : List Int := F.map fun (k : Nat) => (k : Int)
theorem valD {l : List Nat} (h : Lets l) {k : Nat} (hk : k < 2 ^ l.length) : valB (numD l) (Sum.inr (S (sel l k))) = some (k : Int) := by
  unfold valB numD
  rw [List.find?_map]
  have e : List.find? ((fun kv : Key × Int => decide (kv.1 = Sum.inr (S (sel l k)))) ∘ fun (k : Nat) => ((Sum.inr (S (sel l k)) : Key), (k : Int))) (List.range (2 ^ l.length)) = some k := by
    rw [List.find?_range_eq_some]
    refine ⟨by simp, List.mem_range.mpr hk, fun j hj => ?_⟩
    simp only [Function.comp_apply, Bool.not_eq_true', decide_eq_false_iff_not]
    intro z
    have := sel_inj h.nd (by omega) hk (S_inj.mp (Sum.inr.inj z))
    omega
  rw [e]
  rfl
theorem numbers_of_S {l : List Nat} (h : Lets l) (F : List Nat) (hF : ∀ k ∈ F, k < 2 ^ l.length) (hn : F.length ≤ 1000) : m_numbers_of (S l, ⟨T l F⟩, ()) = some (Z F) := by
  show runF _ _ = _
  simp only [runF, runU, sseq, Fl.bnd, sret, sset, sif, sex, snever, sfor, f1, f2, fv, fc, fif, fand, foor, fnot, fcons, fnil, fch, lcons, lnil, flc, gz, gs, pz, ps, ic, ia, i0, snil, wid, wn, wk, wa, Option.bind_some, Option.map_some, Option.map_map, Function.comp_def, fyes, Option.bind_assoc]
  simp only [number_by_lot_S h, Option.bind_some, Option.map_some]
  rw [if_pos (by simp [T]; omega)]
  have e : lcGo (fun x => some true) (fun x => dget (⟨numD l⟩ : Dct Int) x) (T l F) = some (Z F) := by
    have key : ∀ F : List Nat, (∀ k ∈ F, k < 2 ^ l.length) → lcGo (fun x => some true) (fun x => dget (⟨numD l⟩ : Dct Int) x) (T l F) = some (Z F) := by
      intro F
      induction F with
      | nil => intro _; rfl
      | cons k F ih =>
        intro hF
        show (lcGo _ _ (S (sel l k) :: T l F)) = _
        unfold lcGo
        have e1 : dget (⟨numD l⟩ : Dct Int) (S (sel l k)) = some (k : Int) := valD h (hF k List.mem_cons_self)
        simp only [Option.bind_some, if_true, e1, ih (fun j hj => hF j (List.mem_cons_of_mem _ hj)), Option.map_some]
        rfl
    exact key F hF
  rw [e]
  rfl
theorem numbers_ofL_S {l : List Nat} (h : Lets l) (F : List Nat) (hF : ∀ k ∈ F, k < 2 ^ l.length) (hn : F.length ≤ 1000) : m_numbers_ofL (S l, T l F, ()) = some (Z F) := by
  show runF _ _ = _
  simp only [runF, runU, sseq, Fl.bnd, sret, sset, sif, sex, snever, sfor, f1, f2, fv, fc, fif, fand, foor, fnot, fcons, fnil, fch, lcons, lnil, flc, gz, gs, pz, ps, ic, ia, i0, snil, wid, wn, wk, wa, Option.bind_some, Option.map_some, Option.map_map, Function.comp_def, fyes, Option.bind_assoc]
  simp only [number_by_lot_S h, Option.bind_some, Option.map_some]
  rw [if_pos (by simp [T]; omega)]
  have e : lcGo (fun x => some true) (fun x => dget (⟨numD l⟩ : Dct Int) x) (T l F) = some (Z F) := by
    have key : ∀ F : List Nat, (∀ k ∈ F, k < 2 ^ l.length) → lcGo (fun x => some true) (fun x => dget (⟨numD l⟩ : Dct Int) x) (T l F) = some (Z F) := by
      intro F
      induction F with
      | nil => intro _; rfl
      | cons k F ih =>
        intro hF
        show (lcGo _ _ (S (sel l k) :: T l F)) = _
        unfold lcGo
        have e1 : dget (⟨numD l⟩ : Dct Int) (S (sel l k)) = some (k : Int) := valD h (hF k List.mem_cons_self)
        simp only [Option.bind_some, if_true, e1, ih (fun j hj => hF j (List.mem_cons_of_mem _ hj)), Option.map_some]
        rfl
    exact key F hF
  rw [e]
  rfl
theorem family_of_S {l : List Nat} (h : Lets l) (F : List Nat) (hF : ∀ k ∈ F, k < 2 ^ l.length) (hn : F.length ≤ 1000) : m_family_of (S l, Z F, ()) = some ⟨srt (T l F)⟩ := by
  show runF _ _ = _
  simp only [runF, runU, sseq, Fl.bnd, sret, sset, sif, sex, snever, sfor, f1, f2, fv, fc, fif, fand, foor, fnot, fcons, fnil, fch, lcons, lnil, flc, gz, gs, pz, ps, ic, ia, i0, snil, wid, wn, wk, wa, Option.bind_some, Option.map_some, Option.map_map, Function.comp_def, fyes, Option.bind_assoc]
  simp only [lots_S h, Option.bind_some, Option.map_some]
  rw [if_pos (by simp [Z]; omega)]
  have e : lcGo (fun x => some true) (fun x => lIx ((List.range (2 ^ l.length)).map fun k => S (sel l k)) x) (Z F) = some (T l F) := by
    have key : ∀ F : List Nat, (∀ k ∈ F, k < 2 ^ l.length) → lcGo (fun x => some true) (fun x => lIx ((List.range (2 ^ l.length)).map fun k => S (sel l k)) x) (Z F) = some (T l F) := by
      intro F
      induction F with
      | nil => intro _; rfl
      | cons k F ih =>
        intro hF
        show (lcGo _ _ ((k : Int) :: Z F)) = _
        unfold lcGo
        have e1 : lIx ((List.range (2 ^ l.length)).map fun k => S (sel l k)) (k : Int) = some (S (sel l k)) := by
          unfold lIx
          apply atI_nat
          rw [List.getElem?_map, List.getElem?_range (hF k List.mem_cons_self)]
          rfl
        simp only [Option.bind_some, if_true, e1, ih (fun j hj => hF j (List.mem_cons_of_mem _ hj)), Option.map_some]
        rfl
    exact key F hF
  rw [e]
  simp only [Option.bind_some, srtL, tupL]
  rw [if_pos (by simp [T]; omega)]
  rfl
def least (F : List Nat) : List Nat := F.filter fun k => !F.any fun p => decide (p ≠ k) && decide (p &&& k = p)
theorem lcGo_Z {α : Type} {t : Int → Option Bool} {e : Int → Option α} {P : Nat → Bool} {E : Nat → α} : ∀ F : List Nat, (∀ k ∈ F, t (k : Int) = some (P k)) → (∀ k ∈ F, P k = true → e (k : Int) = some (E k)) → lcGo t e (Z F) = some ((F.filter P).map E)
  | [], _, _ => rfl
  | k :: F, h, g => by
    show lcGo t e ((k : Int) :: Z F) = _
    unfold lcGo
    rw [h k List.mem_cons_self, Option.bind_some, lcGo_Z F (fun j hj => h j (List.mem_cons_of_mem _ hj)) (fun j hj => g j (List.mem_cons_of_mem _ hj))]
    cases hP : P k with
    | true => simp [g k List.mem_cons_self hP, hP]
    | false => simp [hP]
theorem least_S (F : List Nat) (hn : F.length ≤ 1000) : m_least_numbers (Z F, ()) = some (Z (least F)) := by
  show runF _ _ = _
  simp only [runF, runU, sseq, Fl.bnd, sret, sset, sif, sex, snever, sfor, f1, f2, fv, fc, fif, fand, foor, fnot, fcons, fnil, fch, lcons, lnil, flc, gz, gs, pz, ps, ic, ia, i0, snil, wid, wn, wk, wa, Option.bind_some, Option.map_some, Option.map_map, Function.comp_def, fyes, Option.bind_assoc]
  rw [if_pos (by simp [Z]; omega), lcGo_Z (P := fun k => !F.any fun p => decide (p ≠ k) && decide (p &&& k = p)) (E := fun k => (k : Int)) F]
  · rfl
  · intro k hk
    rw [if_pos (by simp [Z]; omega), lcGo_Z (P := fun _ => true) (E := fun p => decide (p ≠ k) && decide (p &&& k = p)) F]
    · simp only [Option.bind_some, Vx.anyB, Option.map_some, filt_true]
      rw [List.any_map]
      rfl
    · intro p hp
      rfl
    · intro p hp _
      simp only [sNe, Option.bind_some, iAnd, band, sEq]
      by_cases h1 : p = k
      · subst h1
        simp
      · have h2 : ¬ (p : Int) = (k : Int) := by omega
        simp [h1, h2]
        exact Int.ofNat_inj
  · intro k hk _
    rfl
def keysD (ks : List Nat) : List (Key × Bool) := ks.map fun (k : Nat) => (Sum.inl (k : Int), true)
def addK (ks : List Nat) (k : Nat) : List Nat := if k ∈ ks then ks else ks ++ [k]
theorem putB_keysD (ks : List Nat) (k : Nat) : putB (keysD ks) (KeyOf.key (k : Int)) true = keysD (addK ks k) := by
  unfold putB addK
  have e : ((keysD ks).any fun kv => decide (kv.1 = KeyOf.key (k : Int))) = decide (k ∈ ks) := by
    rw [Bool.eq_iff_iff, List.any_eq_true]
    simp only [keysD, List.mem_map, decide_eq_true_eq]
    constructor
    · rintro ⟨x, ⟨j, hj, rfl⟩, h⟩
      have h2 : (j : Int) = (k : Int) := Sum.inl.inj h
      have : j = k := by omega
      exact this ▸ hj
    · intro h
      exact ⟨_, ⟨k, h, rfl⟩, rfl⟩
  rw [e]
  by_cases h : k ∈ ks
  · rw [if_pos (decide_eq_true h), if_pos h]
    unfold keysD
    rw [List.map_map]
    apply List.map_congr_left
    intro j hj
    simp only [Function.comp_apply]
    split <;> rfl
  · rw [if_neg (by simpa using h), if_neg h]
    unfold keysD
    rw [List.map_append]
    rfl
theorem keysOf_keysD : ∀ ks : List Nat, (keysOf (keysD ks) : Option (List Int)) = some (Z ks)
  | [] => rfl
  | k :: ks => by
    show (keysOf ((Sum.inl (k : Int), true) :: keysD ks) : Option (List Int)) = _
    unfold keysOf
    rw [keysOf_keysD ks]
    rfl
structure Good (N : Nat) (ks : List Nat) : Prop where
  nd : ks.Nodup
  lt : ∀ k ∈ ks, k < N
theorem Good.len {N : Nat} {ks : List Nat} (g : Good N ks) : ks.length ≤ N := by
  have := List.Nodup.length_le_of_subset g.nd (l₂ := List.range N) (fun k hk => List.mem_range.mpr (g.lt k hk))
  rwa [List.length_range] at this
theorem addK_good {N : Nat} {ks : List Nat} {k : Nat} (g : Good N ks) (h : k < N) : Good N (addK ks k) := by
  unfold addK
  split
  · exact g
  · rename_i hk
    refine ⟨List.nodup_append.mpr ⟨g.nd, by simp, fun a ha b hb e => hk ?_⟩, fun j hj => ?_⟩
    · rw [List.mem_singleton.mp hb] at e
      exact e ▸ ha
    · rcases List.mem_append.mp hj with q | q
      · exact g.lt j q
      · rw [List.mem_singleton.mp q]
        exact h
theorem mem_addK {ks : List Nat} {k j : Nat} : j ∈ addK ks k ↔ j ∈ ks ∨ j = k := by
  unfold addK
  split
  · rename_i h
    constructor
    · exact .inl
    · rintro (q | q)
      · exact q
      · exact q ▸ h
  · simp
def step (op : Nat → Nat → Nat) (ks : List Nat) (n : Nat) : List Nat := ks.foldl (fun acc o => addK acc (op n o)) ks
theorem meets_of_S {l : List Nat} (h : Lets l) (F : List Nat) (hF : ∀ k ∈ F, k < 2 ^ l.length) (hn : F.length ≤ 1000) : m_meets_of (S l, ⟨T l F⟩, ()) = some ⟨srt (T l (F.foldl (step (· &&& ·)) [2 ^ l.length - 1]))⟩ := by
  show runF _ _ = _
  simp only [runF, runU, sseq, Fl.bnd, sret, sset, sif, sex, snever, sfor, snewD, sdput, fkeys, dz, ds, pdz, pds, f1, f2, fv, fc, fif, fand, foor, fnot, fcons, fnil, fch, lcons, lnil, flc, gz, gs, pz, ps, ic, ia, i0, snil, wid, wn, wk, wa, Option.bind_some, Option.map_some, Option.map_map, Function.comp_def, fyes, Option.bind_assoc]
  simp only [lots_S h, numbers_of_S h F hF hn, Option.bind_some, Option.map_some, lenL, iSub, List.length_map, List.length_range, Option.bind_assoc]
  have N1 : 0 < 2 ^ l.length := Nat.two_pow_pos _
  have ec : ((2 ^ l.length : Nat) : Int) - 1 = ((2 ^ l.length - 1 : Nat) : Int) := by
    rw [Int.natCast_sub N1]
    rfl
  rw [ec]
  have N7 := p7 h
  generalize hN : 2 ^ l.length = N at *
  refine forL_then (fun xs γ => ∃ (r acc : List Nat), xs = Z r ∧ γ = (S l, (⟨T l F⟩ : Tup Str), ((N - 1 : Nat) : Int), (⟨keysD acc⟩ : OD Bool), (⟨⟩ : Any), (⟨⟩ : Any), ()) ∧ r.foldl (step (· &&& ·)) acc = F.foldl (step (· &&& ·)) [N - 1] ∧ Good N acc ∧ ∀ k ∈ r, k < N) ⟨F, [N - 1], rfl, rfl, rfl, ⟨by simp, by simp; omega⟩, hF⟩ ?_ ?_
  · rintro x xs γ ⟨r, acc, h1, rfl, h3, g, h5⟩
    cases r with
    | nil => cases h1
    | cons n r =>
      cases h1
      refine ⟨_, ?_, r, step (· &&& ·) acc n, rfl, rfl, h3, ?_, fun k hk => h5 k (List.mem_cons_of_mem _ hk)⟩
      · simp only [keysOf_keysD, Option.bind_some]
        refine forL_then (fun xs γ => ∃ (q a : List Nat), xs = Z q ∧ γ = (S l, (⟨T l F⟩ : Tup Str), ((N - 1 : Nat) : Int), (⟨keysD a⟩ : OD Bool), (n : Int), (⟨⟩ : Any), ()) ∧ q.foldl (fun acc o => addK acc ((· &&& ·) n o)) a = step (· &&& ·) acc n ∧ Good N a ∧ ∀ k ∈ q, k < N) ⟨acc, acc, rfl, rfl, rfl, g, g.lt⟩ ?_ ?_
        · rintro x xs γ ⟨q, a, e1, rfl, e3, g2, e5⟩
          cases q with
          | nil => cases e1
          | cons o q =>
            cases e1
            have hlt : (· &&& ·) n o < N := by
              rw [← hN]
              have h8 := e5 o List.mem_cons_self
              have h9 := h5 n List.mem_cons_self
              rw [← hN] at h8 h9
              exact Nat.and_lt_two_pow _ h8
            refine ⟨_, ?_, q, addK a ((· &&& ·) n o), rfl, rfl, e3, addK_good g2 hlt, fun k hk => e5 k (List.mem_cons_of_mem _ hk)⟩
            simp only [iAnd, band, Option.bind_some, putB_keysD]
            have hl : (keysD a).length < 100000 := by
              have := g2.len
              simp only [keysD, List.length_map]
              omega
            rw [if_pos hl]
            rfl
        · rintro γ' ⟨q, a, e1, rfl, e3, g2, e5⟩
          have : q = [] := by
            cases q with
            | nil => rfl
            | cons => cases e1
          subst this
          rw [← e3]
          rfl
      · have key : ∀ q a : List Nat, Good N a → (∀ k ∈ q, k < N) → Good N (q.foldl (fun acc o => addK acc ((· &&& ·) n o)) a) := by
          intro q
          induction q with
          | nil => intro a g2 _; exact g2
          | cons o q ih =>
            intro a g2 e5
            refine ih _ (addK_good g2 ?_) fun k hk => e5 k (List.mem_cons_of_mem _ hk)
            rw [← hN]
            have h8 := e5 o List.mem_cons_self
            have h9 := h5 n List.mem_cons_self
            rw [← hN] at h8 h9
            exact Nat.and_lt_two_pow _ h8
        exact key acc acc g g.lt
  · rintro γ' ⟨r, acc, h1, rfl, h3, g, h5⟩
    have : r = [] := by
      cases r with
      | nil => rfl
      | cons => cases h1
    subst this
    simp only [keysOf_keysD, Option.bind_some]
    have := g.len
    rw [family_of_S h acc (by rw [hN]; exact g.lt) (by omega)]
    rw [← h3]
    rfl
def Asc (xs : List Str) : Prop := xs.Pairwise fun a b => a.cps.toList < b.cps.toList
structure Fam (l : List Nat) (F : List Nat) : Prop where
  lt : ∀ k ∈ F, k < 2 ^ l.length
  asc : Asc (T l F)
  n : F.length ≤ 1000
theorem sel_word {l : List Nat} (h : Lets l) (k : Nat) : Word (sel l k) := ⟨h.w.asc.filter _, fun c hc => h.w.let_ c (mem_sel.mp hc).1⟩
theorem sel_in (l : List Nat) (k : Nat) : ∀ c ∈ sel l k, c ∈ l := fun c hc => (mem_sel.mp hc).1
theorem first_wrong_S {l : List Nat} (h : Lets l) {F : List Nat} (f : Fam l F) : m_first_wrong (S l, ⟨T l F⟩, ()) = some none := by
  show runF _ _ = _
  simp only [runF, runU, sseq, Fl.bnd, sret, sset, sif, sex, snever, sfor, snewD, sdput, fkeys, dz, ds, pdz, pds, f1, f2, fv, fc, fif, fand, foor, fnot, fcons, fnil, fch, lcons, lnil, flc, gz, gs, pz, ps, ic, ia, i0, snil, wid, wn, wk, wa, Option.bind_some, Option.map_some, Option.map_map, Function.comp_def, fyes, Option.bind_assoc]
  refine forL_then (fun xs γ => ∃ (p r : List Str), p ++ r = T l F ∧ xs = enumF p.length r ∧ γ = (S l, (⟨T l F⟩ : Tup Str), (⟨⟩ : Any), (⟨⟩ : Any), ())) ⟨[], T l F, rfl, rfl, rfl⟩ ?_ ?_
  · rintro x xs γ ⟨p, r, h1, h2, rfl⟩
    cases r with
    | nil => cases h2
    | cons s r =>
      cases h2
      refine ⟨_, ?_, p ++ [s], r, by simpa using h1, by simp, rfl⟩
      obtain ⟨k, hk, rfl⟩ : ∃ k, k ∈ F ∧ S (sel l k) = s := by
        have : s ∈ T l F := by
          rw [← h1]
          simp
        exact List.mem_map.mp this
      have e1 : m_is_lot (S l, S (sel l k), ()) = some true := is_lot_S l _ (sel_word h k) (sel_in l k) (by have := sel_len l k; have := h.n; omega)
      simp only [e1, Option.map_some, Option.bind_some, Bool.not_true, Bool.false_eq_true, if_false, iGt]
      by_cases hp : p = []
      · subst hp
        simp
      · have hpl : 0 < p.length := List.length_pos_iff.mpr hp
        have e2 : (decide (0 < (p.length : Int))) = true := by simp; omega
        obtain ⟨q, y, rfl⟩ : ∃ q y, p = q ++ [y] := by
          rcases List.eq_nil_or_concat p with z | ⟨q, y, z⟩
          · exact absurd z hp
          · exact ⟨q, y, by rw [z, List.concat_eq_append]⟩
        have e3 : tIx (⟨T l F⟩ : Tup Str) (((q ++ [y]).length : Int) - 1) = some y := by
          unfold tIx
          have : (((q ++ [y]).length : Int) - 1) = (q.length : Int) := by
            rw [List.length_append, List.length_singleton]
            omega
          rw [this]
          apply atI_nat
          rw [← h1]
          simp
        have e4 : sLe (S (sel l k)) y = some false := by
          unfold sLe
          have := f.asc
          unfold Asc at this
          rw [← h1] at this
          have h5 := (List.pairwise_append.mp this).2.2 y (by simp) (S (sel l k)) (by simp)
          rw [decide_eq_true h5]
          rfl
        simp only [e2, if_true, iSub, Option.bind_some, e3, e4, Bool.false_eq_true, if_false]
        try rfl
  · rintro γ' ⟨p, r, h1, h2, rfl⟩
    try rfl
theorem mem_ded : ∀ (xs acc : List Str) (s : Str), s ∈ ded acc xs ↔ s ∈ acc ∨ s ∈ xs
  | [], acc, s => by simp [ded]
  | x :: xs, acc, s => by
    unfold ded
    rw [mem_ded xs]
    split
    · rename_i h
      simp only [List.mem_cons]
      constructor
      · rintro (q | q)
        · exact .inl q
        · exact .inr (.inr q)
      · rintro (q | q | q)
        · exact .inl q
        · exact .inl (q ▸ h)
        · exact .inr q
    · simp only [List.mem_cons]
      constructor
      · rintro ((q | q) | q)
        · exact .inr (.inl q)
        · exact .inl q
        · exact .inr (.inr q)
      · rintro (q | q | q)
        · exact .inl (.inr q)
        · exact .inl (.inl q)
        · exact .inr q
theorem ded_nd : ∀ (xs acc : List Str), acc.Nodup → (ded acc xs).Nodup
  | [], acc, h => h
  | x :: xs, acc, h => by
    unfold ded
    apply ded_nd xs
    split
    · exact h
    · rename_i hx
      exact List.nodup_cons.mpr ⟨hx, h⟩
theorem srt_ext {xs ys : List Str} (h1 : xs.Nodup) (h2 : ys.Nodup) (h : ∀ s, s ∈ xs ↔ s ∈ ys) : srt xs = srt ys := srt_eq ((List.perm_ext_iff_of_nodup h1 h2).mpr h)
theorem mem_srt {xs : List Str} {s : Str} : s ∈ srt xs ↔ s ∈ xs := (srt_perm xs).mem_iff
theorem srt_nd {xs : List Str} (h : xs.Nodup) : (srt xs).Nodup := (srt_perm xs).nodup_iff.mpr h
theorem srt_len (xs : List Str) : (srt xs).length = xs.length := (srt_perm xs).length_eq
theorem srt_id {xs : List Str} (h : xs.Pairwise fun a b => leS a b = true) : srt xs = xs := List.mergeSort_of_pairwise h
theorem T_nd {l : List Nat} (h : Lets l) {F : List Nat} (nd : F.Nodup) (lt : ∀ k ∈ F, k < 2 ^ l.length) : (T l F).Nodup := nodup_map nd fun a ha b hb e => sel_inj h.nd (lt a ha) (lt b hb) (S_inj.mp e)
theorem mem_T {l F : List Nat} {s : Str} : s ∈ T l F ↔ ∃ k ∈ F, S (sel l k) = s := List.mem_map
theorem T_mem {l : List Nat} (h : Lets l) {F : List Nat} (lt : ∀ k ∈ F, k < 2 ^ l.length) {k : Nat} (hk : k < 2 ^ l.length) : S (sel l k) ∈ T l F ↔ k ∈ F := by
  rw [mem_T]
  constructor
  · rintro ⟨j, hj, e⟩
    rw [← sel_inj h.nd (lt j hj) hk (S_inj.mp e)]
    exact hj
  · exact fun hk => ⟨k, hk, rfl⟩
theorem T_ext {l : List Nat} (h : Lets l) {F F' : List Nat} (g : Good (2 ^ l.length) F) (g' : Good (2 ^ l.length) F') (e : ∀ k, k ∈ F ↔ k ∈ F') : srt (T l F) = srt (T l F') :=
  srt_ext (T_nd h g.nd g.lt) (T_nd h g'.nd g'.lt) fun s => by
    rw [mem_T, mem_T]
    constructor
    · rintro ⟨k, hk, q⟩
      exact ⟨k, (e k).mp hk, q⟩
    · rintro ⟨k, hk, q⟩
      exact ⟨k, (e k).mpr hk, q⟩
theorem T_back {l : List Nat} : ∀ {ys : List Str}, (∀ s ∈ ys, ∃ k, k < 2 ^ l.length ∧ S (sel l k) = s) → ∃ A, ys = T l A ∧ ∀ k ∈ A, k < 2 ^ l.length
  | [], _ => ⟨[], rfl, fun _ h => by cases h⟩
  | s :: ys, h => by
    obtain ⟨k, hk, e⟩ := h s List.mem_cons_self
    obtain ⟨A, e2, h2⟩ := T_back fun y hy => h y (List.mem_cons_of_mem _ hy)
    exact ⟨k :: A, by rw [e2, ← e]; rfl, fun j hj => by
      rcases List.mem_cons.mp hj with q | q
      · rw [q]
        exact hk
      · exact h2 j q⟩
theorem nd_of_map {α β : Type} {f : α → β} : ∀ {xs : List α}, (xs.map f).Nodup → xs.Nodup
  | [], _ => List.nodup_nil
  | x :: xs, h => by
    rw [List.map_cons, List.nodup_cons] at h
    exact List.nodup_cons.mpr ⟨fun z => h.1 (List.mem_map_of_mem z), nd_of_map h.2⟩
theorem T_srt {l : List Nat} (h : Lets l) {F : List Nat} (g : Good (2 ^ l.length) F) : ∃ A, srt (T l F) = T l A ∧ Fam l A ∧ Good (2 ^ l.length) A ∧ ∀ k, k ∈ A ↔ k ∈ F := by
  obtain ⟨A, e, lt⟩ := T_back (l := l) (ys := srt (T l F)) fun s hs => by
    obtain ⟨k, hk, q⟩ := mem_T.mp (mem_srt.mp hs)
    exact ⟨k, g.lt k hk, q⟩
  have nd : (T l A).Nodup := by
    rw [← e]
    exact srt_nd (T_nd h g.nd g.lt)
  have gA : Good (2 ^ l.length) A := ⟨nd_of_map nd, lt⟩
  refine ⟨A, e, ⟨lt, ?_, by have := gA.len; have := p7 h; omega⟩, gA, fun k => ?_⟩
  · have p := srt_pair (T l F)
    rw [e] at p
    have q := p.and (List.nodup_iff_pairwise_ne.mp nd)
    refine q.imp ?_
    intro a b ⟨h1, h2⟩
    have h1 : a.cps.toList ≤ b.cps.toList := of_decide_eq_true h1
    apply Decidable.byContradiction
    intro h3
    have h4 : b.cps.toList ≤ a.cps.toList := List.not_lt.mp h3
    have h5 := List.le_antisymm h1 h4
    apply h2
    rw [← S_tl a, ← S_tl b, h5]
  · constructor
    · intro hk
      have : S (sel l k) ∈ srt (T l F) := by
        rw [e]
        exact mem_T.mpr ⟨k, hk, rfl⟩
      exact (T_mem h g.lt (lt k hk)).mp (mem_srt.mp this)
    · intro hk
      have : S (sel l k) ∈ T l A := by
        rw [← e]
        exact mem_srt.mpr (mem_T.mpr ⟨k, hk, rfl⟩)
      exact (T_mem h lt (g.lt k hk)).mp this
theorem T_len (l F : List Nat) : (T l F).length = F.length := List.length_map ..
theorem range_good (N : Nat) : Good N (List.range N) := ⟨List.nodup_range, fun _ h => List.mem_range.mp h⟩
theorem law_lots0 (l : List Nat) (hl : l.length ≤ 7) : m__law_bags (S l, ()) = some (srt ((subs l).map S)) := by
  show runF _ _ = _
  simp only [runF, runU, sseq, Fl.bnd, sret, sset, sif, sex, snever, sfor, f1, f2, fv, fc, fif, fand, foor, fnot, fcons, fnil, fch, lcons, lnil, flc, gz, gs, pz, ps, ic, ia, i0, snil, wid, wn, wk, wa, Option.bind_some, Option.map_some, Option.map_map, Function.comp_def, fyes, Option.bind_assoc]
  simp only [short, List.length_cons, List.length_nil]
  rw [if_pos (by omega)]
  simp only [Option.bind_some, Option.map_some, Option.bind_assoc, signs_S]
  refine forL_then (fun xs γ => ∃ (l' : List Nat) (acc : List (List Nat)), xs = (l'.map fun c => S [c]) ∧ γ = (S l, acc.map S, (⟨⟩ : Any), (⟨⟩ : Any), ()) ∧ l'.foldl grow acc = subs l ∧ acc.length * 2 ^ l'.length ≤ 128 ∧ ∀ s ∈ acc, s.length + l'.length ≤ 7) ⟨l, [[]], rfl, rfl, rfl, ?_, ?_⟩ ?_ ?_
  · have : 2 ^ l.length ≤ 2 ^ 7 := Nat.pow_le_pow_right (by decide) hl
    simpa using this
  · intro s hs
    cases List.mem_singleton.mp hs
    simpa using hl
  · rintro x xs γ ⟨l', acc, h1, rfl, h3, h4, h5⟩
    cases l' with
    | nil => cases h1
    | cons c r =>
      cases h1
      have h6 : acc.length * 2 ^ r.length * 2 ≤ 128 := by
        rw [List.length_cons, Nat.pow_succ, ← Nat.mul_assoc] at h4
        exact h4
      have h7 : acc.length ≤ 128 := by
        have : 0 < 2 ^ r.length := Nat.two_pow_pos _
        have := Nat.le_mul_of_pos_right acc.length this
        omega
      refine ⟨_, ?_, r, grow acc c, rfl, rfl, h3, ?_, ?_⟩
      · simp only [List.length_map]
        rw [if_pos (by omega), lcGo_of (T := fun _ => true) (E := fun s => s ++ S [c])]
        · simp only [Option.bind_some, lCat, List.length_map, filt_true]
          rw [if_pos (by omega)]
          simp only [Option.map_some, Option.bind_some]
          unfold grow
          rw [List.map_append, List.map_map, List.map_map]
          have e : ((fun s => s ++ S [c]) ∘ S) = (S ∘ fun x => x ++ [c]) := by
            funext z
            exact S_add z [c]
          rw [e]
        · intro s _
          rfl
        · intro s hs _
          obtain ⟨z, hz, rfl⟩ := List.mem_map.mp hs
          have := h5 z hz
          unfold sAdd
          rw [if_pos (by simp only [len_S, List.length_cons, List.length_nil] at this ⊢; omega)]
      · unfold grow
        rw [List.length_append, List.length_map, ← Nat.two_mul, Nat.mul_assoc, Nat.mul_comm 2]
        exact h6
      · intro s hs
        unfold grow at hs
        rcases List.mem_append.mp hs with h | h
        · have := h5 s h
          rw [List.length_cons] at this
          omega
        · obtain ⟨z, hz, rfl⟩ := List.mem_map.mp h
          have := h5 z hz
          rw [List.length_cons] at this
          rw [List.length_append, List.length_singleton]
          omega
  · rintro γ' ⟨l', acc, h1, rfl, h3, h4, h5⟩
    have : l' = [] := by
      cases l' with
      | nil => rfl
      | cons => cases h1
    subst this
    have h9 : acc.length ≤ 128 := by simpa using h4
    have e9 : srtL (acc.map S, ()) = some (srt (acc.map S)) := by
      unfold srtL
      rw [if_pos (by rw [List.length_map]; omega)]
    simp only [e9, Option.map_some, Option.bind_some]
    rw [← h3]
    rfl
theorem law_lots_S {l : List Nat} (h : Lets l) : m__law_bags (S l, ()) = some (srt (T l (List.range (2 ^ l.length)))) := by
  rw [law_lots0 l h.n, subs_sel _ l rfl h.nd, List.map_map]
  rfl
theorem mem_fold {f : Nat → Nat} {k : Nat} : ∀ (q a : List Nat), k ∈ q.foldl (fun acc o => addK acc (f o)) a ↔ k ∈ a ∨ ∃ o ∈ q, k = f o
  | [], a => by simp
  | o :: q, a => by
    rw [List.foldl_cons, mem_fold q, mem_addK]
    simp only [List.mem_cons]
    constructor
    · rintro ((h | h) | ⟨x, hx, e⟩)
      · exact .inl h
      · exact .inr ⟨o, .inl rfl, h⟩
      · exact .inr ⟨x, .inr hx, e⟩
    · rintro (h | ⟨x, hx | hx, e⟩)
      · exact .inl (.inl h)
      · subst hx
        exact .inl (.inr e)
      · exact .inr ⟨x, hx, e⟩
theorem mem_step {op : Nat → Nat → Nat} {ks : List Nat} {n k : Nat} : k ∈ step op ks n ↔ k ∈ ks ∨ ∃ o ∈ ks, k = op n o := mem_fold ks ks
theorem fold_good {N : Nat} {f : Nat → Nat} : ∀ (q a : List Nat), Good N a → (∀ o ∈ q, f o < N) → Good N (q.foldl (fun acc o => addK acc (f o)) a)
  | [], a, g, _ => g
  | o :: q, a, g, h => fold_good q _ (addK_good g (h o List.mem_cons_self)) fun x hx => h x (List.mem_cons_of_mem _ hx)
theorem step_good {N : Nat} {op : Nat → Nat → Nat} {ks : List Nat} {n : Nat} (g : Good N ks) (h : ∀ o ∈ ks, op n o < N) : Good N (step op ks n) := fold_good ks ks g h
def cm (l : List Nat) (k : Nat) : Nat := 2 ^ l.length - (k + 1)
theorem cm_bit (l : List Nat) {k : Nat} (hk : k < 2 ^ l.length) (i : Nat) : (cm l k).testBit i = (decide (i < l.length) && !k.testBit i) := Nat.testBit_two_pow_sub_succ hk i
theorem cm_lt (l : List Nat) (k : Nat) : cm l k < 2 ^ l.length := by
  have := Nat.two_pow_pos l.length
  unfold cm
  omega
theorem sel_cm (l : List Nat) {k : Nat} (hk : k < 2 ^ l.length) : l.filter (fun c => !decide (c ∈ sel l k)) = sel l (cm l k) := by
  unfold sel
  apply List.filter_congr
  intro c hc
  rw [cm_bit l hk, decide_eq_true (List.idxOf_lt_length_of_mem hc)]
  have : (decide (c ∈ List.filter (fun c => k.testBit (List.idxOf c l)) l)) = k.testBit (l.idxOf c) := by
    rw [Bool.eq_iff_iff, decide_eq_true_eq, List.mem_filter]
    simp [hc]
  rw [this]
  rfl
theorem sel_full (l : List Nat) : sel l (2 ^ l.length - 1) = l := by
  have h0 : 0 < 2 ^ l.length := Nat.two_pow_pos _
  have := sel_cm l h0
  unfold cm at this
  rw [Nat.zero_add] at this
  rw [← this]
  have e : sel l 0 = [] := by simp [sel]
  rw [e]
  simp
theorem law_inside_T {l : List Nat} (h : Lets l) {i : Nat} (hi : i < 2 ^ l.length) (j : Nat) : m__law_in (S (sel l i), S (sel l j), ()) = some (decide (i &&& j = i)) := by
  rw [inside_S _ _ (by have := sel_len l i; have := h.n; omega)]
  congr 1
  rw [decide_eq_decide]
  exact sel_sub h.nd hi
theorem lcGo_T {l : List Nat} (h : Lets l) {α : Type} {t : Str → Option Bool} {e : Str → Option α} {P : Nat → Bool} {E : Nat → α} : ∀ {F : List Nat}, (∀ k ∈ F, t (S (sel l k)) = some (P k)) → (∀ k ∈ F, P k = true → e (S (sel l k)) = some (E k)) → lcGo t e (T l F) = some ((F.filter P).map E)
  | [], _, _ => rfl
  | k :: F, h1, h2 => by
    show lcGo t e (S (sel l k) :: T l F) = _
    unfold lcGo
    rw [h1 k List.mem_cons_self, Option.bind_some, lcGo_T h (fun j hj => h1 j (List.mem_cons_of_mem _ hj)) (fun j hj => h2 j (List.mem_cons_of_mem _ hj))]
    cases hP : P k with
    | true => simp [h2 k List.mem_cons_self hP, hP]
    | false => simp [hP]
theorem le_bits {a b : Nat} : a &&& b = a ↔ ∀ i, a.testBit i = true → b.testBit i = true := by
  constructor
  · intro h i hi
    rw [← h, Nat.testBit_and, Bool.and_eq_true] at hi
    exact hi.2
  · intro h
    apply Nat.eq_of_testBit_eq
    intro i
    rw [Nat.testBit_and]
    cases ha : a.testBit i with
    | false => rfl
    | true => rw [h i ha]; rfl
theorem le_trans' {a b c : Nat} (h : a &&& b = a) (k : b &&& c = b) : a &&& c = a := le_bits.mpr fun i hi => le_bits.mp k i (le_bits.mp h i hi)
theorem le_anti {a b : Nat} (h : a &&& b = a) (k : b &&& a = b) : a = b := by
  rw [← h, Nat.and_comm]
  exact k
theorem mem_least {F : List Nat} {k : Nat} : k ∈ least F ↔ k ∈ F ∧ ∀ p ∈ F, p &&& k = p → p = k := by
  unfold least
  rw [List.mem_filter]
  simp only [Bool.not_eq_true', List.any_eq_false, Bool.and_eq_true, decide_eq_true_eq, not_and]
  constructor
  · rintro ⟨h1, h2⟩
    exact ⟨h1, fun p hp e => Decidable.byContradiction fun n => h2 p hp n e⟩
  · rintro ⟨h1, h2⟩
    exact ⟨h1, fun p hp n e => n (h2 p hp e)⟩
theorem ex_least {F : List Nat} : ∀ (n k : Nat), k ≤ n → k ∈ F → ∃ d ∈ least F, d &&& k = d
  | n, k, hn, hk => by
    by_cases h : k ∈ least F
    · exact ⟨k, h, Nat.and_self k⟩
    · have : ∃ p ∈ F, p &&& k = p ∧ p ≠ k := by
        apply Decidable.byContradiction
        intro z
        apply h
        refine mem_least.mpr ⟨hk, fun p hp e => Decidable.byContradiction fun q => z ⟨p, hp, e, q⟩⟩
      obtain ⟨p, hp, e, q⟩ := this
      have hle : p ≤ k := by
        rw [← e]
        exact Nat.and_le_right
      cases n with
      | zero => exact absurd (show p = k by omega) q
      | succ n =>
        obtain ⟨d, hd, e2⟩ := ex_least n p (by omega) hp
        exact ⟨d, hd, le_trans' e2 e⟩
theorem mem_walk {op : Nat → Nat → Nat} {x : Nat} : ∀ (F A : List Nat), x ∈ F.foldl (step op) A ↔ ∃ a ∈ A, ∃ G : List Nat, G.Sublist F ∧ x = G.foldl (fun z n => op n z) a
  | [], A => by
    constructor
    · intro h
      exact ⟨x, h, [], List.Sublist.refl _, rfl⟩
    · rintro ⟨a, ha, G, hG, e⟩
      cases hG
      rw [e]
      exact ha
  | n :: F, A => by
    rw [List.foldl_cons, mem_walk F]
    constructor
    · rintro ⟨a, ha, G, hG, e⟩
      rcases mem_step.mp ha with h | ⟨o, ho, rfl⟩
      · exact ⟨a, h, G, hG.cons _, e⟩
      · exact ⟨o, ho, n :: G, hG.cons_cons _, e⟩
    · rintro ⟨a, ha, G, hG, e⟩
      cases hG with
      | cons _ h => exact ⟨a, mem_step.mpr (.inl ha), _, h, e⟩
      | cons_cons _ h => exact ⟨op n a, mem_step.mpr (.inr ⟨a, ha, rfl⟩), _, h, e⟩
theorem and_full {l : List Nat} {k : Nat} (hk : k < 2 ^ l.length) : k &&& (2 ^ l.length - 1) = k := by
  rw [Nat.and_two_pow_sub_one_eq_mod]
  exact Nat.mod_eq_of_lt hk
def Shut (M : List Nat) : Prop := ∀ x ∈ M, ∀ y ∈ M, x &&& y ∈ M
theorem shut_step {M : List Nat} (h : Shut M) (n : Nat) : Shut (step (· &&& ·) M n) := by
  intro x hx y hy
  rcases mem_step.mp hx with a | ⟨a, ha, rfl⟩ <;> rcases mem_step.mp hy with b | ⟨b, hb, rfl⟩
  · exact mem_step.mpr (.inl (h x a y b))
  · refine mem_step.mpr (.inr ⟨x &&& b, h x a b hb, ?_⟩)
    show x &&& (n &&& b) = n &&& (x &&& b)
    rw [← Nat.and_assoc, ← Nat.and_assoc, Nat.and_comm x n]
  · refine mem_step.mpr (.inr ⟨a &&& y, h a ha y b, ?_⟩)
    show (n &&& a) &&& y = n &&& (a &&& y)
    rw [Nat.and_assoc]
  · refine mem_step.mpr (.inr ⟨a &&& b, h a ha b hb, ?_⟩)
    show (n &&& a) &&& (n &&& b) = n &&& (a &&& b)
    apply Nat.eq_of_testBit_eq
    intro i
    simp only [Nat.testBit_and]
    cases n.testBit i <;> cases a.testBit i <;> cases b.testBit i <;> rfl
theorem shut_walk : ∀ (F M : List Nat), Shut M → Shut (F.foldl (step (· &&& ·)) M)
  | [], M, h => h
  | n :: F, M, h => shut_walk F _ (shut_step h n)
theorem walk_mem {op : Nat → Nat → Nat} {x : Nat} : ∀ (F M : List Nat), x ∈ M → x ∈ F.foldl (step op) M
  | [], M, h => h
  | n :: F, M, h => walk_mem F _ (mem_step.mpr (.inl h))
theorem walk_good {N : Nat} {op : Nat → Nat → Nat} (h : ∀ n o, n < N → o < N → op n o < N) : ∀ (F M : List Nat), (∀ k ∈ F, k < N) → Good N M → Good N (F.foldl (step op) M)
  | [], M, _, g => g
  | n :: F, M, hF, g => walk_good h F _ (fun k hk => hF k (List.mem_cons_of_mem _ hk)) (step_good g fun o ho => h n o (hF n List.mem_cons_self) (g.lt o ho))
theorem meet_meet {l : List Nat} {A : List Nat} (lt : ∀ k ∈ A, k < 2 ^ l.length) (w : 2 ^ l.length - 1 ∈ A) (s : Shut A) (k : Nat) : k ∈ A.foldl (step (· &&& ·)) [2 ^ l.length - 1] ↔ k ∈ A := by
  rw [mem_walk]
  constructor
  · rintro ⟨a, ha, G, hG, e⟩
    have ha' : a ∈ A := by
      rw [List.mem_singleton.mp ha]
      exact w
    have key : ∀ (G : List Nat) (a : Nat), (∀ g ∈ G, g ∈ A) → a ∈ A → G.foldl (fun z n => n &&& z) a ∈ A := by
      intro G
      induction G with
      | nil => intro a _ h; exact h
      | cons g G ih => exact fun a h1 h2 => ih _ (fun x hx => h1 x (List.mem_cons_of_mem _ hx)) (s g (h1 g List.mem_cons_self) a h2)
    rw [e]
    exact key G a (fun g hg => hG.subset hg) ha'
  · intro hk
    exact ⟨_, List.mem_singleton.mpr rfl, [k], List.singleton_sublist.mpr hk, (and_full (lt k hk)).symm⟩
structure Sys (l C : List Nat) : Prop extends Fam l C where
  full : 2 ^ l.length - 1 ∈ C
  shut : Shut C
theorem fam_good {l F : List Nat} (f : Fam l F) : Good (2 ^ l.length) F := ⟨nd_of_map (f := fun k => S (sel l k)) (f.asc.imp fun h e => by rw [e] at h; exact List.lt_irrefl _ h), f.lt⟩
theorem fam_srt {l F : List Nat} (f : Fam l F) : srt (T l F) = T l F := srt_id (f.asc.imp fun h => decide_eq_true (List.le_of_lt h))
theorem meets_sys {l C : List Nat} (h : Lets l) (s : Sys l C) : srt (T l (C.foldl (step (· &&& ·)) [2 ^ l.length - 1])) = T l C := by
  have N1 : 0 < 2 ^ l.length := Nat.two_pow_pos _
  have g : Good (2 ^ l.length) (C.foldl (step (· &&& ·)) [2 ^ l.length - 1]) := walk_good (fun n o h1 h2 => Nat.and_lt_two_pow _ h2) C _ s.lt ⟨by simp, by simp; omega⟩
  rw [T_ext h g (fam_good s.toFam) (meet_meet s.lt s.full s.shut), fam_srt s.toFam]
theorem is_system_S {l C : List Nat} (h : Lets l) (s : Sys l C) : m_is_system (S l, ⟨T l C⟩, ()) = some true := by
  show runF _ _ = _
  simp only [runF, runU, sseq, Fl.bnd, sret, sset, sif, sex, snever, sfor, snewD, sdput, fkeys, dz, ds, pdz, pds, f1, f2, fv, fc, fif, fand, foor, fnot, fcons, fnil, fch, lcons, lnil, flc, gz, gs, pz, ps, ic, ia, i0, snil, wid, wn, wk, wa, Option.bind_some, Option.map_some, Option.map_map, Function.comp_def, fyes, Option.bind_assoc]
  simp only [first_wrong_S h s.toFam, meets_of_S h C s.lt s.n, Option.bind_some, isN, meets_sys h s, dEq]
  simp
theorem chk_closed_S {l C : List Nat} (h : Lets l) (s : Sys l C) : m_check_closed (S l, ⟨T l C⟩, ()) = some () := by
  show runU _ _ = _
  simp only [runF, runU, sseq, Fl.bnd, sret, sset, sif, sex, snever, sfor, snewD, sdput, fkeys, dz, ds, pdz, pds, f1, f2, fv, fc, fif, fand, foor, fnot, fcons, fnil, fch, lcons, lnil, flc, gz, gs, pz, ps, ic, ia, i0, snil, wid, wn, wk, wa, Option.bind_some, Option.map_some, Option.map_map, Function.comp_def, fyes, Option.bind_assoc]
  simp [first_wrong_S h s.toFam, is_system_S h s, notN]
def ar (l C : List Nat) (k : Nat) : Nat := (C.filter fun m => decide (k &&& m = k)).foldl (fun z m => z &&& m) (2 ^ l.length - 1)
theorem fold_bit (i : Nat) : ∀ (G : List Nat) (z : Nat), (G.foldl (fun z m => z &&& m) z).testBit i = (z.testBit i && G.all fun m => m.testBit i)
  | [], z => by simp
  | m :: G, z => by
    rw [List.foldl_cons, fold_bit i G, Nat.testBit_and, List.all_cons, Bool.and_assoc]
theorem fold_mem {C : List Nat} (s : Shut C) : ∀ (G : List Nat) (z : Nat), z ∈ C → (∀ m ∈ G, m ∈ C) → G.foldl (fun z m => z &&& m) z ∈ C
  | [], z, hz, _ => hz
  | m :: G, z, hz, hG => fold_mem s G _ (s _ hz _ (hG m List.mem_cons_self)) fun x hx => hG x (List.mem_cons_of_mem _ hx)
theorem ar_mem {l C : List Nat} (s : Sys l C) (k : Nat) : ar l C k ∈ C := fold_mem s.shut _ _ s.full fun m hm => (List.mem_filter.mp hm).1
theorem ar_lt {l C : List Nat} (s : Sys l C) (k : Nat) : ar l C k < 2 ^ l.length := s.lt _ (ar_mem s k)
theorem ar_up {l C : List Nat} {k : Nat} (hk : k < 2 ^ l.length) : k &&& ar l C k = k := le_bits.mpr fun i hi => by
  unfold ar
  rw [fold_bit, Bool.and_eq_true]
  refine ⟨le_bits.mp (and_full hk) i hi, List.all_eq_true.mpr fun m hm => le_bits.mp (of_decide_eq_true (List.mem_filter.mp hm).2) i hi⟩
theorem ar_le {l C : List Nat} {k m : Nat} (hm : m ∈ C) (h : k &&& m = k) : ar l C k &&& m = ar l C k := le_bits.mpr fun i hi => by
  unfold ar at hi
  rw [fold_bit, Bool.and_eq_true] at hi
  exact List.all_eq_true.mp hi.2 m (List.mem_filter.mpr ⟨hm, decide_eq_true h⟩)
theorem ar_mono {l C : List Nat} (s : Sys l C) {j k : Nat} (hk : k < 2 ^ l.length) (h : j &&& k = j) : ar l C j &&& ar l C k = ar l C j := ar_le (ar_mem s k) (le_trans' h (ar_up hk))
theorem ar_fix {l C : List Nat} (s : Sys l C) {k : Nat} (hk : k < 2 ^ l.length) : ar l C k = k ↔ k ∈ C := by
  constructor
  · intro e
    rw [← e]
    exact ar_mem s k
  · intro hm
    exact le_anti (ar_le hm (by simp)) (ar_up hk)
theorem filt_len {l : List Nat} {P Q : Nat → Bool} (h : ∀ c ∈ l, P c = true → Q c = true) : (l.filter P).length ≤ (l.filter Q).length ∧ ((l.filter P).length = (l.filter Q).length → l.filter P = l.filter Q) := by
  induction l with
  | nil => simp
  | cons c l ih =>
    obtain ⟨i1, i2⟩ := ih fun d hd => h d (List.mem_cons_of_mem _ hd)
    have hc := h c List.mem_cons_self
    cases hp : P c <;> cases hq : Q c
    · simp [hp, hq, i1]
      exact i2
    · simp only [List.filter_cons, hp, hq, Bool.false_eq_true, if_false, if_true, List.length_cons]
      exact ⟨by omega, fun e => by omega⟩
    · rw [hc hp] at hq
      cases hq
    · simp only [List.filter_cons, hp, hq, if_true, List.length_cons]
      exact ⟨by omega, fun e => by rw [i2 (by omega)]⟩
theorem sel_le_len {l : List Nat} (nd : l.Nodup) {i j : Nat} (h : i &&& j = i) : (sel l i).length ≤ (sel l j).length ∧ ((sel l i).length = (sel l j).length → sel l i = sel l j) :=
  filt_len fun c hc hi => le_bits.mp h _ hi
theorem whl_find {Γ S ρ : Type} {c : Γ → Option Bool} {f : Γ → Option (Fl Γ S ρ)} (st : Nat → Γ) (j : Nat) (hc : ∀ i, i < j → c (st i) = some true) (hf : ∀ i, i < j → f (st i) = some (.nx (st (i + 1)))) (he : c (st j) = some false) : ∀ (n i : Nat), i ≤ j → j - i < n → whl n c f (st i) = some (.nx (st j))
  | 0, i, _, h => by omega
  | n + 1, i, hi, h => by
    unfold whl
    by_cases e : i = j
    · subst e
      rw [he]
      rfl
    · rw [hc i (by omega), Option.bind_some, if_pos rfl, hf i (by omega), Option.bind_some]
      exact whl_find st j hc hf he n (i + 1) (by omega) (by omega)
theorem first_around_S {b : List Nat} (hb : b.length ≤ 1000) (pre : List (List Nat)) (m : List Nat) (post : List (List Nat)) (h1 : ∀ x ∈ pre, ¬ ∀ c ∈ b, c ∈ x) (h2 : ∀ c ∈ b, c ∈ m) (hn : pre.length < 900) : m_first_around ((pre ++ m :: post).map S, S b, ()) = some (S m) := by
  show runF _ _ = _
  simp only [runF, runU, sseq, Fl.bnd, sret, sset, sif, sex, snever, sfor, snewD, sdput, fkeys, dz, ds, pdz, pds, f1, f2, fv, fc, fif, fand, foor, fnot, fcons, fnil, fch, lcons, lnil, flc, gz, gs, pz, ps, ic, ia, i0, snil, wid, wn, wk, wa, Option.bind_some, Option.map_some, Option.map_map, Function.comp_def, fyes, Option.bind_assoc]
  unfold swhl
  simp only [lenS]
  have ix : ∀ i : Nat, i < (pre ++ m :: post).length → lIx ((pre ++ m :: post).map S) (i : Int) = some (S ((pre ++ m :: post).getD i [])) := by
    intro i hi
    unfold lIx
    apply atI_nat
    rw [List.getElem?_map, List.getD_eq_getElem?_getD, List.getElem?_eq_getElem hi]
    rfl
  have e0 : (((pre ++ m :: post).map S, S b, (0 : Int), ()) : List Str × Str × Int × Unit) = (fun i : Nat => ((pre ++ m :: post).map S, S b, (i : Int), ())) 0 := rfl
  rw [e0, whl_find (fun i : Nat => (((pre ++ m :: post).map S, S b, (i : Int), ()) : List Str × Str × Int × Unit)) pre.length ?_ ?_ ?_ 1000 0 (Nat.zero_le _) (by omega)]
  · simp only [Option.bind_some]
    rw [ix pre.length (by simp)]
    simp
    try rfl
  · intro i hi
    simp only [fnot, f1, f2, fv, fcons, fnil, Option.bind_some]
    rw [ix i (by simp; omega)]
    simp only [Option.bind_some]
    rw [has_all_S _ _ hb]
    have hm : (pre ++ m :: post).getD i [] ∈ pre := by
      rw [List.getD_eq_getElem?_getD, List.getElem?_append_left hi, List.getElem?_eq_getElem hi]
      exact List.getElem_mem hi
    rw [decide_eq_false (h1 _ hm)]
    rfl
  · intro i hi
    simp only [runF, runU, sseq, Fl.bnd, sret, sset, sif, sex, snever, sfor, snewD, sdput, fkeys, dz, ds, pdz, pds, f1, f2, fv, fc, fif, fand, foor, fnot, fcons, fnil, fch, lcons, lnil, flc, gz, gs, pz, ps, ic, ia, i0, snil, wid, wn, wk, wa, Option.bind_some, Option.map_some, Option.map_map, Function.comp_def, fyes, Option.bind_assoc]
    simp only [saug, fc, Option.map_some, Option.bind_some]
    try rfl
  · simp only [fnot, f1, f2, fv, fcons, fnil, Option.bind_some]
    rw [ix pre.length (by simp)]
    simp only [Option.bind_some]
    rw [has_all_S _ _ hb]
    have hm : (pre ++ m :: post).getD pre.length [] = m := by simp
    rw [hm]
    simp [h2]
    exact h2
theorem around_first {l C : List Nat} (h : Lets l) (s : Sys l C) {k : Nat} (hk : k < 2 ^ l.length) : m_first_around (srtK (T l C), S (sel l k), ()) = some (S (sel l (ar l C k))) := by
  have hp : (srtK (T l C)).Perm (T l C) := List.mergeSort_perm _ _
  obtain ⟨A, eA, lA⟩ := T_back (l := l) (ys := srtK (T l C)) fun t ht => by
    obtain ⟨k, hk, q⟩ := mem_T.mp (hp.mem_iff.mp ht)
    exact ⟨k, s.lt k hk, q⟩
  have nd : (T l A).Nodup := by
    rw [← eA]
    exact hp.nodup_iff.mpr (T_nd h (fam_good s.toFam).nd s.lt)
  have mA : ∀ k, k < 2 ^ l.length → (k ∈ A ↔ k ∈ C) := fun k hk => by
    rw [← T_mem h lA hk, ← T_mem h s.lt hk, ← eA]
    exact hp.mem_iff
  have pw : (T l A).Pairwise fun a b => leL a b = true := by
    rw [← eA]
    refine List.pairwise_mergeSort (le := leL) ?_ ?_ _
    · intro a b c h1 h2
      have h1 := of_decide_eq_true h1
      have h2 := of_decide_eq_true h2
      exact decide_eq_true (by omega)
    · intro a b
      rw [Bool.or_eq_true]
      rcases Int.le_total (a.length : Int) (b.length : Int) with h | h
      · exact .inl (decide_eq_true h)
      · exact .inr (decide_eq_true h)
  obtain ⟨A1, A2, e⟩ := List.append_of_mem ((mA _ (ar_lt s k)).mpr (ar_mem s k))
  have lenA : A.length = C.length := by
    have := hp.length_eq
    rw [eA, T_len, T_len] at this
    exact this
  have hn := (fam_good s.toFam).len
  have N7 := p7 h
  rw [eA]
  have eT : T l A = (A1.map (sel l) ++ sel l (ar l C k) :: A2.map (sel l)).map S := by
    rw [e]
    simp [T, Function.comp_def]
  rw [eT]
  refine first_around_S (by have := sel_len l k; have := h.n; omega) _ _ _ ?_ ((sel_sub h.nd hk).mpr (ar_up hk)) ?_
  · intro x hx hs
    obtain ⟨p, hp1, rfl⟩ := List.mem_map.mp hx
    have pA : p ∈ A := by rw [e]; exact List.mem_append_left _ hp1
    have hp3 := (sel_sub h.nd hk).mp hs
    have hle := ar_le (l := l) ((mA p (lA p pA)).mp pA) hp3
    obtain ⟨l1, l2⟩ := sel_le_len h.nd hle
    rw [e] at pw nd
    unfold T at pw nd
    rw [List.map_append, List.map_cons] at pw nd
    have q1 := (List.pairwise_append.mp pw).2.2 (S (sel l p)) (List.mem_map_of_mem hp1) (S (sel l (ar l C k))) List.mem_cons_self
    have q1 := of_decide_eq_true q1
    rw [len_S, len_S] at q1
    have q2 := l2 (by omega)
    have q3 := (List.nodup_append.mp nd).2.2 (S (sel l p)) (List.mem_map_of_mem hp1) (S (sel l (ar l C k))) List.mem_cons_self
    exact q3 (by rw [q2])
  · rw [List.length_map]
    have : A.length = A1.length + (A2.length + 1) := by rw [e, List.length_append, List.length_cons]
    omega
theorem lots_around_S {l C : List Nat} (h : Lets l) (s : Sys l C) : m_lots_around (S l, ⟨T l C⟩, ()) = some ⟨(List.range (2 ^ l.length)).map fun k => ((Sum.inr (S (sel l k)) : Key), S (sel l (ar l C k)))⟩ := by
  show runF _ _ = _
  simp only [runF, runU, sseq, Fl.bnd, sret, sset, sif, sex, snever, sfor, snewD, sdput, fkeys, dz, ds, pdz, pds, f1, f2, fv, fc, fif, fand, foor, fnot, fcons, fnil, fch, lcons, lnil, flc, gz, gs, pz, ps, ic, ia, i0, snil, wid, wn, wk, wa, Option.bind_some, Option.map_some, Option.map_map, Function.comp_def, fyes, Option.bind_assoc]
  simp only [lots_S h, Option.bind_some, sortK]
  have hn := s.n
  have N7 := p7 h
  rw [if_pos ⟨by rw [T_len]; omega, fun x hx => by
    obtain ⟨k, hk, rfl⟩ := mem_T.mp hx
    have := sel_len l k
    have := h.n
    rw [len_S]
    omega⟩]
  simp only [Option.map_some, Option.bind_some, fdc1, f1, fv, fcons, fnil, lots_S h, List.length_map, List.length_range]
  rw [if_pos (by omega), dcGo_new (kx := fun x => x) (vx := fun x => (m_first_around (srtK (T l C), x, ())).getD x)]
  · simp only [List.nil_append, List.map_map, Option.map_some, Option.bind_some]
    congr 2
    apply List.map_congr_left
    intro k hk
    have hk := List.mem_range.mp hk
    simp only [Function.comp_apply]
    rw [around_first h s hk]
    rfl
  · intro x hx
    obtain ⟨k, hk, rfl⟩ := List.mem_map.mp hx
    rw [around_first h s (List.mem_range.mp hk)]
    exact ⟨rfl, rfl⟩
  · rw [List.map_map]
    apply nodup_map List.nodup_range
    intro i hi j hj e
    have e2 : S (sel l i) = S (sel l j) := Sum.inr.inj e
    exact sel_inj h.nd (List.mem_range.mp hi) (List.mem_range.mp hj) (S_inj.mp e2)
  · intro x _ q hq
    cases hq
def arD (l C : List Nat) : List (Key × Str) := (List.range (2 ^ l.length)).map fun k => ((Sum.inr (S (sel l k)) : Key), S (sel l (ar l C k)))
def clo (l C : List Nat) : Clo := ⟨S l, ⟨T l C⟩, arD l C⟩
theorem make_S {l C : List Nat} (h : Lets l) (s : Sys l C) : m_Closer___init__ (S l, ⟨T l C⟩, ()) = some (clo l C) := by
  show runI _ _ = _
  unfold runI
  simp only [sseq, sex, sf1, sf2, sf3, snil, Fl.bnd, f1, fv, fcons, fnil, gs, gz, wid, ic, i0, Option.bind_some, Option.map_some, chk_things_S l h.w h.n h.p, chk_closed_S h s, lots_around_S h s]
  rfl
theorem things_S (l C : List Nat) : m_Closer_things (clo l C, ()) = some (S l) := rfl
theorem val_arD {l C : List Nat} (h : Lets l) {k : Nat} (hk : k < 2 ^ l.length) : valB (arD l C) (Sum.inr (S (sel l k))) = some (S (sel l (ar l C k))) := by
  unfold valB arD
  rw [List.find?_map]
  have e : List.find? ((fun kv : Key × Str => decide (kv.1 = Sum.inr (S (sel l k)))) ∘ fun (k : Nat) => ((Sum.inr (S (sel l k)) : Key), S (sel l (ar l C k)))) (List.range (2 ^ l.length)) = some k := by
    rw [List.find?_range_eq_some]
    refine ⟨by simp, List.mem_range.mpr hk, fun j hj => ?_⟩
    simp only [Function.comp_apply, Bool.not_eq_true', decide_eq_false_iff_not]
    intro z
    have := sel_inj h.nd (by omega) hk (S_inj.mp (Sum.inr.inj z))
    omega
  rw [e]
  rfl
theorem lot_ok {l : List Nat} (h : Lets l) (k : Nat) : m_is_lot (S l, S (sel l k), ()) = some true := is_lot_S l _ (sel_word h k) (sel_in l k) (by have := sel_len l k; have := h.n; omega)
theorem around_S {l C : List Nat} (h : Lets l) {k : Nat} (hk : k < 2 ^ l.length) : m_Closer_around (clo l C, S (sel l k), ()) = some (S (sel l (ar l C k))) := by
  show runF _ _ = _
  simp only [runF, runU, sseq, Fl.bnd, sret, sset, sif, sex, snever, sfor, f1, f2, fv, fc, fif, fand, foor, fnot, fcons, fnil, fch, lcons, lnil, flc, gz, gs, pz, ps, ic, ia, i0, snil, wid, wn, wk, wa, Option.bind_some, Option.map_some, Option.map_map, Function.comp_def, fyes, Option.bind_assoc]
  simp only [clo, chk_lot_S l _ (sel_word h k) (sel_in l k) (show (sel l k).length ≤ 1000 by have := sel_len l k; have := h.n; omega), Option.bind_some, Option.map_some, dget]
  rw [show (KeyOf.key (S (sel l k)) : Key) = Sum.inr (S (sel l k)) from rfl, val_arD h hk]
  rfl
def rul (l : List Nat) (i j : Nat) : T2 Str Str := ⟨S (sel l i), S (sel l j)⟩
theorem has_all_T {l : List Nat} (h : Lets l) (i : Nat) {j : Nat} (hj : j < 2 ^ l.length) : m_has_all (S (sel l i), S (sel l j), ()) = some (decide (j &&& i = j)) := by
  rw [has_all_S _ _ (by have := sel_len l j; have := h.n; omega)]
  congr 1
  exact decide_eq_decide.mpr (sel_sub h.nd hj)
theorem is_rule_S {l : List Nat} (h : Lets l) (i j : Nat) : m_is_rule (S l, rul l i j, ()) = some true := by
  show runF _ _ = _
  simp only [runF, runU, sseq, Fl.bnd, sret, sset, sif, sex, snever, sfor, f1, f2, fv, fc, fif, fand, foor, fnot, fcons, fnil, fch, lcons, lnil, flc, gz, gs, pz, ps, ic, ia, i0, snil, wid, wn, wk, wa, Option.bind_some, Option.map_some, Option.map_map, Function.comp_def, fyes, Option.bind_assoc]
  simp [rul, len2, sEq, ix0, ix1, lot_ok h]
theorem keeps_S {l : List Nat} (h : Lets l) (k : Nat) {i j : Nat} (hi : i < 2 ^ l.length) (hj : j < 2 ^ l.length) : m_keeps (S (sel l k), rul l i j, ()) = some (!decide (i &&& k = i) || decide (j &&& k = j)) := by
  show runF _ _ = _
  simp only [runF, runU, sseq, Fl.bnd, sret, sset, sif, sex, snever, sfor, f1, f2, fv, fc, fif, fand, foor, fnot, fcons, fnil, fch, lcons, lnil, flc, gz, gs, pz, ps, ic, ia, i0, snil, wid, wn, wk, wa, Option.bind_some, Option.map_some, Option.map_map, Function.comp_def, fyes, Option.bind_assoc]
  simp only [sunp, fv, rul, Function.comp_apply, Option.map_some, Option.bind_some, has_all_T h k hi, has_all_T h k hj]
  by_cases h1 : i &&& k = i <;> simp [h1]
theorem chk_closer_S (l C : List Nat) : m_check_closer (clo l C, ()) = some () := rfl
theorem chk_rule_S {l : List Nat} (h : Lets l) (i j : Nat) : m_check_rule (S l, rul l i j, ()) = some () := by
  show runU _ _ = _
  simp only [runF, runU, sseq, Fl.bnd, sret, sset, sif, sex, snever, sfor, f1, f2, fv, fc, fif, fand, foor, fnot, fcons, fnil, fch, lcons, lnil, flc, gz, gs, pz, ps, ic, ia, i0, snil, wid, wn, wk, wa, Option.bind_some, Option.map_some, Option.map_map, Function.comp_def, fyes, Option.bind_assoc]
  simp [is_rule_S h]
theorem holds_S {l C : List Nat} (h : Lets l) (s : Sys l C) {i j : Nat} (hi : i < 2 ^ l.length) (hj : j < 2 ^ l.length) : m_holds (clo l C, rul l i j, ()) = some (decide (j &&& ar l C i = j)) := by
  show runF _ _ = _
  simp only [runF, runU, sseq, Fl.bnd, sret, sset, sif, sex, snever, sfor, f1, f2, fv, fc, fif, fand, foor, fnot, fcons, fnil, fch, lcons, lnil, flc, gz, gs, pz, ps, ic, ia, i0, snil, wid, wn, wk, wa, Option.bind_some, Option.map_some, Option.map_map, Function.comp_def, fyes, Option.bind_assoc]
  have e0 : ix0 (rul l i j) 0 = some (S (sel l i)) := rfl
  simp only [chk_closer_S, things_S, Option.bind_some, Option.map_some, chk_rule_S h, e0, around_S h hi, keeps_S h (ar l C i) hi hj, ar_up hi, decide_true, Bool.not_true, Bool.false_or]
theorem both_S (a b : List Nat) (h : a.length ≤ 1000) : m__law_both (S a, S b, ()) = some (S (a.filter fun c => decide (c ∈ b))) := by
  show runF _ _ = _
  simp only [runF, runU, sseq, Fl.bnd, sret, sset, sif, sex, snever, f1, f2, fv, fc, fif, fand, foor, fnot, fcons, fnil, lcons, lnil, flc, gz, gs, pz, ps, ic, ia, i0, snil, wid, wn, wk, wa, Option.bind_some, Option.map_some, Option.map_map, Function.comp_def, fyes]
  simp only [signs_S, List.length_map]
  rw [if_pos (by omega)]
  rw [lcGo_of (T := fun s => match sign1 s with | some c => decide (c ∈ b) | none => false) (E := fun s => s)]
  · rw [filter_map_sign a (fun c => decide (c ∈ b))]
    · simp only [List.map_map, Option.bind_some, emp]
      rw [show ((fun s => s) ∘ fun c => S [c]) = (fun c => S [c]) from rfl, ← emp, jn_S _ (Nat.le_trans (List.length_filter_le ..) (by omega))]
      rfl
    · intro c
      rfl
  · intro x hx
    obtain ⟨c, hc, rfl⟩ := List.mem_map.mp hx
    exact sIn_S c b
  · intro x hx _
    rfl
theorem lt1s (c d : Nat) : leS (S [c]) (S [d]) = decide (c ≤ d) := by
  unfold leS
  simp only [tl_S]
  by_cases h : c ≤ d
  · rw [decide_eq_true h]
    exact decide_eq_true (List.not_lt.mp fun z => by
      have := (lt1 d c).mp z
      omega)
  · rw [decide_eq_false h]
    exact decide_eq_false fun z => h (by
      have := List.not_lt.mpr z
      rw [lt1] at this
      omega)
theorem sign_srt {o : List Nat} (h : o.Pairwise (· < ·)) : srt (o.map fun c => S [c]) = o.map fun c => S [c] := by
  apply srt_id
  rw [List.pairwise_map]
  exact h.imp fun h => by
    rw [lt1s]
    exact decide_eq_true (Nat.le_of_lt h)
theorem sign_nd {o : List Nat} (h : o.Nodup) : (o.map fun c => S [c]).Nodup := nodup_map h fun a _ b _ e => by
  have := S_inj.mp e
  cases this
  rfl
theorem sort_signs {xs o : List Nat} (ho : o.Pairwise (· < ·)) (m : ∀ c, c ∈ xs ↔ c ∈ o) : srt (ded [] (xs.map fun c => S [c])) = o.map fun c => S [c] := by
  rw [← sign_srt ho]
  refine srt_ext (ded_nd _ _ List.nodup_nil) (sign_nd (ho.imp fun h => Nat.ne_of_lt h)) fun s => ?_
  rw [mem_ded]
  simp only [List.not_mem_nil, false_or, List.mem_map]
  constructor
  · rintro ⟨c, hc, rfl⟩
    exact ⟨c, (m c).mp hc, rfl⟩
  · rintro ⟨c, hc, rfl⟩
    exact ⟨c, (m c).mpr hc, rfl⟩
theorem sel_asc {l : List Nat} (h : Lets l) (k : Nat) : (sel l k).Pairwise (· < ·) := h.w.asc.filter _
theorem mem_or {l : List Nat} {i j c : Nat} : c ∈ sel l (i ||| j) ↔ c ∈ sel l i ∨ c ∈ sel l j := by
  rw [mem_sel, mem_sel, mem_sel, Nat.testBit_or, Bool.or_eq_true]
  constructor
  · rintro ⟨h, a | a⟩
    · exact .inl ⟨h, a⟩
    · exact .inr ⟨h, a⟩
  · rintro (⟨h, a⟩ | ⟨h, a⟩)
    · exact ⟨h, .inl a⟩
    · exact ⟨h, .inr a⟩
theorem law_in_T {l : List Nat} (h : Lets l) {i : Nat} (hi : i < 2 ^ l.length) (j : Nat) : m__law_in (S (sel l i), S (sel l j), ()) = some (decide (i &&& j = i)) := law_inside_T h hi j
def bk (l : List Nat) (B : List (Nat × Nat)) : Tup (T2 Str Str) := ⟨B.map fun p => rul l p.1 p.2⟩
structure Bok (l : List Nat) (B : List (Nat × Nat)) : Prop where
  lt : ∀ p ∈ B, p.1 < 2 ^ l.length ∧ p.2 < 2 ^ l.length
  n : B.length ≤ 100
def kp (B : List (Nat × Nat)) (k : Nat) : Bool := B.all fun p => !decide (p.1 &&& k = p.1) || decide (p.2 &&& k = p.2)
theorem sapp_ok {Γ Γd S ρ α : Type} [EnvR Γ] [EnvR Γd] [Rep α] {i : Nat} (o : Own i Γ α Γd) {f : Γ → Option (α × Γ)} {γ γ' : Γ} {y : α} (e : f γ = some (y, γ')) (h : (o.get γ').length < 100000) : sapp (S := S) (ρ := ρ) o f γ = some (.nx (o.set γ' (o.get γ' ++ [y]))) := by
  unfold sapp
  rw [e]
  simp only [Option.bind_some]
  rw [if_pos h]
structure All (l E : List Nat) : Prop where
  f : Fam l E
  m : ∀ k, k ∈ E ↔ k < 2 ^ l.length
theorem kept_sys {l E : List Nat} (h : Lets l) (A : All l E) {B : List (Nat × Nat)} (b : Bok l B) : Sys l (E.filter (kp B)) := by
  have N1 : 0 < 2 ^ l.length := Nat.two_pow_pos _
  refine ⟨⟨fun k hk => A.f.lt k (List.mem_filter.mp hk).1, ?_, Nat.le_trans (List.length_filter_le _ _) A.f.n⟩, ?_, ?_⟩
  · have := A.f.asc
    unfold Asc at this ⊢
    exact this.sublist (List.Sublist.map _ List.filter_sublist)
  · refine List.mem_filter.mpr ⟨(A.m _).mpr (by omega), List.all_eq_true.mpr fun p hp => ?_⟩
    rw [Bool.or_eq_true]
    exact .inr (decide_eq_true (and_full (b.lt p hp).2))
  · intro x hx y hy
    obtain ⟨x1, x2⟩ := List.mem_filter.mp hx
    obtain ⟨y1, y2⟩ := List.mem_filter.mp hy
    refine List.mem_filter.mpr ⟨(A.m _).mpr (Nat.and_lt_two_pow _ (A.f.lt y y1)), List.all_eq_true.mpr fun p hp => ?_⟩
    have h1 := List.all_eq_true.mp x2 p hp
    have h2 := List.all_eq_true.mp y2 p hp
    by_cases hq : p.1 &&& (x &&& y) = p.1
    · have q := le_bits.mp hq
      have q1 : p.1 &&& x = p.1 := le_bits.mpr fun i hi => by
        have := q i hi
        rw [Nat.testBit_and, Bool.and_eq_true] at this
        exact this.1
      have q2 : p.1 &&& y = p.1 := le_bits.mpr fun i hi => by
        have := q i hi
        rw [Nat.testBit_and, Bool.and_eq_true] at this
        exact this.2
      simp only [q1, decide_true, Bool.not_true, Bool.false_or, decide_eq_true_eq] at h1
      simp only [q2, decide_true, Bool.not_true, Bool.false_or, decide_eq_true_eq] at h2
      rw [Bool.or_eq_true]
      refine .inr (decide_eq_true (le_bits.mpr fun i hi => ?_))
      rw [Nat.testBit_and, le_bits.mp h1 i hi, le_bits.mp h2 i hi]
      rfl
    · simp [hq]
def Sk (n : Int) (s : List Int) : Prop := ∃ a b c : Int, s = [a, b, c] ∧ 0 ≤ c ∧ c ≤ n
theorem Sk.mono {n m : Int} {s : List Int} (h : Sk n s) (k : n ≤ m) : Sk m s := let ⟨a, b, c, h1, h2, h3⟩ := h; ⟨a, b, c, h1, h2, by omega⟩
theorem bits_ex (f : Nat → Bool) : ∀ n, ∃ k, k < 2 ^ n ∧ ∀ p, p < n → k.testBit p = f p
  | 0 => ⟨0, by omega, fun p hp => by omega⟩
  | n + 1 => by
    obtain ⟨k, hk, h⟩ := bits_ex f n
    have e : 2 ^ (n + 1) = 2 ^ n + 2 ^ n := by rw [Nat.pow_succ]; omega
    cases hf : f n with
    | false =>
      refine ⟨k, by omega, fun p hp => ?_⟩
      by_cases q : p = n
      · subst q
        rw [bit_hi hk (Nat.le_refl _), hf]
      · exact h p (by omega)
    | true =>
      refine ⟨2 ^ n + k, by omega, fun p hp => ?_⟩
      by_cases q : p = n
      · subst q
        rw [Nat.testBit_two_pow_add_eq, bit_hi hk (Nat.le_refl _), hf]
        rfl
      · rw [Nat.testBit_two_pow_add_gt (by omega)]
        exact h p (by omega)
theorem filt_sub : ∀ {x l : List Nat}, x.Sublist l → l.Nodup → x = l.filter fun c => decide (c ∈ x)
  | _, _, .slnil, _ => rfl
  | x, c :: l, .cons _ s, nd => by
    have hc : c ∉ x := fun h => (List.nodup_cons.mp nd).1 (s.subset h)
    rw [List.filter_cons_of_neg (by simp [hc])]
    exact filt_sub s (List.nodup_cons.mp nd).2
  | c :: x, _ :: l, .cons_cons _ s, nd => by
    have ih := filt_sub s (List.nodup_cons.mp nd).2
    rw [List.filter_cons_of_pos (by simp)]
    congr 1
    rw [ih]
    apply List.filter_congr
    intro d hd
    have hdc : d ≠ c := fun e => (List.nodup_cons.mp nd).1 (by rw [← e]; exact hd)
    rw [← ih]
    simp [hdc]
theorem sub_sel {x l : List Nat} (s : x.Sublist l) (nd : l.Nodup) : ∃ k, k < 2 ^ l.length ∧ x = sel l k := by
  obtain ⟨k, hk, h⟩ := bits_ex (fun p => decide (l.getD p 0 ∈ x)) l.length
  refine ⟨k, hk, ?_⟩
  rw [filt_sub s nd]
  unfold sel
  apply List.filter_congr
  intro c hc
  have hp := List.idxOf_lt_length_of_mem hc
  rw [h _ hp]
  have : l.getD (l.idxOf c) 0 = c := by
    rw [List.getD_eq_getElem?_getD, List.getElem?_eq_getElem hp, Option.getD_some]
    exact List.getElem_idxOf hp
  rw [this]
  try simp only [List.mem_filter, hc, true_and, decide_eq_true_eq]
def Ev {β : Type} (X : Option β) (P : β → Prop) : Prop := ∃ y, X = some y ∧ P y
theorem Ev.of {β : Type} {X : Option β} {P : β → Prop} {y : β} (e : X = some y) (h : P y) : Ev X P := ⟨y, e, h⟩
theorem Ev.mono {β : Type} {X : Option β} {P Q : β → Prop} (h : Ev X P) (k : ∀ y, P y → Q y) : Ev X Q := let ⟨y, e, p⟩ := h; ⟨y, e, k y p⟩
theorem Ev.some {β : Type} {P : β → Prop} {y : β} (h : P y) : Ev (some y) P := ⟨y, rfl, h⟩
theorem Ev.bind {α β : Type} {X : Option α} {k : α → Option β} {P : β → Prop} (h : Ev X fun y => Ev (k y) P) : Ev (X.bind k) P := by
  obtain ⟨y, e, z, e2, p⟩ := h
  exact ⟨z, by rw [e]; exact e2, p⟩
theorem Ev.map {α β : Type} {X : Option α} {f : α → β} {P : β → Prop} (h : Ev X fun y => P (f y)) : Ev (X.map f) P := by
  obtain ⟨y, e, p⟩ := h
  exact ⟨f y, by rw [e]; rfl, p⟩
theorem Ev.forL {τ Γ S ρ : Type} {step : τ → Γ → Option (Fl Γ S ρ)} {P : Fl Γ S ρ → Prop} (I : List τ → Γ → Prop) : ∀ {xs : List τ} {γ : Γ}, I xs γ → (∀ x xs γ, I (x :: xs) γ → Ev (step x γ) fun r => ∃ γ', r = .nx γ' ∧ I xs γ') → (∀ γ, I [] γ → P (.nx γ)) → Ev (forL step xs γ) P
  | [], γ, h0, _, hk => ⟨_, rfl, hk γ h0⟩
  | x :: xs, γ, h0, hs, hk => by
    obtain ⟨r, e, γ', e2, h1⟩ := hs x xs γ h0
    subst e2
    obtain ⟨y, e3, p⟩ := Ev.forL I h1 hs hk
    refine ⟨y, ?_, p⟩
    unfold Vx.forL
    rw [e, Option.bind_some]
    exact e3
theorem Ev.lcStA {τ Γ α : Type} {t : τ → Γ → Option (Bool × Γ)} {e : τ → Γ → Option (α × Γ)} (I : Nat → Γ → Prop) (Q : τ → α → Prop) {P : List α × Γ → Prop} : ∀ {xs : List τ} {n : Nat} {s : Γ}, I n s → (∀ x m s, m < n + xs.length → I m s → x ∈ xs → Ev (t x s) fun b => b.1 = true ∧ Ev (e x b.2) fun y => Q x y.1 ∧ I (m + 1) y.2) →
    (∀ ys s', PySem.Paired Q xs ys → I (n + xs.length) s' → P (ys, s')) → Ev (Vx.lcSt t e xs s) P
  | [], n, s, h, _, k => ⟨([], s), rfl, k [] s .nil h⟩
  | x :: xs, n, s, h, hs, k => by
    obtain ⟨⟨b, s1⟩, e1, hb, ⟨y, s2⟩, e2, hq, h2⟩ := hs x n s (by rw [List.length_cons]; omega) h List.mem_cons_self
    have hb : b = true := hb
    subst hb
    have en : n + 1 + xs.length = n + (x :: xs).length := by rw [List.length_cons]; omega
    have := Ev.lcStA I Q (P := fun r => P (y :: r.1, r.2)) (xs := xs) (n := n + 1) (s := s2) h2 (fun x m s hm hi hx => hs x m s (by omega) hi (List.mem_cons_of_mem _ hx)) fun ys s' h4 h5 => k (y :: ys) s' (.cons hq h4) (by rw [← en]; exact h5)
    obtain ⟨⟨ys, s3⟩, e3, p⟩ := this
    refine ⟨(y :: ys, s3), ?_, p⟩
    unfold Vx.lcSt
    rw [e1]
    simp only [Option.bind_some, if_true]
    rw [e2]
    simp only [Option.bind_some]
    rw [e3]
    rfl
theorem Ev.mlcA {Γ Γe τ α : Type} {i : Nat} [EnvR Γ] [EnvR Γe] [Rep τ] [Rep α] {p : Put i Γ τ Γe} {bk : Bk i Γ τ Γe} {g : Γ → Option (List τ × Γ)} {t : Γe → Option (Bool × Γe)} {e : Γe → Option (α × Γe)} {γ : Γ} {P : List α × Γ → Prop} (I : Nat → Γ → Prop) (Q : τ → α → Prop)
    (h : Ev (g γ) fun r => r.1.length ≤ 100000 ∧ I 0 r.2 ∧ (∀ x m s, m < r.1.length → I m s → x ∈ r.1 → Ev (t (p.put s x)) fun b => b.1 = true ∧ Ev (e (p.put (bk.back b.2) x)) fun y => Q x y.1 ∧ I (m + 1) (bk.back y.2)) ∧ ∀ ys s', PySem.Paired Q r.1 ys → I r.1.length s' → P (ys, s')) :
    Ev (Vx.mlc p bk g t e γ) P := by
  obtain ⟨⟨xs, γ1⟩, e0, hl, h0, hs, hk⟩ := h
  unfold Vx.mlc
  rw [e0]
  simp only [Option.bind_some]
  rw [if_pos hl]
  refine Ev.lcStA I Q (n := 0) h0 (fun x m s hm hi hx => ?_) (fun ys s' h2 h3 => hk ys s' h2 (by rw [Nat.zero_add] at h3; exact h3))
  rw [Nat.zero_add] at hm
  exact Ev.map ((hs x m s hm hi hx).mono fun b hb => ⟨hb.1, Ev.map hb.2⟩)
theorem rng_n (n : Nat) (h : n ≤ 1000) : rangeOf1 (n : Int) = some (Z (List.range n)) := by
  unfold rangeOf1 rng
  rw [if_pos (by omega)]
  simp [Z]
theorem paired_len' {α β : Type} {R : α → β → Prop} {xs : List α} {ys : List β} (h : PySem.Paired R xs ys) : xs.length = ys.length := Vx.paired_len h
theorem paired_all {α β : Type} {P : β → Prop} {xs : List α} {ys : List β} (h : PySem.Paired (fun _ y => P y) xs ys) : ∀ y ∈ ys, P y := by
  induction h with
  | nil =>
    intro y hy
    cases hy
  | cons r _ ih =>
    intro y hy
    rcases List.mem_cons.mp hy with e | e
    · rw [e]
      exact r
    · exact ih y e
theorem sub_signs {zs : List Str} {l : List Nat} (h : zs.Sublist (l.map fun c => S [c])) : ∃ x : List Nat, x.Sublist l ∧ zs = x.map fun c => S [c] := by
  obtain ⟨x, h1, h2⟩ := List.sublist_map_iff.mp h
  exact ⟨x, h1, h2⟩
theorem due_S {l C : List Nat} (s : Sys l C) {i j : Nat} (hi : i < 2 ^ l.length) : (C.all fun m => !decide (i &&& m = i) || decide (j &&& m = j)) = decide (j &&& ar l C i = j) := by
  rw [Bool.eq_iff_iff, List.all_eq_true, decide_eq_true_eq]
  constructor
  · intro h
    have := h _ (ar_mem s i)
    rw [ar_up hi] at this
    simpa using this
  · intro h m hm
    by_cases q : i &&& m = i
    · rw [Bool.or_eq_true]
      exact .inr (decide_eq_true (le_trans' h (ar_le hm q)))
    · simp [q]
theorem sif_no {Γ S ρ : Type} [EnvR Γ] {c : Γ → Option Bool} {f : Γ → Option (Fl Γ S ρ)} {γ : Γ} (h : c γ = some false) : sif c f (snil wid) γ = some (.nx γ) := by
  unfold sif
  rw [h]
  rfl
theorem sif_yes {Γ Γ' S ρ : Type} [EnvR Γ] {c : Γ → Option Bool} {f g : Γ → Option (Fl Γ' S ρ)} {γ : Γ} (h : c γ = some true) : sif c f g γ = f γ := by
  unfold sif
  rw [h]
  rfl
theorem sset_ok {Γ Γ' S ρ α : Type} [EnvR Γ] [EnvR Γ'] [Rep α] {i : Nat} {p : Put i Γ α Γ'} {f : Γ → Option α} {γ : Γ} {a : α} (h : f γ = some a) : sset (S := S) (ρ := ρ) p f γ = some (.nx (p.put γ a)) := by
  unfold sset
  rw [h]
  rfl
theorem sel_zero (l : List Nat) : sel l 0 = [] := by
  unfold sel
  rw [List.filter_eq_nil_iff]
  intro c _
  simp
theorem sel_one {l : List Nat} (h : Lets l) {c : Nat} (hc : c ∈ l) : ∃ k, k < 2 ^ l.length ∧ [c] = sel l k := sub_sel (List.singleton_sublist.mpr hc) h.nd
theorem in_either_T {l : List Nat} (h : Lets l) (i j : Nat) : m_in_either (S (sel l i), S (sel l j), ()) = some (S (sel l (i ||| j))) := by
  show runF _ _ = _
  simp only [runF, runU, sseq, Fl.bnd, sret, sset, sif, sex, snever, sfor, f1, f2, fv, fc, fif, fand, foor, fnot, fcons, fnil, fch, lcons, lnil, flc, gz, gs, pz, ps, ic, ia, i0, snil, wid, wn, wk, wa, Option.bind_some, Option.map_some, Option.map_map, Function.comp_def, fyes, Option.bind_assoc]
  have li := sel_len l i
  have lj := sel_len l j
  have lk := sel_len l (i ||| j)
  have n7 := h.n
  simp only [sAdd, len_S, Option.bind_some]
  rw [if_pos (by omega)]
  simp only [Option.bind_some, S_add, ss, signs_S, List.length_map, List.length_append]
  rw [if_pos (by omega)]
  simp only [Option.bind_some]
  rw [sort_signs (o := sel l (i ||| j)) (sel_asc h _) fun c => by rw [List.mem_append, mem_or], jn_S _ (by omega)]
  rfl
theorem Ev.out {β : Type} {X : Option β} {v : β} (h : Ev X fun y => y = v) : X = Option.some v := by
  obtain ⟨y, e, rfl⟩ := h
  exact e
theorem wrong_rule_S {l : List Nat} (h : Lets l) {B : List (Nat × Nat)} (b : Bok l B) : m_wrong_rule (S l, bk l B, ()) = some none := by
  show runF _ _ = _
  simp only [runF, runU, sseq, Fl.bnd, sret, sset, sif, sex, snever, sfor, snewD, sdput, fkeys, dz, ds, pdz, pds, f1, f2, fv, fc, fif, fand, foor, fnot, fcons, fnil, fch, lcons, lnil, flc, gz, gs, pz, ps, ic, ia, i0, snil, wid, wn, wk, wa, Option.bind_some, Option.map_some, Option.map_map, Function.comp_def, fyes, Option.bind_assoc]
  have hb := b.n
  refine forL_then (fun xs γ => ∃ (p r : List (T2 Str Str)), p ++ r = (bk l B).l ∧ xs = enumF p.length r ∧ γ = (S l, bk l B, (⟨⟩ : Any), (⟨⟩ : Any), ())) ⟨[], (bk l B).l, rfl, rfl, rfl⟩ ?_ ?_
  · rintro x xs γ ⟨p, r, h1, h2, rfl⟩
    cases r with
    | nil => cases h2
    | cons q r =>
      cases h2
      refine ⟨_, ?_, p ++ [q], r, by simpa using h1, by simp, rfl⟩
      have hq : q ∈ (bk l B).l := by rw [← h1]; simp
      obtain ⟨t, ht, rfl⟩ := List.mem_map.mp hq
      have hl : p.length < 200 := by
        have := congrArg List.length h1
        rw [List.length_append, List.length_cons] at this
        simp only [bk, List.length_map] at this
        omega
      simp only [iGe, is_rule_S h, Option.bind_some, Option.map_some]
      rw [decide_eq_false (by omega)]
      rfl
  · rintro γ' ⟨p, r, h1, h2, rfl⟩
    rfl
theorem chk_book_S {l : List Nat} (h : Lets l) {B : List (Nat × Nat)} (b : Bok l B) : m_check_book (S l, bk l B, ()) = some () := by
  show runU _ _ = _
  simp only [runF, runU, sseq, Fl.bnd, sret, sset, sif, sex, snever, sfor, snewD, sdput, fkeys, dz, ds, pdz, pds, f1, f2, fv, fc, fif, fand, foor, fnot, fcons, fnil, fch, lcons, lnil, flc, gz, gs, pz, ps, ic, ia, i0, snil, wid, wn, wk, wa, Option.bind_some, Option.map_some, Option.map_map, Function.comp_def, fyes, Option.bind_assoc]
  simp only [Bool.not_true, Bool.false_eq_true, if_false, Option.bind_some, wrong_rule_S h b]
  rfl
theorem rng_nat (n : Nat) : rng 0 (n : Int) = Z (List.range n) := by
  unfold rng
  simp [Z]
theorem kp_cons (p : Nat × Nat) (B : List (Nat × Nat)) (k : Nat) : kp (p :: B) k = ((!decide (p.1 &&& k = p.1) || decide (p.2 &&& k = p.2)) && kp B k) := List.all_cons
theorem by_rules_S {l E : List Nat} (h : Lets l) (A : All l E) {B : List (Nat × Nat)} (b : Bok l B) : m_by_rules (S l, bk l B, ()) = some (clo l (E.filter (kp B))) := by
  have N7 := p7 h
  show runF _ _ = _
  simp only [runF, runU, sseq, Fl.bnd, sret, sset, sif, sex, snever, sfor, snewD, sdput, fkeys, dz, ds, pdz, pds, f1, f2, fv, fc, fif, fand, foor, fnot, fcons, fnil, fch, lcons, lnil, flc, gz, gs, pz, ps, ic, ia, i0, snil, wid, wn, wk, wa, Option.bind_some, Option.map_some, Option.map_map, Function.comp_def, fyes, Option.bind_assoc]
  simp only [chk_things_S l h.w h.n h.p, chk_book_S h b, number_by_lot_S h, lots_S h, lenL, List.length_map, List.length_range, lrng, Option.bind_some, Option.map_some]
  have N0 : (0 : Int) ≤ ((2 ^ l.length : Nat) : Int) := Int.natCast_nonneg _
  rw [if_pos (by omega), rng_nat]
  simp only [Option.bind_some, Option.map_some, Option.bind_assoc]
  refine forL_then (fun xs γ => ∃ (r : List (Nat × Nat)) (K : List Nat), xs = r.map (fun p => rul l p.1 p.2) ∧ (∀ p ∈ r, p ∈ B) ∧ γ = (S l, bk l B, (⟨numD l⟩ : Dct Int), Z K, (⟨⟩ : Any), (⟨⟩ : Any), (⟨⟩ : Any), (⟨⟩ : Any), (⟨⟩ : Any), ()) ∧ K.filter (kp r) = (List.range (2 ^ l.length)).filter (kp B) ∧ K.Sublist (List.range (2 ^ l.length))) ⟨B, List.range (2 ^ l.length), rfl, fun _ h => h, rfl, rfl, List.Sublist.refl _⟩ ?_ ?_
  · rintro x xs γ ⟨r, K, h1, h2, rfl, h3, h4⟩
    cases r with
    | nil => cases h1
    | cons p r =>
      cases h1
      obtain ⟨p1, p2⟩ := b.lt p (h2 p List.mem_cons_self)
      have lK := h4.length_le
      rw [List.length_range] at lK
      refine ⟨_, ?_, r, K.filter (fun k => !decide (p.1 &&& k = p.1) || decide (p.2 &&& k = p.2)), rfl, fun q hq => h2 q (List.mem_cons_of_mem _ hq), rfl, ?_, List.filter_sublist.trans h4⟩
      · have d1 : dget (⟨numD l⟩ : Dct Int) (S (sel l p.1)) = some (p.1 : Int) := valD h p1
        have d2 : dget (⟨numD l⟩ : Dct Int) (S (sel l p.2)) = some (p.2 : Int) := valD h p2
        simp only [sunp, f1, f2, fv, fcons, fnil, rul, d1, d2, pairT, Option.bind_some, Option.map_some]
        rw [if_pos (show (Z K).length ≤ 100000 by simp [Z]; omega)]
        rw [lcGo_Z (P := fun k => !decide (p.1 &&& k = p.1) || decide (p.2 &&& k = p.2)) (E := fun k => (k : Int)) K ?_ (fun _ _ _ => rfl)]
        · rfl
        · intro k _
          simp only [iAnd, band, Option.bind_some, sNe, sEq]
          have e1 : decide (((k &&& p.1 : Nat) : Int) = (p.1 : Int)) = decide (p.1 &&& k = p.1) := by
            refine decide_eq_decide.mpr ?_
            rw [Nat.and_comm]
            omega
          have e2 : decide (((k &&& p.2 : Nat) : Int) = (p.2 : Int)) = decide (p.2 &&& k = p.2) := by
            refine decide_eq_decide.mpr ?_
            rw [Nat.and_comm]
            omega
          rw [e1, e2]
          cases decide (p.1 &&& k = p.1) <;> simp
      · rw [← h3, List.filter_filter]
        apply List.filter_congr
        intro k _
        rw [kp_cons, Bool.and_comm]
  · rintro γ' ⟨r, K, h1, h2, rfl, h3, h4⟩
    have : r = [] := by
      cases r with
      | nil => rfl
      | cons => cases h1
    subst this
    have hK : K = (List.range (2 ^ l.length)).filter (kp B) := by
      rw [← h3]
      exact (List.filter_eq_self.mpr fun k _ => rfl).symm
    have lK := h4.length_le
    rw [List.length_range] at lK
    have gK : Good (2 ^ l.length) K := ⟨List.nodup_range.sublist h4, fun k hk => List.mem_range.mp (h4.subset hk)⟩
    have sy := kept_sys h A b
    have es : srt (T l K) = T l (E.filter (kp B)) := by
      rw [T_ext h gK (fam_good sy.toFam) (fun k => by rw [hK, List.mem_filter, List.mem_filter, List.mem_range, A.m]), fam_srt sy.toFam]
    simp only [Option.bind_some]
    rw [family_of_S h K gK.lt (by omega), Option.bind_some, es, make_S h sy]
    rfl
def fb (k : Nat) : List (Nat × Nat) → Nat → Option Nat
  | [], _ => none
  | p :: B, n => if (!decide (p.1 &&& k = p.1) || decide (p.2 &&& k = p.2)) = true then fb k B (n + 1) else some n
theorem fb_none {k : Nat} : ∀ {B : List (Nat × Nat)} {n : Nat}, fb k B n = none ↔ kp B k = true
  | [], n => by simp [fb, kp]
  | p :: B, n => by
    rw [kp_cons]
    unfold fb
    split
    · rename_i h
      rw [fb_none, h]
      simp
    · rename_i h
      simp [h]
theorem fb_some {k i : Nat} : ∀ {B : List (Nat × Nat)} {n : Nat}, fb k B n = some i → ∃ j p, i = n + j ∧ B[j]? = some p ∧ p ∈ B ∧ p.1 &&& k = p.1 ∧ ¬ p.2 &&& k = p.2
  | [], n, h => by cases h
  | q :: B, n, h => by
    unfold fb at h
    split at h
    · obtain ⟨j, p, h1, h2, h3, h4⟩ := fb_some h
      exact ⟨j + 1, p, by omega, h2, List.mem_cons_of_mem _ h3, h4⟩
    · rename_i hq
      cases h
      refine ⟨0, q, rfl, rfl, List.mem_cons_self, ?_⟩
      simpa using hq
theorem Ev.forLr {τ Γ S ρ : Type} {step : τ → Γ → Option (Fl Γ S ρ)} {P : Fl Γ S ρ → Prop} (I : List τ → Γ → Prop) : ∀ {xs : List τ} {γ : Γ}, I xs γ → (∀ x xs γ, I (x :: xs) γ → Ev (step x γ) fun r => (∃ γ', r = .nx γ' ∧ I xs γ') ∨ ∃ v s, r = .rt v s ∧ P (.rt v s)) → (∀ γ, I [] γ → P (.nx γ)) → Ev (Vx.forL step xs γ) P
  | [], γ, h0, _, hk => ⟨_, rfl, hk γ h0⟩
  | x :: xs, γ, h0, hs, hk => by
    obtain ⟨r, e, h⟩ := hs x xs γ h0
    rcases h with ⟨γ', e2, h1⟩ | ⟨v, s, e2, h1⟩
    · subst e2
      obtain ⟨y, e3, p⟩ := Ev.forLr I h1 hs hk
      refine ⟨y, ?_, p⟩
      unfold Vx.forL
      rw [e, Option.bind_some]
      exact e3
    · subst e2
      refine ⟨_, ?_, h1⟩
      unfold Vx.forL
      rw [e, Option.bind_some]
      rfl
theorem first_broken_S {l : List Nat} (h : Lets l) {B : List (Nat × Nat)} (b : Bok l B) (k : Nat) : m_first_broken (bk l B, S (sel l k), ()) = some ((fb k B 0).map fun (i : Nat) => (i : Int)) := by
  apply Ev.out
  show Ev (runF _ _) _
  unfold runF
  refine Ev.bind ?_
  unfold sseq
  refine Ev.bind ?_
  unfold sfor
  refine Ev.bind (Ev.of rfl ?_)
  refine Ev.forLr (fun xs γ => ∃ (n : Nat) (r : List (Nat × Nat)), xs = enumF n (r.map fun p => rul l p.1 p.2) ∧ (∀ p ∈ r, p ∈ B) ∧ fb k r n = fb k B 0 ∧ γ = (bk l B, S (sel l k), (⟨⟩ : Any), (⟨⟩ : Any), ())) ⟨0, B, rfl, fun _ h => h, rfl, rfl⟩ ?_ ?_
  · rintro x xs γ ⟨n, r, h1, h2, h3, rfl⟩
    cases r with
    | nil => cases h1
    | cons p r =>
      cases h1
      obtain ⟨p1, p2⟩ := b.lt p (h2 p List.mem_cons_self)
      refine Ev.bind ?_
      rw [show fb k (p :: r) n = (if (!decide (p.1 &&& k = p.1) || decide (p.2 &&& k = p.2)) = true then fb k r (n + 1) else some n) from rfl] at h3
      cases hc : (!decide (p.1 &&& k = p.1) || decide (p.2 &&& k = p.2)) with
      | true =>
        rw [hc, if_pos rfl] at h3
        refine Ev.of (y := Fl.nx (bk l B, S (sel l k), (n : Int), rul l p.1 p.2, ())) ?_ (Ev.of rfl (.inl ⟨_, rfl, n + 1, r, rfl, fun q hq => h2 q (List.mem_cons_of_mem _ hq), h3, rfl⟩))
        unfold sif
        have e : (fnot (f1 m_keeps (fcons (fv (gs gz)) (fcons (fv (gs (gs (gs gz)))) fnil)))) (bk l B, S (sel l k), (n : Int), rul l p.1 p.2, ()) = some false := by
          show Option.map _ (m_keeps (S (sel l k), rul l p.1 p.2, ())) = _
          rw [keeps_S h k p1 p2, hc]
          rfl
        exact (congrArg (fun z => Option.bind z _) e).trans rfl
      | false =>
        rw [hc, if_neg (by simp)] at h3
        refine Ev.of (y := Fl.rt (some (n : Int)) ()) ?_ (Ev.of rfl (.inr ⟨_, _, rfl, Ev.of rfl (Ev.of rfl (by rw [← h3]; rfl))⟩))
        unfold sif
        have e : (fnot (f1 m_keeps (fcons (fv (gs gz)) (fcons (fv (gs (gs (gs gz)))) fnil)))) (bk l B, S (sel l k), (n : Int), rul l p.1 p.2, ()) = some true := by
          show Option.map _ (m_keeps (S (sel l k), rul l p.1 p.2, ())) = _
          rw [keeps_S h k p1 p2, hc]
          rfl
        exact (congrArg (fun z => Option.bind z _) e).trans rfl
  · rintro γ ⟨n, r, h1, h2, h3, rfl⟩
    cases r with
    | cons => cases h1
    | nil => exact Ev.of rfl (Ev.of rfl (by rw [← h3]; rfl))
def lead (B : List (Nat × Nat)) : Nat → Nat → List Nat × Nat
  | 0, k => ([], k)
  | n + 1, k => match fb k B 0 with
    | none => ([], k)
    | some i => (i :: (lead B n (k ||| (B.getD i (0, 0)).2)).1, (lead B n (k ||| (B.getD i (0, 0)).2)).2)
theorem lead_stop {B : List (Nat × Nat)} {n k : Nat} (h : fb k B 0 = none) : lead B n k = ([], k) := by
  cases n with
  | zero => rfl
  | succ n =>
    unfold lead
    rw [h]
theorem lead_go {B : List (Nat × Nat)} {n k i : Nat} (h : fb k B 0 = some i) : lead B (n + 1) k = (i :: (lead B n (k ||| (B.getD i (0, 0)).2)).1, (lead B n (k ||| (B.getD i (0, 0)).2)).2) := by
  rw [lead, h]
theorem fb_at {B : List (Nat × Nat)} {k i : Nat} (h : fb k B 0 = some i) : B.getD i (0, 0) ∈ B ∧ (B.getD i (0, 0)).1 &&& k = (B.getD i (0, 0)).1 ∧ ¬ (B.getD i (0, 0)).2 &&& k = (B.getD i (0, 0)).2 ∧ B[i]? = some (B.getD i (0, 0)) := by
  obtain ⟨j, p, h1, h2, h3, h4, h5⟩ := fb_some h
  have : i = j := by omega
  subst this
  have e : B.getD i (0, 0) = p := by rw [List.getD_eq_getElem?_getD, h2]; rfl
  rw [e]
  exact ⟨h3, h4, h5, h2⟩
theorem grows {l : List Nat} (h : Lets l) {k m : Nat} (hm : m < 2 ^ l.length) (hk : k < 2 ^ l.length) (q : ¬ m &&& k = m) : (sel l k).length < (sel l (k ||| m)).length := by
  have le : k &&& (k ||| m) = k := le_bits.mpr fun i hi => by rw [Nat.testBit_or, hi]; rfl
  obtain ⟨l1, l2⟩ := sel_le_len h.nd le
  refine Nat.lt_of_le_of_ne l1 fun e => q ?_
  have := sel_inj h.nd hk (Nat.or_lt_two_pow hk hm) (l2 e)
  rw [this]
  exact le_bits.mpr fun i hi => by rw [Nat.testBit_or, hi, Bool.or_true]
theorem lead_ok {l : List Nat} (h : Lets l) {B : List (Nat × Nat)} (b : Bok l B) : ∀ (n k : Nat), k < 2 ^ l.length → l.length < n + (sel l k).length →
    (lead B n k).2 < 2 ^ l.length ∧ kp B (lead B n k).2 = true ∧ k &&& (lead B n k).2 = k ∧ ∀ m, m < 2 ^ l.length → kp B m = true → k &&& m = k → (lead B n k).2 &&& m = (lead B n k).2
  | 0, k, hk, hn => by
    have := sel_len l k
    omega
  | n + 1, k, hk, hn => by
    cases e : fb k B 0 with
    | none =>
      rw [lead_stop e]
      exact ⟨hk, fb_none.mp e, by simp, fun m _ _ q => q⟩
    | some i =>
      obtain ⟨h1, h2, h3, h4⟩ := fb_at e
      have p2 := (b.lt _ h1).2
      have g := grows h p2 hk h3
      obtain ⟨i1, i2, i3, i4⟩ := lead_ok h b n (k ||| (B.getD i (0, 0)).2) (Nat.or_lt_two_pow hk p2) (by omega)
      rw [lead_go e]
      refine ⟨i1, i2, le_trans' (le_bits.mpr fun t ht => by rw [Nat.testBit_or, ht]; rfl) i3, fun m hm km q => i4 m hm km (le_bits.mpr fun t ht => ?_)⟩
      rw [Nat.testBit_or, Bool.or_eq_true] at ht
      rcases ht with ht | ht
      · exact le_bits.mp q t ht
      · have := List.all_eq_true.mp km _ h1
        have hq : (B.getD i (0, 0)).1 &&& m = (B.getD i (0, 0)).1 := le_trans' h2 q
        simp only [hq, decide_true, Bool.not_true, Bool.false_or, decide_eq_true_eq] at this
        exact le_bits.mp this t ht
theorem lead_ar {l E : List Nat} (h : Lets l) (A : All l E) {B : List (Nat × Nat)} (b : Bok l B) {n k : Nat} (hk : k < 2 ^ l.length) (hn : l.length < n) : (lead B n k).2 = ar l (E.filter (kp B)) k := by
  obtain ⟨i1, i2, i3, i4⟩ := lead_ok h b n k hk (by omega)
  have sy := kept_sys h A b
  have hm := ar_mem sy k
  refine le_anti (i4 _ (ar_lt sy k) (List.mem_filter.mp hm).2 (ar_up hk)) (ar_le (List.mem_filter.mpr ⟨(A.m _).mpr i1, i2⟩) i3)
theorem whl_lead {l : List Nat} (h : Lets l) {B : List (Nat × Nat)} (b : Bok l B) {Γ S ρ : Type} {c : Γ → Option Bool} {f : Γ → Option (Fl Γ S ρ)} (st : List Nat → Nat → Γ) (hc : ∀ u k, c (st u k) = some (fb k B 0).isSome) (hf : ∀ u k i, fb k B 0 = some i → u.length + 1 < 100000 → f (st u k) = some (.nx (st (u ++ [i]) (k ||| (B.getD i (0, 0)).2)))) : ∀ (n k : Nat) (u : List Nat), k < 2 ^ l.length → l.length < n + (sel l k).length → u.length + n < 100000 → whl n c f (st u k) = some (.nx (st (u ++ (lead B n k).1) (lead B n k).2))
  | 0, k, u, hk, hn, _ => by
    have := sel_len l k
    omega
  | n + 1, k, u, hk, hn, hu => by
    unfold whl
    rw [hc]
    cases e : fb k B 0 with
    | none =>
      rw [lead_stop e]
      simp
    | some i =>
      obtain ⟨h1, h2, h3, h4⟩ := fb_at e
      have p2 := (b.lt _ h1).2
      have g := grows h p2 hk h3
      simp only [Option.isSome_some, Option.bind_some, if_true]
      rw [hf u k i e (by omega), Option.bind_some]
      show whl n c f _ = _
      rw [whl_lead h b st hc hf n _ _ (Nat.or_lt_two_pow hk p2) (by omega) (by rw [List.length_append, List.length_singleton]; omega), lead_go e]
      simp
theorem led_on_S {l : List Nat} (h : Lets l) {B : List (Nat × Nat)} (b : Bok l B) {k : Nat} (hk : k < 2 ^ l.length) : m_led_on (bk l B, S (sel l k), ()) = some ⟨⟨Z (lead B 1000 k).1⟩, S (sel l (lead B 1000 k).2)⟩ := by
  have n7 := h.n
  apply Ev.out
  show Ev (runF _ _) _
  unfold runF
  refine Ev.bind ?_
  unfold sseq
  refine Ev.bind (Ev.of rfl ?_)
  refine Ev.bind ?_
  refine Ev.of (sset_ok (a := (fb k B 0).map fun (i : Nat) => (i : Int)) ?_) ?_
  · exact first_broken_S h b k
  refine Ev.bind ?_
  unfold swhl
  refine Ev.of (whl_lead h b (fun u k0 => (bk l B, S (sel l k), (⟨Z u⟩ : OL Int), S (sel l k0), (fb k0 B 0).map fun (i : Nat) => (i : Int), ())) ?_ ?_ 1000 k [] hk (by omega) (by simp)) ?_
  · intro u k0
    show some ((fb k0 B 0).map fun (i : Nat) => (i : Int)).isSome = _
    rw [Option.isSome_map]
  · intro u k0 i e hu
    obtain ⟨h1, h2, h3, h4⟩ := fb_at e
    have p2 := (b.lt _ h1).2
    apply Ev.out
    refine Ev.bind ?_
    have ez : Z u ++ [(i : Int)] = Z (u ++ [i]) := by simp [Z]
    refine Ev.of (sapp_ok (γ' := (bk l B, S (sel l k), (⟨Z u⟩ : OL Int), S (sel l k0), (fb k0 B 0).map fun (i : Nat) => (i : Int), ())) (y := (i : Int)) (Vx.os (Vx.os oz)) ?_ ?_) ?_
    · rw [e]
      rfl
    · show (Z u).length < 100000
      simp [Z]
      omega
    show Ev ((sset _ _ (bk l B, S (sel l k), (⟨Z u ++ [(i : Int)]⟩ : OL Int), S (sel l k0), (fb k0 B 0).map fun (i : Nat) => (i : Int), ())).bind _) _
    rw [ez]
    refine Ev.bind ?_
    refine Ev.of (sset_ok (a := S (sel l (k0 ||| (B.getD i (0, 0)).2))) ?_) ?_
    · rw [e]
      have et : tIx (bk l B) (i : Int) = some (rul l (B.getD i (0, 0)).1 (B.getD i (0, 0)).2) := by
        unfold tIx
        apply atI_nat
        show (B.map fun p => rul l p.1 p.2)[i]? = _
        rw [List.getElem?_map, h4]
        rfl
      have ei := in_either_T h k0 (B.getD i (0, 0)).2
      simp only [runF, runU, runM, im, sseq, Fl.bnd, sret, sretm, sset, ssetm, sif, sifm, sex, sexm, snever, sfor, sform, up, m1, m2, mcons, mdr, mif, mand, moor, mnot, f1, f2, fv, fc, fif, fand, foor, fnot, fcons, fnil, fch, lcons, lnil, flc, gz, gs, pz, ps, ic, ia, i0, snil, wid, wn, wk, wa, Option.bind_some, Option.map_some, fyes]
      rw [et]
      exact ei
    refine Ev.bind ?_
    refine Ev.of (sset_ok (a := (fb (k0 ||| (B.getD i (0, 0)).2) B 0).map fun (i : Nat) => (i : Int)) ?_) ?_
    · exact first_broken_S h b _
    exact Ev.of rfl rfl
  · exact Ev.of rfl (Ev.of rfl rfl)
theorem around_by_S {l E : List Nat} (h : Lets l) (A : All l E) {B : List (Nat × Nat)} (b : Bok l B) {k : Nat} (hk : k < 2 ^ l.length) : m_around_by (S l, bk l B, S (sel l k), ()) = some (S (sel l (ar l (E.filter (kp B)) k))) := by
  have n7 := h.n
  show runF _ _ = _
  simp only [runF, runU, sseq, Fl.bnd, sret, sset, sif, sex, snever, sfor, snewD, sdput, fkeys, dz, ds, pdz, pds, f1, f2, fv, fc, fif, fand, foor, fnot, fcons, fnil, fch, lcons, lnil, flc, gz, gs, pz, ps, ic, ia, i0, snil, wid, wn, wk, wa, Option.bind_some, Option.map_some, Option.map_map, Function.comp_def, fyes, Option.bind_assoc]
  simp only [chk_things_S l h.w h.n h.p, chk_book_S h b, chk_lot_S l _ (sel_word h k) (sel_in l k) (show (sel l k).length ≤ 1000 by have := sel_len l k; omega), led_on_S h b hk, Option.map_some, Option.bind_some]
  rw [lead_ar h A b hk (by omega)]
  rfl
theorem follows_S {l E : List Nat} (h : Lets l) (A : All l E) {B : List (Nat × Nat)} (b : Bok l B) {i j : Nat} (hi : i < 2 ^ l.length) (hj : j < 2 ^ l.length) : m_follows (S l, bk l B, rul l i j, ()) = some (decide (j &&& ar l (E.filter (kp B)) i = j)) := by
  have n7 := h.n
  show runF _ _ = _
  simp only [runF, runU, sseq, Fl.bnd, sret, sset, sif, sex, snever, sfor, snewD, sdput, fkeys, dz, ds, pdz, pds, f1, f2, fv, fc, fif, fand, foor, fnot, fcons, fnil, fch, lcons, lnil, flc, gz, gs, pz, ps, ic, ia, i0, snil, wid, wn, wk, wa, Option.bind_some, Option.map_some, Option.map_map, Function.comp_def, fyes, Option.bind_assoc]
  have e0 : ix0 (rul l i j) 0 = some (S (sel l i)) := rfl
  simp only [chk_things_S l h.w h.n h.p, chk_book_S h b, chk_rule_S h, e0, led_on_S h b hi, Option.map_some, Option.bind_some]
  rw [lead_ar h A b hi (by omega)]
  have e1 : ix1 (⟨⟨Z (lead B 1000 i).1⟩, S (sel l (ar l (E.filter (kp B)) i))⟩ : T2 (Tup Int) Str) 1 = some (S (sel l (ar l (E.filter (kp B)) i))) := rfl
  simp only [e1, Option.bind_some, keeps_S h _ hi hj, ar_up hi, decide_true, Bool.not_true, Bool.false_or, Option.map_some]
  try rfl
theorem T_inj {l : List Nat} (h : Lets l) : ∀ {F G : List Nat}, (∀ k ∈ F, k < 2 ^ l.length) → (∀ k ∈ G, k < 2 ^ l.length) → T l F = T l G → F = G
  | [], [], _, _, _ => rfl
  | [], _ :: _, _, _, e => by cases e
  | _ :: _, [], _, _, e => by cases e
  | a :: F, b :: G, hF, hG, e => by
    unfold T at e
    rw [List.map_cons, List.map_cons] at e
    injection e with e1 e2
    rw [sel_inj h.nd (hF a List.mem_cons_self) (hG b List.mem_cons_self) (S_inj.mp e1), T_inj h (fun k hk => hF k (List.mem_cons_of_mem _ hk)) (fun k hk => hG k (List.mem_cons_of_mem _ hk)) e2]
theorem more_same {l C : List Nat} (h : Lets l) (s : Sys l C) {i j : Nat} (hi : i < 2 ^ l.length) : decide (T l (C.filter fun k => !decide (i &&& k = i) || decide (j &&& k = j)) = T l C) = decide (j &&& ar l C i = j) := by
  rw [← due_S s hi, Bool.eq_iff_iff, decide_eq_true_eq, List.all_eq_true]
  constructor
  · intro e
    have := T_inj h (fun k hk => s.lt k (List.mem_filter.mp hk).1) s.lt e
    exact List.filter_eq_self.mp this
  · intro e
    rw [List.filter_eq_self.mpr e]
theorem good_sub {N : Nat} {F G : List Nat} (g : Good N F) (s : G.Sublist F) : Good N G := ⟨g.nd.sublist s, fun k hk => g.lt k (s.subset hk)⟩
theorem least_ext {l : List Nat} (h : Lets l) {F G : List Nat} (gF : Good (2 ^ l.length) F) (gG : Good (2 ^ l.length) G) (e : ∀ k, k ∈ F ↔ k ∈ G) : srt (T l (least F)) = srt (T l (least G)) :=
  T_ext h (good_sub gF List.filter_sublist) (good_sub gG List.filter_sublist) fun k => by rw [mem_least, mem_least]; simp only [e]
theorem ss_good {l : List Nat} (h : Lets l) {F : List Nat} (g : Good (2 ^ l.length) F) : ss (T l F) = some (srt (T l F)) := by
  have := g.len
  have := p7 h
  unfold ss
  rw [if_pos (by rw [T_len]; omega)]
  congr 1
  exact srt_ext (ded_nd _ _ List.nodup_nil) (T_nd h g.nd g.lt) fun s => by rw [mem_ded]; simp
theorem least_of_L {l : List Nat} (h : Lets l) {F : List Nat} (g : Good (2 ^ l.length) F) : m_least_of (S l, T l F, ()) = some ⟨srt (T l (least F))⟩ := by
  obtain ⟨A, eA, fA, gA, mA⟩ := T_srt h g
  show runF _ _ = _
  simp only [runF, runU, sseq, Fl.bnd, sret, sset, sif, sex, snever, sfor, snewD, sdput, fkeys, dz, ds, pdz, pds, f1, f2, fv, fc, fif, fand, foor, fnot, fcons, fnil, fch, lcons, lnil, flc, gz, gs, pz, ps, ic, ia, i0, snil, wid, wn, wk, wa, Option.bind_some, Option.map_some, Option.map_map, Function.comp_def, fyes, Option.bind_assoc]
  simp only [ss_good h g, eA, numbers_ofL_S h A fA.lt fA.n, least_S A fA.n, Option.map_some, Option.bind_some]
  rw [family_of_S h (least A) (fun k hk => fA.lt k (List.mem_filter.mp hk).1) (Nat.le_trans (List.length_filter_le _ _) fA.n), least_ext h gA g mA]
  try rfl
theorem T_eq {l : List Nat} (h : Lets l) {i j : Nat} (hi : i < 2 ^ l.length) (hj : j < 2 ^ l.length) : decide (S (sel l i) = S (sel l j)) = decide (i = j) :=
  decide_eq_decide.mpr ⟨fun e => sel_inj h.nd hi hj (S_inj.mp e), fun e => by rw [e]⟩
def full (l : List Nat) : Nat := 2 ^ l.length - 1
theorem full_lt (l : List Nat) : full l < 2 ^ l.length := by
  have : 0 < 2 ^ l.length := Nat.two_pow_pos _
  unfold full
  omega
def un (l : List Nat) (c : Nat) : Nat := ((List.range (2 ^ l.length)).find? fun k => decide (sel l k = [c])).getD 0
theorem un_ok {l : List Nat} (h : Lets l) {c : Nat} (hc : c ∈ l) : un l c < 2 ^ l.length ∧ sel l (un l c) = [c] := by
  obtain ⟨k, hk, e⟩ := sel_one h hc
  unfold un
  cases q : (List.range (2 ^ l.length)).find? fun k => decide (sel l k = [c]) with
  | none =>
    have := List.find?_eq_none.mp q k (List.mem_range.mpr hk)
    simp [e] at this
  | some j =>
    have h1 := List.find?_some q
    have h2 := List.mem_of_find?_eq_some q
    exact ⟨List.mem_range.mp h2, of_decide_eq_true h1⟩
theorem lcGo_l {α : Type} {t : Str → Option Bool} {e : Str → Option α} {P : Nat → Bool} {E : Nat → α} : ∀ {F : List Nat}, (∀ c ∈ F, t (S [c]) = some (P c)) → (∀ c ∈ F, P c = true → e (S [c]) = some (E c)) → lcGo t e (F.map fun c => S [c]) = some ((F.filter P).map E)
  | [], _, _ => rfl
  | c :: F, h1, h2 => by
    rw [List.map_cons]
    unfold lcGo
    rw [h1 c List.mem_cons_self, Option.bind_some, lcGo_l (fun d hd => h1 d (List.mem_cons_of_mem _ hd)) (fun d hd => h2 d (List.mem_cons_of_mem _ hd))]
    cases hP : P c with
    | true => simp [hP, h2 c List.mem_cons_self hP]
    | false => simp [hP]
theorem fam_sub {l F G : List Nat} (f : Fam l F) (s : G.Sublist F) : Fam l G := ⟨fun k hk => f.lt k (s.subset hk), f.asc.sublist (s.map _), Nat.le_trans s.length_le f.n⟩
def l14 : List Nat := [97, 98, 99, 100, 101, 102, 103, 107, 109, 112, 113, 120, 121, 122]
theorem full_up {l : List Nat} {k : Nat} (hk : k < 2 ^ l.length) : k &&& full l = k := and_full hk
theorem up_full {l : List Nat} {k : Nat} (hk : k < 2 ^ l.length) (h : full l &&& k = full l) : k = full l := le_anti (full_up hk) h
theorem mem_un {l : List Nat} (h : Lets l) {c k : Nat} (hc : c ∈ l) : c ∈ sel l k ↔ un l c &&& k = un l c := by
  obtain ⟨h1, h2⟩ := un_ok h hc
  rw [← sel_sub h.nd h1, h2]
  simp
theorem fam_len {l : List Nat} (h5 : l.length ≤ 5) {F : List Nat} (g : Good (2 ^ l.length) F) : F.length ≤ 32 := Nat.le_trans g.len (Nat.pow_le_pow_right (by decide) h5)
theorem sIx_n {n k : Nat} (d : Nat) (h : k ≤ n) : HT.sIx n d (some (k : Int)) = k := by
  show (if (k : Int) < 0 then ((k : Int) + n).toNat else min (k : Int).toNat n) = k
  rw [if_neg (by omega)]
  simp only [Int.toNat_natCast]
  omega
theorem cut_to {α : Type} {xs : List α} {k : Nat} (h : k ≤ xs.length) : cutA none (some (k : Int)) xs = xs.take k := by
  unfold cutA
  rw [sIx_n _ h]
  simp [HT.sIx]
theorem cut_from {α : Type} {xs : List α} {k : Nat} (h : k ≤ xs.length) : cutA (some (k : Int)) none xs = xs.drop k := by
  unfold cutA
  rw [sIx_n _ h]
  simp only [HT.sIx]
  exact List.take_of_length_le (by rw [List.length_drop]; omega)
theorem clo_eq {l C D : List Nat} (h : Lets l) (hC : ∀ k ∈ C, k < 2 ^ l.length) (hD : ∀ k ∈ D, k < 2 ^ l.length) : decide ((⟨T l C⟩ : Tup Str) = ⟨T l D⟩) = decide (C = D) := decide_eq_decide.mpr ⟨fun e => T_inj h hC hD (congrArg Tup.l e), fun e => by rw [e]⟩
theorem eq_S {l C D : List Nat} (h : Lets l) (hC : ∀ k ∈ C, k < 2 ^ l.length) (hD : ∀ k ∈ D, k < 2 ^ l.length) : m_Closer___eq__ (clo l C, clo l D, ()) = some (decide (C = D)) := by
  show runF _ _ = _
  simp only [runF, runU, sseq, Fl.bnd, sret, sset, sif, sex, snever, sfor, snewD, sdput, fkeys, dz, ds, pdz, pds, f1, f2, fv, fc, fif, fand, foor, fnot, fcons, fnil, fch, lcons, lnil, flc, gz, gs, pz, ps, ic, ia, i0, snil, wid, wn, wk, wa, Option.bind_some, Option.map_some, Option.map_map, Function.comp_def, fyes, Option.bind_assoc]
  have e1 : sEq (clo l C).things (clo l D).things = some true := by
    show sEq (S l) (S l) = _
    unfold sEq
    rw [decide_eq_true rfl]
  have e2 : dEq (clo l C).closed (clo l D).closed = some (decide (C = D)) := congrArg some (clo_eq h hC hD)
  simp only [if_true, e1, e2, Option.bind_some, Option.map_some]
theorem is_of_S {l C E : List Nat} (h : Lets l) (A : All l E) {B : List (Nat × Nat)} (b : Bok l B) (hC : ∀ k ∈ C, k < 2 ^ l.length) : m_is_of (clo l C, bk l B, ()) = some (decide (E.filter (kp B) = C)) := by
  have sy := kept_sys h A b
  show runF _ _ = _
  simp only [runF, runU, sseq, Fl.bnd, sret, sset, sif, sex, snever, sfor, snewD, sdput, fkeys, dz, ds, pdz, pds, f1, f2, fv, fc, fif, fand, foor, fnot, fcons, fnil, fch, lcons, lnil, flc, gz, gs, pz, ps, ic, ia, i0, snil, wid, wn, wk, wa, Option.bind_some, Option.map_some, Option.map_map, Function.comp_def, fyes, Option.bind_assoc]
  simp only [chk_closer_S, things_S, chk_book_S h b, by_rules_S h A b, eq_S h sy.lt hC, Option.bind_some, Option.map_some]
theorem bok_erase {l : List Nat} {B : List (Nat × Nat)} (b : Bok l B) (k : Nat) : Bok l (B.eraseIdx k) := ⟨fun p hp => b.lt p (List.mem_of_mem_eraseIdx hp), by
  have := b.n
  have := List.length_eraseIdx_le B k
  omega⟩
theorem cuts_B (l : List Nat) {B : List (Nat × Nat)} {k : Nat} (hk : k < B.length) (hB : B.length ≤ 1000) : ((cutT none (some (k : Int)) (bk l B)).bind fun x => (iAdd (k : Int) 1).bind fun y => (cutT (some y) none (bk l B)).bind fun y => tCatA x y) = some (bk l (B.eraseIdx k)) := by
  have hl : (bk l B).l.length = B.length := by simp [bk]
  have e1 : cutT none (some (k : Int)) (bk l B) = some (bk l (B.take k)) := by
    unfold cutT
    rw [cut_to (by omega)]
    simp [bk, List.map_take]
  have e2 : cutT (some ((k : Int) + 1)) none (bk l B) = some (bk l (B.drop (k + 1))) := by
    unfold cutT
    rw [show ((k : Int) + 1) = ((k + 1 : Nat) : Int) from rfl, cut_from (by omega)]
    simp [bk, List.map_drop]
  simp only [e1, iAdd, e2, Option.bind_some]
  unfold tCatA
  rw [if_pos (by simp [bk]; omega), List.eraseIdx_eq_take_drop_succ]
  simp [bk]
theorem kp_at {B : List (Nat × Nat)} {k : Nat} {p : Nat × Nat} (hp : B[k]? = some p) (x : Nat) : kp B x = (kp (B.eraseIdx k) x && (!decide (p.1 &&& x = p.1) || decide (p.2 &&& x = p.2))) := by
  obtain ⟨hk, e⟩ := List.getElem?_eq_some_iff.mp hp
  have eB : B = B.take k ++ p :: B.drop (k + 1) := by
    rw [← e, ← List.drop_eq_getElem_cons hk, List.take_append_drop]
  rw [List.eraseIdx_eq_take_drop_succ]
  unfold kp
  conv => lhs; rw [eB]
  simp only [List.all_append, List.all_cons]
  cases (List.take k B).all fun p => !decide (p.1 &&& x = p.1) || decide (p.2 &&& x = p.2) <;> simp [Bool.and_comm]
theorem filt_at {B : List (Nat × Nat)} {k : Nat} {p : Nat × Nat} (hp : B[k]? = some p) (E : List Nat) : E.filter (kp B) = (E.filter (kp (B.eraseIdx k))).filter fun x => !decide (p.1 &&& x = p.1) || decide (p.2 &&& x = p.2) := by
  rw [List.filter_filter]
  exact List.filter_congr fun x _ => by rw [kp_at hp, Bool.and_comm]
theorem is_needless_S {l E : List Nat} (h : Lets l) (A : All l E) {B : List (Nat × Nat)} (b : Bok l B) {k : Nat} (hk : k < B.length) : m_is_needless (bk l B, (k : Int), ()) = some (decide (E.filter (kp (B.eraseIdx k)) = E.filter (kp B))) := by
  have hb := b.n
  have b2 := bok_erase b k
  have s2 := kept_sys h A b2
  have hp : B[k]? = some B[k] := List.getElem?_eq_getElem hk
  obtain ⟨p1, p2⟩ := b.lt _ (List.getElem_mem hk)
  have n7 := h.n
  show runF _ _ = _
  simp only [runF, runU, sseq, Fl.bnd, sret, sset, sif, sex, snever, sfor, snewD, sdput, fkeys, dz, ds, pdz, pds, f1, f2, fv, fc, fif, fand, foor, fnot, fcons, fnil, fch, lcons, lnil, flc, gz, gs, pz, ps, ic, ia, i0, snil, wid, wn, wk, wa, Option.bind_some, Option.map_some, Option.map_map, Function.comp_def, fyes, Option.bind_assoc]
  rw [cuts_B l hk (by omega)]
  have et : tIx (bk l B) (k : Int) = some (rul l B[k].1 B[k].2) := by
    unfold tIx
    apply atI_nat
    show (B.map fun p => rul l p.1 p.2)[k]? = _
    rw [List.getElem?_map, hp]
    rfl
  have e0 : ix0 (rul l B[k].1 B[k].2) 0 = some (S (sel l B[k].1)) := rfl
  have e1 : ∀ X Y, ix1 (⟨X, Y⟩ : T2 (Tup Int) Str) 1 = some Y := fun _ _ => rfl
  simp only [Option.bind_some, Option.map_some, et, e0, led_on_S h b2 p1, e1, keeps_S h _ p1 p2]
  rw [lead_ar h A b2 p1 (by omega), ar_up p1]
  have := more_same h s2 (j := B[k].2) p1
  rw [← filt_at hp E] at this
  simp only [decide_true, Bool.not_true, Bool.false_or, ← this]
  refine congrArg some (decide_eq_decide.mpr ⟨fun e => ?_, fun e => by rw [e]⟩)
  exact (T_inj h (kept_sys h A b).lt s2.lt e).symm
theorem needless_S {l E : List Nat} (h : Lets l) (A : All l E) {B : List (Nat × Nat)} (b : Bok l B) : m_needless (S l, bk l B, ()) = some ⟨Z ((List.range B.length).filter fun k => decide (E.filter (kp (B.eraseIdx k)) = E.filter (kp B)))⟩ := by
  have hb := b.n
  have hl : lenT (bk l B, ()) = some ((B.length : Nat) : Int) := by simp [lenT, bk]
  show runF _ _ = _
  simp only [runF, runU, sseq, Fl.bnd, sret, sset, sif, sex, snever, sfor, snewD, sdput, fkeys, dz, ds, pdz, pds, f1, f2, fv, fc, fif, fand, foor, fnot, fcons, fnil, fch, lcons, lnil, flc, gz, gs, pz, ps, ic, ia, i0, snil, wid, wn, wk, wa, Option.bind_some, Option.map_some, Option.map_map, Function.comp_def, fyes, Option.bind_assoc]
  simp only [chk_things_S l h.w h.n h.p, chk_book_S h b, Option.bind_some, Option.map_some, hl, rng_n _ (show B.length ≤ 1000 by omega)]
  rw [if_pos (by simp [Z]; omega), lcGo_Z (P := fun k => decide (E.filter (kp (B.eraseIdx k)) = E.filter (kp B))) (E := fun k => (k : Int)) _ ?_ (fun _ _ _ => rfl)]
  · rfl
  · intro k hk
    exact is_needless_S h A b (List.mem_range.mp hk)
theorem bk_to (l : List Nat) {B : List (Nat × Nat)} {k : Nat} (hk : k ≤ B.length) : cutT none (some (k : Int)) (bk l B) = some (bk l (B.take k)) := by
  unfold cutT
  rw [cut_to (by simpa [bk] using hk)]
  simp [bk, List.map_take]
theorem bk_from (l : List Nat) {B : List (Nat × Nat)} {k : Nat} (hk : k + 1 ≤ B.length) : cutT (some ((k : Int) + 1)) none (bk l B) = some (bk l (B.drop (k + 1))) := by
  unfold cutT
  rw [show ((k : Int) + 1) = ((k + 1 : Nat) : Int) from rfl, cut_from (by simpa [bk] using hk)]
  simp [bk, List.map_drop]
theorem bk_cat (l : List Nat) {B D : List (Nat × Nat)} (h : B.length + D.length ≤ 1000) : tCatA (bk l B) (bk l D) = some (bk l (B ++ D)) := by
  unfold tCatA
  rw [if_pos (by simp [bk]; omega)]
  simp [bk]
def gLen {α : Type} (n : Nat) (x : Option α) : Option α := if n < 100000 then x else none
theorem gLen_ok {α : Type} {n : Nat} {x : Option α} (h : n < 100000) : gLen n x = x := if_pos h
theorem sapp_eq {i : Nat} {Γ Γd S ρ α : Type} [EnvR Γ] [Rep α] [EnvR Γd] (o : Own i Γ α Γd) (f : Γ → Option (α × Γ)) (γ : Γ) : sapp (S := S) (ρ := ρ) o f γ = (f γ).bind fun p => gLen (o.get p.2).length (some (.nx (o.set p.2 (o.get p.2 ++ [p.1])))) := rfl
theorem sel_nd {l : List Nat} (nd : l.Nodup) (k : Nat) : (sel l k).Nodup := nd.filter _
def cd (l x : List Nat) : Nat := ((List.range (2 ^ l.length)).find? fun k => decide (sel l k = x)).getD 0
theorem cd_ok {l : List Nat} (nd : l.Nodup) {x : List Nat} (s : x.Sublist l) : cd l x < 2 ^ l.length ∧ sel l (cd l x) = x := by
  obtain ⟨k, hk, e⟩ := sub_sel s nd
  unfold cd
  cases hf : (List.range (2 ^ l.length)).find? fun k => decide (sel l k = x) with
  | none =>
    have := List.find?_eq_none.mp hf k (List.mem_range.mpr hk)
    rw [e] at this
    simp at this
  | some m =>
    have h1 := List.find?_some hf
    have h2 := List.mem_range.mp (List.mem_of_find?_eq_some hf)
    exact ⟨h2, of_decide_eq_true h1⟩
def lf (l : List Nat) (k j : Nat) : Nat := cd l (sel (sel l k) j)
def lw (l : List Nat) (k j : Nat) : Nat := cd (sel l k) (sel l (j &&& k))
theorem lf_ok {l : List Nat} (nd : l.Nodup) (k j : Nat) : lf l k j < 2 ^ l.length ∧ sel l (lf l k j) = sel (sel l k) j := cd_ok nd (List.filter_sublist.trans List.filter_sublist)
theorem lf_in {l : List Nat} (nd : l.Nodup) (k j : Nat) : lf l k j &&& k = lf l k j := by
  obtain ⟨h1, h2⟩ := lf_ok nd k j
  refine (sel_sub nd h1).mp fun c hc => ?_
  rw [h2] at hc
  exact (mem_sel.mp hc).1
theorem sort_set {l : List Nat} (h : Lets l) {F : List Nat} (hF : ∀ k ∈ F, k < 2 ^ l.length) : ∃ A, srt (ded [] (T l F)) = T l A ∧ Fam l A ∧ ∀ k, k ∈ A ↔ k ∈ F := by
  let F2 := (List.range (2 ^ l.length)).filter fun k => decide (k ∈ F)
  have m2 : ∀ k, k ∈ F2 ↔ k ∈ F := fun k => by
    simp only [F2, List.mem_filter, List.mem_range, decide_eq_true_eq]
    exact ⟨fun h => h.2, fun h => ⟨hF k h, h⟩⟩
  have g : Good (2 ^ l.length) F2 := ⟨List.nodup_range.filter _, fun k hk => hF k ((m2 k).mp hk)⟩
  obtain ⟨A, e, f, _, m⟩ := T_srt h g
  refine ⟨A, ?_, f, fun k => (m k).trans (m2 k)⟩
  rw [← e]
  refine srt_eq ?_
  refine (List.perm_ext_iff_of_nodup (ded_nd _ _ List.nodup_nil) ?_).mpr fun s => ?_
  · exact nodup_map g.nd fun a ha b hb e => sel_inj h.nd (g.lt a ha) (g.lt b hb) (S_inj.mp e)
  · rw [mem_T, mem_ded, mem_T]
    constructor
    · rintro (q | ⟨k, hk, rfl⟩)
      · cases q
      · exact ⟨k, (m2 k).mpr hk, rfl⟩
    · rintro ⟨k, hk, rfl⟩
      exact .inr ⟨k, (m2 k).mp hk, rfl⟩
theorem lt_of_not {x y : Str} (h : ¬ y.cps.toList < x.cps.toList) (n : ¬ x = y) : x.cps.toList < y.cps.toList := by
  by_cases q : x.cps.toList < y.cps.toList
  · exact q
  · exact absurd (leS_anti _ _ (decide_eq_true (List.not_lt.mp h)) (decide_eq_true (List.not_lt.mp q))) n
theorem lt_irr (x : Str) : ¬ x.cps.toList < x.cps.toList := List.lt_irrefl _
def ltP (a b : T2 Str Str) : Prop := a.a.cps.toList < b.a.cps.toList ∨ (a.a = b.a ∧ a.b.cps.toList < b.b.cps.toList)
theorem dat_pair (a : T2 Str Str) : Dat.d a = PyData.tuple [.str a.a, .str a.b] := rfl
theorem le_pair (a b : T2 Str Str) : PySem.W.dataLe false (Dat.d : T2 Str Str → PyData) a b = true ↔ (a = b ∨ ltP a b) := by
  rw [PySem.W.dataLe_eq]
  show (!PySem.W.dataLt (Dat.d b) (Dat.d a)) = true ↔ _
  rw [dat_pair, dat_pair, PySem.W.dataLt_pair (by simp [PySem.W.alike]) (by simp [PySem.W.alike]), PySem.W.dataLt_str, PySem.W.dataLt_str]
  simp only [PyData.eqv, beq_iff_eq]
  obtain ⟨a1, a2⟩ := a
  obtain ⟨b1, b2⟩ := b
  simp only [ltP, T2.mk.injEq]
  by_cases h1 : b1 = a1
  · subst h1
    simp only [if_true]
    by_cases h2 : b2 = a2
    · subst h2
      simp
    · simp only [h2, if_false, Bool.not_eq_true', decide_eq_false_iff_not]
      constructor
      · intro q
        exact .inr (.inr ⟨by first | rfl | trivial, lt_of_not q (fun z => h2 z.symm)⟩)
      · rintro (⟨_, rfl⟩ | q | ⟨_, q⟩)
        · exact absurd rfl h2
        · exact absurd q (lt_irr _)
        · exact fun z => List.lt_irrefl _ (List.lt_trans q z)
  · have h1' : ¬ a1 = b1 := fun z => h1 z.symm
    simp only [h1, if_false, Bool.not_eq_true', decide_eq_false_iff_not]
    constructor
    · intro q
      exact .inr (.inl (lt_of_not q h1'))
    · rintro (⟨q, _⟩ | q | ⟨q, _⟩)
      · exact absurd q h1'
      · exact fun z => List.lt_irrefl _ (List.lt_trans q z)
      · exact absurd q h1'
theorem ltP_irr (a : T2 Str Str) : ¬ ltP a a := fun h => h.elim (lt_irr _) fun q => lt_irr _ q.2
theorem ltP_trans {a b c : T2 Str Str} (h : ltP a b) (k : ltP b c) : ltP a c := by
  rcases h with h | ⟨h, h'⟩ <;> rcases k with k | ⟨k, k'⟩
  · exact .inl (List.lt_trans h k)
  · exact .inl (by rw [← k]; exact h)
  · exact .inl (by rw [h]; exact k)
  · exact .inr ⟨h.trans k, List.lt_trans h' k'⟩
theorem ltP_tri (a b : T2 Str Str) : a = b ∨ ltP a b ∨ ltP b a := by
  by_cases h : a = b
  · exact .inl h
  · by_cases h1 : a.a = b.a
    · have h2 : ¬ a.b = b.b := fun z => h (by cases a; cases b; simp_all)
      by_cases q : a.b.cps.toList < b.b.cps.toList
      · exact .inr (.inl (.inr ⟨h1, q⟩))
      · exact .inr (.inr (.inr ⟨h1.symm, lt_of_not q (fun z => h2 z.symm)⟩))
    · by_cases q : a.a.cps.toList < b.a.cps.toList
      · exact .inr (.inl (.inl q))
      · exact .inr (.inr (.inl (lt_of_not q (fun z => h1 z.symm))))
theorem srt_pairs {xs ys : List (T2 Str Str)} (p : xs.Perm ys) (hs : ys.Pairwise ltP) : srtP xs = ys := by
  have s1 : (srtP xs).Pairwise (fun a b => PySem.W.dataLe false (Dat.d : T2 Str Str → PyData) a b = true) := by
    unfold srtP
    refine List.pairwise_mergeSort (fun a b c h1 h2 => ?_) (fun a b => ?_) xs
    · rw [le_pair] at h1 h2 ⊢
      rcases h1 with rfl | h1
      · exact h2
      · rcases h2 with rfl | h2
        · exact .inr h1
        · exact .inr (ltP_trans h1 h2)
    · rw [Bool.or_eq_true, le_pair, le_pair]
      rcases ltP_tri a b with h | h | h
      · exact .inl (.inl h)
      · exact .inl (.inr h)
      · exact .inr (.inr h)
  refine ((srtP_perm xs).trans p).eq_of_pairwise (le := fun a b => PySem.W.dataLe false (Dat.d : T2 Str Str → PyData) a b = true) (fun a b _ _ h1 h2 => ?_) s1 (hs.imp fun h => (le_pair _ _).mpr (.inr h))
  rw [le_pair] at h1 h2
  rcases h1 with h | h1
  · exact h
  · rcases h2 with h | h2
    · exact h.symm
    · exact absurd (ltP_trans h1 h2) (ltP_irr _)
def okR (C l : List Nat) (P : List Nat) (k : Nat) : Bool := P.all fun q => !decide (q &&& k = q) || decide (ar l C q &&& k = ar l C q)
def stL (l C : List Nat) : Nat → List Nat
  | 0 => []
  | n + 1 => if !decide (ar l C n = n) && okR C l (stL l C n) n then stL l C n ++ [n] else stL l C n
def sto (l C : List Nat) : List Nat := stL l C (2 ^ l.length)
theorem stL_lt (l C : List Nat) : ∀ (n k : Nat), k ∈ stL l C n → k < n
  | 0, k, h => by cases h
  | n + 1, k, h => by
    unfold stL at h
    split at h
    · rcases List.mem_append.mp h with q | q
      · have := stL_lt l C n k q
        omega
      · rw [List.mem_singleton.mp q]
        omega
    · have := stL_lt l C n k h
      omega
theorem stL_asc (l C : List Nat) : ∀ n, (stL l C n).Pairwise (· < ·)
  | 0 => .nil
  | n + 1 => by
    unfold stL
    split
    · exact List.pairwise_append.mpr ⟨stL_asc l C n, List.pairwise_singleton _ _, fun a ha b hb => by
        rw [List.mem_singleton.mp hb]
        exact stL_lt l C n a ha⟩
    · exact stL_asc l C n
theorem stL_mono (l C : List Nat) {n m : Nat} (h : n ≤ m) {k : Nat} (hk : k < n) : k ∈ stL l C m ↔ k ∈ stL l C n := by
  induction m with
  | zero => omega
  | succ m ih =>
    by_cases e : n = m + 1
    · rw [e]
    · rw [← ih (by omega)]
      conv => lhs; unfold stL
      split
      · rw [List.mem_append, List.mem_singleton]
        constructor
        · rintro (q | q)
          · exact q
          · omega
        · exact .inl
      · rfl
theorem stL_at (l C : List Nat) (n : Nat) : n ∈ stL l C (n + 1) ↔ ¬ ar l C n = n ∧ okR C l (stL l C n) n = true := by
  have e : stL l C (n + 1) = if (!decide (ar l C n = n) && okR C l (stL l C n) n) = true then stL l C n ++ [n] else stL l C n := rfl
  rw [e]
  constructor
  · intro h
    split at h
    · rename_i q
      simpa using q
    · exact absurd (stL_lt l C n n h) (Nat.lt_irrefl _)
  · rintro ⟨h1, h2⟩
    rw [if_pos (by simp [h1, h2])]
    exact List.mem_append_right _ (List.mem_singleton.mpr rfl)
theorem le_num {a b : Nat} (h : a &&& b = a) : a ≤ b := by
  rw [← h]
  exact Nat.and_le_right
theorem mem_sto {l C : List Nat} {k : Nat} : k ∈ sto l C ↔ k < 2 ^ l.length ∧ ¬ ar l C k = k ∧ ∀ q ∈ sto l C, q ≠ k → q &&& k = q → ar l C q &&& k = ar l C q := by
  constructor
  · intro h
    have hk := stL_lt l C _ k h
    have h2 := (stL_mono l C (n := k + 1) hk (Nat.lt_succ_self k)).mp h
    obtain ⟨h3, h4⟩ := (stL_at l C k).mp h2
    refine ⟨hk, h3, fun q hq hne hle => ?_⟩
    have hql : q < k := Nat.lt_of_le_of_ne (le_num hle) hne
    have hq2 := (stL_mono l C (n := k) (by omega) hql).mp hq
    have := List.all_eq_true.mp h4 q hq2
    simpa [hle] using this
  · rintro ⟨hk, h3, h4⟩
    refine (stL_mono l C (n := k + 1) hk (Nat.lt_succ_self k)).mpr ((stL_at l C k).mpr ⟨h3, List.all_eq_true.mpr fun q hq => ?_⟩)
    have hql := stL_lt l C _ q hq
    by_cases hle : q &&& k = q
    · have := h4 q ((stL_mono l C (n := k) (by omega) hql).mpr hq) (by omega) hle
      simp [this]
    · simp [hle]
theorem sto_good (l C : List Nat) : Good (2 ^ l.length) (sto l C) := ⟨(stL_asc l C _).imp fun h => Nat.ne_of_lt h, fun k hk => stL_lt l C _ k hk⟩
theorem closed_T {l C : List Nat} (h : Lets l) (s : Sys l C) {k : Nat} (hk : k < 2 ^ l.length) : m_Closer_is_closed (clo l C, S (sel l k), ()) = some (decide (ar l C k = k)) := by
  have n7 := h.n
  show runF _ _ = _
  simp only [runF, runU, runM, im, sseq, Fl.bnd, sret, sretm, sset, ssetm, sif, sifm, sex, sexm, snever, sfor, sform, sset1, sdm, spar, fown, snewD, sdput, fkeys, up, m1, m2, mcons, mdr, mif, mand, moor, mnot, Vx.oz, Vx.os, f1, f2, fv, fc, fif, fand, foor, fnot, fcons, fnil, fch, lcons, lnil, flc, gz, gs, pz, ps, ic, ia, i0, snil, wid, wn, wk, wa, Option.bind_some, Option.map_some, Option.map_map, Function.comp_def, fyes, Option.bind_assoc, snewm, snew, sapp, sunp, sreto, sfrz, mlcons, pos', poz, fz, fs, short, shortT, pairT, List.length_cons, List.length_nil, Nat.reduceAdd, Nat.reduceLeDiff, if_true]
  have e1 : dget (⟨(clo l C).around⟩ : Dct Str) (S (sel l k)) = some (S (sel l (ar l C k))) := val_arD h hk
  have e2 : m_check_lot ((clo l C).things, S (sel l k), ()) = some () := chk_lot_S l _ (sel_word h k) (sel_in l k) (show (sel l k).length ≤ 1000 by have := sel_len l k; omega)
  have e3 : sEq (S (sel l (ar l C k))) (S (sel l k)) = some (decide (ar l C k = k)) := by
    exact congrArg some (T_eq h (ar_lt s k) hk)
  simp only [e1, e2, e3, Option.bind_some, Option.map_some]
theorem first_brokenL_S {l : List Nat} (h : Lets l) {B : List (Nat × Nat)} (b : Bok l B) (k : Nat) : m_first_brokenL ((bk l B).l, S (sel l k), ()) = some ((fb k B 0).map fun (i : Nat) => (i : Int)) := by
  apply Ev.out
  show Ev (runF _ _) _
  unfold runF
  refine Ev.bind ?_
  unfold sseq
  refine Ev.bind ?_
  unfold sfor
  refine Ev.bind (Ev.of rfl ?_)
  refine Ev.forLr (fun xs γ => ∃ (n : Nat) (r : List (Nat × Nat)), xs = enumF n (r.map fun p => rul l p.1 p.2) ∧ (∀ p ∈ r, p ∈ B) ∧ fb k r n = fb k B 0 ∧ γ = ((bk l B).l, S (sel l k), (⟨⟩ : Any), (⟨⟩ : Any), ())) ⟨0, B, rfl, fun _ h => h, rfl, rfl⟩ ?_ ?_
  · rintro x xs γ ⟨n, r, h1, h2, h3, rfl⟩
    cases r with
    | nil => cases h1
    | cons p r =>
      cases h1
      obtain ⟨p1, p2⟩ := b.lt p (h2 p List.mem_cons_self)
      refine Ev.bind ?_
      rw [show fb k (p :: r) n = (if (!decide (p.1 &&& k = p.1) || decide (p.2 &&& k = p.2)) = true then fb k r (n + 1) else some n) from rfl] at h3
      cases hc : (!decide (p.1 &&& k = p.1) || decide (p.2 &&& k = p.2)) with
      | true =>
        rw [hc, if_pos rfl] at h3
        refine Ev.of (y := Fl.nx ((bk l B).l, S (sel l k), (n : Int), rul l p.1 p.2, ())) ?_ (Ev.of rfl (.inl ⟨_, rfl, n + 1, r, rfl, fun q hq => h2 q (List.mem_cons_of_mem _ hq), h3, rfl⟩))
        unfold sif
        have e : (fnot (f1 m_keeps (fcons (fv (gs gz)) (fcons (fv (gs (gs (gs gz)))) fnil)))) ((bk l B).l, S (sel l k), (n : Int), rul l p.1 p.2, ()) = some false := by
          show Option.map _ (m_keeps (S (sel l k), rul l p.1 p.2, ())) = _
          rw [keeps_S h k p1 p2, hc]
          rfl
        exact (congrArg (fun z => Option.bind z _) e).trans rfl
      | false =>
        rw [hc, if_neg (by simp)] at h3
        refine Ev.of (y := Fl.rt (some (n : Int)) ()) ?_ (Ev.of rfl (.inr ⟨_, _, rfl, Ev.of rfl (Ev.of rfl (by rw [← h3]; rfl))⟩))
        unfold sif
        have e : (fnot (f1 m_keeps (fcons (fv (gs gz)) (fcons (fv (gs (gs (gs gz)))) fnil)))) ((bk l B).l, S (sel l k), (n : Int), rul l p.1 p.2, ()) = some true := by
          show Option.map _ (m_keeps (S (sel l k), rul l p.1 p.2, ())) = _
          rw [keeps_S h k p1 p2, hc]
          rfl
        exact (congrArg (fun z => Option.bind z _) e).trans rfl
  · rintro γ ⟨n, r, h1, h2, h3, rfl⟩
    cases r with
    | cons => cases h1
    | nil => exact Ev.of rfl (Ev.of rfl (by rw [← h3]; rfl))
theorem stL_len (l C : List Nat) : ∀ m, (stL l C m).length ≤ m := fun m => by
  induction m with
  | zero => simp [stL]
  | succ m ih =>
    have e : stL l C (m + 1) = if (!decide (ar l C m = m) && okR C l (stL l C m) m) = true then stL l C m ++ [m] else stL l C m := rfl
    rw [e]
    split
    · simp; omega
    · omega
theorem stem_of_S {l C A : List Nat} (h : Lets l) (h6 : l.length ≤ 6) (s : Sys l C) (eA : srt (T l (sto l C)) = T l A) (fA : Fam l A) (mA : ∀ k, k ∈ A ↔ k ∈ sto l C) : m_stem_of (clo l C, ()) = some (bk l (A.map fun k => (k, ar l C k))) := by
  apply Ev.out
  show Ev (runF _ _) _
  unfold runF
  refine Ev.bind ?_
  simp only [runF, runU, runM, im, sseq, Fl.bnd, sret, sretm, sset, ssetm, sif, sifm, sex, sexm, snever, sfor, sform, sset1, sdm, spar, fown, snewD, sdput, fkeys, up, m1, m2, mcons, mdr, mif, mand, moor, mnot, Vx.oz, Vx.os, f1, f2, fv, fc, fif, fand, foor, fnot, fcons, fnil, fch, lcons, lnil, flc, gz, gs, pz, ps, ic, ia, i0, snil, wid, wn, wk, wa, Option.bind_some, Option.map_some, Option.map_map, Function.comp_def, fyes, Option.bind_assoc, snewm, snew, sapp_eq, sunp, sreto, sfrz, mlcons, pos', poz, fz, fs, short, shortT, pairT, List.length_cons, List.length_nil, Nat.reduceAdd, Nat.reduceLeDiff, if_true]
  have n7 := h.n
  have p7' : 2 ^ l.length ≤ 2 ^ 6 := Nat.pow_le_pow_right (by omega) h6
  simp only [things_S, lots_S h, Option.bind_some]
  refine Ev.bind ?_
  refine Ev.forL (fun xs γ => ∃ n, n ≤ 2 ^ l.length ∧ xs = ((List.range (2 ^ l.length)).drop n).map (fun k => S (sel l k)) ∧ γ = (clo l C, (⟨(bk l ((stL l C n).map fun k => (k, ar l C k))).l⟩ : OL (T2 Str Str)), (⟨⟩ : Any), ())) ⟨0, Nat.zero_le _, rfl, rfl⟩ ?_ ?_
  · rintro x xs γ ⟨n, hn, h1, rfl⟩
    by_cases hlt : n < 2 ^ l.length
    · have hd : (List.range (2 ^ l.length)).drop n = n :: (List.range (2 ^ l.length)).drop (n + 1) := by
        rw [List.drop_eq_getElem_cons (by rw [List.length_range]; exact hlt)]
        simp
      rw [hd, List.map_cons] at h1
      injection h1 with h1 h2
      subst h1
      have hB : ∀ p ∈ ((stL l C n).map fun k => (k, ar l C k)), p.1 < 2 ^ l.length ∧ p.2 < 2 ^ l.length := fun p hp => by
        obtain ⟨q, hq, rfl⟩ := List.mem_map.mp hp
        exact ⟨Nat.lt_trans (stL_lt l C n q hq) hlt, ar_lt s q⟩
      have len : ∀ m, (stL l C m).length ≤ m := fun m => by
        induction m with
        | zero => simp [stL]
        | succ m ih =>
          have e : stL l C (m + 1) = if (!decide (ar l C m = m) && okR C l (stL l C m) m) = true then stL l C m ++ [m] else stL l C m := rfl
          rw [e]
          split
          · simp; omega
          · omega
      have ln := len n
      have b : Bok l ((stL l C n).map fun k => (k, ar l C k)) := ⟨hB, by rw [List.length_map]; omega⟩
      have ef : (fb n ((stL l C n).map fun k => (k, ar l C k)) 0).isNone = okR C l (stL l C n) n := by
        rw [Bool.eq_iff_iff, Option.isNone_iff_eq_none, fb_none]
        unfold kp okR
        rw [List.all_map]
        rfl
      have et : isN ((fb n ((stL l C n).map fun k => (k, ar l C k)) 0).map fun (i : Nat) => (i : Int)) () = some (okR C l (stL l C n) n) := by
        rw [← ef]
        cases fb n ((stL l C n).map fun k => (k, ar l C k)) 0 <;> rfl
      have e4 : ∀ {β : Type} (f : Bool → Option β), ((Option.map (fun x => !x) (m_Closer_is_closed (clo l C, S (sel l n), ()))).bind fun y => (if y = true then (m_first_brokenL ((bk l ((stL l C n).map fun k => (k, ar l C k))).l, S (sel l n), ())).bind fun x => isN x () else some false).bind f) = f (!decide (ar l C n = n) && okR C l (stL l C n) n) := by
        intro β f
        rw [closed_T h s hlt, first_brokenL_S h b n]
        simp only [Option.map_some, Option.bind_some, et]
        cases decide (ar l C n = n) <;> simp
      have e : stL l C (n + 1) = if (!decide (ar l C n = n) && okR C l (stL l C n) n) = true then stL l C n ++ [n] else stL l C n := rfl
      simp only [e4]
      cases hc : (!decide (ar l C n = n) && okR C l (stL l C n) n) with
      | true =>
        have lb : ((bk l ((stL l C n).map fun k => (k, ar l C k))).l).length < 100000 := by simp [bk]; omega
        simp only [if_true, around_S h hlt, Option.bind_some, Option.map_some, gLen_ok lb]
        refine Ev.of rfl ⟨_, rfl, n + 1, hlt, h2, ?_⟩
        rw [e, hc, if_pos rfl]
        simp [bk, rul]
      | false =>
        simp only [Bool.false_eq_true, if_false, Option.bind_some]
        refine Ev.of rfl ⟨_, rfl, n + 1, hlt, h2, ?_⟩
        rw [e, hc]
        simp
    · rw [List.drop_eq_nil_of_le (by rw [List.length_range]; omega)] at h1
      cases h1
  · rintro γ ⟨n, hn, h1, rfl⟩
    have hn2 : n = 2 ^ l.length := by
      by_cases hlt : n < 2 ^ l.length
      · rw [List.drop_eq_getElem_cons (by rw [List.length_range]; exact hlt)] at h1
        cases h1
      · omega
    subst hn2
    have es : srtLP ((bk l ((stL l C (2 ^ l.length)).map fun k => (k, ar l C k))).l, ()) = some (bk l (A.map fun k => (k, ar l C k))).l := by
      unfold srtLP
      have ln : (stL l C (2 ^ l.length)).length ≤ 64 := by
        have := stL_len l C (2 ^ l.length)
        omega
      rw [if_pos (by simp [bk]; omega)]
      refine congrArg some (srt_pairs ?_ ?_)
      · simp only [bk, List.map_map]
        refine List.Perm.map _ ((List.perm_ext_iff_of_nodup (sto_good l C).nd (fam_good fA).nd).mpr fun k => ?_)
        rw [mA]
      · simp only [bk, List.map_map]
        refine List.pairwise_map.mpr ?_
        have := fA.asc
        unfold Asc T at this
        rw [List.pairwise_map] at this
        exact this.imp fun h => .inl h
    simp only [es, tupL, Option.bind_some, Option.map_some]
    exact Ev.of rfl (Ev.of rfl rfl)
structure Stp (l C A : List Nat) : Prop where
  e : srt (T l (sto l C)) = T l A
  f : Fam l A
  m : ∀ k, k ∈ A ↔ k ∈ sto l C
theorem stp_ex {l C : List Nat} (h : Lets l) : ∃ A, Stp l C A := by
  obtain ⟨A, eA, fA, gA, mA⟩ := T_srt h (sto_good l C)
  exact ⟨A, eA, fA, mA⟩
def lor (l C A : List Nat) : List (Nat × Nat) := A.map fun k => (k, ar l C k)
theorem stp_lt {l C A : List Nat} (t : Stp l C A) {k : Nat} (hk : k ∈ A) : k < 2 ^ l.length := t.f.lt k hk
theorem stp_len {l C A : List Nat} (h5 : l.length ≤ 5) (t : Stp l C A) : A.length ≤ 32 := fam_len h5 (fam_good t.f)
theorem lor_ok {l C A : List Nat} (h5 : l.length ≤ 5) (s : Sys l C) (t : Stp l C A) : Bok l (lor l C A) := ⟨fun p hp => by
  obtain ⟨k, hk, rfl⟩ := List.mem_map.mp hp
  exact ⟨stp_lt t hk, ar_lt s k⟩, by
  have := stp_len h5 t
  unfold lor
  rw [List.length_map]
  omega⟩
theorem fam_eq {l F G : List Nat} (h : Lets l) (f : Fam l F) (g : Fam l G) (m : ∀ k, k ∈ F ↔ k ∈ G) : F = G := T_inj h f.lt g.lt (by
  rw [← fam_srt f, ← fam_srt g]
  exact T_ext h (fam_good f) (fam_good g) m)
theorem own {l C A : List Nat} (t : Stp l C A) {a q : Nat} (ha : a ∈ A) (hq : q ∈ A) : (!decide (q &&& a = q) || decide (ar l C q &&& a = ar l C q)) = !decide (q = a) := by
  obtain ⟨h1, h2, h3⟩ := mem_sto.mp ((t.m a).mp ha)
  by_cases e : q = a
  · subst e
    have h4 : ¬ ar l C q &&& q = ar l C q := fun z => h2 (le_anti z (ar_up h1))
    simp [h4]
  · have := h3 q ((t.m q).mp hq) e
    by_cases hl : q &&& a = q
    · simp [hl, this hl, e]
    · simp [hl, e]
theorem kp_lor {l C A : List Nat} (k : Nat) : kp (lor l C A) k = A.all fun q => !decide (q &&& k = q) || decide (ar l C q &&& k = ar l C q) := by
  unfold kp lor
  rw [List.all_map]
  rfl
theorem kept_lor {l C A : List Nat} (s : Sys l C) (t : Stp l C A) {k : Nat} (hk : k < 2 ^ l.length) : kp (lor l C A) k = true ↔ k ∈ C := by
  rw [kp_lor, List.all_eq_true]
  constructor
  · intro h
    by_cases q : ar l C k = k
    · exact (ar_fix s hk).mp q
    · have hs : k ∈ sto l C := mem_sto.mpr ⟨hk, q, fun p hp _ hle => by
        have := h p ((t.m p).mpr hp)
        simpa [hle] using this⟩
      have := h k ((t.m k).mpr hs)
      simp at this
      exact absurd (le_anti this (ar_up hk)) q
  · intro hC q hq
    by_cases hle : q &&& k = q
    · simp [hle, ar_le hC hle]
    · simp [hle]
theorem filt_lor {l C A E : List Nat} (h : Lets l) (a : All l E) (s : Sys l C) (t : Stp l C A) : E.filter (kp (lor l C A)) = C := by
  refine fam_eq h (fam_sub a.f List.filter_sublist) s.toFam fun k => ?_
  rw [List.mem_filter, a.m]
  constructor
  · rintro ⟨h1, h2⟩
    exact (kept_lor s t h1).mp h2
  · intro hC
    exact ⟨s.lt k hC, (kept_lor s t (s.lt k hC)).mpr hC⟩
theorem stem_S {l C A : List Nat} (h : Lets l) (h5 : l.length ≤ 5) (s : Sys l C) (t : Stp l C A) : m_stem (clo l C, ()) = some (bk l (lor l C A)) := by
  show runF _ _ = _
  simp only [runF, runU, runM, im, sseq, Fl.bnd, sret, sretm, sset, ssetm, sif, sifm, sex, sexm, snever, sfor, sform, sset1, sdm, spar, fown, snewD, sdput, fkeys, up, m1, m2, mcons, mdr, mif, mand, moor, mnot, Vx.oz, Vx.os, f1, f2, fv, fc, fif, fand, foor, fnot, fcons, fnil, fch, lcons, lnil, flc, gz, gs, pz, ps, ic, ia, i0, snil, wid, wn, wk, wa, Option.bind_some, Option.map_some, Option.map_map, Function.comp_def, fyes, Option.bind_assoc, snewm, snew, sapp, sunp, sreto, sfrz, mlcons, pos', poz, fz, fs, short, shortT, pairT, List.length_cons, List.length_nil, Nat.reduceAdd, Nat.reduceLeDiff, if_true]
  simp only [chk_closer_S, Option.bind_some, Option.map_some, stem_of_S h (show l.length ≤ 6 by omega) s t.e t.f t.m]
  rfl
def wl (l F : List Nat) : List Nat := F.foldl (step (· &&& ·)) [full l]
theorem wl_full (l F : List Nat) : full l ∈ wl l F := walk_mem F [full l] (by simp)
theorem wl_shut (l F : List Nat) : Shut (wl l F) := shut_walk F [full l] fun x hx y hy => by
  rw [List.mem_singleton.mp hx, List.mem_singleton.mp hy, Nat.and_self]
  simp
theorem wl_good {l F : List Nat} (hF : ∀ k ∈ F, k < 2 ^ l.length) : Good (2 ^ l.length) (wl l F) := walk_good (fun n o _ ho => Nat.and_lt_two_pow _ ho) F [full l] hF ⟨by simp, fun k hk => by
  rw [List.mem_singleton.mp hk]
  exact full_lt l⟩
structure Mt (l F C : List Nat) : Prop where
  lt : ∀ k ∈ F, k < 2 ^ l.length
  e : srt (T l (wl l F)) = T l C
  s : Sys l C
  m : ∀ k, k ∈ C ↔ k ∈ wl l F
theorem mt_ex {l F : List Nat} (h : Lets l) (hF : ∀ k ∈ F, k < 2 ^ l.length) : ∃ C, Mt l F C := by
  obtain ⟨C, e, f, g, m⟩ := T_srt h (wl_good hF)
  exact ⟨C, hF, e, ⟨f, (m _).mpr (wl_full l F), fun x hx y hy => (m _).mpr (wl_shut l F x ((m x).mp hx) y ((m y).mp hy))⟩, m⟩
def brk (p : Nat × Nat) (k : Nat) : Bool := !(!decide (p.1 &&& k = p.1) || decide (p.2 &&& k = p.2))
theorem brk_iff {p : Nat × Nat} {k : Nat} : brk p k = true ↔ p.1 &&& k = p.1 ∧ ¬ p.2 &&& k = p.2 := by
  unfold brk
  simp
theorem le_both {a x y : Nat} (h1 : a &&& x = a) (h2 : a &&& y = a) : a &&& (x &&& y) = a := by rw [← Nat.and_assoc, h1, h2]
theorem and_le1 (x y : Nat) : (x &&& y) &&& x = x &&& y := le_bits.mpr fun i hi => by
  rw [Nat.testBit_and, Bool.and_eq_true] at hi
  exact hi.1
theorem and_le2 (x y : Nat) : (x &&& y) &&& y = x &&& y := le_bits.mpr fun i hi => by
  rw [Nat.testBit_and, Bool.and_eq_true] at hi
  exact hi.2
theorem true_rule {l C E : List Nat} {B : List (Nat × Nat)} (s : Sys l C) (b : Bok l B) (hB : E.filter (kp B) = C) {p : Nat × Nat} (hp : p ∈ B) : p.2 &&& ar l C p.1 = p.2 := by
  have h1 := ar_mem s p.1
  rw [← hB] at h1
  have h2 := List.all_eq_true.mp (List.mem_filter.mp h1).2 p hp
  rw [hB] at h2
  have h3 : p.1 &&& ar l C p.1 = p.1 := ar_up (b.lt p hp).1
  simpa [h3] using h2
theorem two_break {l C A E : List Nat} {B : List (Nat × Nat)} (s : Sys l C) (t : Stp l C A) (b : Bok l B) (hB : E.filter (kp B) = C) {p : Nat × Nat} (hp : p ∈ B) {x y : Nat} (hx : x ∈ A) (hy : y ∈ A) (bx : brk p x = true) (bY : brk p y = true) : x = y := by
  obtain ⟨x1, x2⟩ := brk_iff.mp bx
  obtain ⟨y1, y2⟩ := brk_iff.mp bY
  have tr := true_rule s b hB hp
  by_cases e : x = y
  · exact e
  have own1 : ∀ {a q : Nat}, a ∈ A → q ∈ A → q ≠ a → q &&& a = q → ar l C q &&& a = ar l C q := fun {a q} ha hq hne hle => by
    have := own t ha hq
    simpa [hle, hne] using this
  have lx := stp_lt t hx
  have ly := stp_lt t hy
  have no : ∀ {a c : Nat}, a ∈ A → c ∈ A → a ≠ c → p.1 &&& a = p.1 → ¬ p.2 &&& c = p.2 → ¬ a &&& c = a := fun {a c} ha hc hne h1 h2 hle => by
    have h3 := own1 hc ha hne hle
    have h4 := ar_mono s (stp_lt t ha) h1
    exact h2 (le_trans' (le_trans' tr h4) h3)
  have hm : x &&& y ∈ C := by
    refine (kept_lor s t (Nat.and_lt_two_pow _ ly)).mp ?_
    rw [kp_lor, List.all_eq_true]
    intro q hq
    by_cases hle : q &&& (x &&& y) = q
    · have q1 := le_trans' hle (and_le1 x y)
      have q2 := le_trans' hle (and_le2 x y)
      have n1 : q ≠ x := fun z => no hx hy e x1 y2 (by rw [← z]; exact q2)
      have n2 : q ≠ y := fun z => no hy hx (fun w => e w.symm) y1 x2 (by rw [← z]; exact q1)
      have := le_both (own1 hx hq n1 q1) (own1 hy hq n2 q2)
      simp [hle, this]
    · simp [hle]
  have h5 := ar_le (l := l) hm (le_both x1 y1)
  exact absurd (le_trans' (le_trans' tr h5) (and_le1 x y)) x2
theorem some_break {l C A E : List Nat} {B : List (Nat × Nat)} (a : All l E) (s : Sys l C) (t : Stp l C A) (hB : E.filter (kp B) = C) {x : Nat} (hx : x ∈ A) : ∃ i, fb x B 0 = some i := by
  have : ¬ kp B x = true := fun z => by
    have hm : x ∈ C := by
      rw [← hB]
      exact List.mem_filter.mpr ⟨(a.m x).mpr (stp_lt t hx), z⟩
    exact (mem_sto.mp ((t.m x).mp hx)).2.1 ((ar_fix s (stp_lt t hx)).mpr hm)
  cases e : fb x B 0 with
  | none => exact absurd (fb_none.mp e) this
  | some i => exact ⟨i, rfl⟩
theorem at_least {l C A E : List Nat} {B : List (Nat × Nat)} (a : All l E) (s : Sys l C) (t : Stp l C A) (b : Bok l B) (hB : E.filter (kp B) = C) : A.length ≤ B.length := by
  have g : Good B.length (A.map fun x => (fb x B 0).getD 0) := ⟨nodup_map (fam_good t.f).nd fun x hx y hy e => by
    obtain ⟨i, hi⟩ := some_break a s t hB hx
    obtain ⟨j, hj⟩ := some_break a s t hB hy
    rw [hi, hj] at e
    have e : i = j := e
    subst e
    obtain ⟨h1, h2, h3, _⟩ := fb_at hi
    obtain ⟨_, h5, h6, _⟩ := fb_at hj
    exact two_break s t b hB h1 hx hy (brk_iff.mpr ⟨h2, h3⟩) (brk_iff.mpr ⟨h5, h6⟩), fun k hk => by
    obtain ⟨x, hx, rfl⟩ := List.mem_map.mp hk
    obtain ⟨i, hi⟩ := some_break a s t hB hx
    rw [hi]
    obtain ⟨_, _, _, h4⟩ := fb_at hi
    exact (List.getElem?_eq_some_iff.mp h4).1⟩
  have := g.len
  rwa [List.length_map] at this
theorem steps_S {l : List Nat} (h : Lets l) {B : List (Nat × Nat)} (b : Bok l B) {k : Nat} (hk : k < 2 ^ l.length) : m_steps (S l, bk l B, S (sel l k), ()) = some ⟨Z (lead B 1000 k).1⟩ := by
  show runF _ _ = _
  simp only [runF, runU, runM, im, sseq, Fl.bnd, sret, sretm, sset, ssetm, sif, sifm, sex, sexm, snever, sfor, sform, sset1, sdm, spar, fown, snewD, sdput, fkeys, up, m1, m2, mcons, mdr, mif, mand, moor, mnot, Vx.oz, Vx.os, f1, f2, fv, fc, fif, fand, foor, fnot, fcons, fnil, fch, lcons, lnil, flc, gz, gs, pz, ps, ic, ia, i0, snil, wid, wn, wk, wa, Option.bind_some, Option.map_some, Option.map_map, Function.comp_def, fyes, Option.bind_assoc, snewm, snew, sapp_eq, sunp, sreto, sfrz, mlcons, pos', poz, fz, fs, short, shortT, pairT, List.length_cons, List.length_nil, Nat.reduceAdd, Nat.reduceLeDiff, if_true]
  have n7 := h.n
  have e1 : m_check_things (S l, ()) = some () := chk_things_S l h.w h.n h.p
  have e2 : m_check_lot (S l, S (sel l k), ()) = some () := chk_lot_S l _ (sel_word h k) (sel_in l k) (by have := sel_len l k; omega)
  simp only [e1, e2, chk_book_S h b, led_on_S h b hk, Option.bind_some, Option.map_some]
  rfl
def rsF (l C : List Nat) (c : Nat) : List Nat := (List.range (2 ^ l.length)).filter fun k => !decide (c ∈ sel l k) && decide (c ∈ sel l (ar l C k))
theorem rsF_good (l C : List Nat) (c : Nat) : Good (2 ^ l.length) (rsF l C c) := good_sub (range_good _) List.filter_sublist
theorem mem_rsF {l C : List Nat} {c k : Nat} : k ∈ rsF l C c ↔ k < 2 ^ l.length ∧ c ∉ sel l k ∧ c ∈ sel l (ar l C k) := by
  unfold rsF
  rw [List.mem_filter, List.mem_range]
  simp
theorem reasons_of_S {l C : List Nat} (h : Lets l) (s : Sys l C) {c : Nat} (hc : c ∈ l) : m_reasons_of (clo l C, S [c], ()) = some ⟨srt (T l (least (rsF l C c)))⟩ := by
  show runF _ _ = _
  simp only [runF, runU, runM, im, sseq, Fl.bnd, sret, sretm, sset, ssetm, sif, sifm, sex, sexm, snever, sfor, sform, sset1, sdm, spar, fown, snewD, sdput, fkeys, up, m1, m2, mcons, mdr, mif, mand, moor, mnot, Vx.oz, Vx.os, f1, f2, fv, fc, fif, fand, foor, fnot, fcons, fnil, fch, lcons, lnil, flc, gz, gs, pz, ps, ic, ia, i0, snil, wid, wn, wk, wa, Option.bind_some, Option.map_some, Option.map_map, Function.comp_def, fyes, Option.bind_assoc, snewm, snew, sapp_eq, sunp, sreto, sfrz, mlcons, pos', poz, fz, fs, short, shortT, pairT, List.length_cons, List.length_nil, Nat.reduceAdd, Nat.reduceLeDiff, if_true]
  have N7 := p7 h
  have e1 : lcGo (fun x => (sNotIn (S [c]) x).bind fun b => if b = true then (m_Closer_around (clo l C, x, ())).bind fun y => sIn (S [c]) y else some false) (fun x => some x) ((List.range (2 ^ l.length)).map fun k => S (sel l k)) = some (T l (rsF l C c)) := by
    have := lcGo_T h (t := fun x => (sNotIn (S [c]) x).bind fun b => if b = true then (m_Closer_around (clo l C, x, ())).bind fun y => sIn (S [c]) y else some false) (e := fun x => some x) (P := fun k => !decide (c ∈ sel l k) && decide (c ∈ sel l (ar l C k))) (E := fun k => S (sel l k)) (F := List.range (2 ^ l.length)) (fun k hk => ?_) fun _ _ _ => rfl
    · exact this
    · rw [sNotIn_S, around_S h (List.mem_range.mp hk)]
      by_cases q : c ∈ sel l k
      · simp [q]
      · simp [q, sIn_S]
  have e2 : ((List.range (2 ^ l.length)).map fun k => S (sel l k)).length ≤ 100000 := by simp; omega
  simp only [things_S, lots_S h, Option.bind_some, e2, if_true, e1, Option.map_some, least_of_L h (rsF_good l C c)]
theorem rul_inj {l : List Nat} (h : Lets l) {i j x y : Nat} (hi : i < 2 ^ l.length) (hj : j < 2 ^ l.length) (hx : x < 2 ^ l.length) (hy : y < 2 ^ l.length) (e : rul l i j = rul l x y) : i = x ∧ j = y := by
  have e1 := S_inj.mp (congrArg T2.a e)
  have e2 := S_inj.mp (congrArg T2.b e)
  exact ⟨sel_inj h.nd hi hx e1, sel_inj h.nd hj hy e2⟩
theorem bk_back {l : List Nat} : ∀ {ys : List (T2 Str Str)}, (∀ y ∈ ys, ∃ p : Nat × Nat, p.1 < 2 ^ l.length ∧ p.2 < 2 ^ l.length ∧ rul l p.1 p.2 = y) → ∃ B : List (Nat × Nat), ys = B.map (fun p => rul l p.1 p.2) ∧ ∀ p ∈ B, p.1 < 2 ^ l.length ∧ p.2 < 2 ^ l.length
  | [], _ => ⟨[], rfl, fun _ h => by cases h⟩
  | y :: ys, h => by
    obtain ⟨p, p1, p2, p3⟩ := h y List.mem_cons_self
    obtain ⟨B, b1, b2⟩ := bk_back (ys := ys) fun z hz => h z (List.mem_cons_of_mem _ hz)
    refine ⟨p :: B, by rw [List.map_cons, p3, b1], fun q hq => ?_⟩
    rcases List.mem_cons.mp hq with rfl | hq
    · exact ⟨p1, p2⟩
    · exact b2 q hq
theorem catGo_ok {τ α : Type} {f : τ → Option (List α)} {g : τ → List α} : ∀ {xs : List τ}, (∀ x ∈ xs, f x = some (g x)) → catGo f xs = some (xs.map g).flatten
  | [], _ => rfl
  | x :: xs, h => by
    unfold catGo
    rw [h x List.mem_cons_self, Option.bind_some, catGo_ok fun y hy => h y (List.mem_cons_of_mem _ hy)]
    rfl
theorem flat_len {α β : Type} {f : α → List β} {n : Nat} : ∀ {xs : List α}, (∀ x ∈ xs, (f x).length ≤ n) → (xs.map f).flatten.length ≤ n * xs.length
  | [], _ => by simp
  | x :: xs, h => by
    rw [List.map_cons, List.flatten_cons, List.length_append, List.length_cons]
    have h1 := h x List.mem_cons_self
    have h2 := flat_len (xs := xs) fun y hy => h y (List.mem_cons_of_mem _ hy)
    have : n * (xs.length + 1) = n * xs.length + n := Nat.mul_succ _ _
    omega
theorem sNe_self {α : Type} [DecidableEq α] (z : α) : sNe z z = some false := by
  unfold sNe
  rw [decide_eq_true rfl]
  rfl
theorem sIx_S {o : List Nat} (h7 : o.length ≤ 7) {i : Nat} (hi : i < o.length) : sIx (S o) (i : Int) = some (S [o[i]]) := by
  unfold sIx
  rw [if_pos (by rw [len_S]; omega)]
  have : atI (S o).cps.toList (i : Int) = some o[i] := by
    apply atI_nat
    exact List.getElem?_eq_getElem hi
  rw [this]
  rfl
theorem ev_nx {Γ Γ' S ρ : Type} {X : Option (Fl Γ S ρ)} {k : Γ → Option (Fl Γ' S ρ)} {P : Fl Γ' S ρ → Prop} {γ : Γ} (e : X = some (.nx γ)) (h : Ev (k γ) P) : Ev (X.bind fun x => x.bnd k) P := by
  rw [e]
  exact h
theorem cutS_to {x : List Nat} (h : x.length ≤ 1000) (k : Nat) : cutSt none (some (k : Int)) (S x) = some (S (x.take k)) := by
  unfold cutSt
  rw [len_S, if_pos (by omega)]
  unfold cutS
  rw [len_S, HT.sIx_nat, show (S x).cps.toList = x from rfl]
  simp only [HT.sIx, List.drop_zero, Nat.sub_zero]
  refine congrArg (fun z => some (S z)) ?_
  by_cases q : k ≤ x.length
  · rw [Nat.min_eq_left q]
  · rw [Nat.min_eq_right (by omega), List.take_of_length_le (Nat.le_refl _), List.take_of_length_le (by omega)]
theorem three {s : List Int} (h : s.length = 3) : ∃ a b c, s = [a, b, c] := by
  match s, h with
  | [a, b, c], _ => exact ⟨a, b, c, rfl⟩
theorem spill_S {s : List Int} (hs : s.length = 3) (size : Int) (h : 0 < size) (h2 : size < 1073741824) : ∃ r s', m__law_spill s (size, ()) = some (r, s') ∧ 0 ≤ r ∧ r < size ∧ s'.length = 3 := by
  obtain ⟨a, b, c, rfl⟩ := three hs
  have i0 : ∀ x y z : Int, lIx [x, y, z] 0 = some x := fun _ _ _ => rfl
  have i1 : ∀ x y z : Int, lIx [x, y, z] 1 = some y := fun _ _ _ => rfl
  have i2 : ∀ x y z : Int, lIx [x, y, z] 2 = some z := fun _ _ _ => rfl
  have x0 : ∀ x y z : Int, ixN [x, y, z].length 0 = some 0 := fun _ _ _ => rfl
  have x1 : ∀ x y z : Int, ixN [x, y, z].length 1 = some 1 := fun _ _ _ => rfl
  have x2 : ∀ x y z : Int, ixN [x, y, z].length 2 = some 2 := fun _ _ _ => rfl
  have u0 : ∀ x y z v : Int, [x, y, z].set 0 v = [v, y, z] := fun _ _ _ _ => rfl
  have u1 : ∀ x y z v : Int, [x, y, z].set 1 v = [x, v, z] := fun _ _ _ _ => rfl
  have u2 : ∀ x y z v : Int, [x, y, z].set 2 v = [x, y, v] := fun _ _ _ _ => rfl
  have m1' : ∀ y : Int, iMul y 56081 = some (y * 56081) := fun y => if_pos (.inr (by decide))
  have m2' : ∀ y : Int, iMul y 70019 = some (y * 70019) := fun y => if_pos (.inr (by decide))
  have m3' : ∀ y : Int, iMul y 101 = some (y * 101) := fun y => if_pos (.inr (by decide))
  have d1 : ∀ y : Int, iMod y 1999999333 = some (y % 1999999333) := fun y => if_pos (by decide)
  have d2 : ∀ y : Int, iDiv y 17011 = some (y / 17011) := fun y => if_pos (by decide)
  have d4 : ∀ y : Int, iDiv y 409 = some (y / 409) := fun y => if_pos (by decide)
  have d3 : ∀ y : Int, iMod y size = some (y % size) := fun y => if_pos h
  have hp : ∀ y : Int, 0 ≤ y % size := fun y => Int.emod_nonneg y (show size ≠ 0 by omega)
  have hl : ∀ y : Int, y % size < size := fun y => Int.emod_lt_of_pos y h
  by_cases ha : 0 < c
  · refine ⟨c % size, [a, b + 5, c / size], ?_, hp _, hl _, rfl⟩
    show runM _ _ = _
    simp only [runF, runU, runM, im, sseq, Fl.bnd, sret, sretm, sset, ssetm, sif, sifm, sex, sexm, snever, sfor, sform, sset1, sdm, spar, fown, snewD, sdput, fkeys, up, m1, m2, mcons, mdr, mif, mand, moor, mnot, Vx.oz, Vx.os, f1, f2, fv, fc, fif, fand, foor, fnot, fcons, fnil, fch, lcons, lnil, flc, gz, gs, pz, ps, ic, ia, i0, snil, wid, wn, wk, wa, Option.bind_some, Option.map_some, Option.map_map, Function.comp_def, fyes, Option.bind_assoc]
    simp only [i0, i1, i2, iAdd, x1, x2, u1, u2, iGt, ha, decide_true, if_true, h, h2, and_self, intI, Option.bind_some, Option.map_some]
    try rfl
  · refine ⟨(a * 56081 + (b + 5) * 70019 + a / 17011 * 101) % 1999999333 / 409 % size, [(a * 56081 + (b + 5) * 70019 + a / 17011 * 101) % 1999999333, b + 5, c], ?_, hp _, hl _, rfl⟩
    show runM _ _ = _
    simp only [runF, runU, runM, im, sseq, Fl.bnd, sret, sretm, sset, ssetm, sif, sifm, sex, sexm, snever, sfor, sform, sset1, sdm, spar, fown, snewD, sdput, fkeys, up, m1, m2, mcons, mdr, mif, mand, moor, mnot, Vx.oz, Vx.os, f1, f2, fv, fc, fif, fand, foor, fnot, fcons, fnil, fch, lcons, lnil, flc, gz, gs, pz, ps, ic, ia, i0, snil, wid, wn, wk, wa, Option.bind_some, Option.map_some, Option.map_map, Function.comp_def, fyes, Option.bind_assoc]
    simp only [i0, i1, i2, x0, x1, x2, u0, u1, u2, iGt, ha, decide_false, Bool.false_eq_true, if_false, Option.bind_some, Option.map_some, iAdd, m1', m2', m3', d1, d2, d3, d4, intI]
    try rfl
theorem hopper_S (zs : List Int) (k : Nat) : ∃ s, m__law_hopper (⟨zs⟩, (k : Int), ()) = some s ∧ s.length = 3 := by
  have mA : ∀ y : Int, iMul 97 y = some (97 * y) := fun y => if_pos (.inl (by decide))
  have mB : ∀ y : Int, iMul y 53077 = some (y * 53077) := fun y => if_pos (.inr (by decide))
  have mC : ∀ y : Int, iMul y 73 = some (y * 73) := fun y => if_pos (.inr (by decide))
  have mD : ∀ y : Int, iMul 2617 y = some (2617 * y) := fun y => if_pos (.inl (by decide))
  have d1 : ∀ y : Int, iMod y 1999999333 = some (y % 1999999333) := fun y => if_pos (by decide)
  have pw : iPow 10 14 = some (10 ^ 14) := if_pos (by decide)
  have own : ∃ o : Int, ((lenC (⟨zs⟩, ())).bind fun y => (iLt (↑k) y).bind fun b => if b = true then (cIx ⟨zs⟩ ↑k).bind fun y => some y else some (97 * (k : Int) + 41)) = some o := by
    simp only [lenC, Option.bind_some, iLt]
    by_cases q : k < zs.length
    · refine ⟨zs[k], ?_⟩
      rw [decide_eq_true (by omega), if_pos rfl]
      have : cIx ⟨zs⟩ (k : Int) = some zs[k] := atI_nat (List.getElem?_eq_getElem q)
      rw [this]
      rfl
    · refine ⟨97 * (k : Int) + 41, ?_⟩
      rw [decide_eq_false (by omega), if_neg (by simp)]
  obtain ⟨o, eo⟩ := own
  have step : ∀ (xs : List Int) (st : Int), ∃ st' : Int, forL (S := Unit) (ρ := List Int) (fun x (γ : Scr × Int × Int × Int × Any × Unit) =>
      some (Fl.nx (γ.fst, γ.snd.fst, γ.snd.snd.fst, (γ.snd.snd.snd.fst * 53077 + x % 1999999333) % 1999999333, (⟨⟩ : Any), γ.snd.snd.snd.snd.snd))) xs (⟨zs⟩, (k : Int), o, st, ⟨⟩, ()) = some (.nx (⟨zs⟩, (k : Int), o, st', ⟨⟩, ())) := by
    intro xs
    induction xs with
    | nil => exact fun st => ⟨st, rfl⟩
    | cons x xs ih =>
      intro st
      obtain ⟨st', e⟩ := ih ((st * 53077 + x % 1999999333) % 1999999333)
      exact ⟨st', by unfold forL; exact e⟩
  obtain ⟨st', es⟩ := step (cutA none (some 12) zs) (140053 + 2617 * (k : Int))
  refine ⟨[(st' * 73 + o % 1999999333) % 1999999333, 11, if (decide (o < 0) || decide ((10 : Int) ^ 14 ≤ o)) = true then (if o < 0 then -o else o) else 0], ?_, rfl⟩
  show runF _ _ = _
  simp only [runF, runU, runM, im, sseq, Fl.bnd, sret, sretm, sset, ssetm, sif, sifm, sex, sexm, snever, sfor, sform, sset1, sdm, spar, fown, snewD, sdput, fkeys, up, m1, m2, mcons, mdr, mif, mand, moor, mnot, Vx.oz, Vx.os, f1, f2, fv, fc, fif, fand, foor, fnot, fcons, fnil, fch, lcons, lnil, flc, gz, gs, pz, ps, ic, ia, i0, snil, wid, wn, wk, wa, Option.bind_some, Option.map_some, Option.map_map, Function.comp_def, fyes, Option.bind_assoc]
  simp only [mA, iAdd, Option.bind_some, Option.map_some, mB, mC, mD, d1, intI, cutC, eo]
  rw [es]
  simp only [Option.bind_some, Option.map_some, iLt, pw, iGe, absI]
  by_cases q1 : o < 0
  · simp only [q1, decide_true, if_true, Bool.true_or, Option.bind_some, Option.map_some]
    rfl
  · simp only [q1, decide_false, Bool.false_eq_true, if_false, Bool.false_or, Option.bind_some]
    by_cases q2 : (10 : Int) ^ 14 ≤ o
    · simp only [q2, decide_true, if_true, Option.bind_some, Option.map_some]
      rfl
    · simp only [q2, decide_false, Bool.false_eq_true, if_false, Option.bind_some, Option.map_some]
      rfl
theorem lenS_l {x : List Nat} (h : x.length ≤ 1000) : lenS (S x, ()) = some ((x.length : Nat) : Int) := by
  unfold lenS
  rw [show (S x).length = x.length from len_S _, if_pos (by omega)]
theorem out_of_S {s : List Int} (hs : s.length = 3) {x : List Nat} (h0 : x ≠ []) (hx : x.length ≤ 7) : Ev (m__law_out_of s (S x, ())) fun r => ∃ c ∈ x, r.1 = S [c] ∧ r.2.length = 3 := by
  have l0 : 0 < x.length := List.length_pos_iff.mpr h0
  obtain ⟨r, s1, e1, r0, r1, h1⟩ := spill_S hs (x.length : Int) (by omega) (by omega)
  obtain ⟨i, rfl⟩ : ∃ i : Nat, r = (i : Int) := ⟨r.toNat, by omega⟩
  have hi : i < x.length := by omega
  have el := lenS_l (x := x) (by omega)
  have ei := sIx_S hx hi
  show Ev (runM _ _) _
  unfold runM
  refine Ev.bind ?_
  unfold sseq
  refine Ev.of (y := Fl.rt (S [x[i]]) s1) ?_ (Ev.of rfl ⟨x[i], List.getElem_mem hi, rfl, h1⟩)
  simp only [sretm, m2, up, f1, fcons, fv, fnil, gs, gz, im, ic, i0, mdr, Option.bind_some, Option.map_some, el, e1, ei, Fl.bnd]
  rfl
theorem out_ofL_S {s : List Int} (hs : s.length = 3) {x : List Str} (h0 : x ≠ []) (hx : x.length ≤ 100) : Ev (m__law_out_ofL s (x, ())) fun r => r.1 ∈ x ∧ r.2.length = 3 := by
  have l0 : 0 < x.length := List.length_pos_iff.mpr h0
  obtain ⟨r, s1, e1, r0, r1, h1⟩ := spill_S hs (x.length : Int) (by omega) (by omega)
  obtain ⟨i, rfl⟩ : ∃ i : Nat, r = (i : Int) := ⟨r.toNat, by omega⟩
  have hi : i < x.length := by omega
  have el : lenL (x, ()) = some ((x.length : Nat) : Int) := rfl
  have ei : lIx x (i : Int) = some x[i] := atI_nat (List.getElem?_eq_getElem hi)
  show Ev (runM _ _) _
  unfold runM
  refine Ev.bind ?_
  unfold sseq
  refine Ev.of (y := Fl.rt x[i] s1) ?_ (Ev.of rfl ⟨List.getElem_mem hi, h1⟩)
  simp only [sretm, m2, up, f1, fcons, fv, fnil, gs, gz, im, ic, i0, mdr, Option.bind_some, Option.map_some, el, e1, ei, Fl.bnd]
  rfl
def tA : List Nat := [97, 98, 99, 100]
def tB : List Nat := [97, 99, 102, 122]
def tC : List Nat := [98, 103, 109, 113]
theorem tags_S {s : List Int} (hs : s.length = 3) : Ev (m__law_tags s (4, ())) fun r => ∃ l, r.1 = S l ∧ Lets l ∧ l.length ≤ 4 ∧ r.2.length = 3 := by
  obtain ⟨r, s1, e1, r0, r1, h1⟩ := spill_S hs 4 (by omega) (by omega)
  obtain ⟨j, rfl⟩ : ∃ j : Nat, r = (j : Int) := ⟨r.toNat, by omega⟩
  obtain ⟨⟨t, s2⟩, e2, ht, h2⟩ := out_ofL_S h1 (x := [S tA, S tB, S tC]) (by simp) (by simp)
  have ht : t ∈ [S tA, S tB, S tC] := ht
  obtain ⟨x, rfl, hx⟩ : ∃ x : List Nat, t = S x ∧ (x = tA ∨ x = tB ∨ x = tC) := by
    simp only [List.mem_cons, List.not_mem_nil, or_false] at ht
    rcases ht with rfl | rfl | rfl
    · exact ⟨_, rfl, .inl rfl⟩
    · exact ⟨_, rfl, .inr (.inl rfl)⟩
    · exact ⟨_, rfl, .inr (.inr rfl)⟩
  have hw : Word x ∧ x.length = 4 := by
    rcases hx with rfl | rfl | rfl
    · exact ⟨⟨by decide, by decide⟩, rfl⟩
    · exact ⟨⟨by decide, by decide⟩, rfl⟩
    · exact ⟨⟨by decide, by decide⟩, rfl⟩
  have ea : iAdd 1 (j : Int) = some ((1 + j : Nat) : Int) := congrArg some (by omega)
  have ec := cutS_to (x := x) (by omega) (1 + j)
  have lt : (x.take (1 + j)).length = 1 + j := by rw [List.length_take]; omega
  have sh : short [Str.ofString "abcd", Str.ofString "acfz", Str.ofString "bgmq"] = some [S tA, S tB, S tC] := rfl
  show Ev (runM _ _) _
  unfold runM
  refine Ev.bind ?_
  unfold sseq
  refine ev_nx (by simp only [ssetm, m2, mdr, up, fcons, fv, fc, fnil, gs, gz, ps, pz, im, ic, ia, i0, Option.bind_some, Option.map_some, e1, ea]; rfl) ?_
  refine Ev.of (y := Fl.rt (S (x.take (1 + j))) s2) ?_ (Ev.of rfl ⟨_, rfl, ⟨⟨hw.1.asc.sublist (List.take_sublist _ _), fun c hc => hw.1.let_ c (List.mem_of_mem_take hc)⟩, by omega, fun z => by rw [z] at lt; simp at lt; omega⟩, by omega, h2⟩)
  simp only [sretm, m2, up, f1, f2, fcons, fv, fc, fnil, lcons, lnil, gs, gz, mdr, Option.bind_some, Option.map_some, sh, e2, ec, Fl.bnd]
  rfl
theorem lcGo_sub {τ α : Type} {t : τ → Option Bool} {e : τ → Option α} : ∀ {xs : List α} {ys : List τ}, PySem.Paired (fun x y => (∃ b, t y = some b) ∧ e y = some x) xs ys → ∃ zs, lcGo t e ys = some zs ∧ zs.Sublist xs
  | _, _, .nil => ⟨[], rfl, List.Sublist.refl _⟩
  | x :: xs, y :: ys, .cons ⟨⟨b, hb⟩, he⟩ r => by
    obtain ⟨zs, e1, s1⟩ := lcGo_sub r
    cases b with
    | true =>
      refine ⟨x :: zs, ?_, s1.cons₂ x⟩
      unfold lcGo
      rw [hb, Option.bind_some, if_pos rfl, he, Option.bind_some, e1]
      rfl
    | false =>
      refine ⟨zs, ?_, s1.cons x⟩
      unfold lcGo
      rw [hb, Option.bind_some, if_neg (by simp), e1]
theorem bag_S {s : List Int} (hs : s.length = 3) {l : List Nat} (h : Lets l) : Ev (m__law_bag s (S l, ())) fun r => ∃ k, r.1 = S (sel l k) ∧ k < 2 ^ l.length ∧ r.2.length = 3 := by
  have n7 := h.n
  show Ev (runM _ _) _
  unfold runM
  refine Ev.bind ?_
  unfold sseq
  refine Ev.bind ?_
  unfold sretm
  refine Ev.map ?_
  unfold m2
  refine Ev.bind (Ev.of rfl ?_)
  refine Ev.bind ?_
  unfold flcpm
  refine Ev.bind ?_
  refine Ev.mlcA (fun i γ => ∃ g : List Int, γ = ((⟨g⟩ : OL Int), S l, (⟨⟩ : Any), (⟨⟩ : Any), ()) ∧ g.length = 3) (fun x y => ∃ b : Int, y = (⟨x, b⟩ : T2 Str Int)) ?_
  refine Ev.of (y := (l.map (fun c => S [c]), ((⟨s⟩ : OL Int), S l, (⟨⟩ : Any), (⟨⟩ : Any), ()))) (by show some (Vx.signs (S l), _) = _; rw [signs_S]; rfl) ⟨?_, ⟨s, rfl, hs⟩, ?_, ?_⟩
  · rw [List.length_map]
    omega
  · rintro z i _ hi ⟨g4, rfl, hg4⟩ hz
    refine Ev.of rfl ⟨rfl, ?_⟩
    obtain ⟨r5, s5, e5, _, _, h5⟩ := spill_S hg4 2 (by omega) (by omega)
    refine Ev.of (y := ((⟨z, r5⟩ : T2 Str Int), ((⟨s5⟩ : OL Int), S l, z, (⟨⟩ : Any), ()))) ?_ ⟨⟨r5, rfl⟩, s5, rfl, h5⟩
    simp only [m1, mcons, m2, up, mdr, fc, fcons, fnil, fv, gs, gz, Option.bind_some, Option.map_some, wid, cs, cz, bs, bz, ps, pz]
    rw [show m__law_spill g4 (2, ()) = some (r5, s5) from e5]
    rfl
  · rintro ys _ hp ⟨g6, rfl, hg6⟩
    have hp' : PySem.Paired (fun (x : Str) (y : T2 Str Int) => (∃ b, sEq y.b 1 = some b) ∧ some y.a = some x) (l.map fun c => S [c]) ys := PySem.Paired.mono (fun x y ⟨b, e⟩ => by
      subst e
      exact ⟨⟨_, rfl⟩, rfl⟩) hp
    obtain ⟨zs, ez, hsub⟩ := lcGo_sub hp'
    have hl : ys.length ≤ 100000 := by
      have := Vx.paired_len hp
      rw [List.length_map] at this
      omega
    obtain ⟨x6, hx6, rfl⟩ := sub_signs hsub
    obtain ⟨k6, lk6, ek6⟩ := sub_sel hx6 h.nd
    have l6 := sel_len l k6
    subst ek6
    refine Ev.of (y := ((sel l k6).map fun c => S [c], ((⟨g6⟩ : OL Int), S l, (⟨⟩ : Any), (⟨⟩ : Any), ()))) ?_ ?_
    · show (if ys.length ≤ 100000 then (lcGo (fun y : T2 Str Int => sEq y.b 1) (fun y : T2 Str Int => some y.a) ys).map _ else none) = _
      rw [if_pos hl, ez]
      rfl
    · refine Ev.map (Ev.of (jn_S _ (by omega)) ?_)
      exact Ev.of rfl (Ev.of rfl ⟨k6, rfl, lk6, hg6⟩)
theorem both_T {l : List Nat} (h : Lets l) (i j : Nat) : m__law_both (S (sel l i), S (sel l j), ()) = some (S (sel l (i &&& j))) := by
  have n7 := h.n
  have := sel_len l i
  rw [both_S _ _ (by omega), sel_and]
theorem about_S {l C : List Nat} (h : Lets l) (hC : ∀ k ∈ C, k < 2 ^ l.length) {k : Nat} (hk : k < 2 ^ l.length) : m__law_about (⟨T l C⟩, S l, S (sel l k), ()) = some (S (sel l (ar l C k))) := by
  apply Ev.out
  have eW : S l = S (sel l (full l)) := congrArg S (sel_full l).symm
  show Ev (runF _ _) _
  unfold runF
  refine Ev.bind ?_
  unfold sseq
  refine ev_nx (by simp only [sset, fv, gs, gz, ps, pz, ic, ia, i0, Option.map_some]; rfl) ?_
  unfold sfor
  refine Ev.bind ?_
  refine Ev.bind ?_
  refine Ev.of (y := T l C) rfl ?_
  refine Ev.forL (fun xs γ => ∃ C1 C2 : List Nat, C = C1 ++ C2 ∧ xs = T l C2 ∧ γ = ((⟨T l C⟩ : Tup Str), S l, S (sel l k), S (sel l (ar l C1 k)), (⟨⟩ : Any), ())) ⟨[], C, rfl, rfl, ?_⟩ ?_ ?_
  · show ((⟨T l C⟩ : Tup Str), S l, S (sel l k), S l, (⟨⟩ : Any), ()) = _
    rw [show ar l [] k = full l from rfl, ← eW]
  · rintro x xs γ ⟨C1, C2, q1, q2, rfl⟩
    cases C2 with
    | nil => cases q2
    | cons j C2 =>
      cases q2
      have hj : j < 2 ^ l.length := hC j (by rw [q1]; exact List.mem_append_right _ List.mem_cons_self)
      have ein := law_in_T h hk j
      have eb := both_T h (ar l C1 k) j
      have ear : ar l (C1 ++ [j]) k = if k &&& j = k then ar l C1 k &&& j else ar l C1 k := by
        unfold ar
        rw [List.filter_append, List.foldl_append]
        by_cases q : k &&& j = k
        · simp [q]
        · simp [q]
      refine ev_nx (γ := ((⟨T l C⟩ : Tup Str), S l, S (sel l k), S (sel l (ar l (C1 ++ [j]) k)), S (sel l j), ())) ?_ (Ev.of rfl ⟨_, rfl, C1 ++ [j], C2, by rw [q1]; simp, rfl, rfl⟩)
      by_cases q : k &&& j = k
      · simp only [sif, sset, f1, fcons, fv, fnil, gs, gz, ps, pz, Option.bind_some, Option.map_some, ein, q, decide_true, if_true, eb, Fl.bnd, ear]
        rfl
      · simp only [sif, sset, f1, fcons, fv, fnil, gs, gz, ps, pz, Option.bind_some, Option.map_some, ein, q, decide_false, Bool.false_eq_true, if_false, Fl.bnd, ear]
        rfl
  · rintro γ ⟨C1, C2, q1, q2, rfl⟩
    cases C2 with
    | cons => cases q2
    | nil =>
      rw [List.append_nil] at q1
      subst q1
      exact Ev.of rfl (Ev.of rfl rfl)
theorem mt_of' {l F C : List Nat} (h : Lets l) (hF : ∀ k ∈ F, k < 2 ^ l.length) (f : Fam l C) (m : ∀ k, k ∈ C ↔ k ∈ wl l F) : Mt l F C := by
  obtain ⟨D, t⟩ := mt_ex h hF
  have : C = D := fam_eq h f t.s.toFam fun k => by rw [m, t.m]
  rw [this]
  exact t
theorem met_S {l F : List Nat} (h : Lets l) (hF : ∀ k ∈ F, k < 2 ^ l.length) (nF : F.length ≤ 300) : Ev (m__law_met (S l, T l F, ())) fun r => ∃ C, r = ⟨T l C⟩ ∧ Mt l F C := by
  have eW : S l = S (sel l (full l)) := congrArg S (sel_full l).symm
  have p := p7 h
  show Ev (runF _ _) _
  unfold runF
  refine Ev.bind ?_
  unfold sseq
  refine ev_nx (γ := (S l, T l F, T l [full l], (⟨⟩ : Any), (⟨⟩ : Any), ())) ?_ ?_
  · show some (Fl.nx (S l, T l F, [S l], (⟨⟩ : Any), (⟨⟩ : Any), ())) = _
    rw [show T l [full l] = [S (sel l (full l))] from rfl, ← eW]
  unfold sfor
  refine Ev.bind ?_
  refine Ev.bind ?_
  refine Ev.of (y := T l F) rfl ?_
  have f0 : Fam l [full l] := ⟨fun k hk => by rw [List.mem_singleton.mp hk]; exact full_lt l, List.pairwise_singleton _ _, by simp⟩
  refine Ev.forL (fun xs γ => ∃ F1 F2 A : List Nat, F = F1 ++ F2 ∧ xs = T l F2 ∧ Fam l A ∧ (∀ k, k ∈ A ↔ k ∈ wl l F1) ∧ γ = (S l, T l F, T l A, (⟨⟩ : Any), (⟨⟩ : Any), ())) ⟨[], F, [full l], rfl, rfl, f0, fun k => Iff.rfl, rfl⟩ ?_ ?_
  · rintro x xs γ ⟨F1, F2, A, q1, q2, fA, mA, rfl⟩
    cases F2 with
    | nil => cases q2
    | cons j F2 =>
      cases q2
      have hj : j < 2 ^ l.length := hF j (by rw [q1]; exact List.mem_append_right _ List.mem_cons_self)
      have nA := (fam_good fA).len
      have hX : ∀ k ∈ A ++ A.map (fun a => j &&& a), k < 2 ^ l.length := fun k hk => by
        rcases List.mem_append.mp hk with z | z
        · exact fA.lt k z
        · obtain ⟨a, ha, rfl⟩ := List.mem_map.mp z
          exact Nat.and_lt_two_pow _ (fA.lt a ha)
      obtain ⟨A', eA', fA', mA'⟩ := sort_set h hX
      have lT : (T l A).length ≤ 100000 := by rw [T_len]; omega
      have elc : lcGo (fun x => some true) (fun x => m__law_both (S (sel l j), x, ())) (T l A) = some (T l (A.map fun a => j &&& a)) := by
        rw [lcGo_T h (P := fun _ => true) (E := fun a => S (sel l (j &&& a))) (fun _ _ => rfl) (fun a _ _ => both_T h j a), filt_true]
        simp [T, Function.comp_def]
      have ecat : lCat (T l A) (T l (A.map fun a => j &&& a)) = some (T l (A ++ A.map fun a => j &&& a)) := by
        unfold lCat
        rw [if_pos (by rw [T_len, T_len, List.length_map]; omega)]
        simp [T]
      have es : ss (T l (A ++ A.map fun a => j &&& a)) = some (T l A') := by
        unfold ss
        rw [if_pos (by rw [T_len, List.length_append, List.length_map]; omega), eA']
      refine ev_nx (by simp only [sset, f1, f2, flc, fyes, fcons, fv, fnil, gs, gz, ps, pz, Option.bind_some, Option.map_some, lT, if_true, elc, ecat, es]; rfl) ?_
      refine Ev.of rfl ⟨_, rfl, F1 ++ [j], F2, A', by rw [q1]; simp, rfl, fA', fun k => ?_, rfl⟩
      rw [mA', List.mem_append, List.mem_map, mA]
      unfold wl
      rw [List.foldl_append]
      show _ ↔ k ∈ step (· &&& ·) (F1.foldl (step (· &&& ·)) [full l]) j
      rw [mem_step]
      refine or_congr Iff.rfl ⟨fun ⟨a, ha, e⟩ => ⟨a, (mA a).mp ha, e.symm⟩, fun ⟨a, ha, e⟩ => ⟨a, (mA a).mpr ha, e.symm⟩⟩
  · rintro γ ⟨F1, F2, A, q1, q2, fA, mA, rfl⟩
    cases F2 with
    | cons => cases q2
    | nil =>
      rw [List.append_nil] at q1
      subst q1
      exact Ev.of rfl (Ev.of rfl ⟨A, rfl, mt_of' h hF fA mA⟩)
theorem all_ex' {l : List Nat} (h : Lets l) : ∃ E, m__law_bags (S l, ()) = some (T l E) ∧ All l E := by
  obtain ⟨E, eE, fE, gE, mE⟩ := T_srt h (range_good (2 ^ l.length))
  exact ⟨E, by rw [law_lots_S h, eE], fE, fun k => (mE k).trans List.mem_range⟩
theorem kp_look {l : List Nat} (h : Lets l) {B : List (Nat × Nat)} (hB : ∀ p ∈ B, p.1 < 2 ^ l.length ∧ p.2 < 2 ^ l.length) (k : Nat) :
    lcGo (fun x : T2 Str Str => some true) (fun x : T2 Str Str => (m__law_in (x.b, S (sel l k), ())).bind fun b => if b = true then some true else (m__law_in (x.a, S (sel l k), ())).map fun x => !x) (bk l B).l = some (B.map fun p => !decide (p.1 &&& k = p.1) || decide (p.2 &&& k = p.2)) := by
  unfold bk
  have : ∀ B : List (Nat × Nat), (∀ p ∈ B, p.1 < 2 ^ l.length ∧ p.2 < 2 ^ l.length) → lcGo (fun x : T2 Str Str => some true) (fun x : T2 Str Str => (m__law_in (x.b, S (sel l k), ())).bind fun b => if b = true then some true else (m__law_in (x.a, S (sel l k), ())).map fun x => !x) (B.map fun p => rul l p.1 p.2) = some (B.map fun p => !decide (p.1 &&& k = p.1) || decide (p.2 &&& k = p.2)) := by
    intro B
    induction B with
    | nil => exact fun _ => rfl
    | cons p B ih =>
      intro hB
      have ih := ih fun q hq => hB q (List.mem_cons_of_mem _ hq)
      have hp := hB p List.mem_cons_self
      rw [List.map_cons, List.map_cons]
      unfold lcGo
      have e1 : m__law_in ((rul l p.1 p.2).b, S (sel l k), ()) = some (decide (p.2 &&& k = p.2)) := law_in_T h hp.2 k
      have e2 : m__law_in ((rul l p.1 p.2).a, S (sel l k), ()) = some (decide (p.1 &&& k = p.1)) := law_in_T h hp.1 k
      simp only [Option.bind_some, if_true, e1, e2, ih]
      by_cases q : p.2 &&& k = p.2
      · simp [q]
      · simp [q]
  exact this B hB
theorem all_B (bs : List Bool) : Vx.allB (bs, ()) = some (bs.all id) := rfl
theorem keeping_S {l E : List Nat} (h : Lets l) (eE : m__law_bags (S l, ()) = some (T l E)) (a : All l E) {B : List (Nat × Nat)} (b : Bok l B) : m__law_keeping (S l, bk l B, ()) = some ⟨T l (E.filter (kp B))⟩ := by
  apply Ev.out
  have nE := (fam_good a.f).len
  have p := p7 h
  have nB := b.n
  have lB : (bk l B).l.length ≤ 100000 := by simp [bk]; omega
  show Ev (runF _ _) _
  unfold runF
  refine Ev.bind ?_
  unfold sseq
  refine ev_nx (by simp only [snew, f1, lnil, short, pos', poz, ic, ia, i0, Option.bind_some, Option.map_some]; rfl) ?_
  unfold sfor
  refine Ev.bind ?_
  refine Ev.bind ?_
  refine Ev.of (y := T l E) (by simp only [f1, fcons, fv, fnil, gs, gz, wid, Option.bind_some]; exact eE) ?_
  refine Ev.forL (fun xs γ => ∃ E1 E2 : List Nat, E = E1 ++ E2 ∧ xs = T l E2 ∧ γ = (S l, bk l B, (⟨T l (E1.filter (kp B))⟩ : OL Str), (⟨⟩ : Any), (⟨⟩ : Any), (⟨⟩ : Any), ())) ⟨[], E, rfl, rfl, rfl⟩ ?_ ?_
  · rintro x xs γ ⟨E1, E2, q1, q2, rfl⟩
    cases E2 with
    | nil => cases q2
    | cons j E2 =>
      cases q2
      have ek := kp_look h b.lt j
      have ea : Vx.allB (B.map fun p => !decide (p.1 &&& j = p.1) || decide (p.2 &&& j = p.2), ()) = some (kp B j) := by
        rw [all_B]
        congr 1
        unfold kp
        rw [List.all_map]
        rfl
      have efl : (E1 ++ [j]).filter (kp B) = if kp B j = true then E1.filter (kp B) ++ [j] else E1.filter (kp B) := by
        rw [List.filter_append]
        by_cases q : kp B j = true
        · simp [q]
        · simp [q]
      have gl : (T l (E1.filter (kp B))).length < 100000 := by
        have := congrArg List.length q1
        rw [List.length_append] at this
        have := List.length_filter_le (kp B) E1
        rw [T_len]
        omega
      refine ev_nx (γ := (S l, bk l B, (⟨T l ((E1 ++ [j]).filter (kp B))⟩ : OL Str), S (sel l j), (⟨⟩ : Any), (⟨⟩ : Any), ())) ?_ (Ev.of rfl ⟨_, rfl, E1 ++ [j], E2, by rw [q1]; simp, rfl, rfl⟩)
      have et : (f1 Vx.allB
                        (fcons
                          (flcp (ps (ps (ps (ps pz)))) (ps (ps (ps (ps (ps pz))))) (f1 (fun t => some t.l) (fv (gs gz)))
                            fyes
                            (foor
                              (f1 m__law_in
                                (fcons (fv (gs (gs (gs (gs (gs gz)))))) (fcons (fv (gs (gs (gs gz)))) fnil)))
                              (fnot
                                (f1 m__law_in
                                  (fcons (fv (gs (gs (gs (gs gz))))) (fcons (fv (gs (gs (gs gz)))) fnil))))))
                          fnil)) (S l, bk l B, (⟨T l (E1.filter (kp B))⟩ : OL Str), S (sel l j), (⟨⟩ : Any), (⟨⟩ : Any), ()) = some (kp B j) := by
        simp only [f1, flcp, fyes, foor, fnot, fcons, fv, fnil, gs, gz, ps, pz, Option.bind_some, Option.map_some, lB, if_true]
        rw [ek]
        simp only [Option.bind_some, ea]
      unfold sif
      refine (congrArg (fun z => Option.bind z _) et).trans ?_
      rw [Option.bind_some, efl]
      by_cases q : kp B j = true
      · rw [if_pos q, if_pos q]
        have es : sapp (S := Unit) (ρ := Tup Str) (Vx.os (Vx.os oz)) (up (fv (gs (gs (gs gz))))) (S l, bk l B, (⟨T l (E1.filter (kp B))⟩ : OL Str), S (sel l j), (⟨⟩ : Any), (⟨⟩ : Any), ()) = some (.nx (S l, bk l B, (⟨T l (E1.filter (kp B)) ++ [S (sel l j)]⟩ : OL Str), S (sel l j), (⟨⟩ : Any), (⟨⟩ : Any), ())) := sapp_ok (γ' := (S l, bk l B, (⟨T l (E1.filter (kp B))⟩ : OL Str), S (sel l j), (⟨⟩ : Any), (⟨⟩ : Any), ())) (y := S (sel l j)) _ rfl gl
        refine (congrArg (fun z => Option.bind z _) es).trans ?_
        simp [T, Fl.bnd, snil, wid]
      · rw [if_neg q, if_neg q]
        rfl
  · rintro γ ⟨E1, E2, q1, q2, rfl⟩
    cases E2 with
    | cons => cases q2
    | nil =>
      rw [List.append_nil] at q1
      subst q1
      exact Ev.of rfl (Ev.of rfl rfl)
theorem keepingL_S {l E : List Nat} (h : Lets l) (eE : m__law_bags (S l, ()) = some (T l E)) (a : All l E) {B : List (Nat × Nat)} (b : Bok l B) : m__law_keepingL (S l, (bk l B).l, ()) = some ⟨T l (E.filter (kp B))⟩ := by
  apply Ev.out
  have nE := (fam_good a.f).len
  have p := p7 h
  have nB := b.n
  have lB : (bk l B).l.length ≤ 100000 := by simp [bk]; omega
  show Ev (runF _ _) _
  unfold runF
  refine Ev.bind ?_
  unfold sseq
  refine ev_nx (by simp only [snew, f1, lnil, short, pos', poz, ic, ia, i0, Option.bind_some, Option.map_some]; rfl) ?_
  unfold sfor
  refine Ev.bind ?_
  refine Ev.bind ?_
  refine Ev.of (y := T l E) (by simp only [f1, fcons, fv, fnil, gs, gz, wid, Option.bind_some]; exact eE) ?_
  refine Ev.forL (fun xs γ => ∃ E1 E2 : List Nat, E = E1 ++ E2 ∧ xs = T l E2 ∧ γ = (S l, (bk l B).l, (⟨T l (E1.filter (kp B))⟩ : OL Str), (⟨⟩ : Any), (⟨⟩ : Any), (⟨⟩ : Any), ())) ⟨[], E, rfl, rfl, rfl⟩ ?_ ?_
  · rintro x xs γ ⟨E1, E2, q1, q2, rfl⟩
    cases E2 with
    | nil => cases q2
    | cons j E2 =>
      cases q2
      have ek := kp_look h b.lt j
      have ea : Vx.allB (B.map fun p => !decide (p.1 &&& j = p.1) || decide (p.2 &&& j = p.2), ()) = some (kp B j) := by
        rw [all_B]
        congr 1
        unfold kp
        rw [List.all_map]
        rfl
      have efl : (E1 ++ [j]).filter (kp B) = if kp B j = true then E1.filter (kp B) ++ [j] else E1.filter (kp B) := by
        rw [List.filter_append]
        by_cases q : kp B j = true
        · simp [q]
        · simp [q]
      have gl : (T l (E1.filter (kp B))).length < 100000 := by
        have := congrArg List.length q1
        rw [List.length_append] at this
        have := List.length_filter_le (kp B) E1
        rw [T_len]
        omega
      refine ev_nx (γ := (S l, (bk l B).l, (⟨T l ((E1 ++ [j]).filter (kp B))⟩ : OL Str), S (sel l j), (⟨⟩ : Any), (⟨⟩ : Any), ())) ?_ (Ev.of rfl ⟨_, rfl, E1 ++ [j], E2, by rw [q1]; simp, rfl, rfl⟩)
      have et : (f1 Vx.allB
                        (fcons
                          (flcp (ps (ps (ps (ps pz)))) (ps (ps (ps (ps (ps pz))))) (fv (gs gz))
                            fyes
                            (foor
                              (f1 m__law_in
                                (fcons (fv (gs (gs (gs (gs (gs gz)))))) (fcons (fv (gs (gs (gs gz)))) fnil)))
                              (fnot
                                (f1 m__law_in
                                  (fcons (fv (gs (gs (gs (gs gz))))) (fcons (fv (gs (gs (gs gz)))) fnil))))))
                          fnil)) (S l, (bk l B).l, (⟨T l (E1.filter (kp B))⟩ : OL Str), S (sel l j), (⟨⟩ : Any), (⟨⟩ : Any), ()) = some (kp B j) := by
        simp only [f1, flcp, fyes, foor, fnot, fcons, fv, fnil, gs, gz, ps, pz, Option.bind_some, Option.map_some, lB, if_true]
        rw [ek]
        simp only [Option.bind_some, ea]
      unfold sif
      refine (congrArg (fun z => Option.bind z _) et).trans ?_
      rw [Option.bind_some, efl]
      by_cases q : kp B j = true
      · rw [if_pos q, if_pos q]
        have es : sapp (S := Unit) (ρ := Tup Str) (Vx.os (Vx.os oz)) (up (fv (gs (gs (gs gz))))) (S l, (bk l B).l, (⟨T l (E1.filter (kp B))⟩ : OL Str), S (sel l j), (⟨⟩ : Any), (⟨⟩ : Any), ()) = some (.nx (S l, (bk l B).l, (⟨T l (E1.filter (kp B)) ++ [S (sel l j)]⟩ : OL Str), S (sel l j), (⟨⟩ : Any), (⟨⟩ : Any), ())) := sapp_ok (γ' := (S l, (bk l B).l, (⟨T l (E1.filter (kp B))⟩ : OL Str), S (sel l j), (⟨⟩ : Any), (⟨⟩ : Any), ())) (y := S (sel l j)) _ rfl gl
        refine (congrArg (fun z => Option.bind z _) es).trans ?_
        simp [T, Fl.bnd, snil, wid]
      · rw [if_neg q, if_neg q]
        rfl
  · rintro γ ⟨E1, E2, q1, q2, rfl⟩
    cases E2 with
    | cons => cases q2
    | nil =>
      rw [List.append_nil] at q1
      subst q1
      exact Ev.of rfl (Ev.of rfl rfl)
theorem rules_S {s : List Int} (hs : s.length = 3) {l : List Nat} (h : Lets l) {m : Nat} (hm : m ≤ 6) : Ev (m__law_rules s (S l, (m : Int), ())) fun r => ∃ B, r.1 = bk l B ∧ Bok l B ∧ B.length ≤ 6 ∧ r.2.length = 3 := by
  obtain ⟨r, s1, e1, r0, r1, h1⟩ := spill_S hs ((m : Int) + 1) (by omega) (by omega)
  obtain ⟨j, rfl⟩ : ∃ j : Nat, r = (j : Int) := ⟨r.toNat, by omega⟩
  have ea : iAdd (m : Int) 1 = some ((m : Int) + 1) := rfl
  have er := rng_n j (by omega)
  show Ev (runM _ _) _
  generalize rangeOf1 = R at er ⊢
  unfold runM
  refine Ev.bind ?_
  unfold sseq
  refine Ev.bind ?_
  unfold sretm
  refine Ev.map ?_
  unfold m1
  refine Ev.bind ?_
  unfold mcons
  refine Ev.bind ?_
  refine Ev.mlcA (fun i γ => ∃ g : List Int, γ = ((⟨g⟩ : OL Int), S l, (m : Int), (⟨⟩ : Any), ()) ∧ g.length = 3) (fun _ y => ∃ p : Nat × Nat, (p.1 < 2 ^ l.length ∧ p.2 < 2 ^ l.length) ∧ rul l p.1 p.2 = y) ?_
  refine Ev.of (y := (Z (List.range j), ((⟨s1⟩ : OL Int), S l, (m : Int), (⟨⟩ : Any), ()))) ?_ ⟨?_, ⟨s1, rfl, h1⟩, ?_, ?_⟩
  · simp only [m2, mdr, up, f2, fcons, fv, fc, fnil, gs, gz, im, ic, ia, i0, Option.bind_some, Option.map_some, ea, e1, er]
  · simp [Z]
    omega
  · rintro x i _ hi ⟨g, rfl, hg⟩ hx
    refine Ev.of rfl ⟨rfl, ?_⟩
    obtain ⟨⟨_, g1⟩, q1, k1, p1, lk1, hg1⟩ := bag_S hg h
    have p1 : _ = S (sel l k1) := p1
    subst p1
    obtain ⟨⟨_, g2⟩, q2, k2, p2, lk2, hg2⟩ := bag_S hg1 h
    have p2 : _ = S (sel l k2) := p2
    subst p2
    refine Ev.of (y := (rul l k1 k2, ((⟨g2⟩ : OL Int), S l, (m : Int), x, ()))) ?_ ⟨⟨(k1, k2), ⟨lk1, lk2⟩, rfl⟩, g2, rfl, hg2⟩
    simp only [m2, mdr, up, fcons, fv, fnil, gs, gz, wid, cs, cz, bs, bz, ps, pz, Option.bind_some, Option.map_some]
    rw [show m__law_bag g (S l, ()) = some (S (sel l k1), g1) from q1]
    simp only [Option.bind_some, Option.map_some]
    rw [show m__law_bag g1 (S l, ()) = some (S (sel l k2), g2) from q2]
    rfl
  · rintro ys _ hp ⟨g, rfl, hg⟩
    have hj : (Z (List.range j)).length = j := by simp [Z]
    have hlen := paired_len' hp
    rw [hj] at hlen
    obtain ⟨B, eB, lB⟩ : ∃ B : List (Nat × Nat), ys = (bk l B).l ∧ ∀ p ∈ B, p.1 < 2 ^ l.length ∧ p.2 < 2 ^ l.length := by
      have := paired_all hp
      clear hp hlen
      induction ys with
      | nil => exact ⟨[], rfl, fun _ h => by cases h⟩
      | cons y ys ih =>
        obtain ⟨p, hp, rfl⟩ := this y List.mem_cons_self
        obtain ⟨B, rfl, lB⟩ := ih fun z hz => this z (List.mem_cons_of_mem _ hz)
        exact ⟨p :: B, rfl, fun q hq => by
          rcases List.mem_cons.mp hq with rfl | hq
          · exact hp
          · exact lB q hq⟩
    subst eB
    have nB : B.length = j := by
      have : (bk l B).l.length = B.length := by simp [bk]
      omega
    exact Ev.of rfl (Ev.of rfl (Ev.of rfl (Ev.of rfl ⟨B, rfl, ⟨lB, by omega⟩, by omega, hg⟩)))
def tie (f : Int → Int) (u v : Int) : Int → Int := fun x => if f x = f v then f u else f x
def tied (a b : Nat → Int) : List Nat → (Int → Int) → Int → Int
  | [], f => f
  | c :: x, f => tied a b x (tie f (a c) (b c))
theorem tied_app (a b : Nat → Int) : ∀ (x y : List Nat) (f : Int → Int), tied a b (x ++ y) f = tied a b y (tied a b x f)
  | [], _, _ => rfl
  | c :: x, y, f => tied_app a b x y _
theorem tie_keep {f : Int → Int} {u v x y : Int} (h : f x = f y) : tie f u v x = tie f u v y := by
  unfold tie
  rw [h]
theorem tie_own (f : Int → Int) (u v : Int) : tie f u v u = tie f u v v := by
  unfold tie
  rw [if_pos rfl]
  split
  · rfl
  · rfl
theorem tied_keep {a b : Nat → Int} : ∀ {x : List Nat} {f : Int → Int} {u v : Int}, f u = f v → tied a b x f u = tied a b x f v
  | [], _, _, _, h => h
  | c :: x, _, _, _, h => tied_keep (x := x) (tie_keep h)
theorem tied_own {a b : Nat → Int} : ∀ {x : List Nat} {f : Int → Int} {c : Nat}, c ∈ x → tied a b x f (a c) = tied a b x f (b c)
  | d :: x, f, c, h => by
    rcases List.mem_cons.mp h with rfl | h
    · exact tied_keep (x := x) (tie_own f (a c) (b c))
    · exact tied_own (x := x) h
theorem tie_least {f : Int → Int} {u v x y : Int} {E : Int → Int} (hE : ∀ x y, f x = f y → E x = E y) (h : E u = E v) (e : tie f u v x = tie f u v y) : E x = E y := by
  unfold tie at e
  by_cases q1 : f x = f v
  · by_cases q2 : f y = f v
    · exact hE _ _ (q1.trans q2.symm)
    · rw [if_pos q1, if_neg q2] at e
      exact (hE _ _ q1).trans (h.symm.trans (hE _ _ e))
  · by_cases q2 : f y = f v
    · rw [if_neg q1, if_pos q2] at e
      exact (hE _ _ e).trans (h.trans (hE _ _ q2).symm)
    · rw [if_neg q1, if_neg q2] at e
      exact hE _ _ e
theorem tied_least {a b : Nat → Int} {E : Int → Int} : ∀ {x : List Nat} {f : Int → Int}, (∀ u v, f u = f v → E u = E v) → (∀ c ∈ x, E (a c) = E (b c)) → ∀ u v, tied a b x f u = tied a b x f v → E u = E v
  | [], _, h, _ => h
  | c :: x, f, h, k => tied_least (x := x) (fun u v e => tie_least h (k c List.mem_cons_self) e) fun d hd => k d (List.mem_cons_of_mem _ hd)
def jl (l : List Nat) (a b : Nat → Int) (x : List Nat) : List Nat := l.filter fun t => decide (tied a b x (fun z => z) (a t) = tied a b x (fun z => z) (b t))
def jm (l : List Nat) (a b : Nat → Int) (k : Nat) : Nat := cd l (jl l a b (sel l k))
theorem jm_ok {l : List Nat} (nd : l.Nodup) (a b : Nat → Int) (k : Nat) : jm l a b k < 2 ^ l.length ∧ sel l (jm l a b k) = jl l a b (sel l k) := cd_ok nd List.filter_sublist
theorem mem_jl {l : List Nat} {a b : Nat → Int} {x : List Nat} {t : Nat} : t ∈ jl l a b x ↔ t ∈ l ∧ tied a b x (fun z => z) (a t) = tied a b x (fun z => z) (b t) := by
  unfold jl
  rw [List.mem_filter, decide_eq_true_eq]
theorem jm_up {l : List Nat} (nd : l.Nodup) (a b : Nat → Int) {k : Nat} (hk : k < 2 ^ l.length) : k &&& jm l a b k = k := (sel_sub nd hk).mp fun c hc => by
  rw [(jm_ok nd a b k).2, mem_jl]
  exact ⟨(mem_sel.mp hc).1, tied_own hc⟩
theorem jm_full {l : List Nat} (nd : l.Nodup) (a b : Nat → Int) : jm l a b (full l) = full l := up_full (jm_ok nd a b _).1 (jm_up nd a b (full_lt l))
theorem jm_meet {l : List Nat} (nd : l.Nodup) (a b : Nat → Int) {i j : Nat} : jm l a b (jm l a b i &&& jm l a b j) = jm l a b i &&& jm l a b j := by
  have li := (jm_ok nd a b i).1
  have lj := (jm_ok nd a b j).1
  have lm : jm l a b i &&& jm l a b j < 2 ^ l.length := Nat.and_lt_two_pow _ lj
  refine le_anti ?_ (jm_up nd a b lm)
  refine (sel_sub nd (jm_ok nd a b _).1).mp fun t ht => ?_
  rw [(jm_ok nd a b _).2, mem_jl] at ht
  have key : ∀ i', (∀ c ∈ sel l (jm l a b i &&& jm l a b j), c ∈ sel l (jm l a b i')) → t ∈ sel l (jm l a b i') := fun i' hs => by
    rw [(jm_ok nd a b i').2, mem_jl]
    refine ⟨ht.1, tied_least (E := tied a b (sel l i') fun z => z) (fun u v e => tied_keep e) (fun c hc => ?_) _ _ ht.2⟩
    have := hs c hc
    rw [(jm_ok nd a b i').2, mem_jl] at this
    exact this.2
  have m1 := mem_sel.mp (key i fun c hc => by
    obtain ⟨c1, c2⟩ := mem_sel.mp hc
    rw [Nat.testBit_and, Bool.and_eq_true] at c2
    exact mem_sel.mpr ⟨c1, c2.1⟩)
  have m2 := mem_sel.mp (key j fun c hc => by
    obtain ⟨c1, c2⟩ := mem_sel.mp hc
    rw [Nat.testBit_and, Bool.and_eq_true] at c2
    exact mem_sel.mpr ⟨c1, c2.2⟩)
  exact mem_sel.mpr ⟨m1.1, by rw [Nat.testBit_and, m1.2, m2.2]; rfl⟩
theorem web_sys {l C : List Nat} (h : Lets l) (a b : Nat → Int) (f : Fam l C) (m : ∀ k, k ∈ C ↔ ∃ j, j < 2 ^ l.length ∧ jm l a b j = k) : Sys l C := ⟨f, (m _).mpr ⟨full l, full_lt l, jm_full h.nd a b⟩, fun x hx y hy => by
  obtain ⟨i, hi, rfl⟩ := (m x).mp hx
  obtain ⟨j, hj, rfl⟩ := (m y).mp hy
  exact (m _).mpr ⟨_, Nat.and_lt_two_pow _ (jm_ok h.nd a b j).1, jm_meet h.nd a b⟩⟩
def tiesD (l : List Nat) (a b : Nat → Int) : Dct (T2 Int Int) := ⟨l.map fun c => ((Sum.inr (S [c]) : Key), (⟨a c, b c⟩ : T2 Int Int))⟩
theorem find_ties (a b : Nat → Int) {c : Nat} : ∀ {m : List Nat}, c ∈ m → valB (m.map fun c => ((Sum.inr (S [c]) : Key), (⟨a c, b c⟩ : T2 Int Int))) (Sum.inr (S [c])) = some (⟨a c, b c⟩ : T2 Int Int)
  | d :: m, hc => by
    unfold valB
    by_cases e : d = c
    · subst e
      simp
    · have : ¬ (Sum.inr (S [d]) : Key) = Sum.inr (S [c]) := fun z => e (by
        have := S_inj.mp (Sum.inr.inj z)
        simpa using this)
      have ih := find_ties a b ((List.mem_cons.mp hc).resolve_left fun z => e z.symm)
      unfold valB at ih
      simp [this]
      simpa using ih
def spD (f : Int → Int) : List (Key × Int) := [(.inl 0, f 0), (.inl 1, f 1), (.inl 2, f 2), (.inl 3, f 3)]
theorem four {u : Int} (h0 : 0 ≤ u) (h4 : u < 4) : u = 0 ∨ u = 1 ∨ u = 2 ∨ u = 3 := by omega
theorem find_spD (f : Int → Int) {u : Int} (h0 : 0 ≤ u) (h4 : u < 4) : valB (spD f) (KeyOf.key u) = some (f u) := by
  rcases four h0 h4 with rfl | rfl | rfl | rfl
  · rfl
  · rfl
  · rfl
  · rfl
theorem keys_spD (f : Int → Int) : (keysOf (spD f) : Option (List Int)) = some [0, 1, 2, 3] := rfl
theorem dget_ties {l : List Nat} {a b : Nat → Int} {c : Nat} (hc : c ∈ l) : dget (tiesD l a b) (S [c]) = some (⟨a c, b c⟩ : T2 Int Int) := find_ties a b hc
theorem retie {f : Int → Int} {u v : Int} : lcGo (fun _ : Int => some true) (fun x : Int => (((lget (⟨spD f⟩ : Lk Int) x).bind fun z => sEq z v).bind fun b => if b = true then some u else lget (⟨spD f⟩ : Lk Int) x).bind fun y => some (⟨x, y⟩ : T2 Int Int)) [0, 1, 2, 3] = some [⟨0, if f 0 = v then u else f 0⟩, ⟨1, if f 1 = v then u else f 1⟩, ⟨2, if f 2 = v then u else f 2⟩, ⟨3, if f 3 = v then u else f 3⟩] := by
  have one : ∀ x : Int, 0 ≤ x → x < 4 → ((((lget (⟨spD f⟩ : Lk Int) x).bind fun z => sEq z v).bind fun b => if b = true then some u else lget (⟨spD f⟩ : Lk Int) x).bind fun y => some (⟨x, y⟩ : T2 Int Int)) = some ⟨x, if f x = v then u else f x⟩ := fun x h0 h4 => by
    have e : lget (⟨spD f⟩ : Lk Int) x = some (f x) := find_spD f h0 h4
    rw [e, Option.bind_some]
    unfold sEq
    by_cases q : f x = v
    · simp [q]
    · simp [q]
  unfold lcGo
  simp only [Option.bind_some, if_true]
  rw [one 0 (by omega) (by omega)]
  unfold lcGo
  simp only [Option.bind_some, if_true]
  rw [one 1 (by omega) (by omega)]
  unfold lcGo
  simp only [Option.bind_some, if_true]
  rw [one 2 (by omega) (by omega)]
  unfold lcGo
  simp only [Option.bind_some, if_true]
  rw [one 3 (by omega) (by omega)]
  rfl
theorem joined_S {l : List Nat} (h : Lets l) {a b : Nat → Int} (ha : ∀ c ∈ l, 0 ≤ a c ∧ a c < 4) (hb : ∀ c ∈ l, 0 ≤ b c ∧ b c < 4) (k : Nat) : m__law_joined (S l, tiesD l a b, S (sel l k), ()) = some (S (sel l (jm l a b k))) := by
  apply Ev.out
  have n7 := h.n
  have lk := sel_len l k
  show Ev (runF _ _) _
  unfold runF
  refine Ev.bind ?_
  unfold sseq
  refine ev_nx (γ := (S l, tiesD l a b, S (sel l k), (⟨spD fun z => z⟩ : OD Int), (⟨⟩ : Any), (⟨⟩ : Any), (⟨⟩ : Any), (⟨⟩ : Any), (⟨⟩ : Any), (⟨⟩ : Any), ())) rfl ?_
  unfold sfor
  refine Ev.bind ?_
  refine Ev.bind ?_
  refine Ev.of (y := (sel l k).map fun c => S [c]) (by simp only [f1, fv, gs, gz, wid, Option.bind_some, signs_S]) ?_
  refine Ev.forL (fun xs γ => ∃ x1 x2 : List Nat, sel l k = x1 ++ x2 ∧ xs = x2.map (fun c => S [c]) ∧ γ = (S l, tiesD l a b, S (sel l k), (⟨spD (tied a b x1 fun z => z)⟩ : OD Int), (⟨⟩ : Any), (⟨⟩ : Any), (⟨⟩ : Any), (⟨⟩ : Any), (⟨⟩ : Any), (⟨⟩ : Any), ())) ⟨[], sel l k, rfl, rfl, rfl⟩ ?_ ?_
  · rintro x xs γ ⟨x1, x2, q1, q2, rfl⟩
    cases x2 with
    | nil => cases q2
    | cons c x2 =>
      cases q2
      have hc : c ∈ l := (mem_sel.mp (show c ∈ sel l k by rw [q1]; exact List.mem_append_right _ List.mem_cons_self)).1
      obtain ⟨a0, a4⟩ := ha c hc
      obtain ⟨b0, b4⟩ := hb c hc
      generalize ef : tied a b x1 (fun z => z) = f
      have e1 := dget_ties (a := a) (b := b) hc
      have e2 := find_spD f a0 a4
      have e3 := find_spD f b0 b4
      refine ev_nx (by simp only [sunp, f2, fv, gs, gz, ps, pz, Option.bind_some, Option.map_some, e1]; rfl) ?_
      refine ev_nx (by simp only [sunp, f1, pairT, fcons, fnil, dgetO, fv, gs, gz, ps, pz, ds, dz, Option.bind_some, Option.map_some, e2, e3]; rfl) ?_
      have re := retie (f := f) (u := f (a c)) (v := f (b c))
      refine ev_nx (γ := (S l, tiesD l a b, S (sel l k), (⟨spD (tie f (a c) (b c))⟩ : OD Int), S [c], a c, b c, f (a c), f (b c), (⟨⟩ : Any), ())) ?_ ?_
      · have e4 : flc (ps (ps (ps (ps (ps (ps (ps (ps (ps pz)))))))))
                                      (f1 (lkeys Int) (fv (gs (gs (gs gz))))) fyes
                                      (f1 pairT
                                        (fcons (fv (gs (gs (gs (gs (gs (gs (gs (gs (gs gz))))))))))
                                          (fcons
                                            (fif
                                              (f2 sEq
                                                (f2 lget (fv (gs (gs (gs gz))))
                                                  (fv (gs (gs (gs (gs (gs (gs (gs (gs (gs gz)))))))))))
                                                (fv (gs (gs (gs (gs (gs (gs (gs (gs gz))))))))))
                                              (fv (gs (gs (gs (gs (gs (gs (gs gz))))))))
                                              (f2 lget (fv (gs (gs (gs gz))))
                                                (fv (gs (gs (gs (gs (gs (gs (gs (gs (gs gz))))))))))))
                                            fnil))) (S l, tiesD l a b, S (sel l k), (⟨spD f⟩ : Lk Int), S [c], a c, b c, f (a c), f (b c), (⟨⟩ : Any), ()) = some [⟨0, if f 0 = f (b c) then f (a c) else f 0⟩, ⟨1, if f 1 = f (b c) then f (a c) else f 1⟩, ⟨2, if f 2 = f (b c) then f (a c) else f 2⟩, ⟨3, if f 3 = f (b c) then f (a c) else f 3⟩] := by
          simp only [flc, f1, f2, fif, fyes, lkeys, keys_spD, pairT, fcons, fnil, fv, gs, gz, ps, pz, Option.bind_some, Option.bind_assoc, List.length_cons, List.length_nil]
          simp only [Option.bind_assoc] at re
          rw [if_pos (by decide)]
          exact re
        unfold snewF
        have e5 : f1 dictP (fcons (fun γ => flc (ps (ps (ps (ps (ps (ps (ps (ps (ps pz)))))))))
                                      (f1 (lkeys Int) (fv (gs (gs (gs gz))))) fyes
                                      (f1 pairT
                                        (fcons (fv (gs (gs (gs (gs (gs (gs (gs (gs (gs gz))))))))))
                                          (fcons
                                            (fif
                                              (f2 sEq
                                                (f2 lget (fv (gs (gs (gs gz))))
                                                  (fv (gs (gs (gs (gs (gs (gs (gs (gs (gs gz)))))))))))
                                                (fv (gs (gs (gs (gs (gs (gs (gs (gs gz))))))))))
                                              (fv (gs (gs (gs (gs (gs (gs (gs gz))))))))
                                              (f2 lget (fv (gs (gs (gs gz))))
                                                (fv (gs (gs (gs (gs (gs (gs (gs (gs (gs gz))))))))))))
                                            fnil))) ((fds (fds (fds fdz))).fr γ)) fnil) (S l, tiesD l a b, S (sel l k), (⟨spD f⟩ : OD Int), S [c], a c, b c, f (a c), f (b c), (⟨⟩ : Any), ()) = some (spD (tie f (a c) (b c))) := by
          unfold f1 fcons
          refine (congrArg (fun z => Option.bind z _) (congrArg (fun z => Option.bind z _) e4)).trans ?_
          rfl
        exact (congrArg (fun z => Option.map _ z) e5).trans rfl
      · refine Ev.of rfl ⟨_, rfl, x1 ++ [c], x2, by rw [q1]; simp, rfl, ?_⟩
        rw [tied_app, ef]
        rfl
  rintro γ ⟨x1, x2, q1, q2, rfl⟩
  cases x2 with
  | cons => cases q2
  | nil =>
  rw [List.append_nil] at q1
  subst q1
  have jo := (jm_ok h.nd a b k).2
  have lj := sel_len l (jm l a b k)
  have e6 : lcGo (fun x : Str => ((((dget (tiesD l a b) x).bind fun t => ix0 t 0).bind fun u => valB (spD (tied a b (sel l k) fun z => z)) (KeyOf.key u)).bind fun x_1 => (((dget (tiesD l a b) x).bind fun t => ix1 t 1).bind fun u => valB (spD (tied a b (sel l k) fun z => z)) (KeyOf.key u)).bind fun y => sEq x_1 y)) (fun x => some x) (l.map fun c => S [c]) = some ((sel l (jm l a b k)).map fun c => S [c]) := by
    rw [lcGo_l (P := fun t => decide (tied a b (sel l k) (fun z => z) (a t) = tied a b (sel l k) (fun z => z) (b t))) (E := fun t => S [t]) (fun c hc => ?_) fun _ _ _ => rfl, jo]
    · rfl
    · rw [dget_ties hc]
      have i0 : ix0 (⟨a c, b c⟩ : T2 Int Int) 0 = some (a c) := rfl
      have i1 : ix1 (⟨a c, b c⟩ : T2 Int Int) 1 = some (b c) := rfl
      simp only [Option.bind_some, i0, i1, find_spD _ (ha c hc).1 (ha c hc).2, find_spD _ (hb c hc).1 (hb c hc).2]
      rfl
  refine Ev.of (y := Fl.rt (S (sel l (jm l a b k))) ()) ?_ (Ev.of rfl rfl)
  have ls : (Vx.signs (S l)).length ≤ 100000 := by rw [signs_S, List.length_map]; omega
  simp only [Fl.bnd, sret, f1, f2, fc, flc, dgetO, fcons, fnil, fv, gs, gz, ps, pz, ds, dz, Option.bind_some, ls, if_true]
  rw [signs_S, e6, Option.bind_some, jn_S _ (by omega)]
  rfl
theorem sort_any {l x : List Nat} (h : Lets l) (nd : x.Nodup) (hx : ∀ c ∈ x, c ∈ l) : ∃ k, k < 2 ^ l.length ∧ ((srtS (S x, ())).bind fun y => jn (Str.ofString "") y) = some (S (sel l k)) := by
  have n7 := h.n
  obtain ⟨hk, ek⟩ := cd_ok h.nd (x := l.filter fun c => decide (c ∈ x)) List.filter_sublist
  refine ⟨_, hk, ?_⟩
  rw [ek]
  have p : x.Perm (l.filter fun c => decide (c ∈ x)) := (List.perm_ext_iff_of_nodup nd (h.nd.filter _)).mpr fun c => by
    rw [List.mem_filter, decide_eq_true_eq]
    exact ⟨fun hc => ⟨hx c hc, hc⟩, fun hc => hc.2⟩
  have asc : (l.filter fun c => decide (c ∈ x)).Pairwise (· < ·) := h.w.asc.filter _
  have ll := List.length_filter_le (fun c => decide (c ∈ x)) l
  have lx := p.length_eq
  unfold srtS
  rw [show (S x).cps.size = x.length from by simp [S], if_pos (by omega), Option.bind_some, signs_S, srt_eq (p.map _), sign_srt asc, jn_S _ (by omega)]
theorem pairs_of_bag {l : List Nat} : ∀ {xs : List Str} {ys : List (T2 Str Str)}, PySem.Paired (fun (x : Str) (y : T2 Str Str) => (∃ i, i < 2 ^ l.length ∧ S (sel l i) = x) ∧ ∃ j, j < 2 ^ l.length ∧ y = ⟨x, S (sel l j)⟩) xs ys → ∃ B : List (Nat × Nat), ys = (bk l B).l ∧ (∀ p ∈ B, p.1 < 2 ^ l.length ∧ p.2 < 2 ^ l.length) ∧ B.length = xs.length
  | _, _, .nil => ⟨[], rfl, fun _ h => (by cases h), rfl⟩
  | x :: xs, y :: ys, .cons ⟨⟨i, hi, e1⟩, j, hj, e2⟩ r => by
    obtain ⟨B, e, lB, nB⟩ := pairs_of_bag r
    subst e1
    subst e2
    subst e
    refine ⟨(i, j) :: B, rfl, fun p hp => ?_, by rw [List.length_cons, List.length_cons, nB]⟩
    rcases List.mem_cons.mp hp with rfl | hp
    · exact ⟨hi, hj⟩
    · exact lB p hp
theorem ties_of {l : List Nat} (nd : l.Nodup) {ys : List (T2 Str (T2 Int Int))} (h : PySem.Paired (fun (x : Str) (y : T2 Str (T2 Int Int)) => ∃ u v : Int, (0 ≤ u ∧ u < 4) ∧ (0 ≤ v ∧ v < 4) ∧ y = ⟨x, ⟨u, v⟩⟩) (l.map fun c => S [c]) ys) :
    ∃ a b : Nat → Int, (∀ c ∈ l, 0 ≤ a c ∧ a c < 4) ∧ (∀ c ∈ l, 0 ≤ b c ∧ b c < 4) ∧ (⟨mergeB ys⟩ : Dct (T2 Int Int)) = tiesD l a b := by
  have : ∀ (l : List Nat) (ys : List (T2 Str (T2 Int Int))), l.Nodup → PySem.Paired (fun (x : Str) (y : T2 Str (T2 Int Int)) => ∃ u v : Int, (0 ≤ u ∧ u < 4) ∧ (0 ≤ v ∧ v < 4) ∧ y = ⟨x, ⟨u, v⟩⟩) (l.map fun c => S [c]) ys → ∃ a b : Nat → Int, (∀ c ∈ l, 0 ≤ a c ∧ a c < 4) ∧ (∀ c ∈ l, 0 ≤ b c ∧ b c < 4) ∧ ys = l.map fun c => (⟨S [c], ⟨a c, b c⟩⟩ : T2 Str (T2 Int Int)) := by
    intro l
    induction l with
    | nil =>
      intro ys _ hp
      cases hp
      exact ⟨fun _ => 0, fun _ => 0, fun _ h => (by cases h), fun _ h => (by cases h), rfl⟩
    | cons c l ih =>
      intro ys nd hp
      cases hp with
      | cons r t =>
        obtain ⟨u, v, hu, hv, rfl⟩ := r
        obtain ⟨n1, n2⟩ := List.nodup_cons.mp nd
        obtain ⟨a, b, ha, hb, rfl⟩ := ih _ n2 t
        refine ⟨fun d => if d = c then u else a d, fun d => if d = c then v else b d, fun d hd => ?_, fun d hd => ?_, ?_⟩
        · show 0 ≤ (if d = c then u else a d) ∧ (if d = c then u else a d) < 4
          by_cases q : d = c
          · rw [if_pos q]; exact hu
          · rw [if_neg q]; exact ha d ((List.mem_cons.mp hd).resolve_left q)
        · show 0 ≤ (if d = c then v else b d) ∧ (if d = c then v else b d) < 4
          by_cases q : d = c
          · rw [if_pos q]; exact hv
          · rw [if_neg q]; exact hb d ((List.mem_cons.mp hd).resolve_left q)
        · rw [List.map_cons]
          simp only [if_true]
          congr 1
          refine List.map_congr_left fun d hd => ?_
          have q : d ≠ c := fun z => n1 (by rw [← z]; exact hd)
          simp only [q, if_false]
  obtain ⟨a, b, ha, hb, rfl⟩ := this l ys nd h
  refine ⟨a, b, ha, hb, ?_⟩
  have put : ∀ (l : List Nat) (d : List Nat), (d ++ l).Nodup → (l.map fun c => (⟨S [c], ⟨a c, b c⟩⟩ : T2 Str (T2 Int Int))).foldl (fun acc t => putB acc (KeyOf.key t.a) t.b) (d.map fun c => ((Sum.inr (S [c]) : Key), (⟨a c, b c⟩ : T2 Int Int))) = (d ++ l).map fun c => ((Sum.inr (S [c]) : Key), (⟨a c, b c⟩ : T2 Int Int)) := by
    intro l
    induction l with
    | nil => intro d _; simp
    | cons c l ih =>
      intro d nd
      rw [List.map_cons, List.foldl_cons]
      have e : putB (d.map fun c => ((Sum.inr (S [c]) : Key), (⟨a c, b c⟩ : T2 Int Int))) (KeyOf.key (S [c])) (⟨a c, b c⟩ : T2 Int Int) = (d ++ [c]).map fun c => ((Sum.inr (S [c]) : Key), (⟨a c, b c⟩ : T2 Int Int)) := by
        unfold putB
        rw [if_neg, List.map_append]
        · rfl
        · intro z
          obtain ⟨q, hq, e⟩ := List.any_eq_true.mp z
          obtain ⟨x, hx, rfl⟩ := List.mem_map.mp hq
          have e : (Sum.inr (S [x]) : Key) = Sum.inr (S [c]) := of_decide_eq_true e
          have e := S_inj.mp (Sum.inr.inj e)
          have e : x = c := by simpa using e
          subst e
          obtain ⟨_, _, n3⟩ := List.nodup_append.mp nd
          exact n3 x hx x List.mem_cons_self rfl
      rw [e, ih (d ++ [c]) (by simpa using nd)]
      simp
  have := put l [] (by simpa using nd)
  unfold tiesD mergeB
  exact congrArg (fun z => (⟨z⟩ : Dct (T2 Int Int))) this
theorem ev_no {Γ Γ' S ρ : Type} [EnvR Γ] {c : Γ → Option Bool} {f : Γ → Option (Fl Γ S ρ)} {γ : Γ} {k : Γ → Option (Fl Γ' S ρ)} {P : Fl Γ' S ρ → Prop} (h : c γ = some false) (q : Ev (k γ) P) : Ev ((sif c f (snil wid) γ).bind fun x => x.bnd k) P := by
  rw [sif_no h]
  exact q
theorem ev_yes {Γ Γ1 Γ' S ρ : Type} [EnvR Γ] {c : Γ → Option Bool} {f g : Γ → Option (Fl Γ1 S ρ)} {γ : Γ} {k : Γ1 → Option (Fl Γ' S ρ)} {P : Fl Γ' S ρ → Prop} (h : c γ = some true) (q : Ev (f γ) fun x => Ev (x.bnd k) P) : Ev ((sif c f g γ).bind fun x => x.bnd k) P := by
  rw [sif_yes h]
  exact Ev.bind q
theorem len_in {l x : List Nat} (h : Lets l) (nd : x.Nodup) (hx : ∀ c ∈ x, c ∈ l) : x.length ≤ l.length := by
  have p : x.Perm (l.filter fun c => decide (c ∈ x)) := (List.perm_ext_iff_of_nodup nd (h.nd.filter _)).mpr fun c => by
    rw [List.mem_filter, decide_eq_true_eq]
    exact ⟨fun hc => ⟨hx c hc, hc⟩, fun hc => hc.2⟩
  rw [p.length_eq]
  exact List.length_filter_le _ _
theorem world_S {s : List Int} (hs : s.length = 3) {l : List Nat} (h : Lets l) : Ev (m__law_world s (S l, ())) fun r => ∃ C, r.1 = ⟨T l C⟩ ∧ Sys l C ∧ r.2.length = 3 := by
  have n7 := h.n
  have p := p7 h
  obtain ⟨E, eE, aE⟩ := all_ex' h
  have nE := (fam_good aE.f).len
  obtain ⟨r, s1, e1, r0, r1, h1⟩ := spill_S hs 5 (by omega) (by omega)
  have se : ∀ j : Int, (f2 sEq (fv (gs (gs gz))) (fc j)) ((⟨s1⟩ : OL Int), S l, r, (⟨⟩ : Any), (⟨⟩ : Any), (⟨⟩ : Any), (⟨⟩ : Any), (⟨⟩ : Any), (⟨⟩ : Any), (⟨⟩ : Any), (⟨⟩ : Any), (⟨⟩ : Any), ()) = some (decide (r = j)) := fun j => rfl
  have er : ∀ j : Nat, j ≤ 1000 → rangeOf1 (j : Int) = some (Z (List.range j)) := fun j hj => rng_n j hj
  show Ev (runM _ _) _
  generalize rangeOf1 = R at er ⊢
  unfold runM
  refine Ev.bind ?_
  unfold sseq
  refine ev_nx (by simp only [ssetm, mdr, up, fcons, fc, fnil, im, ic, ia, i0, ps, pz, Option.bind_some, Option.map_some, e1]; rfl) ?_
  by_cases w0 : r = 0
  · refine ev_yes ((se 0).trans (congrArg some (decide_eq_true w0))) ?_
    obtain ⟨r', s2, e2, q0, q1, h2⟩ := spill_S h1 6 (by omega) (by omega)
    obtain ⟨j, rfl⟩ : ∃ j : Nat, r' = (j : Int) := ⟨r'.toNat, by omega⟩
    refine Ev.bind ?_
    unfold sretm
    refine Ev.map ?_
    unfold m1
    refine Ev.bind ?_
    unfold mcons
    refine Ev.bind ?_
    refine Ev.of rfl ?_
    refine Ev.bind ?_
    refine Ev.bind ?_
    refine Ev.mlcA (fun i γ => ∃ g : List Int, γ = ((⟨g⟩ : OL Int), S l, r, (⟨⟩ : Any), (⟨⟩ : Any), (⟨⟩ : Any), (⟨⟩ : Any), (⟨⟩ : Any), (⟨⟩ : Any), (⟨⟩ : Any), (⟨⟩ : Any), (⟨⟩ : Any), ()) ∧ g.length = 3) (fun _ y => ∃ k, k < 2 ^ l.length ∧ S (sel l k) = y) ?_
    refine Ev.of (y := (Z (List.range j), ((⟨s2⟩ : OL Int), S l, r, (⟨⟩ : Any), (⟨⟩ : Any), (⟨⟩ : Any), (⟨⟩ : Any), (⟨⟩ : Any), (⟨⟩ : Any), (⟨⟩ : Any), (⟨⟩ : Any), (⟨⟩ : Any), ()))) ?_ ⟨?_, ⟨s2, rfl, h2⟩, ?_, ?_⟩
    · simp only [m1, mdr, up, fcons, fc, fnil, Option.bind_some, Option.map_some, e2, er j (by omega)]
    · simp [Z]
      omega
    · rintro x i _ hi ⟨g, rfl, hg⟩ hx
      refine Ev.of rfl ⟨rfl, ?_⟩
      obtain ⟨⟨_, g1⟩, t1, k, pk, lk, hg1⟩ := bag_S hg h
      have pk : _ = S (sel l k) := pk
      subst pk
      refine Ev.of (y := (S (sel l k), ((⟨g1⟩ : OL Int), S l, r, (⟨⟩ : Any), (⟨⟩ : Any), x, (⟨⟩ : Any), (⟨⟩ : Any), (⟨⟩ : Any), (⟨⟩ : Any), (⟨⟩ : Any), (⟨⟩ : Any), ()))) ?_ ⟨⟨k, lk, rfl⟩, g1, rfl, hg1⟩
      simp only [mdr, up, fcons, fv, fnil, gs, gz, wid, cs, cz, bs, bz, ps, pz, Option.bind_some, Option.map_some]
      rw [show m__law_bag g (S l, ()) = some (S (sel l k), g1) from t1]
      rfl
    · rintro ys _ hp ⟨g, rfl, hg⟩
      have hj : (Z (List.range j)).length = j := by simp [Z]
      have hlen := paired_len' hp
      rw [hj] at hlen
      obtain ⟨F, eF, lF⟩ := T_back (l := l) (ys := ys) (paired_all hp)
      subst eF
      rw [T_len] at hlen
      obtain ⟨y, em, C, rfl, t⟩ := met_S h lF (by omega)
      refine Ev.of rfl (Ev.of rfl (Ev.map (Ev.of em ?_)))
      exact Ev.of rfl (Ev.of rfl (Ev.of rfl ⟨C, rfl, t.s, hg⟩))
  refine ev_no ((se 0).trans (congrArg some (decide_eq_false w0))) ?_
  by_cases w1 : r = 1
  · refine ev_yes ((se 1).trans (congrArg some (decide_eq_true w1))) ?_
    obtain ⟨⟨_, s2⟩, e2, B, pB, b, lB, h2⟩ := rules_S h1 h (m := 4) (by omega)
    have pB : _ = bk l B := pB
    subst pB
    have e2 : m__law_rules s1 (S l, 4, ()) = some (bk l B, s2) := e2
    refine Ev.of (y := Fl.rt (⟨T l (E.filter (kp B))⟩ : Tup Str) s2) ?_ (Ev.of rfl (Ev.of rfl ⟨_, rfl, kept_sys h aE b, h2⟩))
    simp only [sretm, m1, m2, mcons, mdr, up, fcons, fv, fc, fnil, gs, gz, Option.bind_some, Option.map_some, e2, keeping_S h eE aE b, Fl.bnd]
    rfl
  refine ev_no ((se 1).trans (congrArg some (decide_eq_false w1))) ?_
  by_cases w2 : r = 2
  · refine ev_yes ((se 2).trans (congrArg some (decide_eq_true w2))) ?_
    obtain ⟨r', s2, e2, q0, q1, h2⟩ := spill_S h1 4 (by omega) (by omega)
    obtain ⟨j, rfl⟩ : ∃ j : Nat, r' = (j : Int) := ⟨r'.toNat, by omega⟩
    refine Ev.bind ?_
    unfold ssetm
    refine Ev.map ?_
    refine Ev.mlcA (fun i γ => ∃ g : List Int, γ = ((⟨g⟩ : OL Int), S l, r, (⟨⟩ : Any), (⟨⟩ : Any), (⟨⟩ : Any), (⟨⟩ : Any), (⟨⟩ : Any), (⟨⟩ : Any), (⟨⟩ : Any), (⟨⟩ : Any), (⟨⟩ : Any), ()) ∧ g.length = 3) (fun _ y => ∃ k, k < 2 ^ l.length ∧ S (sel l k) = y) ?_
    refine Ev.of (y := (Z (List.range j), ((⟨s2⟩ : OL Int), S l, r, (⟨⟩ : Any), (⟨⟩ : Any), (⟨⟩ : Any), (⟨⟩ : Any), (⟨⟩ : Any), (⟨⟩ : Any), (⟨⟩ : Any), (⟨⟩ : Any), (⟨⟩ : Any), ()))) ?_ ⟨?_, ⟨s2, rfl, h2⟩, ?_, ?_⟩
    · simp only [m1, mdr, up, fcons, fc, fnil, Option.bind_some, Option.map_some, e2, er j (by omega)]
    · simp [Z]
      omega
    · rintro x i _ hi ⟨g, rfl, hg⟩ hx
      refine Ev.of rfl ⟨rfl, ?_⟩
      obtain ⟨⟨_, g1⟩, t1, c, hc, pk, hg1⟩ := out_of_S hg h.p n7
      have pk : _ = S [c] := pk
      subst pk
      obtain ⟨k, lk, ek⟩ := sel_one h hc
      refine Ev.of (y := (S [c], ((⟨g1⟩ : OL Int), S l, r, (⟨⟩ : Any), (⟨⟩ : Any), x, (⟨⟩ : Any), (⟨⟩ : Any), (⟨⟩ : Any), (⟨⟩ : Any), (⟨⟩ : Any), (⟨⟩ : Any), ()))) ?_ ⟨⟨k, lk, by rw [ek]⟩, g1, rfl, hg1⟩
      simp only [mdr, up, fcons, fv, fnil, gs, gz, wid, cs, cz, bs, bz, ps, pz, Option.bind_some, Option.map_some]
      rw [show m__law_out_of g (S l, ()) = some (S [c], g1) from t1]
      rfl
    · rintro ys _ hp ⟨g, rfl, hg⟩
      have hj : (Z (List.range j)).length = j := by simp [Z]
      have hlen := paired_len' hp
      rw [hj] at hlen
      obtain ⟨F, eF, lF⟩ := T_back (l := l) (ys := ys) (paired_all hp)
      subst eF
      rw [T_len] at hlen
      refine Ev.bind ?_
      unfold sretm
      refine Ev.map ?_
      unfold m1
      refine Ev.bind ?_
      unfold mcons
      refine Ev.bind ?_
      refine Ev.of rfl ?_
      refine Ev.bind ?_
      refine Ev.bind ?_
      refine Ev.mlcA (fun i γ => ∃ g : List Int, γ = ((⟨g⟩ : OL Int), S l, r, (⟨⟩ : Any), T l F, (⟨⟩ : Any), (⟨⟩ : Any), (⟨⟩ : Any), (⟨⟩ : Any), (⟨⟩ : Any), (⟨⟩ : Any), (⟨⟩ : Any), ()) ∧ g.length = 3) (fun x y => (∃ i, i < 2 ^ l.length ∧ S (sel l i) = x) ∧ ∃ j, j < 2 ^ l.length ∧ y = (⟨x, S (sel l j)⟩ : T2 Str Str)) ?_
      refine Ev.of (y := (T l F, ((⟨g⟩ : OL Int), S l, r, (⟨⟩ : Any), T l F, (⟨⟩ : Any), (⟨⟩ : Any), (⟨⟩ : Any), (⟨⟩ : Any), (⟨⟩ : Any), (⟨⟩ : Any), (⟨⟩ : Any), ()))) rfl ⟨?_, ⟨g, rfl, hg⟩, ?_, ?_⟩
      · rw [T_len]
        omega
      · rintro x i _ hi ⟨g, rfl, hg⟩ hx
        refine Ev.of rfl ⟨rfl, ?_⟩
        obtain ⟨i', hi', ei'⟩ := mem_T.mp hx
        obtain ⟨⟨_, g1⟩, t1, k, pk, lk, hg1⟩ := bag_S hg h
        have pk : _ = S (sel l k) := pk
        subst pk
        refine Ev.of (y := ((⟨x, S (sel l k)⟩ : T2 Str Str), ((⟨g1⟩ : OL Int), S l, r, (⟨⟩ : Any), T l F, (⟨⟩ : Any), (⟨⟩ : Any), (⟨⟩ : Any), (⟨⟩ : Any), (⟨⟩ : Any), x, (⟨⟩ : Any), ()))) ?_ ⟨⟨⟨i', lF i' hi', ei'⟩, k, lk, rfl⟩, g1, rfl, hg1⟩
        simp only [m1, m2, mcons, mdr, up, fcons, fv, fnil, gs, gz, wid, cs, cz, bs, bz, ps, pz, Option.bind_some, Option.map_some]
        rw [show m__law_bag g (S l, ()) = some (S (sel l k), g1) from t1]
        rfl
      · rintro ys _ hp ⟨g, rfl, hg⟩
        obtain ⟨B, rfl, lB, nB⟩ := pairs_of_bag hp
        rw [T_len] at nB
        have b : Bok l B := ⟨lB, by omega⟩
        refine Ev.of rfl (Ev.of rfl (Ev.map (Ev.of (keepingL_S h eE aE b) ?_)))
        exact Ev.of rfl (Ev.of rfl (Ev.of rfl ⟨_, rfl, kept_sys h aE b, hg⟩))
  refine ev_no ((se 2).trans (congrArg some (decide_eq_false w2))) ?_
  by_cases w3 : r = 3
  · refine ev_yes ((se 3).trans (congrArg some (decide_eq_true w3))) ?_
    refine ev_nx (γ := ((⟨s1⟩ : OL Int), S l, r, (⟨⟩ : Any), (⟨⟩ : Any), (⟨⟩ : Any), (⟨T l [0]⟩ : OL Str), S ([] : List Nat), (⟨⟩ : Any), (⟨⟩ : Any), (⟨⟩ : Any), (⟨⟩ : Any), ())) ?_ ?_
    · rw [show T l [0] = [S ([] : List Nat)] by simp [T, sel_zero]]
      rfl
    unfold sfor
    refine Ev.bind ?_
    refine Ev.bind ?_
    have em : iMul 2 ((l.length : Nat) : Int) = some ((2 * l.length : Nat) : Int) := by
      unfold iMul
      rw [if_pos (.inl (by decide))]
      exact congrArg some (by omega)
    refine Ev.of (y := Z (List.range (2 * l.length))) ?_ ?_
    · simp only [f1, f2, fcons, fv, fc, fnil, gs, gz, wid, Option.bind_some, lenS_l (x := l) (by omega), em, er _ (show 2 * l.length ≤ 1000 by omega)]
    refine Ev.forL (fun xs γ => ∃ (g : List Int) (x F : List Nat), γ = ((⟨g⟩ : OL Int), S l, r, (⟨⟩ : Any), (⟨⟩ : Any), (⟨⟩ : Any), (⟨T l F⟩ : OL Str), S x, (⟨⟩ : Any), (⟨⟩ : Any), (⟨⟩ : Any), (⟨⟩ : Any), ()) ∧ g.length = 3 ∧ x.Nodup ∧ (∀ c ∈ x, c ∈ l) ∧ (∀ k ∈ F, k < 2 ^ l.length) ∧ F.length + xs.length = 2 * l.length + 1) ⟨s1, [], [0], rfl, h1, List.nodup_nil, fun _ h => (by cases h), fun k hk => by rw [List.mem_singleton.mp hk]; exact Nat.two_pow_pos _, by simp [Z]; omega⟩ ?_ ?_
    · rintro z xs γ ⟨g, x, F, rfl, hg, nx, hx, lF, nF⟩
      rw [List.length_cons] at nF
      have lx : x.length ≤ l.length := len_in h nx hx
      have elf : lcGo (fun y => sNotIn y (S x)) (fun y => some y) (Vx.signs (S l)) = some ((l.filter fun c => !decide (c ∈ x)).map fun c => S [c]) := by
        rw [signs_S, lcGo_l (P := fun c => !decide (c ∈ x)) (E := fun c => S [c]) (fun c _ => sNotIn_S c x) (fun _ _ _ => rfl)]
      have ls : (Vx.signs (S l)).length ≤ 100000 := by rw [signs_S, List.length_map]; omega
      generalize ew : (l.filter fun c => !decide (c ∈ x)) = w at elf
      have lw : w.length ≤ l.length := by rw [← ew]; exact List.length_filter_le _ _
      refine ev_nx (γ := ((⟨g⟩ : OL Int), S l, r, (⟨⟩ : Any), (⟨⟩ : Any), z, (⟨T l F⟩ : OL Str), S x, w.map (fun c => S [c]), (⟨⟩ : Any), (⟨⟩ : Any), (⟨⟩ : Any), ())) (by simp only [sset, flc, f1, f2, fv, gs, gz, ps, pz, Option.bind_some, Option.map_some, ls, if_true, elf]) ?_
      have nxt : Ev (ssetm (S := List Int) (ρ := Tup Str) (ps (ps (ps (ps (ps (ps (ps pz)))))))
                                      (mif (up (f2 dNe (fv (gs (gs (gs (gs (gs (gs (gs (gs gz))))))))) (f1 short lnil)))
                                        (m2 sAdd
                                          (mdr m__law_out_ofL
                                            (up (fcons (fv (gs (gs (gs (gs (gs (gs (gs (gs gz))))))))) fnil)))
                                          (up (fv (gs (gs (gs (gs (gs (gs (gs gz))))))))))
                                        (mdr m__law_out_of (up (fcons (fv (gs gz)) fnil)))) ((⟨g⟩ : OL Int), S l, r, (⟨⟩ : Any), (⟨⟩ : Any), z, (⟨T l F⟩ : OL Str), S x, w.map (fun c => S [c]), (⟨⟩ : Any), (⟨⟩ : Any), (⟨⟩ : Any), ()))
          fun y => ∃ (g' : List Int) (x' : List Nat), y = Fl.nx ((⟨g'⟩ : OL Int), S l, r, (⟨⟩ : Any), (⟨⟩ : Any), z, (⟨T l F⟩ : OL Str), S x', w.map (fun c => S [c]), (⟨⟩ : Any), (⟨⟩ : Any), (⟨⟩ : Any), ()) ∧ g'.length = 3 ∧ x'.Nodup ∧ ∀ c ∈ x', c ∈ l := by
        by_cases q : w = []
        · obtain ⟨⟨_, g1⟩, t1, c, hc, pk, hg1⟩ := out_of_S hg h.p n7
          have pk : _ = S [c] := pk
          subst pk
          refine Ev.of ?_ ⟨g1, [c], rfl, hg1, List.pairwise_singleton _ _, fun d hd => by rw [List.mem_singleton.mp hd]; exact hc⟩
          have dn : dNe (w.map fun c => S [c]) [] = some false := by
            unfold dNe
            rw [q]
            rfl
          have t1 : m__law_out_of g (S l, ()) = some (S [c], g1) := t1
          simp only [ssetm, mif, up, f1, f2, lnil, short, fcons, fv, fnil, gs, gz, ps, pz, mdr, Option.bind_some, Option.map_some, List.length_nil, Nat.zero_le, if_true, dn, Bool.false_eq_true, if_false, t1]
        · obtain ⟨⟨y, g1⟩, t1, hy, hg1⟩ := out_ofL_S hg (x := w.map fun c => S [c]) (by simpa using q) (by rw [List.length_map]; omega)
          obtain ⟨c, hc, rfl⟩ := List.mem_map.mp (show y ∈ w.map fun c => S [c] from hy)
          have hc' : c ∈ l ∧ c ∉ x := by
            rw [← ew, List.mem_filter, Bool.not_eq_true', decide_eq_false_iff_not] at hc
            exact hc
          refine Ev.of ?_ ⟨g1, c :: x, rfl, hg1, List.nodup_cons.mpr ⟨hc'.2, nx⟩, fun d hd => ?_⟩
          · have dn : dNe (w.map fun c => S [c]) [] = some true := by
              unfold dNe
              rw [decide_eq_false (by simpa using q)]
              rfl
            have t1 : m__law_out_ofL g (w.map (fun c => S [c]), ()) = some (S [c], g1) := t1
            have sa : sAdd (S [c]) (S x) = some (S (c :: x)) := by
              unfold sAdd
              rw [len_S, len_S, if_pos (by rw [List.length_singleton]; omega)]
              exact congrArg some (S_add [c] x)
            simp only [ssetm, mif, up, f1, f2, m2, lnil, short, fcons, fv, fnil, gs, gz, ps, pz, mdr, Option.bind_some, Option.map_some, List.length_nil, Nat.zero_le, if_true, dn, t1, sa]
          · rcases List.mem_cons.mp hd with rfl | hd
            · exact hc'.1
            · exact hx d hd
      obtain ⟨y, ey, g', x', rfl, hg', nx', hx'⟩ := nxt
      refine ev_nx ey ?_
      obtain ⟨k, lk, ek⟩ := sort_any h nx' hx'
      refine ev_nx (sapp_ok (γ' := ((⟨g'⟩ : OL Int), S l, r, (⟨⟩ : Any), (⟨⟩ : Any), z, (⟨T l F⟩ : OL Str), S x', w.map (fun c => S [c]), (⟨⟩ : Any), (⟨⟩ : Any), (⟨⟩ : Any), ())) (y := S (sel l k)) _ ?_ ?_) ?_
      · simp only [up, f1, f2, fc, fcons, fv, fnil, gs, gz, Option.bind_some, ek, Option.map_some]
      · show (T l F).length < 100000
        rw [T_len]
        omega
      · refine Ev.of rfl ⟨_, rfl, g', x', F ++ [k], ?_, hg', nx', hx', fun i hi => ?_, by rw [List.length_append, List.length_singleton]; omega⟩
        · simp [T]
          rfl
        · rcases List.mem_append.mp hi with q | q
          · exact lF i q
          · rw [List.mem_singleton.mp q]
            exact lk
    · rintro γ ⟨g, x, F, rfl, hg, nx, hx, lF, nF⟩
      rw [List.length_nil] at nF
      obtain ⟨y, em, C, rfl, t⟩ := met_S h lF (by omega)
      refine Ev.of (y := Fl.rt (⟨T l C⟩ : Tup Str) g) ?_ (Ev.of rfl (Ev.of rfl ⟨C, rfl, t.s, hg⟩))
      simp only [Fl.bnd, sfrz, sret, fs, fz, f1, fcons, fv, fnil, gs, gz, Option.bind_some, em, Option.map_some]
      rfl
  refine ev_no ((se 3).trans (congrArg some (decide_eq_false w3))) ?_
  refine Ev.bind ?_
  unfold ssetm
  refine Ev.map ?_
  unfold m1
  refine Ev.bind ?_
  refine Ev.bind ?_
  unfold mcons
  refine Ev.bind ?_
  refine Ev.mlcA (fun i γ => ∃ g : List Int, γ = ((⟨g⟩ : OL Int), S l, r, (⟨⟩ : Any), (⟨⟩ : Any), (⟨⟩ : Any), (⟨⟩ : Any), (⟨⟩ : Any), (⟨⟩ : Any), (⟨⟩ : Any), (⟨⟩ : Any), (⟨⟩ : Any), ()) ∧ g.length = 3) (fun (x : Str) (y : T2 Str (T2 Int Int)) => ∃ u v : Int, (0 ≤ u ∧ u < 4) ∧ (0 ≤ v ∧ v < 4) ∧ y = ⟨x, ⟨u, v⟩⟩) ?_
  refine Ev.of (y := (l.map (fun c => S [c]), ((⟨s1⟩ : OL Int), S l, r, (⟨⟩ : Any), (⟨⟩ : Any), (⟨⟩ : Any), (⟨⟩ : Any), (⟨⟩ : Any), (⟨⟩ : Any), (⟨⟩ : Any), (⟨⟩ : Any), (⟨⟩ : Any), ()))) (by show some (Vx.signs (S l), _) = _; rw [signs_S]) ⟨?_, ⟨s1, rfl, h1⟩, ?_, ?_⟩
  · rw [List.length_map]
    omega
  · rintro z i _ hi ⟨g, rfl, hg⟩ hz
    refine Ev.of rfl ⟨rfl, ?_⟩
    obtain ⟨u, g1, t1, u0, u4, hg1⟩ := spill_S hg 4 (by omega) (by omega)
    obtain ⟨v, g2, t2, v0, v4, hg2⟩ := spill_S hg1 4 (by omega) (by omega)
    refine Ev.of (y := ((⟨z, ⟨u, v⟩⟩ : T2 Str (T2 Int Int)), ((⟨g2⟩ : OL Int), S l, r, (⟨⟩ : Any), (⟨⟩ : Any), (⟨⟩ : Any), (⟨⟩ : Any), (⟨⟩ : Any), (⟨⟩ : Any), z, (⟨⟩ : Any), (⟨⟩ : Any), ()))) ?_ ⟨⟨u, v, ⟨u0, u4⟩, ⟨v0, v4⟩, rfl⟩, g2, rfl, hg2⟩
    simp only [m1, m2, mcons, mdr, up, fcons, fv, fc, fnil, gs, gz, wid, cs, cz, bs, bz, ps, pz, Option.bind_some, Option.map_some]
    rw [show m__law_spill g (4, ()) = some (u, g1) from t1]
    simp only [Option.bind_some, Option.map_some]
    rw [show m__law_spill g1 (4, ()) = some (v, g2) from t2]
    rfl
  · rintro ys _ hp ⟨g, rfl, hg⟩
    obtain ⟨a, b, ha, hb, et⟩ := ties_of h.nd hp
    have hX : ∀ k ∈ E.map (jm l a b), k < 2 ^ l.length := fun k hk => by
      obtain ⟨j, _, rfl⟩ := List.mem_map.mp hk
      exact (jm_ok h.nd a b j).1
    obtain ⟨C, eC, fC, mC⟩ := sort_set h hX
    have sC : Sys l C := web_sys h a b fC fun k => by
      rw [mC, List.mem_map]
      exact ⟨fun ⟨j, hj, e⟩ => ⟨j, (aE.m j).mp hj, e⟩, fun ⟨j, hj, e⟩ => ⟨j, (aE.m j).mpr hj, e⟩⟩
    have lT : (T l E).length ≤ 100000 := by rw [T_len]; omega
    have elc : lcGo (fun x => some true) (fun x => m__law_joined (S l, tiesD l a b, x, ())) (T l E) = some (T l (E.map (jm l a b))) := by
      rw [lcGo_T h (P := fun _ => true) (E := fun k => S (sel l (jm l a b k))) (fun _ _ => rfl) (fun k _ _ => joined_S h ha hb k), filt_true]
      simp [T, Function.comp_def]
    have es : ss (T l (E.map (jm l a b))) = some (T l C) := by
      unfold ss
      rw [if_pos (by rw [T_len, List.length_map]; omega), eC]
    refine Ev.of rfl (Ev.of rfl (Ev.of rfl ?_))
    show Ev ((sret (S := List Int) (Γ' := Unit) _ ((⟨g⟩ : OL Int), S l, r, (⟨mergeB ys⟩ : Dct (T2 Int Int)), (⟨⟩ : Any), (⟨⟩ : Any), (⟨⟩ : Any), (⟨⟩ : Any), (⟨⟩ : Any), (⟨⟩ : Any), (⟨⟩ : Any), (⟨⟩ : Any), ())).bind _) _
    rw [et]
    refine Ev.of (y := Fl.rt (⟨T l C⟩ : Tup Str) g) ?_ (Ev.of rfl ⟨C, rfl, sC, hg⟩)
    simp only [sret, f1, flc, fyes, fcons, fv, fnil, gs, gz, ps, pz, Option.bind_some, eE, lT, if_true, elc, es, tupL, Option.map_some, Fl.bnd]
    rfl
theorem mem_cm {l : List Nat} {c k : Nat} (hc : c ∈ l) (hk : k < 2 ^ l.length) : c ∈ sel l (cm l k) ↔ c ∉ sel l k := by
  rw [mem_sel, mem_sel, cm_bit l hk]
  have := List.idxOf_lt_length_of_mem hc
  simp [hc, this]
theorem mem_le {l : List Nat} {c i j : Nat} (e : i &&& j = i) (h : c ∈ sel l i) : c ∈ sel l j := by
  obtain ⟨h1, h2⟩ := mem_sel.mp h
  exact mem_sel.mpr ⟨h1, le_bits.mp e _ h2⟩
theorem chk_thing_S {l : List Nat} (h : Lets l) {c : Nat} (hc : c ∈ l) : m_check_thing (S l, S [c], ()) = some () := by
  have hu := un_ok h hc
  have h1 : m_is_lot (S l, S [c], ()) = some true := by
    rw [← hu.2]
    exact lot_ok h _
  have h2 : m_is_thing (S l, S [c], ()) = some true := by
    apply Ev.out
    show Ev (runF _ _) _
    unfold runF
    refine Ev.bind ?_
    simp only [runF, runU, runM, im, sseq, Fl.bnd, sret, sretm, sset, ssetm, sif, sifm, sex, sexm, snever, sfor, sform, sset1, sdm, spar, fown, snewD, sdput, fkeys, up, m1, m2, mcons, mdr, mif, mand, moor, mnot, Vx.oz, Vx.os, f1, f2, fv, fc, fif, fand, foor, fnot, fcons, fnil, fch, lcons, lnil, flc, gz, gs, pz, ps, ic, ia, i0, snil, wid, wn, wk, wa, Option.bind_some, Option.map_some, Option.map_map, Function.comp_def, fyes, Option.bind_assoc, snewm, snew, sapp_eq, sunp, sreto, sfrz, mlcons, pos', poz, fz, fs, short, shortT, pairT, List.length_cons, List.length_nil, Nat.reduceAdd, Nat.reduceLeDiff, if_true]
    have e : lenS (S [c], ()) = some 1 := rfl
    have e2 : sEq (1 : Int) 1 = some true := rfl
    simp only [h1, Option.bind_some, if_true, e, e2, Option.map_some]
    exact Ev.of rfl (Ev.of rfl rfl)
  apply Ev.out
  show Ev (runU _ _) _
  unfold runU
  refine Ev.bind ?_
  simp only [runF, runU, runM, im, sseq, Fl.bnd, sret, sretm, sset, ssetm, sif, sifm, sex, sexm, snever, sfor, sform, sset1, sdm, spar, fown, snewD, sdput, fkeys, up, m1, m2, mcons, mdr, mif, mand, moor, mnot, Vx.oz, Vx.os, f1, f2, fv, fc, fif, fand, foor, fnot, fcons, fnil, fch, lcons, lnil, flc, gz, gs, pz, ps, ic, ia, i0, snil, wid, wn, wk, wa, Option.bind_some, Option.map_some, Option.map_map, Function.comp_def, fyes, Option.bind_assoc, snewm, snew, sapp_eq, sunp, sreto, sfrz, mlcons, pos', poz, fz, fs, short, shortT, pairT, List.length_cons, List.length_nil, Nat.reduceAdd, Nat.reduceLeDiff, if_true]
  simp only [h2, Option.map_some, Option.bind_some, Bool.not_true, Bool.false_eq_true, if_false]
  exact Ev.of rfl (Ev.of rfl (by first | trivial | rfl))
theorem reasons_S {l C : List Nat} (h : Lets l) (s : Sys l C) {c : Nat} (hc : c ∈ l) : m_reasons (clo l C, S [c], ()) = some ⟨srt (T l (least (rsF l C c)))⟩ := by
  show runF _ _ = _
  simp only [runF, runU, runM, im, sseq, Fl.bnd, sret, sretm, sset, ssetm, sif, sifm, sex, sexm, snever, sfor, sform, sset1, sdm, spar, fown, snewD, sdput, fkeys, up, m1, m2, mcons, mdr, mif, mand, moor, mnot, Vx.oz, Vx.os, f1, f2, fv, fc, fif, fand, foor, fnot, fcons, fnil, fch, lcons, lnil, flc, gz, gs, pz, ps, ic, ia, i0, snil, wid, wn, wk, wa, Option.bind_some, Option.map_some, Option.map_map, Function.comp_def, fyes, Option.bind_assoc, snewm, snew, sapp_eq, sunp, sreto, sfrz, mlcons, pos', poz, fz, fs, short, shortT, pairT, List.length_cons, List.length_nil, Nat.reduceAdd, Nat.reduceLeDiff, if_true]
  simp only [chk_closer_S, things_S, chk_thing_S h hc, reasons_of_S h s hc, Option.map_some, Option.bind_some]
end K67
namespace K67
open Vx.Rep (rep)
open Vx.EnvR (er)
open PySem PySem.Spec PyProof.Rows L2 Vx
theorem any_T {l : List Nat} (h : Lets l) (i j : Nat) : m__law_any (S (sel l i), S (sel l j), ()) = some (S (sel l (i ||| j))) := by
  show runF _ _ = _
  simp only [runF, runU, sseq, Fl.bnd, sret, sset, sif, sex, snever, sfor, f1, f2, fv, fc, fif, fand, foor, fnot, fcons, fnil, fch, lcons, lnil, flc, gz, gs, pz, ps, ic, ia, i0, snil, wid, wn, wk, wa, Option.bind_some, Option.map_some, Option.map_map, Function.comp_def, fyes, Option.bind_assoc]
  have li := sel_len l i
  have lj := sel_len l j
  have lk := sel_len l (i ||| j)
  have n7 := h.n
  simp only [sAdd, len_S, Option.bind_some]
  rw [if_pos (by omega)]
  simp only [Option.bind_some, S_add, ss, signs_S, List.length_map, List.length_append]
  rw [if_pos (by omega)]
  simp only [Option.bind_some]
  rw [sort_signs (o := sel l (i ||| j)) (sel_asc h _) fun c => by rw [List.mem_append, mem_or], jn_S _ (by omega)]
  rfl
/-- one look at a book -/
def lkd (k : Nat) (B : List (Nat × Nat)) (z : Nat) : Nat := B.foldl (fun z p => if p.1 &&& k = p.1 then z ||| p.2 else z) z
theorem looked_S {l : List Nat} (h : Lets l) {B : List (Nat × Nat)} (b : Bok l B) {k : Nat} (hk : k < 2 ^ l.length) : m__law_looked (bk l B, S (sel l k), ()) = some (S (sel l (lkd k B k))) := by
  apply Ev.out
  show Ev (runF _ _) _
  unfold runF
  refine Ev.bind ?_
  unfold sseq
  refine ev_nx (by simp only [sset, fv, gs, gz, ps, pz, ic, ia, i0, Option.map_some]; rfl) ?_
  unfold sfor
  refine Ev.bind ?_
  refine Ev.bind ?_
  refine Ev.of (y := (bk l B).l) rfl ?_
  refine Ev.forL (fun xs γ => ∃ B1 B2 : List (Nat × Nat), B = B1 ++ B2 ∧ xs = (bk l B2).l ∧ γ = (bk l B, S (sel l k), S (sel l (lkd k B1 k)), (⟨⟩ : Any), (⟨⟩ : Any), ())) ⟨[], B, rfl, rfl, rfl⟩ ?_ ?_
  · rintro x xs γ ⟨B1, B2, q1, q2, rfl⟩
    cases B2 with
    | nil => cases q2
    | cons p B2 =>
      cases q2
      have hp := b.lt p (by rw [q1]; exact List.mem_append_right _ List.mem_cons_self)
      have ein : m__law_in (S (sel l p.1), S (sel l k), ()) = some (decide (p.1 &&& k = p.1)) := law_in_T h hp.1 k
      have ean := any_T h (lkd k B1 k) p.2
      have el : lkd k (B1 ++ [p]) k = if p.1 &&& k = p.1 then lkd k B1 k ||| p.2 else lkd k B1 k := by
        unfold lkd
        rw [List.foldl_append]
        rfl
      refine ev_nx (γ := (bk l B, S (sel l k), S (sel l (lkd k (B1 ++ [p]) k)), S (sel l p.1), S (sel l p.2), ())) ?_ (Ev.of rfl ⟨_, rfl, B1 ++ [p], B2, by rw [q1]; simp, rfl, rfl⟩)
      show sif _ _ _ (bk l B, S (sel l k), S (sel l (lkd k B1 k)), S (sel l p.1), S (sel l p.2), ()) = _
      by_cases q : p.1 &&& k = p.1
      · simp only [sif, sset, f1, fcons, fv, fnil, gs, gz, ps, pz, Option.bind_some, Option.map_some, ein, q, decide_true, if_true, ean, Fl.bnd, el]
        rfl
      · simp only [sif, sset, f1, fcons, fv, fnil, gs, gz, ps, pz, Option.bind_some, Option.map_some, ein, q, decide_false, Bool.false_eq_true, if_false, Fl.bnd, el]
        rfl
  · rintro γ ⟨B1, B2, q1, q2, rfl⟩
    cases B2 with
    | cons => cases q2
    | nil =>
      rw [List.append_nil] at q1
      subst q1
      exact Ev.of rfl (Ev.of rfl rfl)
theorem lkd_bit {k : Nat} (i : Nat) : ∀ (B : List (Nat × Nat)) (z : Nat), (lkd k B z).testBit i = true ↔ z.testBit i = true ∨ ∃ p ∈ B, p.1 &&& k = p.1 ∧ p.2.testBit i = true
  | [], z => by
    show z.testBit i = true ↔ _
    simp
  | p :: B, z => by
    show (lkd k B (if p.1 &&& k = p.1 then z ||| p.2 else z)).testBit i = true ↔ _
    rw [lkd_bit i B]
    by_cases q : p.1 &&& k = p.1
    · rw [if_pos q, Nat.testBit_or, Bool.or_eq_true]
      constructor
      · rintro ((h | h) | ⟨r, hr, h1, h2⟩)
        · exact .inl h
        · exact .inr ⟨p, List.mem_cons_self, q, h⟩
        · exact .inr ⟨r, List.mem_cons_of_mem _ hr, h1, h2⟩
      · rintro (h | ⟨r, hr, h1, h2⟩)
        · exact .inl (.inl h)
        · rcases List.mem_cons.mp hr with rfl | hr
          · exact .inl (.inr h2)
          · exact .inr ⟨r, hr, h1, h2⟩
    · rw [if_neg q]
      constructor
      · rintro (h | ⟨r, hr, h1, h2⟩)
        · exact .inl h
        · exact .inr ⟨r, List.mem_cons_of_mem _ hr, h1, h2⟩
      · rintro (h | ⟨r, hr, h1, h2⟩)
        · exact .inl h
        · rcases List.mem_cons.mp hr with rfl | hr
          · exact absurd h1 q
          · exact .inr ⟨r, hr, h1, h2⟩
/-- one look at the plain book tells the lot around -/
theorem lkd_plain {l C : List Nat} {B : List (Nat × Nat)} (h : Lets l) (s : Sys l C) (mB : ∀ p, p ∈ B ↔ ∃ c ∈ l, p.2 = un l c ∧ p.1 ∈ least (rsF l C c)) {k : Nat} (hk : k < 2 ^ l.length) : lkd k B k = ar l C k := by
  have hb : ∀ i, (lkd k B k).testBit i = true ↔ (ar l C k).testBit i = true := fun i => by
    rw [lkd_bit]
    constructor
    · rintro (q | ⟨p, hp, h1, h2⟩)
      · exact le_bits.mp (ar_up (C := C) hk) i q
      · obtain ⟨c, hc, e, hm⟩ := (mB p).mp hp
        obtain ⟨_, _, h3⟩ := mem_rsF.mp (mem_least.mp hm).1
        have := mem_le (ar_mono s hk h1) h3
        rw [e] at h2
        exact le_bits.mp ((mem_un h hc).mp this) i h2
    · intro q
      have hil : i < l.length := by
        by_cases z : i < l.length
        · exact z
        · rw [bit_hi (ar_lt s k) (by omega)] at q
          cases q
      have hc : l[i] ∈ l := List.getElem_mem hil
      have hca : l[i] ∈ sel l (ar l C k) := (bit_sel h.nd hil).mpr q
      by_cases z : l[i] ∈ sel l k
      · exact .inl ((bit_sel h.nd hil).mp z)
      · obtain ⟨d, hd, hdk⟩ := ex_least k k (Nat.le_refl _) (mem_rsF.mpr ⟨hk, z, hca⟩)
        refine .inr ⟨(d, un l l[i]), (mB _).mpr ⟨_, hc, rfl, hd⟩, hdk, ?_⟩
        have : l[i] ∈ sel l (un l l[i]) := by
          rw [(un_ok h hc).2]
          exact List.mem_cons_self
        exact (bit_sel h.nd hil).mp this
  refine Nat.eq_of_testBit_eq fun i => ?_
  rw [Bool.eq_iff_iff]
  exact hb i
/-- rules used one after the other -/
theorem used_go {l : List Nat} (h : Lets l) {B : List (Nat × Nat)} (b : Bok l B) (pt : Tup Int) : ∀ (n k : Nat), k < 2 ^ l.length → Ev (forL (S := Unit) (ρ := Option Str) (fun x (γ : Tup (T2 Str Str) × Str × Tup Int × Any × Unit) => (sif
                  (fnot
                    (f1 m__law_in
                      (fcons (f2 ix0 (f2 tIx (fv gz) (fv (gs (gs (gs gz))))) (fc 0)) (fcons (fv (gs gz)) fnil))))
                  (fun γ => (sret (fc none) γ).bind fun x => x.bnd (snil wid)) (snil wid) ((ps (ps (ps pz))).put γ x)).bind
              fun x =>
              x.bnd fun γ =>
                (sset (ps pz)
                      (f1 m__law_any
                        (fcons (fv (gs gz)) (fcons (f2 ix1 (f2 tIx (fv gz) (fv (gs (gs (gs gz))))) (fc 1)) fnil)))
                      γ).bind
                  fun x => x.bnd (snil (wk (wk (wk (wa wn)))))) (Z (lead B n k).1) (bk l B, S (sel l k), pt, (⟨⟩ : Any), ())) fun y => y = .nx (bk l B, S (sel l (lead B n k).2), pt, (⟨⟩ : Any), ())
  | 0, k, hk => Ev.of rfl rfl
  | n + 1, k, hk => by
    cases e : fb k B 0 with
    | none =>
      rw [lead_stop e]
      exact Ev.of rfl rfl
    | some i =>
      obtain ⟨p1, p2, p3, p4⟩ := fb_at e
      have hp := b.lt _ p1
      rw [lead_go e]
      generalize B.getD i (0, 0) = p at *
      have ih := used_go h b pt n (k ||| p.2) (Nat.or_lt_two_pow hk hp.2)
      have ei : tIx (bk l B) (i : Int) = some (rul l p.1 p.2) := by
        have : (bk l B).l[i]? = some (rul l p.1 p.2) := by
          unfold bk
          rw [List.getElem?_map, p4]
          rfl
        exact atI_nat this
      have x0 : ix0 (rul l p.1 p.2) 0 = some (S (sel l p.1)) := rfl
      have x1 : ix1 (rul l p.1 p.2) 1 = some (S (sel l p.2)) := rfl
      have ein : m__law_in (S (sel l p.1), S (sel l k), ()) = some true := by
        rw [law_in_T h hp.1, decide_eq_true p2]
      have ean := any_T h k p.2
      show Ev (forL _ ((i : Int) :: Z (lead B n (k ||| p.2)).1) _) _
      unfold forL
      refine Ev.bind ?_
      refine ev_no (by simp only [fnot, f1, f2, fcons, fv, fc, fnil, gs, gz, ps, pz, Option.bind_some, Option.map_some, ei, x0, ein, Bool.not_true]) ?_
      refine ev_nx (by simp only [sset, f1, f2, fcons, fv, fc, fnil, gs, gz, ps, pz, Option.bind_some, Option.map_some, ei, x1, ean]; rfl) ?_
      exact Ev.of rfl ih
theorem used_S {l : List Nat} (h : Lets l) {B : List (Nat × Nat)} (b : Bok l B) (n : Nat) {k : Nat} (hk : k < 2 ^ l.length) : m__law_used (bk l B, S (sel l k), ⟨Z (lead B n k).1⟩, ()) = some (some (S (sel l (lead B n k).2))) := by
  apply Ev.out
  show Ev (runF _ _) _
  unfold runF
  refine Ev.bind ?_
  unfold sseq
  unfold sfor
  refine Ev.bind ?_
  refine Ev.bind ?_
  refine Ev.of (y := Z (lead B n k).1) rfl ?_
  refine (used_go h b ⟨Z (lead B n k).1⟩ n k hk).mono ?_
  rintro _ rfl
  exact Ev.of rfl (Ev.of rfl rfl)
/-! ### a book without needless rules -/
def ndl (E : List Nat) (B : List (Nat × Nat)) : List Nat := (List.range B.length).filter fun k => decide (E.filter (kp (B.eraseIdx k)) = E.filter (kp B))
theorem leaner_S {l E : List Nat} (h : Lets l) (a : All l E) {B : List (Nat × Nat)} (b : Bok l B) (hB : B.length ≤ 20) : Ev (m__law_leaner (S l, bk l B, ())) fun r => ∃ B', r = bk l B' ∧ Bok l B' ∧ E.filter (kp B') = E.filter (kp B) ∧ ndl E B' = [] := by
  have er := rng_n 20 (by omega)
  show Ev (runF _ _) _
  generalize rangeOf1 = R at er ⊢
  have er : R 20 = some (Z (List.range 20)) := er
  unfold runF
  refine Ev.bind ?_
  unfold sseq
  unfold sfor
  refine Ev.bind ?_
  refine Ev.bind ?_
  refine Ev.of (y := Z (List.range 20)) (by simp only [f1, fc, Option.bind_some, er]) ?_
  refine Ev.forL (fun xs γ => ∃ B1 : List (Nat × Nat), γ = (S l, bk l B1, (⟨⟩ : Any), (⟨⟩ : Any), ()) ∧ Bok l B1 ∧ E.filter (kp B1) = E.filter (kp B) ∧ (ndl E B1 = [] ∨ B1.length ≤ xs.length)) ⟨B, rfl, b, rfl, .inr (by simp [Z]; omega)⟩ ?_ ?_
  · rintro x xs γ ⟨B1, rfl, b1, e1, hl⟩
    have en : m_needless (S l, bk l B1, ()) = some ⟨Z (ndl E B1)⟩ := needless_S h a b1
    refine ev_nx (by simp only [sset, f1, fcons, fv, fnil, gs, gz, ps, pz, Option.bind_some, Option.map_some, en]; rfl) ?_
    by_cases q : ndl E B1 = []
    · have dn : dNe (⟨Z (ndl E B1)⟩ : Tup Int) ⟨[]⟩ = some false := by
        rw [q]
        rfl
      refine ev_nx (γ := (S l, bk l B1, x, (⟨Z (ndl E B1)⟩ : Tup Int), ())) (by simp only [sif, f1, f2, lnil, shortT, fv, gs, gz, Option.bind_some, List.length_nil, Nat.zero_le, if_true, dn, Bool.false_eq_true, if_false, snil, wid]) ?_
      exact Ev.of rfl ⟨_, rfl, B1, rfl, b1, e1, .inl q⟩
    · obtain ⟨i, ei, hi⟩ : ∃ i : Nat, tIx (⟨Z (ndl E B1)⟩ : Tup Int) (-1) = some (i : Int) ∧ i ∈ ndl E B1 := by
        have l0 : 0 < (ndl E B1).length := List.length_pos_iff.mpr q
        have lZ : (Z (ndl E B1)).length = (ndl E B1).length := by simp [Z]
        refine ⟨(ndl E B1)[(ndl E B1).length - 1], ?_, List.getElem_mem _⟩
        show atI (Z (ndl E B1)) (-1) = _
        unfold atI ixN
        rw [if_neg (by omega), if_pos (by omega), Option.bind_some, lZ, show ((-1 : Int) + ((ndl E B1).length : Nat)).toNat = (ndl E B1).length - 1 by omega]
        unfold Z
        rw [List.getElem?_map, List.getElem?_eq_getElem (by omega)]
        rfl
      have hi' : i < B1.length ∧ E.filter (kp (B1.eraseIdx i)) = E.filter (kp B1) := by
        unfold ndl at hi
        rw [List.mem_filter, List.mem_range, decide_eq_true_eq] at hi
        exact hi
      have dn : dNe (⟨Z (ndl E B1)⟩ : Tup Int) ⟨[]⟩ = some true := by
        unfold dNe
        rw [decide_eq_false (fun z => q (by
          have := congrArg Tup.l z
          simpa [Z] using this))]
        rfl
      have nB := b1.n
      have ec : tCatA (bk l (B1.take i)) (bk l (B1.drop (i + 1))) = some (bk l (B1.eraseIdx i)) := by
        rw [bk_cat l (by rw [List.length_take, List.length_drop]; omega), List.eraseIdx_eq_take_drop_succ]
      have ea : iAdd (i : Int) 1 = some ((i : Int) + 1) := rfl
      refine ev_nx (γ := (S l, bk l (B1.eraseIdx i), x, (⟨Z (ndl E B1)⟩ : Tup Int), ())) (by simp only [sif, sset, f1, f2, lnil, shortT, fv, fc, gs, gz, ps, pz, Option.bind_some, Option.map_some, List.length_nil, Nat.zero_le, if_true, dn, ei, bk_to l (Nat.le_of_lt hi'.1), bk_from l (show i + 1 ≤ B1.length from hi'.1), ea, ec, Fl.bnd, snil, wid]) ?_
      refine Ev.of rfl ⟨_, rfl, B1.eraseIdx i, rfl, bok_erase b1 i, hi'.2.trans e1, ?_⟩
      rcases hl with hl | hl
      · exact absurd hl q
      · refine .inr ?_
        rw [List.length_eraseIdx_of_lt hi'.1]
        rw [List.length_cons] at hl
        omega
  · rintro γ ⟨B1, rfl, b1, e1, hl⟩
    refine Ev.of rfl (Ev.of rfl ⟨B1, rfl, b1, e1, ?_⟩)
    rcases hl with hl | hl
    · exact hl
    · have : B1 = [] := List.length_eq_zero_iff.mp (by simpa using hl)
      rw [this]
      rfl
end K67
namespace K67
open Vx.Rep (rep)
open Vx.EnvR (er)
open PySem PySem.Spec PyProof.Rows L2 Vx
theorem half_good {l : List Nat} (h : Lets l) {c : Nat} (hc : c ∈ l) {Y : List Nat} (g : Good (2 ^ l.length) Y) (lack : ∀ k ∈ Y, c ∉ sel l k) : Good (2 ^ l.length) (Y ++ Y.map fun k => k ||| un l c) := by
  obtain ⟨u1, u2⟩ := un_ok h hc
  have mu : ∀ k, c ∈ sel l (k ||| un l c) := fun k => mem_or.mpr (.inr (by rw [u2]; simp))
  exact ⟨List.nodup_append.mpr ⟨g.nd, nodup_map g.nd fun a ha b hb e => by
    have key : ∀ {x y : Nat}, x ||| un l c = y ||| un l c → c ∉ sel l x → ∀ d, d ∈ sel l x → d ∈ sel l y := fun {x y} e hx d hd => by
      have : d ∈ sel l (x ||| un l c) := mem_or.mpr (.inl hd)
      rw [e] at this
      rcases mem_or.mp this with q | q
      · exact q
      · rw [u2, List.mem_singleton] at q
        exact absurd (q ▸ hd) hx
    exact le_anti ((sel_sub h.nd (g.lt a ha)).mp (key e (lack a ha))) ((sel_sub h.nd (g.lt b hb)).mp (key e.symm (lack b hb))), fun a ha b hb e => by
    obtain ⟨x, _, rfl⟩ := List.mem_map.mp hb
    exact lack a ha (e ▸ mu x)⟩, fun k hk => by
    rcases List.mem_append.mp hk with q | q
    · exact g.lt k q
    · obtain ⟨x, hx, rfl⟩ := List.mem_map.mp q
      exact Nat.or_lt_two_pow (g.lt x hx) u1⟩
theorem anti_len {l : List Nat} (h : Lets l) (h4 : l.length ≤ 4) {c : Nat} (hc : c ∈ l) {F : List Nat} (g : Good (2 ^ l.length) F) (lack : ∀ k ∈ F, c ∉ sel l k) (anti : ∀ p ∈ F, ∀ k ∈ F, p &&& k = p → p = k) : F.length ≤ 4 := by
  have h1 := (half_good h hc g lack).len
  rw [List.length_append, List.length_map] at h1
  by_cases q : l.length ≤ 3
  · have : 2 ^ l.length ≤ 2 ^ 3 := Nat.pow_le_pow_right (by omega) q
    omega
  · have p4 : 2 ^ l.length ≤ 2 ^ 4 := Nat.pow_le_pow_right (by omega) h4
    obtain ⟨d, hd, hdc⟩ : ∃ d ∈ l, d ≠ c := by
      by_cases z : ∃ d ∈ l, d ≠ c
      · exact z
      · have all : ∀ d ∈ l, d = c := fun d hd => by
          by_cases y : d = c
          · exact y
          · exact absurd ⟨d, hd, y⟩ z
        have nd := h.nd
        match l, nd, all with
        | [], _, _ => simp at q
        | [a], _, _ => simp at q
        | a :: b :: r, nd, all =>
          have e := (all a (by simp)).trans (all b (by simp)).symm
          exact absurd (by rw [e]; simp) (List.nodup_cons.mp nd).1
    obtain ⟨u1, u2⟩ := un_ok h hd
    have out : ∀ {x k : Nat}, x ∈ sel l (k &&& cm l (un l d)) ↔ x ∈ sel l k ∧ x ≠ d := fun {x k} => by
      rw [mem_sel, mem_sel, Nat.testBit_and, Bool.and_eq_true]
      constructor
      · rintro ⟨hx, b1, b2⟩
        refine ⟨⟨hx, b1⟩, fun e => ?_⟩
        have : x ∈ sel l (cm l (un l d)) := mem_sel.mpr ⟨hx, b2⟩
        rw [mem_cm hx u1, u2, e] at this
        exact this List.mem_cons_self
      · rintro ⟨⟨hx, b1⟩, ne⟩
        have : x ∈ sel l (cm l (un l d)) := by
          rw [mem_cm hx u1, u2, List.mem_singleton]
          exact ne
        exact ⟨hx, b1, (mem_sel.mp this).2⟩
    have cut_lt : ∀ {k : Nat}, k &&& cm l (un l d) < 2 ^ l.length := Nat.and_lt_two_pow _ (cm_lt l _)
    have gY : Good (2 ^ l.length) (F.map fun k => k &&& cm l (un l d)) := ⟨nodup_map g.nd fun a ha b hb e => by
      have sub : ∀ {x y : Nat}, x ∈ F → y ∈ F → x &&& cm l (un l d) = y &&& cm l (un l d) → d ∉ sel l x → x = y := fun {x y} hx hy e hn => anti x hx y hy ((sel_sub h.nd (g.lt x hx)).mp fun z hz => by
        have : z ∈ sel l (x &&& cm l (un l d)) := out.mpr ⟨hz, fun w => hn (w ▸ hz)⟩
        rw [e] at this
        exact (out.mp this).1)
      by_cases da : d ∈ sel l a
      · by_cases db : d ∈ sel l b
        · refine anti a ha b hb ((sel_sub h.nd (g.lt a ha)).mp fun z hz => ?_)
          by_cases zd : z = d
          · rw [zd]
            exact db
          · have : z ∈ sel l (a &&& cm l (un l d)) := out.mpr ⟨hz, zd⟩
            rw [e] at this
            exact (out.mp this).1
        · exact (sub hb ha e.symm db).symm
      · exact sub ha hb e da, fun k hk => by
      obtain ⟨x, _, rfl⟩ := List.mem_map.mp hk
      exact cut_lt⟩
    have g2 := half_good h hc gY fun k hk => by
      obtain ⟨x, hx, rfl⟩ := List.mem_map.mp hk
      exact fun z => lack x hx (out.mp z).1
    have g3 := (half_good h hd g2 fun k hk => by
      rcases List.mem_append.mp hk with z | z
      · obtain ⟨x, hx, rfl⟩ := List.mem_map.mp z
        exact fun w => (out.mp w).2 rfl
      · obtain ⟨y, hy, rfl⟩ := List.mem_map.mp z
        obtain ⟨x, hx, rfl⟩ := List.mem_map.mp hy
        intro w
        rcases mem_or.mp w with w | w
        · exact (out.mp w).2 rfl
        · rw [(un_ok h hc).2, List.mem_singleton] at w
          exact hdc w).len
    simp only [List.length_append, List.length_map] at g3
    omega
theorem rsn_len {l C : List Nat} (h : Lets l) (h4 : l.length ≤ 4) {c : Nat} (hc : c ∈ l) : (least (rsF l C c)).length ≤ 4 := anti_len h h4 hc (good_sub (rsF_good l C c) List.filter_sublist) (fun k hk => (mem_rsF.mp (mem_least.mp hk).1).2.1) fun p hp k hk e => (mem_least.mp hk).2 p (mem_least.mp hp).1 e
theorem plain_Q {l C E : List Nat} (h : Lets l) (h5 : l.length ≤ 4) (a : All l E) (s : Sys l C) : ∃ B, m_plain_book (clo l C, ()) = some (bk l B) ∧ Bok l B ∧ E.filter (kp B) = C ∧ B.length ≤ 16 ∧ ∀ p, p ∈ B ↔ ∃ c ∈ l, p.2 = un l c ∧ p.1 ∈ least (rsF l C c) := by
  have n7 := h.n
  have N7 := p7 h
  let rs : Nat → List (T2 Str Str) := fun c => (srt (T l (least (rsF l C c)))).map fun x => ⟨x, S [c]⟩
  have hrs : ∀ c ∈ l, ∀ y ∈ rs c, ∃ k ∈ least (rsF l C c), rul l k (un l c) = y := fun c hc y hy => by
    obtain ⟨x, hx, rfl⟩ := List.mem_map.mp hy
    obtain ⟨k, hk, rfl⟩ := mem_T.mp (mem_srt.mp hx)
    refine ⟨k, hk, ?_⟩
    unfold rul
    rw [(un_ok h hc).2]
  have hsr : ∀ c ∈ l, ∀ k ∈ least (rsF l C c), rul l k (un l c) ∈ rs c := fun c hc k hk => List.mem_map.mpr ⟨S (sel l k), mem_srt.mpr (mem_T.mpr ⟨k, hk, rfl⟩), by
    unfold rul
    rw [(un_ok h hc).2]⟩
  have lrs : ∀ c ∈ l, (rs c).length ≤ 4 := fun c hc => by
    show ((srt (T l (least (rsF l C c)))).map _).length ≤ 4
    rw [List.length_map, srt_len, T_len]
    exact rsn_len h h5 hc
  have lall : (l.map rs).flatten.length ≤ 16 := by
    have := flat_len lrs
    omega
  obtain ⟨B, eB, lB⟩ : ∃ B : List (Nat × Nat), srtP (l.map rs).flatten = B.map (fun p => rul l p.1 p.2) ∧ ∀ p ∈ B, p.1 < 2 ^ l.length ∧ p.2 < 2 ^ l.length := bk_back fun y hy => by
    have hy := (srtP_perm _).mem_iff.mp hy
    obtain ⟨ys, hys, hy⟩ := List.mem_flatten.mp hy
    obtain ⟨c, hc, rfl⟩ := List.mem_map.mp hys
    obtain ⟨k, hk, e⟩ := hrs c hc y hy
    exact ⟨(k, un l c), (rsF_good l C c).lt k (List.mem_filter.mp hk).1, (un_ok h hc).1, e⟩
  have mB : ∀ p, p ∈ B ↔ ∃ c ∈ l, p.2 = un l c ∧ p.1 ∈ least (rsF l C c) := fun p => by
    constructor
    · intro hp
      have : rul l p.1 p.2 ∈ srtP (l.map rs).flatten := by
        rw [eB]
        exact List.mem_map.mpr ⟨p, hp, rfl⟩
      have := (srtP_perm _).mem_iff.mp this
      obtain ⟨ys, hys, hy⟩ := List.mem_flatten.mp this
      obtain ⟨c, hc, rfl⟩ := List.mem_map.mp hys
      obtain ⟨k, hk, e⟩ := hrs c hc _ hy
      obtain ⟨e1, e2⟩ := rul_inj h ((rsF_good l C c).lt k (List.mem_filter.mp hk).1) (un_ok h hc).1 (lB p hp).1 (lB p hp).2 e
      exact ⟨c, hc, e2.symm, e1 ▸ hk⟩
    · rintro ⟨c, hc, e2, hk⟩
      have kl := (rsF_good l C c).lt p.1 (List.mem_filter.mp hk).1
      have : rul l p.1 (un l c) ∈ srtP (l.map rs).flatten := (srtP_perm _).mem_iff.mpr (List.mem_flatten.mpr ⟨rs c, List.mem_map.mpr ⟨c, hc, rfl⟩, hsr c hc p.1 hk⟩)
      rw [eB] at this
      obtain ⟨q, hq, e⟩ := List.mem_map.mp this
      obtain ⟨e1, e3⟩ := rul_inj h (lB q hq).1 (lB q hq).2 kl (un_ok h hc).1 e
      have : p = q := Prod.ext e1.symm (e2.trans e3.symm)
      rw [this]
      exact hq
  have len : B.length ≤ 16 := by
    have := congrArg List.length eB
    rw [(srtP_perm _).length_eq, List.length_map] at this
    omega
  refine ⟨B, ?_, ⟨lB, by omega⟩, ?_, len, mB⟩
  · show runF _ _ = _
    simp only [runF, runU, runM, im, sseq, Fl.bnd, sret, sretm, sset, ssetm, sif, sifm, sex, sexm, snever, sfor, sform, sset1, sdm, spar, fown, snewD, sdput, fkeys, up, m1, m2, mcons, mdr, mif, mand, moor, mnot, Vx.oz, Vx.os, f1, f2, fv, fc, fif, fand, foor, fnot, fcons, fnil, fch, lcons, lnil, flc, gz, gs, pz, ps, ic, ia, i0, snil, wid, wn, wk, wa, Option.bind_some, Option.map_some, Option.map_map, Function.comp_def, fyes, Option.bind_assoc, snewm, snew, sapp_eq, sunp, sreto, sfrz, mlcons, pos', poz, fz, fs, short, shortT, pairT, List.length_cons, List.length_nil, Nat.reduceAdd, Nat.reduceLeDiff, if_true]
    have hc : ∀ f : Str → Option (List (T2 Str Str)), (∀ c ∈ l, f (S [c]) = some (rs c)) → catGo f (Vx.signs (S l)) = some (l.map rs).flatten := fun f hf => by
      rw [signs_S, catGo_ok (g := fun z => (f z).getD [])]
      · rw [List.map_map]
        refine congrArg (fun z => some (List.flatten z)) (List.map_congr_left fun c hc => ?_)
        show (f (S [c])).getD [] = rs c
        rw [hf c hc]
        rfl
      · intro z hz
        obtain ⟨c, hc, rfl⟩ := List.mem_map.mp hz
        rw [hf c hc]
        rfl
    have e4 : srtLP ((l.map rs).flatten, ()) = some (bk l B).l := by
      unfold srtLP
      rw [if_pos (show (l.map rs).flatten.length ≤ _ by omega), eB]
      rfl
    have e5 : (Vx.signs (S l)).length ≤ 300 := by rw [signs_S, List.length_map]; omega
    simp only [flc2, flc1, f1, fyes, fv, fcons, fnil, things_S, chk_closer_S, Option.bind_some, Option.map_some, e5, if_true]
    rw [hc]
    · simp only [e4, Option.bind_some, Option.map_some, tupL]
    · intro c hcl
      simp only [reasons_of_S h s hcl, Option.bind_some, Option.map_some, pairT]
      have := lrs c hcl
      have hl : (srt (T l (least (rsF l C c)))).length ≤ 300 := by
        have : (rs c).length = (srt (T l (least (rsF l C c)))).length := List.length_map ..
        omega
      rw [if_pos hl]
      refine (lcGo_of (T := fun _ => true) (E := fun x : Str => (⟨x, S [c]⟩ : T2 Str Str)) (fun _ _ => rfl) fun _ _ _ => rfl).trans ?_
      rw [filt_true]
  · refine fam_eq h (fam_sub a.f List.filter_sublist) s.toFam fun k => ?_
    rw [List.mem_filter, a.m]
    constructor
    · rintro ⟨hk, h2⟩
      refine (ar_fix s hk).mp (le_anti ((sel_sub h.nd (ar_lt s k)).mp fun c hc => ?_) (ar_up hk))
      have hcl := (mem_sel.mp hc).1
      by_cases q : c ∈ sel l k
      · exact q
      · obtain ⟨d, hd, hdk⟩ := ex_least k k (Nat.le_refl _) (mem_rsF.mpr ⟨hk, q, hc⟩)
        have := List.all_eq_true.mp h2 (d, un l c) ((mB _).mpr ⟨c, hcl, rfl, hd⟩)
        have : un l c &&& k = un l c := by simpa [hdk] using this
        exact (mem_un h hcl).mpr this
    · intro hC
      refine ⟨s.lt k hC, List.all_eq_true.mpr fun p hp => ?_⟩
      obtain ⟨c, hc, e2, hk⟩ := (mB p).mp hp
      by_cases hle : p.1 &&& k = p.1
      · have h1 := (mem_rsF.mp (List.mem_filter.mp hk).1).2.2
        have h2 := ar_le (l := l) hC hle
        have h3 := (mem_un h hc).mp h1
        rw [e2]
        simp [le_trans' h3 h2]
      · simp [hle]
end K67
namespace K67
open Vx.Rep (rep)
open Vx.EnvR (er)
open PySem PySem.Spec PyProof.Rows L2 Vx
theorem lcGo3 {τ α : Type} {t : τ → Option Bool} {e : τ → Option α} {a b c : τ} {x y z : α} (ht : ∀ x, t x = some true) (h1 : e a = some x) (h2 : e b = some y) (h3 : e c = some z) : lcGo t e [a, b, c] = some [x, y, z] := by
  unfold lcGo
  rw [ht, Option.bind_some, if_pos rfl, h1, Option.bind_some]
  unfold lcGo
  rw [ht, Option.bind_some, if_pos rfl, h2, Option.bind_some]
  unfold lcGo
  rw [ht, Option.bind_some, if_pos rfl, h3, Option.bind_some]
  rfl
theorem lots_in {l : List Nat} (h : Lets l) (i : Nat) : ∃ ys, m__law_bags (S (sel l i), ()) = some ys ∧ ys.length ≤ 128 ∧ ∀ y ∈ ys, ∃ j, j < 2 ^ l.length ∧ j &&& i = j ∧ y = S (sel l j) := by
  have n7 := h.n
  have li := sel_len l i
  have p7' : 2 ^ (sel l i).length ≤ 2 ^ 7 := Nat.pow_le_pow_right (by omega) (by omega)
  have es := subs_sel _ (sel l i) rfl (sel_nd h.nd i)
  refine ⟨_, law_lots0 (sel l i) (by omega), ?_, fun y hy => ?_⟩
  · rw [srt_len, List.length_map, es, List.length_map, List.length_range]
    omega
  · rw [mem_srt, es, List.map_map] at hy
    obtain ⟨q, hq, rfl⟩ := List.mem_map.mp hy
    exact ⟨lf l i q, (lf_ok h.nd i q).1, lf_in h.nd i q, by
      show S (sel (sel l i) q) = _
      rw [(lf_ok h.nd i q).2]⟩
theorem dNe_self {α : Type} [Rep α] [Dat α] [DecidableEq α] (z : α) : dNe z z = some false := by
  unfold dNe
  rw [decide_eq_true rfl]
  rfl
theorem right_S {s : List Int} (hs : s.length = 3) : Ev (m__law_right s ()) fun r => r.1 = true := by
  obtain ⟨⟨_, s1⟩, e1, l, el, h, h4, k1⟩ := tags_S hs
  have el : _ = S l := el
  subst el
  obtain ⟨⟨_, s2⟩, e2, C, eC, sC, k2⟩ := world_S k1 h
  have eC : _ = (⟨T l C⟩ : Tup Str) := eC
  subst eC
  obtain ⟨⟨_, s3⟩, e3, O, eO, bO, lO, k3⟩ := rules_S k2 h (m := 5) (by omega)
  have eO : _ = bk l O := eO
  subst eO
  have e2 : m__law_world s1 (S l, ()) = some (⟨T l C⟩, s2) := e2
  have e3 : m__law_rules s2 (S l, 5, ()) = some (bk l O, s3) := e3
  have k3 : s3.length = 3 := k3
  obtain ⟨E, eE, a⟩ := all_ex' h
  have n7 := h.n
  have p := p7 h
  have mk := make_S h sC
  obtain ⟨P, eP, bP, fP, lP, mP⟩ := plain_Q h h4 a sC
  obtain ⟨y, eL, L, rfl, bL, fL', nL⟩ := leaner_S h a bP (by omega)
  have fL : E.filter (kp L) = C := fL'.trans fP
  obtain ⟨A, t⟩ := stp_ex (l := l) (C := C) h
  have st := stem_S h (by omega) sC t
  have bS := lor_ok (by omega) sC t
  have fS := filt_lor h a sC t
  have oS : (lor l C A).length = A.length := List.length_map ..
  generalize eSB : lor l C A = SB at st bS fS oS
  have sO := kept_sys h a bO
  obtain ⟨A', t'⟩ := stp_ex (l := l) (C := E.filter (kp O)) h
  have st' := stem_S h (by omega) sO t'
  have oS' : (lor l (E.filter (kp O)) A').length = A'.length := List.length_map ..
  have brO := by_rules_S h a bO
  have io : ∀ {B : List (Nat × Nat)}, Bok l B → E.filter (kp B) = C → m_is_of (clo l C, bk l B, ()) = some true := fun {B} b f => by
    rw [is_of_S h a b sC.lt, f, decide_eq_true rfl]
  have lb : ∀ (B : List (Nat × Nat)), lenT (bk l B, ()) = some ((B.length : Nat) : Int) := fun B => by
    unfold lenT bk
    simp
  have g1 := lcGo3 (t := fun _ => some true) (e := fun x => m_is_of (clo l C, x, ())) (fun _ => rfl) (io bP fP) (io bS fS) (io bL fL)
  have al : Vx.allB ([true, true, true], ()) = some true := rfl
  have nd : m_needless (S l, bk l L, ()) = some ⟨[]⟩ := by
    have := needless_S h a bL
    refine this.trans ?_
    show some (⟨Z (ndl E L)⟩ : Tup Int) = _
    rw [nL]
    rfl
  have dn : dNe (⟨[]⟩ : Tup Int) ⟨[]⟩ = some false := rfl
  have g2 := lcGo3 (t := fun _ => some true) (e := fun x => lenT (x, ())) (fun _ => rfl) (lb P) (lb SB) (lb L)
  have mi : ((minI ([((P.length : Nat) : Int), ((SB.length : Nat) : Int), ((L.length : Nat) : Int)], ())).bind fun y => iGt ((SB.length : Nat) : Int) y) = some false := by
    have z1 := at_least a sC t bP fP
    have z2 := at_least a sC t bL fL
    show some (decide (min (min ((P.length : Nat) : Int) ((SB.length : Nat) : Int)) ((L.length : Nat) : Int) < ((SB.length : Nat) : Int))) = _
    rw [decide_eq_false]
    omega
  have mi2 : iGt (((lor l (E.filter (kp O)) A').length : Nat) : Int) ((O.length : Nat) : Int) = some false := by
    have z3 := at_least a sO t' bO rfl
    unfold iGt
    rw [oS', decide_eq_false (by omega)]
  have sh3 : ∀ {α : Type} (x y z : α), short [x, y, z] = some [x, y, z] := fun _ _ _ => rfl
  have sh1 : ∀ {α : Type} (x : α), short [x] = some [x] := fun _ => rfl
  have lB3 : ([bk l P, bk l SB, bk l L] : List (Tup (T2 Str Str))).length ≤ 100000 := show 3 ≤ 100000 by decide
  show Ev (runM _ _) _
  generalize m__law_leaner = LE at eL ⊢
  generalize m_plain_book = PB at eP ⊢
  generalize m_stem = ST at st st' ⊢
  generalize m_is_of = IO at g1 ⊢
  generalize m_by_rules = BR at brO ⊢
  generalize m_needless = ND at nd ⊢
  unfold runM
  refine Ev.bind ?_
  unfold sseq
  refine ev_nx (by simp only [ssetm, mdr, up, fcons, fc, fnil, im, ia, i0, ps, pz, Option.bind_some, Option.map_some, e1]; rfl) ?_
  refine ev_nx (by simp only [ssetm, mdr, up, fcons, fv, fnil, gs, gz, ps, pz, Option.bind_some, Option.map_some, e2]; rfl) ?_
  refine ev_nx (by simp only [sunpM, m1, m2, mcons, mdr, pairT, up, f1, fcons, fv, fc, fnil, gs, gz, ps, pz, Option.bind_some, Option.map_some, mk, e3]; rfl) ?_
  refine ev_nx (by simp only [sset, f1, fcons, fv, fnil, gs, gz, ps, pz, Option.bind_some, Option.map_some, eP]; rfl) ?_
  refine ev_nx (by simp only [sset, f1, fcons, fv, fnil, gs, gz, ps, pz, Option.bind_some, Option.map_some, eL]; rfl) ?_
  refine ev_nx (by simp only [sset, f1, f2, lcons, lnil, fcons, fv, fnil, gs, gz, ps, pz, Option.bind_some, Option.map_some, st, sh3]; rfl) ?_
  refine ev_no (by simp only [foor, fnot, f1, f2, flc, fyes, lnil, shortT, fcons, fv, fnil, gs, gz, ps, pz, Option.bind_some, Option.map_some, lB3, if_true, g1, al, Bool.not_true, Bool.false_eq_true, if_false, nd, List.length_nil, Nat.zero_le, dn]) ?_
  refine ev_no (by simp only [foor, f1, f2, flc, fyes, fcons, fv, fnil, gs, gz, ps, pz, Option.bind_some, Option.map_some, st, lb, lB3, if_true, g2, mi, Bool.false_eq_true, if_false, brO, st', mi2]) ?_
  unfold sfor
  refine Ev.bind ?_
  refine Ev.bind ?_
  refine Ev.of (y := T l E) (by simp only [f1, fcons, fv, fnil, gs, gz, wid, Option.bind_some]; exact eE) ?_
  refine Ev.forL (fun xs γ => ∃ E2 : List Nat, xs = T l E2 ∧ (∀ k ∈ E2, k < 2 ^ l.length) ∧ γ = ((⟨s3⟩ : OL Int), S l, (⟨T l C⟩ : Tup Str), bk l P, bk l L, [bk l P, bk l SB, bk l L], (⟨⟩ : Any), (⟨⟩ : Any), clo l C, bk l O, (⟨⟩ : Any), (⟨⟩ : Any), (⟨⟩ : Any), (⟨⟩ : Any), (⟨⟩ : Any), (⟨⟩ : Any), ())) ⟨E, rfl, fun k hk => (a.m k).mp hk, rfl⟩ ?_ ?_
  · rintro x xs γ ⟨E2, z1, z2, rfl⟩
    cases E2 with
    | nil => cases z1
    | cons k E2 =>
      cases z1
      have hk := z2 k List.mem_cons_self
      have ab := about_S h sC.lt hk
      have lk := looked_S h bP hk
      rw [lkd_plain h sC mP hk] at lk
      have arb : ∀ {B : List (Nat × Nat)}, Bok l B → E.filter (kp B) = C → m_around_by (S l, bk l B, S (sel l k), ()) = some (S (sel l (ar l C k))) := fun {B} b f => by
        rw [around_by_S h a b hk, f]
      have g3 := lcGo3 (t := fun _ => some true) (e := fun x => m_around_by (S l, x, S (sel l k), ())) (fun _ => rfl) (arb bP fP) (arb bS fS) (arb bL fL)
      have rp : ∀ z : Str, lRep [z] 3 = some [z, z, z] := fun _ => rfl
      have sp := steps_S h bS hk
      have us := used_S h bS 1000 hk
      rw [lead_ar h a bS hk (by omega), fS] at us
      generalize m_around_by = AB at g3 ⊢
      generalize m__law_used = US at us ⊢
      generalize m_steps = SP at sp ⊢
      refine ev_nx (by simp only [sset, f1, fcons, fv, fnil, gs, gz, ps, pz, Option.bind_some, Option.map_some, ab]; rfl) ?_
      refine ev_no (by simp only [f1, f2, fcons, fv, fnil, gs, gz, ps, pz, Option.bind_some, lk, sNe_self]) ?_
      refine ev_no (by simp only [f1, f2, flc, fyes, lcons, lnil, fcons, fv, fc, fnil, gs, gz, ps, pz, Option.bind_some, lB3, if_true, g3, sh1, rp, dNe_self]) ?_
      refine ev_no (by simp only [f1, f2, fcons, fv, fnil, gs, gz, ps, pz, Option.bind_some, st, sp, us, sNe_self]) ?_
      exact Ev.of rfl ⟨_, rfl, E2, rfl, fun i hi => z2 i (List.mem_cons_of_mem _ hi), rfl⟩
  rintro γ ⟨E2, z1, z2, rfl⟩
  clear z1 z2
  refine Ev.bind ?_
  refine Ev.bind ?_
  refine Ev.of (y := (bk l P).l) rfl ?_
  refine Ev.forL (fun xs γ => ∃ P2 : List (Nat × Nat), xs = (bk l P2).l ∧ (∀ q ∈ P2, q ∈ P) ∧ γ = ((⟨s3⟩ : OL Int), S l, (⟨T l C⟩ : Tup Str), bk l P, bk l L, [bk l P, bk l SB, bk l L], (⟨⟩ : Any), (⟨⟩ : Any), clo l C, bk l O, (⟨⟩ : Any), (⟨⟩ : Any), (⟨⟩ : Any), (⟨⟩ : Any), (⟨⟩ : Any), (⟨⟩ : Any), ())) ⟨P, rfl, fun q hq => hq, rfl⟩ ?_ ?_
  · rintro x xs γ ⟨P2, z1, z2, rfl⟩
    cases P2 with
    | nil => cases z1
    | cons q P2 =>
      cases z1
      obtain ⟨i, w⟩ := q
      obtain ⟨c, hc, ew, hi⟩ := (mP (i, w)).mp (z2 _ List.mem_cons_self)
      have ew : w = un l c := ew
      have hi : i ∈ least (rsF l C c) := hi
      subst ew
      obtain ⟨u1, u2⟩ := un_ok h hc
      obtain ⟨hi1, hi2⟩ := mem_least.mp hi
      obtain ⟨il, ic', _⟩ := mem_rsF.mp hi1
      obtain ⟨ys, ey, ly, my⟩ := lots_in h i
      have g4 : lcGo (fun x => (sNe x (S (sel l i))).bind fun b => if b = true then (m__law_about (⟨T l C⟩, S l, x, ())).bind fun y => sIn (S (sel l (un l c))) y else some false) (fun x => some x) ys = some [] := by
        rw [lcGo_of (T := fun _ => false) (E := fun x => x) (fun y hy => ?_) (fun _ _ e => by cases e)]
        · have : ys.filter (fun _ => false) = [] := List.filter_eq_nil_iff.mpr fun _ _ e => by cases e
          rw [this]
          rfl
        · obtain ⟨j, hj, hji, rfl⟩ := my y hy
          have e1 : sNe (S (sel l j)) (S (sel l i)) = some (!decide (j = i)) := by
            unfold sNe
            rw [T_eq h hj il]
          rw [e1, Option.bind_some]
          by_cases q : j = i
          · rw [decide_eq_true q]
            rfl
          · rw [decide_eq_false q]
            simp only [Bool.not_false, if_true]
            rw [about_S h sC.lt hj, Option.bind_some, u2, sIn_S]
            refine congrArg some (decide_eq_false fun z => q (hi2 j (mem_rsF.mpr ⟨hj, fun y => ic' (mem_le hji y), z⟩) hji))
      have lys : ys.length ≤ 100000 := by omega
      have dnl : dNe ([] : List Str) [] = some false := rfl
      have rs := reasons_S h sC hc
      have ti : tNotIn (S (sel l i)) (⟨srt (T l (least (rsF l C c)))⟩ : Tup Str) = some false := by
        unfold tNotIn
        rw [decide_eq_true (mem_srt.mpr (mem_T.mpr ⟨i, hi, rfl⟩))]
        rfl
      have rs' : m_reasons (clo l C, S (sel l (un l c)), ()) = some ⟨srt (T l (least (rsF l C c)))⟩ := by
        rw [u2]
        exact rs
      generalize m_reasons = RS at rs' ⊢
      refine ev_no (γ := ((⟨s3⟩ : OL Int), S l, (⟨T l C⟩ : Tup Str), bk l P, bk l L, [bk l P, bk l SB, bk l L], (⟨⟩ : Any), (⟨⟩ : Any), clo l C, bk l O, (⟨⟩ : Any), S (sel l i), S (sel l (un l c)), (⟨⟩ : Any), (⟨⟩ : Any), (⟨⟩ : Any), ())) ?_ ?_
      · simp only [fand, f1, f2, flc, lnil, short, fcons, fv, fnil, gs, gz, ps, pz, Option.bind_some, ey, lys, if_true, g4, List.length_nil, Nat.zero_le, dnl]
      refine ev_no (by simp only [f1, f2, fcons, fv, fnil, gs, gz, ps, pz, Option.bind_some, rs', ti]) ?_
      exact Ev.of rfl ⟨_, rfl, P2, rfl, fun q hq => z2 q (List.mem_cons_of_mem _ hq), rfl⟩
  rintro γ ⟨P2, z1, z2, rfl⟩
  clear z1 z2
  refine Ev.bind ?_
  unfold sform
  refine Ev.bind ?_
  have er := rng_n 3 (by omega)
  generalize rangeOf1 = R at er ⊢
  have er : R 3 = some (Z (List.range 3)) := er
  refine Ev.mlcA (fun i γ => ∃ g : List Int, γ = ((⟨g⟩ : OL Int), S l, (⟨T l C⟩ : Tup Str), bk l P, bk l L, [bk l P, bk l SB, bk l L], (⟨⟩ : Any), (⟨⟩ : Any), clo l C, bk l O, (⟨⟩ : Any), (⟨⟩ : Any), (⟨⟩ : Any), (⟨⟩ : Any), (⟨⟩ : Any), (⟨⟩ : Any), ()) ∧ g.length = 3) (fun _ y => ∃ p : Nat × Nat, (p.1 < 2 ^ l.length ∧ p.2 < 2 ^ l.length) ∧ rul l p.1 p.2 = y) ?_
  refine Ev.of (y := (Z (List.range 3), ((⟨s3⟩ : OL Int), S l, (⟨T l C⟩ : Tup Str), bk l P, bk l L, [bk l P, bk l SB, bk l L], (⟨⟩ : Any), (⟨⟩ : Any), clo l C, bk l O, (⟨⟩ : Any), (⟨⟩ : Any), (⟨⟩ : Any), (⟨⟩ : Any), (⟨⟩ : Any), (⟨⟩ : Any), ()))) ?_ ⟨by simp [Z], ⟨s3, rfl, k3⟩, ?_, ?_⟩
  · simp only [up, f1, fc, Option.bind_some, er, Option.map_some]
  · rintro x i _ hi ⟨g, rfl, hg⟩ hx
    refine Ev.of rfl ⟨rfl, ?_⟩
    obtain ⟨⟨_, g1⟩, q1, j1, p1, lk1, hg1⟩ := bag_S hg h
    have p1 : _ = S (sel l j1) := p1
    subst p1
    obtain ⟨⟨_, g2⟩, q2, j2, p2, lk2, hg2⟩ := bag_S hg1 h
    have p2 : _ = S (sel l j2) := p2
    subst p2
    refine Ev.of (y := (rul l j1 j2, ((⟨g2⟩ : OL Int), S l, (⟨T l C⟩ : Tup Str), bk l P, bk l L, [bk l P, bk l SB, bk l L], (⟨⟩ : Any), (⟨⟩ : Any), clo l C, bk l O, (⟨⟩ : Any), (⟨⟩ : Any), (⟨⟩ : Any), (⟨⟩ : Any), x, (⟨⟩ : Any), ()))) ?_ ⟨⟨(j1, j2), ⟨lk1, lk2⟩, rfl⟩, g2, rfl, hg2⟩
    simp only [m1, m2, mcons, mdr, up, fcons, fv, fnil, gs, gz, wid, cs, cz, bs, bz, ps, pz, Option.bind_some, Option.map_some]
    rw [show m__law_bag g (S l, ()) = some (S (sel l j1), g1) from q1]
    simp only [Option.bind_some, Option.map_some]
    rw [show m__law_bag g1 (S l, ()) = some (S (sel l j2), g2) from q2]
    rfl
  · rintro ys _ hp ⟨g, rfl, hg⟩
    obtain ⟨B, eB, lB⟩ : ∃ B : List (Nat × Nat), ys = (bk l B).l ∧ ∀ p ∈ B, p.1 < 2 ^ l.length ∧ p.2 < 2 ^ l.length := by
      have := paired_all hp
      clear hp
      induction ys with
      | nil => exact ⟨[], rfl, fun _ h => by cases h⟩
      | cons y ys ih =>
        obtain ⟨p, hp, rfl⟩ := this y List.mem_cons_self
        obtain ⟨B, rfl, lB⟩ := ih fun z hz => this z (List.mem_cons_of_mem _ hz)
        exact ⟨p :: B, rfl, fun q hq => by
          rcases List.mem_cons.mp hq with rfl | hq
          · exact hp
          · exact lB q hq⟩
    subst eB
    refine Ev.forL (fun xs γ => ∃ P2 : List (Nat × Nat), xs = (bk l P2).l ∧ (∀ q ∈ P2, q.1 < 2 ^ l.length ∧ q.2 < 2 ^ l.length) ∧ γ = ((⟨g⟩ : OL Int), S l, (⟨T l C⟩ : Tup Str), bk l P, bk l L, [bk l P, bk l SB, bk l L], (⟨⟩ : Any), (⟨⟩ : Any), clo l C, bk l O, (⟨⟩ : Any), (⟨⟩ : Any), (⟨⟩ : Any), (⟨⟩ : Any), (⟨⟩ : Any), (⟨⟩ : Any), ())) ⟨B, rfl, lB, rfl⟩ ?_ ?_
    · rintro x xs γ ⟨P2, z1, z2, rfl⟩
      cases P2 with
      | nil => cases z1
      | cons q P2 =>
        cases z1
        obtain ⟨i, j⟩ := q
        obtain ⟨hi, hj⟩ := z2 _ List.mem_cons_self
        have hi : i < 2 ^ l.length := hi
        have hj : j < 2 ^ l.length := hj
        have x0 : ix0 (rul l i j) 0 = some (S (sel l i)) := rfl
        have x1 : ix1 (rul l i j) 1 = some (S (sel l j)) := rfl
        have ab := about_S h sC.lt hi
        have ein := law_in_T h hj (ar l C i)
        have ho := holds_S h sC hi hj
        have fo : ∀ {B : List (Nat × Nat)}, Bok l B → E.filter (kp B) = C → m_follows (S l, bk l B, rul l i j, ()) = some (decide (j &&& ar l C i = j)) := fun {B} b f => by
          rw [follows_S h a b hi hj, f]
        have g5 := lcGo3 (t := fun _ => some true) (e := fun x => m_follows (S l, x, rul l i j, ())) (fun _ => rfl) (fo bP fP) (fo bS fS) (fo bL fL)
        have rp : ∀ z : Bool, lRep [z] 4 = some [z, z, z, z] := fun _ => rfl
        have lc : ∀ x y z w : Bool, lCat [x] [y, z, w] = some [x, y, z, w] := fun _ _ _ _ => rfl
        refine ev_nx (γ := ((⟨g⟩ : OL Int), S l, (⟨T l C⟩ : Tup Str), bk l P, bk l L, [bk l P, bk l SB, bk l L], (⟨⟩ : Any), rul l i j, clo l C, bk l O, (⟨⟩ : Any), (⟨⟩ : Any), (⟨⟩ : Any), decide (j &&& ar l C i = j), (⟨⟩ : Any), (⟨⟩ : Any), ())) ?_ ?_
        · simp only [sset, f1, f2, fcons, fv, fc, fnil, gs, gz, ps, pz, Option.bind_some, Option.map_some, x0, x1, ab, ein]
        refine ev_no (by simp only [f1, f2, flc, fyes, lcons, lnil, fcons, fv, fc, fnil, gs, gz, ps, pz, Option.bind_some, ho, sh1, lB3, if_true, g5, lc, rp, dNe_self]) ?_
        exact Ev.of rfl ⟨_, rfl, P2, rfl, fun q hq => z2 q (List.mem_cons_of_mem _ hq), rfl⟩
    · rintro γ ⟨P2, z1, z2, rfl⟩
      exact Ev.of rfl (Ev.of rfl rfl)
end K67
namespace K67
open Vx.Rep (rep)
open Vx.EnvR (er)
open PySem PySem.Spec PyProof.Rows L2 Vx
theorem right_E {s : List Int} (hs : s.length = 3) : ∃ s', m__law_right s () = some (true, s') := by
  obtain ⟨⟨b1, s1⟩, e1, h1⟩ := right_S hs
  have h1 : b1 = true := h1
  subst h1
  exact ⟨s1, e1⟩
theorem law_S (zs : List Int) : m_law (⟨zs⟩, ()) = some true := by
  obtain ⟨m, em, hm⟩ : ∃ m : Nat, ((min2 ((zs.length : Int), 3, ())).bind fun y => max2 (2, y, ())) = some (m : Int) ∧ m ≤ 3 := by
    unfold min2 max2
    simp only [Option.bind_some]
    refine ⟨(if (if (3 : Int) < zs.length then (3 : Int) else zs.length) > 2 then (if (3 : Int) < zs.length then (3 : Int) else zs.length) else 2).toNat, ?_, ?_⟩
    · congr 1
      split <;> split <;> omega
    · split <;> split <;> omega
  have e0 : ((lenC (⟨zs⟩, ())).bind fun y => (min2 (y, 3, ())).bind fun y => (max2 (2, y, ())).bind fun y => rangeOf1 y) = some (Z (List.range m)) := by
    have : ((min2 ((zs.length : Int), 3, ())).bind fun y => (max2 (2, y, ())).bind fun y => rangeOf1 y) = (((min2 ((zs.length : Int), 3, ())).bind fun y => max2 (2, y, ())).bind fun y => rangeOf1 y) := by rw [Option.bind_assoc]
    show ((min2 ((zs.length : Int), 3, ())).bind fun y => (max2 (2, y, ())).bind fun y => rangeOf1 y) = _
    rw [this, em, Option.bind_some, rng_n m (by omega)]
  have e1 : lcGo (fun x => some true) (fun x => (m__law_hopper (⟨zs⟩, x, ())).bind fun s => Option.map (fun x => x.fst) (m__law_right s ())) (Z (List.range m)) = some ((List.range m).map fun _ => true) := by
    rw [lcGo_Z (P := fun _ => true) (E := fun _ => true) (List.range m) (fun _ _ => rfl), filt_true]
    intro k hk _
    have := List.mem_range.mp hk
    obtain ⟨s, es, hs⟩ := hopper_S zs k
    obtain ⟨s', er⟩ := right_E hs
    rw [es, Option.bind_some, er]
    rfl
  have e2 : Vx.allB ((List.range m).map fun _ => true, ()) = some true := by
    unfold Vx.allB
    congr 1
    rw [List.all_map]
    simp
  show runF _ _ = _
  simp only [runF, runU, runM, im, sseq, Fl.bnd, sret, sretm, sset, ssetm, sif, sifm, sex, sexm, snever, sfor, sform, sset1, sdm, spar, fown, snewD, sdput, fkeys, up, m1, m2, mcons, mdr, mif, mand, moor, mnot, Vx.oz, Vx.os, f1, f2, fv, fc, fif, fand, foor, fnot, fcons, fnil, fch, lcons, lnil, flc, gz, gs, pz, ps, ic, ia, i0, snil, wid, wn, wk, wa, Option.bind_some, Option.map_some, Option.map_map, Function.comp_def, fyes, Option.bind_assoc]
  have e3 : ∀ {β : Type} (k : List Int → Option β), ((lenC (⟨zs⟩, ())).bind fun y => (min2 (y, 3, ())).bind fun y => (max2 (2, y, ())).bind fun y => (rangeOf1 y).bind k) = k (Z (List.range m)) := by
    intro β k
    have := congrArg (fun z => Option.bind z k) e0
    simp only [Option.bind_assoc, Option.bind_some] at this
    exact this
  rw [e3]
  rw [if_pos (by simp [Z]; omega), e1]
  simp only [Option.bind_some, e2, Option.map_some]
  try rfl
theorem ans (zs : List Int) (h : zs.length ≤ 63) : m_law (⟨zs⟩, ()) = some true := law_S zs
end K67
namespace K67
open Vx.Rep (rep)
open Vx.EnvR (er)
open PySem PySem.Spec PyProof.Rows L2 Vx
def FnIn (K : PySem.W.Frag) (x : Str) (st : Stmt) : Prop := ∃ (f : Addr) (oc : Value) (od : Option Addr) (kV dc pm : Value) (an : Option Addr) (cd ct : Value) (sl : Array (Option Value)),
  PySem.W.nsIn K mainGlobals x = some (some (.ref f)) ∧ K.lookup f = some ⟨oc, od, .func (PySem.W.fnOf x x (defArgs st) (defBody st) (defScope st) .none kV dc pm an cd ct), sl⟩ ∧ PySem.W.codeIn K cd x = true ∧ PySem.W.keepIn K (.ref f) = true
def MtIn (K : PySem.W.Frag) (C : Addr) (x qual : Str) (st : Stmt) : Prop := ∃ (f : Addr) (oc : Value) (od : Option Addr) (kV dc pm : Value) (an : Option Addr) (cd ct : Value) (sl : Array (Option Value)),
  PySem.W.findIn K (.ref C) x = some (some (.ref f)) ∧ PySem.W.isFn K (.ref f) = true ∧ K.lookup f = some ⟨oc, od, .func (PySem.W.fnOf x qual (defArgs st) (defBody st) (defScope st) .none kV dc pm an cd ct), sl⟩ ∧ PySem.W.codeIn K cd qual = true ∧ PySem.W.keepIn K (.ref f) = true
def PrIn (K : PySem.W.Frag) (C : Addr) (x qual : Str) (st : Stmt) : Prop := ∃ (p f : Addr) (rest : List Value) (oc : Value) (od : Option Addr) (kV dc pm : Value) (an : Option Addr) (cd ct : Value) (sl : Array (Option Value)),
  PySem.W.findIn K (.ref C) x = some (some (.ref p)) ∧ PySem.W.specialIn K (.ref p) "__get__" = some (some (.builtin "property.__get__")) ∧ PySem.W.takesIn K (.ref p) = some true ∧ PySem.W.recIn K p "property" = some (.ref f :: rest) ∧ K.lookup f = some ⟨oc, od, .func (PySem.W.fnOf x qual (defArgs st) (defBody st) (defScope st) .none kV dc pm an cd ct), sl⟩ ∧ PySem.W.codeIn K cd qual = true ∧ PySem.W.keepIn K (.ref f) = true
theorem tf_of {K : PySem.W.Frag} {h : Heap} {mg : Str → Option Value} {x : Str} {st : Stmt} {ps : List Str} (X : K.In h) (G : h.Ns mainGlobals mg) (I : FnIn K x st)
    (b : ∀ (kV doc pm : Value) (an : Option Addr) (cdv ct : Value) (us : List Value), us.length = ps.length → bindArgs (PySem.W.fnOf x x (defArgs st) (defBody st) (defScope st) .none kV doc pm an cdv ct) ⟨us, []⟩ = pure (ps.zip us)) : Tf K mg x st ps := by
  obtain ⟨f, oc, od, kV, dc, pm, an, cd, ct, sl, h1, h2, h3, h4⟩ := I
  have F := fun_mk (st := st) h2 h3 h4
  exact ⟨f, _, F, PySem.W.mg_of X G h1, F.binds b⟩
theorem ti_of {K : PySem.W.Frag} {h : Heap} {mg : Str → Option Value} {C : Addr} {qual : Str} {st : Stmt} {ps : List Str} (X : K.In h) (G : h.Ns mainGlobals mg) (at_ : ClsAt K C) (mk : PySem.W.makesIn K C = true) (kc : PySem.W.keepIn K (.ref C) = true) (I : MtIn K C "__init__" qual st)
    (b : ∀ (kV doc pm : Value) (an : Option Addr) (cdv ct : Value) (us : List Value), us.length = ps.length → bindArgs (PySem.W.fnOf "__init__" qual (defArgs st) (defBody st) (defScope st) .none kV doc pm an cdv ct) ⟨us, []⟩ = pure (ps.zip us)) : TmI K mg qual st ps := by
  obtain ⟨f, oc, od, kV, dc, pm, an, cd, ct, sl, h1, h2, h3, h4, h5⟩ := I
  have F := fun_mk (st := st) h3 h4 h5
  exact ⟨C, f, _, at_, ⟨mk, h1, h2, kc⟩, PySem.W.mg_of X G at_, F, F.binds b⟩
theorem tm_of {K : PySem.W.Frag} {C : Addr} {x qual : Str} {st : Stmt} {ps : List Str} (at_ : ClsAt K C) (cl : Cls K C) (I : MtIn K C x qual st)
    (b : ∀ (kV doc pm : Value) (an : Option Addr) (cdv ct : Value) (us : List Value), us.length = ps.length → bindArgs (PySem.W.fnOf x qual (defArgs st) (defBody st) (defScope st) .none kV doc pm an cdv ct) ⟨us, []⟩ = pure (ps.zip us)) : TmM K x qual st ps := by
  obtain ⟨f, oc, od, kV, dc, pm, an, cd, ct, sl, h1, h2, h3, h4, h5⟩ := I
  have F := fun_mk (st := st) h3 h4 h5
  exact ⟨C, f, _, at_, cl, ⟨h1, h2, h5⟩, F, F.binds b⟩
theorem tp_of {K : PySem.W.Frag} {C : Addr} {x qual : Str} {st : Stmt} {ps : List Str} (at_ : ClsAt K C) (cl : Cls K C) (I : PrIn K C x qual st)
    (b : ∀ (kV doc pm : Value) (an : Option Addr) (cdv ct : Value) (us : List Value), us.length = ps.length → bindArgs (PySem.W.fnOf x qual (defArgs st) (defBody st) (defScope st) .none kV doc pm an cdv ct) ⟨us, []⟩ = pure (ps.zip us)) : TmP K x qual st ps := by
  obtain ⟨p, f, rest, oc, od, kV, dc, pm, an, cd, ct, sl, h1, h2, h3, h4, h5, h6, h7⟩ := I
  have F := fun_mk (st := st) h5 h6 h7
  exact ⟨C, p, f, _, at_, cl, ⟨h1, h2, h3, ⟨rest, h4⟩⟩, F, F.binds b⟩
theorem fd_one {K : PySem.W.Frag} {x : Str} {st : Stmt} {f : Addr} {fd fd' : FuncData} (F : Fun K x x st f fd) (F' : Fun K x x st f fd') : fd = fd' := by
  obtain ⟨_, _, _, _, _, _, _, _, _, _, h, _⟩ := F.ex
  obtain ⟨_, _, _, _, _, _, _, _, _, _, h', _⟩ := F'.ex
  rw [h] at h'
  have := Option.some.inj h'
  injection this with _ _ h3 _
  injection h3
theorem law_df {P : Program} {w : World} {K : PySem.W.Frag} {mg : Str → Option Value} {fa : Addr} (T : Top K mg) (hm : mg "law" = some (.ref fa)) :
    ∃ fd : FuncData, (∀ (s : Shared) (v : Value), BindsTo s fd ⟨[v], []⟩ [("_law_script", v)]) ∧ ∀ base : Heap, GnOk P w K mg base 12 fa fd ["_law_script"] (spF K m_law) := by
  obtain ⟨f, fd, F, hf, hb⟩ := T.f_law
  have e : f = fa := by
    have := hf.symm.trans hm
    cases this
    rfl
  subst e
  refine ⟨fd, fun s v => ?_, fun base => ?_⟩
  · obtain ⟨_, _, _, _, _, _, _, _, _, e, _, _⟩ := F.ex
    subst e
    exact .of_eq rfl
  · obtain ⟨f', fd', F', hf', _, Gn⟩ := d_law (P := P) (w := w) (base := base) T
    have e := hf.symm.trans hf'
    cases e
    rw [fd_one F F']
    exact Gn
theorem top_mk {K : PySem.W.Frag} {h : Heap} {mg : Str → Option Value} {C : Addr} (X : K.In h) (G : h.Ns mainGlobals mg)
    (aC : ClsAt K C) (pg : PySem.W.plainGet K C Str.empty = true) (hd : PySem.W.hasDictIn K C = true) (po : PySem.W.plainOver K C = true) (sa : PySem.W.findIn K (.ref C) "__setattr__" = some (some (.builtin "object.__setattr__"))) (mk : PySem.W.makesIn K C = true) (kc : PySem.W.keepIn K (.ref C) = true) (n1 : PySem.W.findIn K (.ref C) "_things" = some none) (n2 : PySem.W.findIn K (.ref C) "_closed" = some none) (n3 : PySem.W.findIn K (.ref C) "_around" = some none) (i1 : PySem.W.findIn K (.ref C) "__class__" = some (some (.builtin "object.__class__"))) (i2 : PySem.W.specialIn K (.builtin "object.__class__") "__get__" = some (some (.builtin "getset_descriptor.__get__"))) (i3 : PySem.W.takesIn K (.builtin "object.__class__") = some true) (i4 : PySem.W.mroIn K C (.type "object") = some true)
    (a14 : FnIn K "is_letter" (topS 14))
    (a15 : FnIn K "is_word" (topS 15))
    (a16 : FnIn K "is_any_lot" (topS 16))
    (a17 : FnIn K "is_things" (topS 17))
    (a24 : FnIn K "has_all" (topS 24))
    (a18 : FnIn K "is_lot" (topS 18))
    (a19 : FnIn K "is_thing" (topS 19))
    (a20 : FnIn K "check_things" (topS 20))
    (a21 : FnIn K "check_lot" (topS 21))
    (a22 : FnIn K "check_thing" (topS 22))
    (a23 : FnIn K "first_wrong" (topS 23))
    (a25 : FnIn K "in_either" (topS 25))
    (a26 : FnIn K "lots_by_number" (topS 26))
    (a27 : FnIn K "number_by_lot" (topS 27))
    (a28 : FnIn K "numbers_of" (topS 28))
    (a29 : FnIn K "family_of" (topS 29))
    (a30 : FnIn K "least_numbers" (topS 30))
    (a31 : FnIn K "least_of" (topS 31))
    (a32 : FnIn K "meets_of" (topS 32))
    (a37 : FnIn K "is_system" (topS 37))
    (a35 : FnIn K "check_closed" (topS 35))
    (a39 : FnIn K "first_around" (topS 39))
    (a38 : FnIn K "lots_around" (topS 38))
    (ac34_0 : MtIn K C "__init__" "Closer.__init__" (topC 34 0))
    (ac34_2 : PrIn K C "things" "Closer.things" (topC 34 2))
    (ac34_3 : PrIn K C "closed" "Closer.closed" (topC 34 3))
    (ac34_7 : MtIn K C "around" "Closer.around" (topC 34 7))
    (ac34_6 : MtIn K C "__eq__" "Closer.__eq__" (topC 34 6))
    (a36 : FnIn K "check_closer" (topS 36))
    (a43 : FnIn K "is_rule" (topS 43))
    (a44 : FnIn K "wrong_rule" (topS 44))
    (a45 : FnIn K "check_book" (topS 45))
    (a46 : FnIn K "by_rules" (topS 46))
    (a62 : FnIn K "reasons_of" (topS 62))
    (a63 : FnIn K "reasons" (topS 63))
    (a64 : FnIn K "plain_book" (topS 64))
    (a48 : FnIn K "check_rule" (topS 48))
    (a49 : FnIn K "keeps" (topS 49))
    (a52 : FnIn K "holds" (topS 52))
    (a50 : FnIn K "first_broken" (topS 50))
    (a51 : FnIn K "led_on" (topS 51))
    (a53 : FnIn K "around_by" (topS 53))
    (a54 : FnIn K "steps" (topS 54))
    (a55 : FnIn K "follows" (topS 55))
    (ac34_8 : MtIn K C "is_closed" "Closer.is_closed" (topC 34 8))
    (a57 : FnIn K "stem_of" (topS 57))
    (a58 : FnIn K "stem" (topS 58))
    (ac34_5 : MtIn K C "__len__" "Closer.__len__" (topC 34 5))
    (a59 : FnIn K "is_of" (topS 59))
    (a60 : FnIn K "is_needless" (topS 60))
    (a61 : FnIn K "needless" (topS 61))
    (a66 : FnIn K "_law_hopper" (topS 66))
    (a67 : FnIn K "_law_spill" (topS 67))
    (a68 : FnIn K "_law_out_of" (topS 68))
    (a69 : FnIn K "_law_tags" (topS 69))
    (a70 : FnIn K "_law_bag" (topS 70))
    (a71 : FnIn K "_law_bags" (topS 71))
    (a72 : FnIn K "_law_in" (topS 72))
    (a73 : FnIn K "_law_both" (topS 73))
    (a74 : FnIn K "_law_any" (topS 74))
    (a75 : FnIn K "_law_about" (topS 75))
    (a76 : FnIn K "_law_met" (topS 76))
    (a77 : FnIn K "_law_keeping" (topS 77))
    (a78 : FnIn K "_law_rules" (topS 78))
    (a79 : FnIn K "_law_joined" (topS 79))
    (a80 : FnIn K "_law_world" (topS 80))
    (a81 : FnIn K "_law_looked" (topS 81))
    (a82 : FnIn K "_law_leaner" (topS 82))
    (a83 : FnIn K "_law_used" (topS 83))
    (a84 : FnIn K "_law_right" (topS 84))
    (a85 : FnIn K "law" (topS 85))
    (z_len : PySem.W.nsIn K mainGlobals "len" = some none)
    (z_all : PySem.W.nsIn K mainGlobals "all" = some none)
    (z_any : PySem.W.nsIn K mainGlobals "any" = some none)
    (z_abs : PySem.W.nsIn K mainGlobals "abs" = some none)
    (z_int : PySem.W.nsIn K mainGlobals "int" = some none)
    (z_min : PySem.W.nsIn K mainGlobals "min" = some none)
    (z_max : PySem.W.nsIn K mainGlobals "max" = some none)
    (z_tuple : PySem.W.nsIn K mainGlobals "tuple" = some none)
    (z_repr : PySem.W.nsIn K mainGlobals "repr" = some none)
    (z_isinstance : PySem.W.nsIn K mainGlobals "isinstance" = some none)
    (z_str : PySem.W.nsIn K mainGlobals "str" = some none)
    (z_range : PySem.W.nsIn K mainGlobals "range" = some none)
    (z_enumerate : PySem.W.nsIn K mainGlobals "enumerate" = some none)
    (z_sorted : PySem.W.nsIn K mainGlobals "sorted" = some none)
    (z_set : PySem.W.nsIn K mainGlobals "set" = some none)
    (z_list : PySem.W.nsIn K mainGlobals "list" = some none)
    (z_divmod : PySem.W.nsIn K mainGlobals "divmod" = some none)
    (z_dict : PySem.W.nsIn K mainGlobals "dict" = some none)
    {tk_MOST_THINGS : Tok} (c_MOST_THINGS : PySem.W.nsIn K mainGlobals "MOST_THINGS" = some (some (.int 7 tk_MOST_THINGS)))
    {tk_MOST_RULES : Tok} (c_MOST_RULES : PySem.W.nsIn K mainGlobals "MOST_RULES" = some (some (.int 200 tk_MOST_RULES)))
    : Top K mg :=
  ⟨tf_of X G a14 fun _ _ _ _ _ _ us hl => match us, hl with | [_], _ => rfl,
   tf_of X G a15 fun _ _ _ _ _ _ us hl => match us, hl with | [_], _ => rfl,
   tf_of X G a16 fun _ _ _ _ _ _ us hl => match us, hl with | [_], _ => rfl,
   tf_of X G a17 fun _ _ _ _ _ _ us hl => match us, hl with | [_], _ => rfl,
   tf_of X G a24 fun _ _ _ _ _ _ us hl => match us, hl with | [_, _], _ => rfl,
   tf_of X G a18 fun _ _ _ _ _ _ us hl => match us, hl with | [_, _], _ => rfl,
   tf_of X G a19 fun _ _ _ _ _ _ us hl => match us, hl with | [_, _], _ => rfl,
   tf_of X G a20 fun _ _ _ _ _ _ us hl => match us, hl with | [_], _ => rfl,
   tf_of X G a21 fun _ _ _ _ _ _ us hl => match us, hl with | [_, _], _ => rfl,
   tf_of X G a22 fun _ _ _ _ _ _ us hl => match us, hl with | [_, _], _ => rfl,
   tf_of X G a23 fun _ _ _ _ _ _ us hl => match us, hl with | [_, _], _ => rfl,
   tf_of X G a25 fun _ _ _ _ _ _ us hl => match us, hl with | [_, _], _ => rfl,
   tf_of X G a26 fun _ _ _ _ _ _ us hl => match us, hl with | [_], _ => rfl,
   tf_of X G a27 fun _ _ _ _ _ _ us hl => match us, hl with | [_], _ => rfl,
   tf_of X G a28 fun _ _ _ _ _ _ us hl => match us, hl with | [_, _], _ => rfl,
   tf_of X G a29 fun _ _ _ _ _ _ us hl => match us, hl with | [_, _], _ => rfl,
   tf_of X G a30 fun _ _ _ _ _ _ us hl => match us, hl with | [_], _ => rfl,
   tf_of X G a31 fun _ _ _ _ _ _ us hl => match us, hl with | [_, _], _ => rfl,
   tf_of X G a32 fun _ _ _ _ _ _ us hl => match us, hl with | [_, _], _ => rfl,
   tf_of X G a37 fun _ _ _ _ _ _ us hl => match us, hl with | [_, _], _ => rfl,
   tf_of X G a35 fun _ _ _ _ _ _ us hl => match us, hl with | [_, _], _ => rfl,
   tf_of X G a39 fun _ _ _ _ _ _ us hl => match us, hl with | [_, _], _ => rfl,
   tf_of X G a38 fun _ _ _ _ _ _ us hl => match us, hl with | [_, _], _ => rfl,
   ti_of X G aC mk kc ac34_0 fun _ _ _ _ _ _ us hl => match us, hl with | [_, _, _], _ => rfl,
   tp_of aC ⟨pg, hd, po, sa⟩ ac34_2 fun _ _ _ _ _ _ us hl => match us, hl with | [_], _ => rfl,
   tp_of aC ⟨pg, hd, po, sa⟩ ac34_3 fun _ _ _ _ _ _ us hl => match us, hl with | [_], _ => rfl,
   tm_of aC ⟨pg, hd, po, sa⟩ ac34_7 fun _ _ _ _ _ _ us hl => match us, hl with | [_, _], _ => rfl,
   tm_of aC ⟨pg, hd, po, sa⟩ ac34_6 fun _ _ _ _ _ _ us hl => match us, hl with | [_, _], _ => rfl,
   tf_of X G a36 fun _ _ _ _ _ _ us hl => match us, hl with | [_], _ => rfl,
   tf_of X G a43 fun _ _ _ _ _ _ us hl => match us, hl with | [_, _], _ => rfl,
   tf_of X G a44 fun _ _ _ _ _ _ us hl => match us, hl with | [_, _], _ => rfl,
   tf_of X G a45 fun _ _ _ _ _ _ us hl => match us, hl with | [_, _], _ => rfl,
   tf_of X G a46 fun _ _ _ _ _ _ us hl => match us, hl with | [_, _], _ => rfl,
   tf_of X G a62 fun _ _ _ _ _ _ us hl => match us, hl with | [_, _], _ => rfl,
   tf_of X G a63 fun _ _ _ _ _ _ us hl => match us, hl with | [_, _], _ => rfl,
   tf_of X G a64 fun _ _ _ _ _ _ us hl => match us, hl with | [_], _ => rfl,
   tf_of X G a48 fun _ _ _ _ _ _ us hl => match us, hl with | [_, _], _ => rfl,
   tf_of X G a49 fun _ _ _ _ _ _ us hl => match us, hl with | [_, _], _ => rfl,
   tf_of X G a52 fun _ _ _ _ _ _ us hl => match us, hl with | [_, _], _ => rfl,
   tf_of X G a50 fun _ _ _ _ _ _ us hl => match us, hl with | [_, _], _ => rfl,
   tf_of X G a51 fun _ _ _ _ _ _ us hl => match us, hl with | [_, _], _ => rfl,
   tf_of X G a53 fun _ _ _ _ _ _ us hl => match us, hl with | [_, _, _], _ => rfl,
   tf_of X G a54 fun _ _ _ _ _ _ us hl => match us, hl with | [_, _, _], _ => rfl,
   tf_of X G a55 fun _ _ _ _ _ _ us hl => match us, hl with | [_, _, _], _ => rfl,
   tm_of aC ⟨pg, hd, po, sa⟩ ac34_8 fun _ _ _ _ _ _ us hl => match us, hl with | [_, _], _ => rfl,
   tf_of X G a57 fun _ _ _ _ _ _ us hl => match us, hl with | [_], _ => rfl,
   tf_of X G a58 fun _ _ _ _ _ _ us hl => match us, hl with | [_], _ => rfl,
   tm_of aC ⟨pg, hd, po, sa⟩ ac34_5 fun _ _ _ _ _ _ us hl => match us, hl with | [_], _ => rfl,
   tf_of X G a59 fun _ _ _ _ _ _ us hl => match us, hl with | [_, _], _ => rfl,
   tf_of X G a60 fun _ _ _ _ _ _ us hl => match us, hl with | [_, _], _ => rfl,
   tf_of X G a61 fun _ _ _ _ _ _ us hl => match us, hl with | [_, _], _ => rfl,
   tf_of X G a66 fun _ _ _ _ _ _ us hl => match us, hl with | [_, _], _ => rfl,
   tf_of X G a67 fun _ _ _ _ _ _ us hl => match us, hl with | [_, _], _ => rfl,
   tf_of X G a68 fun _ _ _ _ _ _ us hl => match us, hl with | [_, _], _ => rfl,
   tf_of X G a69 fun _ _ _ _ _ _ us hl => match us, hl with | [_, _], _ => rfl,
   tf_of X G a70 fun _ _ _ _ _ _ us hl => match us, hl with | [_, _], _ => rfl,
   tf_of X G a71 fun _ _ _ _ _ _ us hl => match us, hl with | [_], _ => rfl,
   tf_of X G a72 fun _ _ _ _ _ _ us hl => match us, hl with | [_, _], _ => rfl,
   tf_of X G a73 fun _ _ _ _ _ _ us hl => match us, hl with | [_, _], _ => rfl,
   tf_of X G a74 fun _ _ _ _ _ _ us hl => match us, hl with | [_, _], _ => rfl,
   tf_of X G a75 fun _ _ _ _ _ _ us hl => match us, hl with | [_, _, _], _ => rfl,
   tf_of X G a76 fun _ _ _ _ _ _ us hl => match us, hl with | [_, _], _ => rfl,
   tf_of X G a77 fun _ _ _ _ _ _ us hl => match us, hl with | [_, _], _ => rfl,
   tf_of X G a78 fun _ _ _ _ _ _ us hl => match us, hl with | [_, _, _], _ => rfl,
   tf_of X G a79 fun _ _ _ _ _ _ us hl => match us, hl with | [_, _, _], _ => rfl,
   tf_of X G a80 fun _ _ _ _ _ _ us hl => match us, hl with | [_, _], _ => rfl,
   tf_of X G a81 fun _ _ _ _ _ _ us hl => match us, hl with | [_, _], _ => rfl,
   tf_of X G a82 fun _ _ _ _ _ _ us hl => match us, hl with | [_, _], _ => rfl,
   tf_of X G a83 fun _ _ _ _ _ _ us hl => match us, hl with | [_, _, _], _ => rfl,
   tf_of X G a84 fun _ _ _ _ _ _ us hl => match us, hl with | [_], _ => rfl,
   tf_of X G a85 fun _ _ _ _ _ _ us hl => match us, hl with | [_], _ => rfl,
   PySem.W.mg_none_of X G z_len,
   PySem.W.mg_none_of X G z_all,
   PySem.W.mg_none_of X G z_any,
   PySem.W.mg_none_of X G z_abs,
   PySem.W.mg_none_of X G z_int,
   PySem.W.mg_none_of X G z_min,
   PySem.W.mg_none_of X G z_max,
   PySem.W.mg_none_of X G z_tuple,
   PySem.W.mg_none_of X G z_repr,
   PySem.W.mg_none_of X G z_isinstance,
   PySem.W.mg_none_of X G z_str,
   PySem.W.mg_none_of X G z_range,
   PySem.W.mg_none_of X G z_enumerate,
   PySem.W.mg_none_of X G z_sorted,
   PySem.W.mg_none_of X G z_set,
   PySem.W.mg_none_of X G z_list,
   PySem.W.mg_none_of X G z_divmod,
   PySem.W.mg_none_of X G z_dict,
   ⟨tk_MOST_THINGS, PySem.W.mg_of X G c_MOST_THINGS⟩,
   ⟨tk_MOST_RULES, PySem.W.mg_of X G c_MOST_RULES⟩,
   ⟨C, aC, ⟨pg, hd, po, sa⟩, n1, n2, n3⟩,
   ⟨C, aC, ⟨⟨pg, hd, po, sa⟩, i1, i2, i3, i4, by unfold PySem.W.kitOne; rw [if_pos (beq_self_eq_true _)]⟩, PySem.W.mg_of X G aC⟩⟩
theorem law_top {P : Program} {w : World} {K : PySem.W.Frag} {h : Heap} {mg : Str → Option Value} {fa C : Addr} (X : K.In h) (G : h.Ns mainGlobals mg) (hm : mg "law" = some (.ref fa))
    (aC : ClsAt K C) (pg : PySem.W.plainGet K C Str.empty = true) (hd : PySem.W.hasDictIn K C = true) (po : PySem.W.plainOver K C = true) (sa : PySem.W.findIn K (.ref C) "__setattr__" = some (some (.builtin "object.__setattr__"))) (mk : PySem.W.makesIn K C = true) (kc : PySem.W.keepIn K (.ref C) = true) (n1 : PySem.W.findIn K (.ref C) "_things" = some none) (n2 : PySem.W.findIn K (.ref C) "_closed" = some none) (n3 : PySem.W.findIn K (.ref C) "_around" = some none) (i1 : PySem.W.findIn K (.ref C) "__class__" = some (some (.builtin "object.__class__"))) (i2 : PySem.W.specialIn K (.builtin "object.__class__") "__get__" = some (some (.builtin "getset_descriptor.__get__"))) (i3 : PySem.W.takesIn K (.builtin "object.__class__") = some true) (i4 : PySem.W.mroIn K C (.type "object") = some true)
    {f14 : Addr} {oc14 kV14 dc14 pm14 cd14 ct14 : Value} {od14 an14 : Option Addr} {sl14 : Array (Option Value)}
    (a14 : PySem.W.nsIn K mainGlobals "is_letter" = some (some (.ref f14))) (l14 : K.lookup f14 = some ⟨oc14, od14, .func (PySem.W.fnOf "is_letter" "is_letter" (defArgs (topS 14)) (defBody (topS 14)) (defScope (topS 14)) .none kV14 dc14 pm14 an14 cd14 ct14), sl14⟩) (c14 : PySem.W.codeIn K cd14 "is_letter" = true) (k14 : PySem.W.keepIn K (.ref f14) = true)
    {f15 : Addr} {oc15 kV15 dc15 pm15 cd15 ct15 : Value} {od15 an15 : Option Addr} {sl15 : Array (Option Value)}
    (a15 : PySem.W.nsIn K mainGlobals "is_word" = some (some (.ref f15))) (l15 : K.lookup f15 = some ⟨oc15, od15, .func (PySem.W.fnOf "is_word" "is_word" (defArgs (topS 15)) (defBody (topS 15)) (defScope (topS 15)) .none kV15 dc15 pm15 an15 cd15 ct15), sl15⟩) (c15 : PySem.W.codeIn K cd15 "is_word" = true) (k15 : PySem.W.keepIn K (.ref f15) = true)
    {f16 : Addr} {oc16 kV16 dc16 pm16 cd16 ct16 : Value} {od16 an16 : Option Addr} {sl16 : Array (Option Value)}
    (a16 : PySem.W.nsIn K mainGlobals "is_any_lot" = some (some (.ref f16))) (l16 : K.lookup f16 = some ⟨oc16, od16, .func (PySem.W.fnOf "is_any_lot" "is_any_lot" (defArgs (topS 16)) (defBody (topS 16)) (defScope (topS 16)) .none kV16 dc16 pm16 an16 cd16 ct16), sl16⟩) (c16 : PySem.W.codeIn K cd16 "is_any_lot" = true) (k16 : PySem.W.keepIn K (.ref f16) = true)
    {f17 : Addr} {oc17 kV17 dc17 pm17 cd17 ct17 : Value} {od17 an17 : Option Addr} {sl17 : Array (Option Value)}
    (a17 : PySem.W.nsIn K mainGlobals "is_things" = some (some (.ref f17))) (l17 : K.lookup f17 = some ⟨oc17, od17, .func (PySem.W.fnOf "is_things" "is_things" (defArgs (topS 17)) (defBody (topS 17)) (defScope (topS 17)) .none kV17 dc17 pm17 an17 cd17 ct17), sl17⟩) (c17 : PySem.W.codeIn K cd17 "is_things" = true) (k17 : PySem.W.keepIn K (.ref f17) = true)
    {f24 : Addr} {oc24 kV24 dc24 pm24 cd24 ct24 : Value} {od24 an24 : Option Addr} {sl24 : Array (Option Value)}
    (a24 : PySem.W.nsIn K mainGlobals "has_all" = some (some (.ref f24))) (l24 : K.lookup f24 = some ⟨oc24, od24, .func (PySem.W.fnOf "has_all" "has_all" (defArgs (topS 24)) (defBody (topS 24)) (defScope (topS 24)) .none kV24 dc24 pm24 an24 cd24 ct24), sl24⟩) (c24 : PySem.W.codeIn K cd24 "has_all" = true) (k24 : PySem.W.keepIn K (.ref f24) = true)
    {f18 : Addr} {oc18 kV18 dc18 pm18 cd18 ct18 : Value} {od18 an18 : Option Addr} {sl18 : Array (Option Value)}
    (a18 : PySem.W.nsIn K mainGlobals "is_lot" = some (some (.ref f18))) (l18 : K.lookup f18 = some ⟨oc18, od18, .func (PySem.W.fnOf "is_lot" "is_lot" (defArgs (topS 18)) (defBody (topS 18)) (defScope (topS 18)) .none kV18 dc18 pm18 an18 cd18 ct18), sl18⟩) (c18 : PySem.W.codeIn K cd18 "is_lot" = true) (k18 : PySem.W.keepIn K (.ref f18) = true)
    {f19 : Addr} {oc19 kV19 dc19 pm19 cd19 ct19 : Value} {od19 an19 : Option Addr} {sl19 : Array (Option Value)}
    (a19 : PySem.W.nsIn K mainGlobals "is_thing" = some (some (.ref f19))) (l19 : K.lookup f19 = some ⟨oc19, od19, .func (PySem.W.fnOf "is_thing" "is_thing" (defArgs (topS 19)) (defBody (topS 19)) (defScope (topS 19)) .none kV19 dc19 pm19 an19 cd19 ct19), sl19⟩) (c19 : PySem.W.codeIn K cd19 "is_thing" = true) (k19 : PySem.W.keepIn K (.ref f19) = true)
    {f20 : Addr} {oc20 kV20 dc20 pm20 cd20 ct20 : Value} {od20 an20 : Option Addr} {sl20 : Array (Option Value)}
    (a20 : PySem.W.nsIn K mainGlobals "check_things" = some (some (.ref f20))) (l20 : K.lookup f20 = some ⟨oc20, od20, .func (PySem.W.fnOf "check_things" "check_things" (defArgs (topS 20)) (defBody (topS 20)) (defScope (topS 20)) .none kV20 dc20 pm20 an20 cd20 ct20), sl20⟩) (c20 : PySem.W.codeIn K cd20 "check_things" = true) (k20 : PySem.W.keepIn K (.ref f20) = true)
    {f21 : Addr} {oc21 kV21 dc21 pm21 cd21 ct21 : Value} {od21 an21 : Option Addr} {sl21 : Array (Option Value)}
    (a21 : PySem.W.nsIn K mainGlobals "check_lot" = some (some (.ref f21))) (l21 : K.lookup f21 = some ⟨oc21, od21, .func (PySem.W.fnOf "check_lot" "check_lot" (defArgs (topS 21)) (defBody (topS 21)) (defScope (topS 21)) .none kV21 dc21 pm21 an21 cd21 ct21), sl21⟩) (c21 : PySem.W.codeIn K cd21 "check_lot" = true) (k21 : PySem.W.keepIn K (.ref f21) = true)
    {f22 : Addr} {oc22 kV22 dc22 pm22 cd22 ct22 : Value} {od22 an22 : Option Addr} {sl22 : Array (Option Value)}
    (a22 : PySem.W.nsIn K mainGlobals "check_thing" = some (some (.ref f22))) (l22 : K.lookup f22 = some ⟨oc22, od22, .func (PySem.W.fnOf "check_thing" "check_thing" (defArgs (topS 22)) (defBody (topS 22)) (defScope (topS 22)) .none kV22 dc22 pm22 an22 cd22 ct22), sl22⟩) (c22 : PySem.W.codeIn K cd22 "check_thing" = true) (k22 : PySem.W.keepIn K (.ref f22) = true)
    {f23 : Addr} {oc23 kV23 dc23 pm23 cd23 ct23 : Value} {od23 an23 : Option Addr} {sl23 : Array (Option Value)}
    (a23 : PySem.W.nsIn K mainGlobals "first_wrong" = some (some (.ref f23))) (l23 : K.lookup f23 = some ⟨oc23, od23, .func (PySem.W.fnOf "first_wrong" "first_wrong" (defArgs (topS 23)) (defBody (topS 23)) (defScope (topS 23)) .none kV23 dc23 pm23 an23 cd23 ct23), sl23⟩) (c23 : PySem.W.codeIn K cd23 "first_wrong" = true) (k23 : PySem.W.keepIn K (.ref f23) = true)
    {f25 : Addr} {oc25 kV25 dc25 pm25 cd25 ct25 : Value} {od25 an25 : Option Addr} {sl25 : Array (Option Value)}
    (a25 : PySem.W.nsIn K mainGlobals "in_either" = some (some (.ref f25))) (l25 : K.lookup f25 = some ⟨oc25, od25, .func (PySem.W.fnOf "in_either" "in_either" (defArgs (topS 25)) (defBody (topS 25)) (defScope (topS 25)) .none kV25 dc25 pm25 an25 cd25 ct25), sl25⟩) (c25 : PySem.W.codeIn K cd25 "in_either" = true) (k25 : PySem.W.keepIn K (.ref f25) = true)
    {f26 : Addr} {oc26 kV26 dc26 pm26 cd26 ct26 : Value} {od26 an26 : Option Addr} {sl26 : Array (Option Value)}
    (a26 : PySem.W.nsIn K mainGlobals "lots_by_number" = some (some (.ref f26))) (l26 : K.lookup f26 = some ⟨oc26, od26, .func (PySem.W.fnOf "lots_by_number" "lots_by_number" (defArgs (topS 26)) (defBody (topS 26)) (defScope (topS 26)) .none kV26 dc26 pm26 an26 cd26 ct26), sl26⟩) (c26 : PySem.W.codeIn K cd26 "lots_by_number" = true) (k26 : PySem.W.keepIn K (.ref f26) = true)
    {f27 : Addr} {oc27 kV27 dc27 pm27 cd27 ct27 : Value} {od27 an27 : Option Addr} {sl27 : Array (Option Value)}
    (a27 : PySem.W.nsIn K mainGlobals "number_by_lot" = some (some (.ref f27))) (l27 : K.lookup f27 = some ⟨oc27, od27, .func (PySem.W.fnOf "number_by_lot" "number_by_lot" (defArgs (topS 27)) (defBody (topS 27)) (defScope (topS 27)) .none kV27 dc27 pm27 an27 cd27 ct27), sl27⟩) (c27 : PySem.W.codeIn K cd27 "number_by_lot" = true) (k27 : PySem.W.keepIn K (.ref f27) = true)
    {f28 : Addr} {oc28 kV28 dc28 pm28 cd28 ct28 : Value} {od28 an28 : Option Addr} {sl28 : Array (Option Value)}
    (a28 : PySem.W.nsIn K mainGlobals "numbers_of" = some (some (.ref f28))) (l28 : K.lookup f28 = some ⟨oc28, od28, .func (PySem.W.fnOf "numbers_of" "numbers_of" (defArgs (topS 28)) (defBody (topS 28)) (defScope (topS 28)) .none kV28 dc28 pm28 an28 cd28 ct28), sl28⟩) (c28 : PySem.W.codeIn K cd28 "numbers_of" = true) (k28 : PySem.W.keepIn K (.ref f28) = true)
    {f29 : Addr} {oc29 kV29 dc29 pm29 cd29 ct29 : Value} {od29 an29 : Option Addr} {sl29 : Array (Option Value)}
    (a29 : PySem.W.nsIn K mainGlobals "family_of" = some (some (.ref f29))) (l29 : K.lookup f29 = some ⟨oc29, od29, .func (PySem.W.fnOf "family_of" "family_of" (defArgs (topS 29)) (defBody (topS 29)) (defScope (topS 29)) .none kV29 dc29 pm29 an29 cd29 ct29), sl29⟩) (c29 : PySem.W.codeIn K cd29 "family_of" = true) (k29 : PySem.W.keepIn K (.ref f29) = true)
    {f30 : Addr} {oc30 kV30 dc30 pm30 cd30 ct30 : Value} {od30 an30 : Option Addr} {sl30 : Array (Option Value)}
    (a30 : PySem.W.nsIn K mainGlobals "least_numbers" = some (some (.ref f30))) (l30 : K.lookup f30 = some ⟨oc30, od30, .func (PySem.W.fnOf "least_numbers" "least_numbers" (defArgs (topS 30)) (defBody (topS 30)) (defScope (topS 30)) .none kV30 dc30 pm30 an30 cd30 ct30), sl30⟩) (c30 : PySem.W.codeIn K cd30 "least_numbers" = true) (k30 : PySem.W.keepIn K (.ref f30) = true)
    {f31 : Addr} {oc31 kV31 dc31 pm31 cd31 ct31 : Value} {od31 an31 : Option Addr} {sl31 : Array (Option Value)}
    (a31 : PySem.W.nsIn K mainGlobals "least_of" = some (some (.ref f31))) (l31 : K.lookup f31 = some ⟨oc31, od31, .func (PySem.W.fnOf "least_of" "least_of" (defArgs (topS 31)) (defBody (topS 31)) (defScope (topS 31)) .none kV31 dc31 pm31 an31 cd31 ct31), sl31⟩) (c31 : PySem.W.codeIn K cd31 "least_of" = true) (k31 : PySem.W.keepIn K (.ref f31) = true)
    {f32 : Addr} {oc32 kV32 dc32 pm32 cd32 ct32 : Value} {od32 an32 : Option Addr} {sl32 : Array (Option Value)}
    (a32 : PySem.W.nsIn K mainGlobals "meets_of" = some (some (.ref f32))) (l32 : K.lookup f32 = some ⟨oc32, od32, .func (PySem.W.fnOf "meets_of" "meets_of" (defArgs (topS 32)) (defBody (topS 32)) (defScope (topS 32)) .none kV32 dc32 pm32 an32 cd32 ct32), sl32⟩) (c32 : PySem.W.codeIn K cd32 "meets_of" = true) (k32 : PySem.W.keepIn K (.ref f32) = true)
    {f37 : Addr} {oc37 kV37 dc37 pm37 cd37 ct37 : Value} {od37 an37 : Option Addr} {sl37 : Array (Option Value)}
    (a37 : PySem.W.nsIn K mainGlobals "is_system" = some (some (.ref f37))) (l37 : K.lookup f37 = some ⟨oc37, od37, .func (PySem.W.fnOf "is_system" "is_system" (defArgs (topS 37)) (defBody (topS 37)) (defScope (topS 37)) .none kV37 dc37 pm37 an37 cd37 ct37), sl37⟩) (c37 : PySem.W.codeIn K cd37 "is_system" = true) (k37 : PySem.W.keepIn K (.ref f37) = true)
    {f35 : Addr} {oc35 kV35 dc35 pm35 cd35 ct35 : Value} {od35 an35 : Option Addr} {sl35 : Array (Option Value)}
    (a35 : PySem.W.nsIn K mainGlobals "check_closed" = some (some (.ref f35))) (l35 : K.lookup f35 = some ⟨oc35, od35, .func (PySem.W.fnOf "check_closed" "check_closed" (defArgs (topS 35)) (defBody (topS 35)) (defScope (topS 35)) .none kV35 dc35 pm35 an35 cd35 ct35), sl35⟩) (c35 : PySem.W.codeIn K cd35 "check_closed" = true) (k35 : PySem.W.keepIn K (.ref f35) = true)
    {f39 : Addr} {oc39 kV39 dc39 pm39 cd39 ct39 : Value} {od39 an39 : Option Addr} {sl39 : Array (Option Value)}
    (a39 : PySem.W.nsIn K mainGlobals "first_around" = some (some (.ref f39))) (l39 : K.lookup f39 = some ⟨oc39, od39, .func (PySem.W.fnOf "first_around" "first_around" (defArgs (topS 39)) (defBody (topS 39)) (defScope (topS 39)) .none kV39 dc39 pm39 an39 cd39 ct39), sl39⟩) (c39 : PySem.W.codeIn K cd39 "first_around" = true) (k39 : PySem.W.keepIn K (.ref f39) = true)
    {f38 : Addr} {oc38 kV38 dc38 pm38 cd38 ct38 : Value} {od38 an38 : Option Addr} {sl38 : Array (Option Value)}
    (a38 : PySem.W.nsIn K mainGlobals "lots_around" = some (some (.ref f38))) (l38 : K.lookup f38 = some ⟨oc38, od38, .func (PySem.W.fnOf "lots_around" "lots_around" (defArgs (topS 38)) (defBody (topS 38)) (defScope (topS 38)) .none kV38 dc38 pm38 an38 cd38 ct38), sl38⟩) (c38 : PySem.W.codeIn K cd38 "lots_around" = true) (k38 : PySem.W.keepIn K (.ref f38) = true)
    {fc34_0 : Addr} {occ34_0 kVc34_0 dcc34_0 pmc34_0 cdc34_0 ctc34_0 : Value} {odc34_0 anc34_0 : Option Addr} {slc34_0 : Array (Option Value)}
    (ac34_0 : PySem.W.findIn K (.ref C) "__init__" = some (some (.ref fc34_0))) (bc34_0 : PySem.W.isFn K (.ref fc34_0) = true) (lc34_0 : K.lookup fc34_0 = some ⟨occ34_0, odc34_0, .func (PySem.W.fnOf "__init__" "Closer.__init__" (defArgs (topC 34 0)) (defBody (topC 34 0)) (defScope (topC 34 0)) .none kVc34_0 dcc34_0 pmc34_0 anc34_0 cdc34_0 ctc34_0), slc34_0⟩) (cc34_0 : PySem.W.codeIn K cdc34_0 "Closer.__init__" = true) (kc34_0 : PySem.W.keepIn K (.ref fc34_0) = true)
    {fc34_2 : Addr} {occ34_2 kVc34_2 dcc34_2 pmc34_2 cdc34_2 ctc34_2 : Value} {odc34_2 anc34_2 : Option Addr} {slc34_2 : Array (Option Value)}
    {pc34_2 : Addr} {restc34_2 : List Value} (ac34_2 : PySem.W.findIn K (.ref C) "things" = some (some (.ref pc34_2))) (bc34_2 : PySem.W.specialIn K (.ref pc34_2) "__get__" = some (some (.builtin "property.__get__"))) (tc34_2 : PySem.W.takesIn K (.ref pc34_2) = some true) (rc34_2 : PySem.W.recIn K pc34_2 "property" = some (.ref fc34_2 :: restc34_2)) (lc34_2 : K.lookup fc34_2 = some ⟨occ34_2, odc34_2, .func (PySem.W.fnOf "things" "Closer.things" (defArgs (topC 34 2)) (defBody (topC 34 2)) (defScope (topC 34 2)) .none kVc34_2 dcc34_2 pmc34_2 anc34_2 cdc34_2 ctc34_2), slc34_2⟩) (cc34_2 : PySem.W.codeIn K cdc34_2 "Closer.things" = true) (kc34_2 : PySem.W.keepIn K (.ref fc34_2) = true)
    {fc34_3 : Addr} {occ34_3 kVc34_3 dcc34_3 pmc34_3 cdc34_3 ctc34_3 : Value} {odc34_3 anc34_3 : Option Addr} {slc34_3 : Array (Option Value)}
    {pc34_3 : Addr} {restc34_3 : List Value} (ac34_3 : PySem.W.findIn K (.ref C) "closed" = some (some (.ref pc34_3))) (bc34_3 : PySem.W.specialIn K (.ref pc34_3) "__get__" = some (some (.builtin "property.__get__"))) (tc34_3 : PySem.W.takesIn K (.ref pc34_3) = some true) (rc34_3 : PySem.W.recIn K pc34_3 "property" = some (.ref fc34_3 :: restc34_3)) (lc34_3 : K.lookup fc34_3 = some ⟨occ34_3, odc34_3, .func (PySem.W.fnOf "closed" "Closer.closed" (defArgs (topC 34 3)) (defBody (topC 34 3)) (defScope (topC 34 3)) .none kVc34_3 dcc34_3 pmc34_3 anc34_3 cdc34_3 ctc34_3), slc34_3⟩) (cc34_3 : PySem.W.codeIn K cdc34_3 "Closer.closed" = true) (kc34_3 : PySem.W.keepIn K (.ref fc34_3) = true)
    {fc34_7 : Addr} {occ34_7 kVc34_7 dcc34_7 pmc34_7 cdc34_7 ctc34_7 : Value} {odc34_7 anc34_7 : Option Addr} {slc34_7 : Array (Option Value)}
    (ac34_7 : PySem.W.findIn K (.ref C) "around" = some (some (.ref fc34_7))) (bc34_7 : PySem.W.isFn K (.ref fc34_7) = true) (lc34_7 : K.lookup fc34_7 = some ⟨occ34_7, odc34_7, .func (PySem.W.fnOf "around" "Closer.around" (defArgs (topC 34 7)) (defBody (topC 34 7)) (defScope (topC 34 7)) .none kVc34_7 dcc34_7 pmc34_7 anc34_7 cdc34_7 ctc34_7), slc34_7⟩) (cc34_7 : PySem.W.codeIn K cdc34_7 "Closer.around" = true) (kc34_7 : PySem.W.keepIn K (.ref fc34_7) = true)
    {fc34_6 : Addr} {occ34_6 kVc34_6 dcc34_6 pmc34_6 cdc34_6 ctc34_6 : Value} {odc34_6 anc34_6 : Option Addr} {slc34_6 : Array (Option Value)}
    (ac34_6 : PySem.W.findIn K (.ref C) "__eq__" = some (some (.ref fc34_6))) (bc34_6 : PySem.W.isFn K (.ref fc34_6) = true) (lc34_6 : K.lookup fc34_6 = some ⟨occ34_6, odc34_6, .func (PySem.W.fnOf "__eq__" "Closer.__eq__" (defArgs (topC 34 6)) (defBody (topC 34 6)) (defScope (topC 34 6)) .none kVc34_6 dcc34_6 pmc34_6 anc34_6 cdc34_6 ctc34_6), slc34_6⟩) (cc34_6 : PySem.W.codeIn K cdc34_6 "Closer.__eq__" = true) (kc34_6 : PySem.W.keepIn K (.ref fc34_6) = true)
    {f36 : Addr} {oc36 kV36 dc36 pm36 cd36 ct36 : Value} {od36 an36 : Option Addr} {sl36 : Array (Option Value)}
    (a36 : PySem.W.nsIn K mainGlobals "check_closer" = some (some (.ref f36))) (l36 : K.lookup f36 = some ⟨oc36, od36, .func (PySem.W.fnOf "check_closer" "check_closer" (defArgs (topS 36)) (defBody (topS 36)) (defScope (topS 36)) .none kV36 dc36 pm36 an36 cd36 ct36), sl36⟩) (c36 : PySem.W.codeIn K cd36 "check_closer" = true) (k36 : PySem.W.keepIn K (.ref f36) = true)
    {f43 : Addr} {oc43 kV43 dc43 pm43 cd43 ct43 : Value} {od43 an43 : Option Addr} {sl43 : Array (Option Value)}
    (a43 : PySem.W.nsIn K mainGlobals "is_rule" = some (some (.ref f43))) (l43 : K.lookup f43 = some ⟨oc43, od43, .func (PySem.W.fnOf "is_rule" "is_rule" (defArgs (topS 43)) (defBody (topS 43)) (defScope (topS 43)) .none kV43 dc43 pm43 an43 cd43 ct43), sl43⟩) (c43 : PySem.W.codeIn K cd43 "is_rule" = true) (k43 : PySem.W.keepIn K (.ref f43) = true)
    {f44 : Addr} {oc44 kV44 dc44 pm44 cd44 ct44 : Value} {od44 an44 : Option Addr} {sl44 : Array (Option Value)}
    (a44 : PySem.W.nsIn K mainGlobals "wrong_rule" = some (some (.ref f44))) (l44 : K.lookup f44 = some ⟨oc44, od44, .func (PySem.W.fnOf "wrong_rule" "wrong_rule" (defArgs (topS 44)) (defBody (topS 44)) (defScope (topS 44)) .none kV44 dc44 pm44 an44 cd44 ct44), sl44⟩) (c44 : PySem.W.codeIn K cd44 "wrong_rule" = true) (k44 : PySem.W.keepIn K (.ref f44) = true)
    {f45 : Addr} {oc45 kV45 dc45 pm45 cd45 ct45 : Value} {od45 an45 : Option Addr} {sl45 : Array (Option Value)}
    (a45 : PySem.W.nsIn K mainGlobals "check_book" = some (some (.ref f45))) (l45 : K.lookup f45 = some ⟨oc45, od45, .func (PySem.W.fnOf "check_book" "check_book" (defArgs (topS 45)) (defBody (topS 45)) (defScope (topS 45)) .none kV45 dc45 pm45 an45 cd45 ct45), sl45⟩) (c45 : PySem.W.codeIn K cd45 "check_book" = true) (k45 : PySem.W.keepIn K (.ref f45) = true)
    {f46 : Addr} {oc46 kV46 dc46 pm46 cd46 ct46 : Value} {od46 an46 : Option Addr} {sl46 : Array (Option Value)}
    (a46 : PySem.W.nsIn K mainGlobals "by_rules" = some (some (.ref f46))) (l46 : K.lookup f46 = some ⟨oc46, od46, .func (PySem.W.fnOf "by_rules" "by_rules" (defArgs (topS 46)) (defBody (topS 46)) (defScope (topS 46)) .none kV46 dc46 pm46 an46 cd46 ct46), sl46⟩) (c46 : PySem.W.codeIn K cd46 "by_rules" = true) (k46 : PySem.W.keepIn K (.ref f46) = true)
    {f62 : Addr} {oc62 kV62 dc62 pm62 cd62 ct62 : Value} {od62 an62 : Option Addr} {sl62 : Array (Option Value)}
    (a62 : PySem.W.nsIn K mainGlobals "reasons_of" = some (some (.ref f62))) (l62 : K.lookup f62 = some ⟨oc62, od62, .func (PySem.W.fnOf "reasons_of" "reasons_of" (defArgs (topS 62)) (defBody (topS 62)) (defScope (topS 62)) .none kV62 dc62 pm62 an62 cd62 ct62), sl62⟩) (c62 : PySem.W.codeIn K cd62 "reasons_of" = true) (k62 : PySem.W.keepIn K (.ref f62) = true)
    {f63 : Addr} {oc63 kV63 dc63 pm63 cd63 ct63 : Value} {od63 an63 : Option Addr} {sl63 : Array (Option Value)}
    (a63 : PySem.W.nsIn K mainGlobals "reasons" = some (some (.ref f63))) (l63 : K.lookup f63 = some ⟨oc63, od63, .func (PySem.W.fnOf "reasons" "reasons" (defArgs (topS 63)) (defBody (topS 63)) (defScope (topS 63)) .none kV63 dc63 pm63 an63 cd63 ct63), sl63⟩) (c63 : PySem.W.codeIn K cd63 "reasons" = true) (k63 : PySem.W.keepIn K (.ref f63) = true)
    {f64 : Addr} {oc64 kV64 dc64 pm64 cd64 ct64 : Value} {od64 an64 : Option Addr} {sl64 : Array (Option Value)}
    (a64 : PySem.W.nsIn K mainGlobals "plain_book" = some (some (.ref f64))) (l64 : K.lookup f64 = some ⟨oc64, od64, .func (PySem.W.fnOf "plain_book" "plain_book" (defArgs (topS 64)) (defBody (topS 64)) (defScope (topS 64)) .none kV64 dc64 pm64 an64 cd64 ct64), sl64⟩) (c64 : PySem.W.codeIn K cd64 "plain_book" = true) (k64 : PySem.W.keepIn K (.ref f64) = true)
    {f48 : Addr} {oc48 kV48 dc48 pm48 cd48 ct48 : Value} {od48 an48 : Option Addr} {sl48 : Array (Option Value)}
    (a48 : PySem.W.nsIn K mainGlobals "check_rule" = some (some (.ref f48))) (l48 : K.lookup f48 = some ⟨oc48, od48, .func (PySem.W.fnOf "check_rule" "check_rule" (defArgs (topS 48)) (defBody (topS 48)) (defScope (topS 48)) .none kV48 dc48 pm48 an48 cd48 ct48), sl48⟩) (c48 : PySem.W.codeIn K cd48 "check_rule" = true) (k48 : PySem.W.keepIn K (.ref f48) = true)
    {f49 : Addr} {oc49 kV49 dc49 pm49 cd49 ct49 : Value} {od49 an49 : Option Addr} {sl49 : Array (Option Value)}
    (a49 : PySem.W.nsIn K mainGlobals "keeps" = some (some (.ref f49))) (l49 : K.lookup f49 = some ⟨oc49, od49, .func (PySem.W.fnOf "keeps" "keeps" (defArgs (topS 49)) (defBody (topS 49)) (defScope (topS 49)) .none kV49 dc49 pm49 an49 cd49 ct49), sl49⟩) (c49 : PySem.W.codeIn K cd49 "keeps" = true) (k49 : PySem.W.keepIn K (.ref f49) = true)
    {f52 : Addr} {oc52 kV52 dc52 pm52 cd52 ct52 : Value} {od52 an52 : Option Addr} {sl52 : Array (Option Value)}
    (a52 : PySem.W.nsIn K mainGlobals "holds" = some (some (.ref f52))) (l52 : K.lookup f52 = some ⟨oc52, od52, .func (PySem.W.fnOf "holds" "holds" (defArgs (topS 52)) (defBody (topS 52)) (defScope (topS 52)) .none kV52 dc52 pm52 an52 cd52 ct52), sl52⟩) (c52 : PySem.W.codeIn K cd52 "holds" = true) (k52 : PySem.W.keepIn K (.ref f52) = true)
    {f50 : Addr} {oc50 kV50 dc50 pm50 cd50 ct50 : Value} {od50 an50 : Option Addr} {sl50 : Array (Option Value)}
    (a50 : PySem.W.nsIn K mainGlobals "first_broken" = some (some (.ref f50))) (l50 : K.lookup f50 = some ⟨oc50, od50, .func (PySem.W.fnOf "first_broken" "first_broken" (defArgs (topS 50)) (defBody (topS 50)) (defScope (topS 50)) .none kV50 dc50 pm50 an50 cd50 ct50), sl50⟩) (c50 : PySem.W.codeIn K cd50 "first_broken" = true) (k50 : PySem.W.keepIn K (.ref f50) = true)
    {f51 : Addr} {oc51 kV51 dc51 pm51 cd51 ct51 : Value} {od51 an51 : Option Addr} {sl51 : Array (Option Value)}
    (a51 : PySem.W.nsIn K mainGlobals "led_on" = some (some (.ref f51))) (l51 : K.lookup f51 = some ⟨oc51, od51, .func (PySem.W.fnOf "led_on" "led_on" (defArgs (topS 51)) (defBody (topS 51)) (defScope (topS 51)) .none kV51 dc51 pm51 an51 cd51 ct51), sl51⟩) (c51 : PySem.W.codeIn K cd51 "led_on" = true) (k51 : PySem.W.keepIn K (.ref f51) = true)
    {f53 : Addr} {oc53 kV53 dc53 pm53 cd53 ct53 : Value} {od53 an53 : Option Addr} {sl53 : Array (Option Value)}
    (a53 : PySem.W.nsIn K mainGlobals "around_by" = some (some (.ref f53))) (l53 : K.lookup f53 = some ⟨oc53, od53, .func (PySem.W.fnOf "around_by" "around_by" (defArgs (topS 53)) (defBody (topS 53)) (defScope (topS 53)) .none kV53 dc53 pm53 an53 cd53 ct53), sl53⟩) (c53 : PySem.W.codeIn K cd53 "around_by" = true) (k53 : PySem.W.keepIn K (.ref f53) = true)
    {f54 : Addr} {oc54 kV54 dc54 pm54 cd54 ct54 : Value} {od54 an54 : Option Addr} {sl54 : Array (Option Value)}
    (a54 : PySem.W.nsIn K mainGlobals "steps" = some (some (.ref f54))) (l54 : K.lookup f54 = some ⟨oc54, od54, .func (PySem.W.fnOf "steps" "steps" (defArgs (topS 54)) (defBody (topS 54)) (defScope (topS 54)) .none kV54 dc54 pm54 an54 cd54 ct54), sl54⟩) (c54 : PySem.W.codeIn K cd54 "steps" = true) (k54 : PySem.W.keepIn K (.ref f54) = true)
    {f55 : Addr} {oc55 kV55 dc55 pm55 cd55 ct55 : Value} {od55 an55 : Option Addr} {sl55 : Array (Option Value)}
    (a55 : PySem.W.nsIn K mainGlobals "follows" = some (some (.ref f55))) (l55 : K.lookup f55 = some ⟨oc55, od55, .func (PySem.W.fnOf "follows" "follows" (defArgs (topS 55)) (defBody (topS 55)) (defScope (topS 55)) .none kV55 dc55 pm55 an55 cd55 ct55), sl55⟩) (c55 : PySem.W.codeIn K cd55 "follows" = true) (k55 : PySem.W.keepIn K (.ref f55) = true)
    {fc34_8 : Addr} {occ34_8 kVc34_8 dcc34_8 pmc34_8 cdc34_8 ctc34_8 : Value} {odc34_8 anc34_8 : Option Addr} {slc34_8 : Array (Option Value)}
    (ac34_8 : PySem.W.findIn K (.ref C) "is_closed" = some (some (.ref fc34_8))) (bc34_8 : PySem.W.isFn K (.ref fc34_8) = true) (lc34_8 : K.lookup fc34_8 = some ⟨occ34_8, odc34_8, .func (PySem.W.fnOf "is_closed" "Closer.is_closed" (defArgs (topC 34 8)) (defBody (topC 34 8)) (defScope (topC 34 8)) .none kVc34_8 dcc34_8 pmc34_8 anc34_8 cdc34_8 ctc34_8), slc34_8⟩) (cc34_8 : PySem.W.codeIn K cdc34_8 "Closer.is_closed" = true) (kc34_8 : PySem.W.keepIn K (.ref fc34_8) = true)
    {f57 : Addr} {oc57 kV57 dc57 pm57 cd57 ct57 : Value} {od57 an57 : Option Addr} {sl57 : Array (Option Value)}
    (a57 : PySem.W.nsIn K mainGlobals "stem_of" = some (some (.ref f57))) (l57 : K.lookup f57 = some ⟨oc57, od57, .func (PySem.W.fnOf "stem_of" "stem_of" (defArgs (topS 57)) (defBody (topS 57)) (defScope (topS 57)) .none kV57 dc57 pm57 an57 cd57 ct57), sl57⟩) (c57 : PySem.W.codeIn K cd57 "stem_of" = true) (k57 : PySem.W.keepIn K (.ref f57) = true)
    {f58 : Addr} {oc58 kV58 dc58 pm58 cd58 ct58 : Value} {od58 an58 : Option Addr} {sl58 : Array (Option Value)}
    (a58 : PySem.W.nsIn K mainGlobals "stem" = some (some (.ref f58))) (l58 : K.lookup f58 = some ⟨oc58, od58, .func (PySem.W.fnOf "stem" "stem" (defArgs (topS 58)) (defBody (topS 58)) (defScope (topS 58)) .none kV58 dc58 pm58 an58 cd58 ct58), sl58⟩) (c58 : PySem.W.codeIn K cd58 "stem" = true) (k58 : PySem.W.keepIn K (.ref f58) = true)
    {fc34_5 : Addr} {occ34_5 kVc34_5 dcc34_5 pmc34_5 cdc34_5 ctc34_5 : Value} {odc34_5 anc34_5 : Option Addr} {slc34_5 : Array (Option Value)}
    (ac34_5 : PySem.W.findIn K (.ref C) "__len__" = some (some (.ref fc34_5))) (bc34_5 : PySem.W.isFn K (.ref fc34_5) = true) (lc34_5 : K.lookup fc34_5 = some ⟨occ34_5, odc34_5, .func (PySem.W.fnOf "__len__" "Closer.__len__" (defArgs (topC 34 5)) (defBody (topC 34 5)) (defScope (topC 34 5)) .none kVc34_5 dcc34_5 pmc34_5 anc34_5 cdc34_5 ctc34_5), slc34_5⟩) (cc34_5 : PySem.W.codeIn K cdc34_5 "Closer.__len__" = true) (kc34_5 : PySem.W.keepIn K (.ref fc34_5) = true)
    {f59 : Addr} {oc59 kV59 dc59 pm59 cd59 ct59 : Value} {od59 an59 : Option Addr} {sl59 : Array (Option Value)}
    (a59 : PySem.W.nsIn K mainGlobals "is_of" = some (some (.ref f59))) (l59 : K.lookup f59 = some ⟨oc59, od59, .func (PySem.W.fnOf "is_of" "is_of" (defArgs (topS 59)) (defBody (topS 59)) (defScope (topS 59)) .none kV59 dc59 pm59 an59 cd59 ct59), sl59⟩) (c59 : PySem.W.codeIn K cd59 "is_of" = true) (k59 : PySem.W.keepIn K (.ref f59) = true)
    {f60 : Addr} {oc60 kV60 dc60 pm60 cd60 ct60 : Value} {od60 an60 : Option Addr} {sl60 : Array (Option Value)}
    (a60 : PySem.W.nsIn K mainGlobals "is_needless" = some (some (.ref f60))) (l60 : K.lookup f60 = some ⟨oc60, od60, .func (PySem.W.fnOf "is_needless" "is_needless" (defArgs (topS 60)) (defBody (topS 60)) (defScope (topS 60)) .none kV60 dc60 pm60 an60 cd60 ct60), sl60⟩) (c60 : PySem.W.codeIn K cd60 "is_needless" = true) (k60 : PySem.W.keepIn K (.ref f60) = true)
    {f61 : Addr} {oc61 kV61 dc61 pm61 cd61 ct61 : Value} {od61 an61 : Option Addr} {sl61 : Array (Option Value)}
    (a61 : PySem.W.nsIn K mainGlobals "needless" = some (some (.ref f61))) (l61 : K.lookup f61 = some ⟨oc61, od61, .func (PySem.W.fnOf "needless" "needless" (defArgs (topS 61)) (defBody (topS 61)) (defScope (topS 61)) .none kV61 dc61 pm61 an61 cd61 ct61), sl61⟩) (c61 : PySem.W.codeIn K cd61 "needless" = true) (k61 : PySem.W.keepIn K (.ref f61) = true)
    {f66 : Addr} {oc66 kV66 dc66 pm66 cd66 ct66 : Value} {od66 an66 : Option Addr} {sl66 : Array (Option Value)}
    (a66 : PySem.W.nsIn K mainGlobals "_law_hopper" = some (some (.ref f66))) (l66 : K.lookup f66 = some ⟨oc66, od66, .func (PySem.W.fnOf "_law_hopper" "_law_hopper" (defArgs (topS 66)) (defBody (topS 66)) (defScope (topS 66)) .none kV66 dc66 pm66 an66 cd66 ct66), sl66⟩) (c66 : PySem.W.codeIn K cd66 "_law_hopper" = true) (k66 : PySem.W.keepIn K (.ref f66) = true)
    {f67 : Addr} {oc67 kV67 dc67 pm67 cd67 ct67 : Value} {od67 an67 : Option Addr} {sl67 : Array (Option Value)}
    (a67 : PySem.W.nsIn K mainGlobals "_law_spill" = some (some (.ref f67))) (l67 : K.lookup f67 = some ⟨oc67, od67, .func (PySem.W.fnOf "_law_spill" "_law_spill" (defArgs (topS 67)) (defBody (topS 67)) (defScope (topS 67)) .none kV67 dc67 pm67 an67 cd67 ct67), sl67⟩) (c67 : PySem.W.codeIn K cd67 "_law_spill" = true) (k67 : PySem.W.keepIn K (.ref f67) = true)
    {f68 : Addr} {oc68 kV68 dc68 pm68 cd68 ct68 : Value} {od68 an68 : Option Addr} {sl68 : Array (Option Value)}
    (a68 : PySem.W.nsIn K mainGlobals "_law_out_of" = some (some (.ref f68))) (l68 : K.lookup f68 = some ⟨oc68, od68, .func (PySem.W.fnOf "_law_out_of" "_law_out_of" (defArgs (topS 68)) (defBody (topS 68)) (defScope (topS 68)) .none kV68 dc68 pm68 an68 cd68 ct68), sl68⟩) (c68 : PySem.W.codeIn K cd68 "_law_out_of" = true) (k68 : PySem.W.keepIn K (.ref f68) = true)
    {f69 : Addr} {oc69 kV69 dc69 pm69 cd69 ct69 : Value} {od69 an69 : Option Addr} {sl69 : Array (Option Value)}
    (a69 : PySem.W.nsIn K mainGlobals "_law_tags" = some (some (.ref f69))) (l69 : K.lookup f69 = some ⟨oc69, od69, .func (PySem.W.fnOf "_law_tags" "_law_tags" (defArgs (topS 69)) (defBody (topS 69)) (defScope (topS 69)) .none kV69 dc69 pm69 an69 cd69 ct69), sl69⟩) (c69 : PySem.W.codeIn K cd69 "_law_tags" = true) (k69 : PySem.W.keepIn K (.ref f69) = true)
    {f70 : Addr} {oc70 kV70 dc70 pm70 cd70 ct70 : Value} {od70 an70 : Option Addr} {sl70 : Array (Option Value)}
    (a70 : PySem.W.nsIn K mainGlobals "_law_bag" = some (some (.ref f70))) (l70 : K.lookup f70 = some ⟨oc70, od70, .func (PySem.W.fnOf "_law_bag" "_law_bag" (defArgs (topS 70)) (defBody (topS 70)) (defScope (topS 70)) .none kV70 dc70 pm70 an70 cd70 ct70), sl70⟩) (c70 : PySem.W.codeIn K cd70 "_law_bag" = true) (k70 : PySem.W.keepIn K (.ref f70) = true)
    {f71 : Addr} {oc71 kV71 dc71 pm71 cd71 ct71 : Value} {od71 an71 : Option Addr} {sl71 : Array (Option Value)}
    (a71 : PySem.W.nsIn K mainGlobals "_law_bags" = some (some (.ref f71))) (l71 : K.lookup f71 = some ⟨oc71, od71, .func (PySem.W.fnOf "_law_bags" "_law_bags" (defArgs (topS 71)) (defBody (topS 71)) (defScope (topS 71)) .none kV71 dc71 pm71 an71 cd71 ct71), sl71⟩) (c71 : PySem.W.codeIn K cd71 "_law_bags" = true) (k71 : PySem.W.keepIn K (.ref f71) = true)
    {f72 : Addr} {oc72 kV72 dc72 pm72 cd72 ct72 : Value} {od72 an72 : Option Addr} {sl72 : Array (Option Value)}
    (a72 : PySem.W.nsIn K mainGlobals "_law_in" = some (some (.ref f72))) (l72 : K.lookup f72 = some ⟨oc72, od72, .func (PySem.W.fnOf "_law_in" "_law_in" (defArgs (topS 72)) (defBody (topS 72)) (defScope (topS 72)) .none kV72 dc72 pm72 an72 cd72 ct72), sl72⟩) (c72 : PySem.W.codeIn K cd72 "_law_in" = true) (k72 : PySem.W.keepIn K (.ref f72) = true)
    {f73 : Addr} {oc73 kV73 dc73 pm73 cd73 ct73 : Value} {od73 an73 : Option Addr} {sl73 : Array (Option Value)}
    (a73 : PySem.W.nsIn K mainGlobals "_law_both" = some (some (.ref f73))) (l73 : K.lookup f73 = some ⟨oc73, od73, .func (PySem.W.fnOf "_law_both" "_law_both" (defArgs (topS 73)) (defBody (topS 73)) (defScope (topS 73)) .none kV73 dc73 pm73 an73 cd73 ct73), sl73⟩) (c73 : PySem.W.codeIn K cd73 "_law_both" = true) (k73 : PySem.W.keepIn K (.ref f73) = true)
    {f74 : Addr} {oc74 kV74 dc74 pm74 cd74 ct74 : Value} {od74 an74 : Option Addr} {sl74 : Array (Option Value)}
    (a74 : PySem.W.nsIn K mainGlobals "_law_any" = some (some (.ref f74))) (l74 : K.lookup f74 = some ⟨oc74, od74, .func (PySem.W.fnOf "_law_any" "_law_any" (defArgs (topS 74)) (defBody (topS 74)) (defScope (topS 74)) .none kV74 dc74 pm74 an74 cd74 ct74), sl74⟩) (c74 : PySem.W.codeIn K cd74 "_law_any" = true) (k74 : PySem.W.keepIn K (.ref f74) = true)
    {f75 : Addr} {oc75 kV75 dc75 pm75 cd75 ct75 : Value} {od75 an75 : Option Addr} {sl75 : Array (Option Value)}
    (a75 : PySem.W.nsIn K mainGlobals "_law_about" = some (some (.ref f75))) (l75 : K.lookup f75 = some ⟨oc75, od75, .func (PySem.W.fnOf "_law_about" "_law_about" (defArgs (topS 75)) (defBody (topS 75)) (defScope (topS 75)) .none kV75 dc75 pm75 an75 cd75 ct75), sl75⟩) (c75 : PySem.W.codeIn K cd75 "_law_about" = true) (k75 : PySem.W.keepIn K (.ref f75) = true)
    {f76 : Addr} {oc76 kV76 dc76 pm76 cd76 ct76 : Value} {od76 an76 : Option Addr} {sl76 : Array (Option Value)}
    (a76 : PySem.W.nsIn K mainGlobals "_law_met" = some (some (.ref f76))) (l76 : K.lookup f76 = some ⟨oc76, od76, .func (PySem.W.fnOf "_law_met" "_law_met" (defArgs (topS 76)) (defBody (topS 76)) (defScope (topS 76)) .none kV76 dc76 pm76 an76 cd76 ct76), sl76⟩) (c76 : PySem.W.codeIn K cd76 "_law_met" = true) (k76 : PySem.W.keepIn K (.ref f76) = true)
    {f77 : Addr} {oc77 kV77 dc77 pm77 cd77 ct77 : Value} {od77 an77 : Option Addr} {sl77 : Array (Option Value)}
    (a77 : PySem.W.nsIn K mainGlobals "_law_keeping" = some (some (.ref f77))) (l77 : K.lookup f77 = some ⟨oc77, od77, .func (PySem.W.fnOf "_law_keeping" "_law_keeping" (defArgs (topS 77)) (defBody (topS 77)) (defScope (topS 77)) .none kV77 dc77 pm77 an77 cd77 ct77), sl77⟩) (c77 : PySem.W.codeIn K cd77 "_law_keeping" = true) (k77 : PySem.W.keepIn K (.ref f77) = true)
    {f78 : Addr} {oc78 kV78 dc78 pm78 cd78 ct78 : Value} {od78 an78 : Option Addr} {sl78 : Array (Option Value)}
    (a78 : PySem.W.nsIn K mainGlobals "_law_rules" = some (some (.ref f78))) (l78 : K.lookup f78 = some ⟨oc78, od78, .func (PySem.W.fnOf "_law_rules" "_law_rules" (defArgs (topS 78)) (defBody (topS 78)) (defScope (topS 78)) .none kV78 dc78 pm78 an78 cd78 ct78), sl78⟩) (c78 : PySem.W.codeIn K cd78 "_law_rules" = true) (k78 : PySem.W.keepIn K (.ref f78) = true)
    {f79 : Addr} {oc79 kV79 dc79 pm79 cd79 ct79 : Value} {od79 an79 : Option Addr} {sl79 : Array (Option Value)}
    (a79 : PySem.W.nsIn K mainGlobals "_law_joined" = some (some (.ref f79))) (l79 : K.lookup f79 = some ⟨oc79, od79, .func (PySem.W.fnOf "_law_joined" "_law_joined" (defArgs (topS 79)) (defBody (topS 79)) (defScope (topS 79)) .none kV79 dc79 pm79 an79 cd79 ct79), sl79⟩) (c79 : PySem.W.codeIn K cd79 "_law_joined" = true) (k79 : PySem.W.keepIn K (.ref f79) = true)
    {f80 : Addr} {oc80 kV80 dc80 pm80 cd80 ct80 : Value} {od80 an80 : Option Addr} {sl80 : Array (Option Value)}
    (a80 : PySem.W.nsIn K mainGlobals "_law_world" = some (some (.ref f80))) (l80 : K.lookup f80 = some ⟨oc80, od80, .func (PySem.W.fnOf "_law_world" "_law_world" (defArgs (topS 80)) (defBody (topS 80)) (defScope (topS 80)) .none kV80 dc80 pm80 an80 cd80 ct80), sl80⟩) (c80 : PySem.W.codeIn K cd80 "_law_world" = true) (k80 : PySem.W.keepIn K (.ref f80) = true)
    {f81 : Addr} {oc81 kV81 dc81 pm81 cd81 ct81 : Value} {od81 an81 : Option Addr} {sl81 : Array (Option Value)}
    (a81 : PySem.W.nsIn K mainGlobals "_law_looked" = some (some (.ref f81))) (l81 : K.lookup f81 = some ⟨oc81, od81, .func (PySem.W.fnOf "_law_looked" "_law_looked" (defArgs (topS 81)) (defBody (topS 81)) (defScope (topS 81)) .none kV81 dc81 pm81 an81 cd81 ct81), sl81⟩) (c81 : PySem.W.codeIn K cd81 "_law_looked" = true) (k81 : PySem.W.keepIn K (.ref f81) = true)
    {f82 : Addr} {oc82 kV82 dc82 pm82 cd82 ct82 : Value} {od82 an82 : Option Addr} {sl82 : Array (Option Value)}
    (a82 : PySem.W.nsIn K mainGlobals "_law_leaner" = some (some (.ref f82))) (l82 : K.lookup f82 = some ⟨oc82, od82, .func (PySem.W.fnOf "_law_leaner" "_law_leaner" (defArgs (topS 82)) (defBody (topS 82)) (defScope (topS 82)) .none kV82 dc82 pm82 an82 cd82 ct82), sl82⟩) (c82 : PySem.W.codeIn K cd82 "_law_leaner" = true) (k82 : PySem.W.keepIn K (.ref f82) = true)
    {f83 : Addr} {oc83 kV83 dc83 pm83 cd83 ct83 : Value} {od83 an83 : Option Addr} {sl83 : Array (Option Value)}
    (a83 : PySem.W.nsIn K mainGlobals "_law_used" = some (some (.ref f83))) (l83 : K.lookup f83 = some ⟨oc83, od83, .func (PySem.W.fnOf "_law_used" "_law_used" (defArgs (topS 83)) (defBody (topS 83)) (defScope (topS 83)) .none kV83 dc83 pm83 an83 cd83 ct83), sl83⟩) (c83 : PySem.W.codeIn K cd83 "_law_used" = true) (k83 : PySem.W.keepIn K (.ref f83) = true)
    {f84 : Addr} {oc84 kV84 dc84 pm84 cd84 ct84 : Value} {od84 an84 : Option Addr} {sl84 : Array (Option Value)}
    (a84 : PySem.W.nsIn K mainGlobals "_law_right" = some (some (.ref f84))) (l84 : K.lookup f84 = some ⟨oc84, od84, .func (PySem.W.fnOf "_law_right" "_law_right" (defArgs (topS 84)) (defBody (topS 84)) (defScope (topS 84)) .none kV84 dc84 pm84 an84 cd84 ct84), sl84⟩) (c84 : PySem.W.codeIn K cd84 "_law_right" = true) (k84 : PySem.W.keepIn K (.ref f84) = true)
    {f85 : Addr} {oc85 kV85 dc85 pm85 cd85 ct85 : Value} {od85 an85 : Option Addr} {sl85 : Array (Option Value)}
    (a85 : PySem.W.nsIn K mainGlobals "law" = some (some (.ref f85))) (l85 : K.lookup f85 = some ⟨oc85, od85, .func (PySem.W.fnOf "law" "law" (defArgs (topS 85)) (defBody (topS 85)) (defScope (topS 85)) .none kV85 dc85 pm85 an85 cd85 ct85), sl85⟩) (c85 : PySem.W.codeIn K cd85 "law" = true) (k85 : PySem.W.keepIn K (.ref f85) = true)
    (z_len : PySem.W.nsIn K mainGlobals "len" = some none)
    (z_all : PySem.W.nsIn K mainGlobals "all" = some none)
    (z_any : PySem.W.nsIn K mainGlobals "any" = some none)
    (z_abs : PySem.W.nsIn K mainGlobals "abs" = some none)
    (z_int : PySem.W.nsIn K mainGlobals "int" = some none)
    (z_min : PySem.W.nsIn K mainGlobals "min" = some none)
    (z_max : PySem.W.nsIn K mainGlobals "max" = some none)
    (z_tuple : PySem.W.nsIn K mainGlobals "tuple" = some none)
    (z_repr : PySem.W.nsIn K mainGlobals "repr" = some none)
    (z_isinstance : PySem.W.nsIn K mainGlobals "isinstance" = some none)
    (z_str : PySem.W.nsIn K mainGlobals "str" = some none)
    (z_range : PySem.W.nsIn K mainGlobals "range" = some none)
    (z_enumerate : PySem.W.nsIn K mainGlobals "enumerate" = some none)
    (z_sorted : PySem.W.nsIn K mainGlobals "sorted" = some none)
    (z_set : PySem.W.nsIn K mainGlobals "set" = some none)
    (z_list : PySem.W.nsIn K mainGlobals "list" = some none)
    (z_divmod : PySem.W.nsIn K mainGlobals "divmod" = some none)
    (z_dict : PySem.W.nsIn K mainGlobals "dict" = some none)
    {tk_MOST_THINGS : Tok} (c_MOST_THINGS : PySem.W.nsIn K mainGlobals "MOST_THINGS" = some (some (.int 7 tk_MOST_THINGS)))
    {tk_MOST_RULES : Tok} (c_MOST_RULES : PySem.W.nsIn K mainGlobals "MOST_RULES" = some (some (.int 200 tk_MOST_RULES)))
    : ∃ fd : FuncData, (∀ (s : Shared) (v : Value), BindsTo s fd ⟨[v], []⟩ [("_law_script", v)]) ∧ ∀ b : Heap, K.In b → b.Ns mainGlobals mg → GnOk P w K mg b 12 fa fd ["_law_script"] (spF K m_law) := by
  obtain ⟨fd, h1, h2⟩ := law_df (P := P) (w := w) (top_mk X G aC pg hd po sa mk kc n1 n2 n3 i1 i2 i3 i4 ⟨_, _, _, _, _, _, _, _, _, _, a14, l14, c14, k14⟩ ⟨_, _, _, _, _, _, _, _, _, _, a15, l15, c15, k15⟩ ⟨_, _, _, _, _, _, _, _, _, _, a16, l16, c16, k16⟩ ⟨_, _, _, _, _, _, _, _, _, _, a17, l17, c17, k17⟩ ⟨_, _, _, _, _, _, _, _, _, _, a24, l24, c24, k24⟩ ⟨_, _, _, _, _, _, _, _, _, _, a18, l18, c18, k18⟩ ⟨_, _, _, _, _, _, _, _, _, _, a19, l19, c19, k19⟩ ⟨_, _, _, _, _, _, _, _, _, _, a20, l20, c20, k20⟩ ⟨_, _, _, _, _, _, _, _, _, _, a21, l21, c21, k21⟩ ⟨_, _, _, _, _, _, _, _, _, _, a22, l22, c22, k22⟩ ⟨_, _, _, _, _, _, _, _, _, _, a23, l23, c23, k23⟩ ⟨_, _, _, _, _, _, _, _, _, _, a25, l25, c25, k25⟩ ⟨_, _, _, _, _, _, _, _, _, _, a26, l26, c26, k26⟩ ⟨_, _, _, _, _, _, _, _, _, _, a27, l27, c27, k27⟩ ⟨_, _, _, _, _, _, _, _, _, _, a28, l28, c28, k28⟩ ⟨_, _, _, _, _, _, _, _, _, _, a29, l29, c29, k29⟩ ⟨_, _, _, _, _, _, _, _, _, _, a30, l30, c30, k30⟩ ⟨_, _, _, _, _, _, _, _, _, _, a31, l31, c31, k31⟩ ⟨_, _, _, _, _, _, _, _, _, _, a32, l32, c32, k32⟩ ⟨_, _, _, _, _, _, _, _, _, _, a37, l37, c37, k37⟩ ⟨_, _, _, _, _, _, _, _, _, _, a35, l35, c35, k35⟩ ⟨_, _, _, _, _, _, _, _, _, _, a39, l39, c39, k39⟩ ⟨_, _, _, _, _, _, _, _, _, _, a38, l38, c38, k38⟩ ⟨_, _, _, _, _, _, _, _, _, _, ac34_0, bc34_0, lc34_0, cc34_0, kc34_0⟩ ⟨_, _, _, _, _, _, _, _, _, _, _, _, ac34_2, bc34_2, tc34_2, rc34_2, lc34_2, cc34_2, kc34_2⟩ ⟨_, _, _, _, _, _, _, _, _, _, _, _, ac34_3, bc34_3, tc34_3, rc34_3, lc34_3, cc34_3, kc34_3⟩ ⟨_, _, _, _, _, _, _, _, _, _, ac34_7, bc34_7, lc34_7, cc34_7, kc34_7⟩ ⟨_, _, _, _, _, _, _, _, _, _, ac34_6, bc34_6, lc34_6, cc34_6, kc34_6⟩ ⟨_, _, _, _, _, _, _, _, _, _, a36, l36, c36, k36⟩ ⟨_, _, _, _, _, _, _, _, _, _, a43, l43, c43, k43⟩ ⟨_, _, _, _, _, _, _, _, _, _, a44, l44, c44, k44⟩ ⟨_, _, _, _, _, _, _, _, _, _, a45, l45, c45, k45⟩ ⟨_, _, _, _, _, _, _, _, _, _, a46, l46, c46, k46⟩ ⟨_, _, _, _, _, _, _, _, _, _, a62, l62, c62, k62⟩ ⟨_, _, _, _, _, _, _, _, _, _, a63, l63, c63, k63⟩ ⟨_, _, _, _, _, _, _, _, _, _, a64, l64, c64, k64⟩ ⟨_, _, _, _, _, _, _, _, _, _, a48, l48, c48, k48⟩ ⟨_, _, _, _, _, _, _, _, _, _, a49, l49, c49, k49⟩ ⟨_, _, _, _, _, _, _, _, _, _, a52, l52, c52, k52⟩ ⟨_, _, _, _, _, _, _, _, _, _, a50, l50, c50, k50⟩ ⟨_, _, _, _, _, _, _, _, _, _, a51, l51, c51, k51⟩ ⟨_, _, _, _, _, _, _, _, _, _, a53, l53, c53, k53⟩ ⟨_, _, _, _, _, _, _, _, _, _, a54, l54, c54, k54⟩ ⟨_, _, _, _, _, _, _, _, _, _, a55, l55, c55, k55⟩ ⟨_, _, _, _, _, _, _, _, _, _, ac34_8, bc34_8, lc34_8, cc34_8, kc34_8⟩ ⟨_, _, _, _, _, _, _, _, _, _, a57, l57, c57, k57⟩ ⟨_, _, _, _, _, _, _, _, _, _, a58, l58, c58, k58⟩ ⟨_, _, _, _, _, _, _, _, _, _, ac34_5, bc34_5, lc34_5, cc34_5, kc34_5⟩ ⟨_, _, _, _, _, _, _, _, _, _, a59, l59, c59, k59⟩ ⟨_, _, _, _, _, _, _, _, _, _, a60, l60, c60, k60⟩ ⟨_, _, _, _, _, _, _, _, _, _, a61, l61, c61, k61⟩ ⟨_, _, _, _, _, _, _, _, _, _, a66, l66, c66, k66⟩ ⟨_, _, _, _, _, _, _, _, _, _, a67, l67, c67, k67⟩ ⟨_, _, _, _, _, _, _, _, _, _, a68, l68, c68, k68⟩ ⟨_, _, _, _, _, _, _, _, _, _, a69, l69, c69, k69⟩ ⟨_, _, _, _, _, _, _, _, _, _, a70, l70, c70, k70⟩ ⟨_, _, _, _, _, _, _, _, _, _, a71, l71, c71, k71⟩ ⟨_, _, _, _, _, _, _, _, _, _, a72, l72, c72, k72⟩ ⟨_, _, _, _, _, _, _, _, _, _, a73, l73, c73, k73⟩ ⟨_, _, _, _, _, _, _, _, _, _, a74, l74, c74, k74⟩ ⟨_, _, _, _, _, _, _, _, _, _, a75, l75, c75, k75⟩ ⟨_, _, _, _, _, _, _, _, _, _, a76, l76, c76, k76⟩ ⟨_, _, _, _, _, _, _, _, _, _, a77, l77, c77, k77⟩ ⟨_, _, _, _, _, _, _, _, _, _, a78, l78, c78, k78⟩ ⟨_, _, _, _, _, _, _, _, _, _, a79, l79, c79, k79⟩ ⟨_, _, _, _, _, _, _, _, _, _, a80, l80, c80, k80⟩ ⟨_, _, _, _, _, _, _, _, _, _, a81, l81, c81, k81⟩ ⟨_, _, _, _, _, _, _, _, _, _, a82, l82, c82, k82⟩ ⟨_, _, _, _, _, _, _, _, _, _, a83, l83, c83, k83⟩ ⟨_, _, _, _, _, _, _, _, _, _, a84, l84, c84, k84⟩ ⟨_, _, _, _, _, _, _, _, _, _, a85, l85, c85, k85⟩ z_len z_all z_any z_abs z_int z_min z_max z_tuple z_repr z_isinstance z_str z_range z_enumerate z_sorted z_set z_list z_divmod z_dict c_MOST_THINGS c_MOST_RULES) hm
  exact ⟨fd, h1, fun b _ _ => h2 b⟩
end K67
open PySem PySem.W PyProof.Rows
set_option maxHeartbeats 0 in
theorem PySem.Challenge.cw_closerworks_k67_whole_books_by_one_look_holds : PySem.Challenge.rw_closerworks_k67_whole_books_by_one_look.Holds := by
  w_on; o_law; k_head; (case hw => w_witness2)
  k_fill
  refine Vx.vwalk (l := PySem.Challenge.rw_closerworks_k67_whole_books_by_one_look) (n := 63) (k := 12) (x := "_law_script") (m := K67.m_law) rfl (by decide) rfl ⟨rfl, by decide, by decide⟩ (fun w h Y => PySem.W.kIn_of Y) ?F K67.ans
  case F =>
    intro w mg fa h KX G hmg
    refine' K67.law_top KX G hmg ?aC ?pg ?hd ?po ?sa ?mk ?kc ?n1 ?n2 ?n3 ?i1 ?i2 ?i3 ?i4 ?a14 ?l14 ?c14 ?k14 ?a15 ?l15 ?c15 ?k15 ?a16 ?l16 ?c16 ?k16 ?a17 ?l17 ?c17 ?k17 ?a24 ?l24 ?c24 ?k24 ?a18 ?l18 ?c18 ?k18 ?a19 ?l19 ?c19 ?k19 ?a20 ?l20 ?c20 ?k20 ?a21 ?l21 ?c21 ?k21 ?a22 ?l22 ?c22 ?k22 ?a23 ?l23 ?c23 ?k23 ?a25 ?l25 ?c25 ?k25 ?a26 ?l26 ?c26 ?k26 ?a27 ?l27 ?c27 ?k27 ?a28 ?l28 ?c28 ?k28 ?a29 ?l29 ?c29 ?k29 ?a30 ?l30 ?c30 ?k30 ?a31 ?l31 ?c31 ?k31 ?a32 ?l32 ?c32 ?k32 ?a37 ?l37 ?c37 ?k37 ?a35 ?l35 ?c35 ?k35 ?a39 ?l39 ?c39 ?k39 ?a38 ?l38 ?c38 ?k38 ?ac34_0 ?bc34_0 ?lc34_0 ?cc34_0 ?kc34_0 ?ac34_2 ?bc34_2 ?tc34_2 ?rc34_2 ?lc34_2 ?cc34_2 ?kc34_2 ?ac34_3 ?bc34_3 ?tc34_3 ?rc34_3 ?lc34_3 ?cc34_3 ?kc34_3 ?ac34_7 ?bc34_7 ?lc34_7 ?cc34_7 ?kc34_7 ?ac34_6 ?bc34_6 ?lc34_6 ?cc34_6 ?kc34_6 ?a36 ?l36 ?c36 ?k36 ?a43 ?l43 ?c43 ?k43 ?a44 ?l44 ?c44 ?k44 ?a45 ?l45 ?c45 ?k45 ?a46 ?l46 ?c46 ?k46 ?a62 ?l62 ?c62 ?k62 ?a63 ?l63 ?c63 ?k63 ?a64 ?l64 ?c64 ?k64 ?a48 ?l48 ?c48 ?k48 ?a49 ?l49 ?c49 ?k49 ?a52 ?l52 ?c52 ?k52 ?a50 ?l50 ?c50 ?k50 ?a51 ?l51 ?c51 ?k51 ?a53 ?l53 ?c53 ?k53 ?a54 ?l54 ?c54 ?k54 ?a55 ?l55 ?c55 ?k55 ?ac34_8 ?bc34_8 ?lc34_8 ?cc34_8 ?kc34_8 ?a57 ?l57 ?c57 ?k57 ?a58 ?l58 ?c58 ?k58 ?ac34_5 ?bc34_5 ?lc34_5 ?cc34_5 ?kc34_5 ?a59 ?l59 ?c59 ?k59 ?a60 ?l60 ?c60 ?k60 ?a61 ?l61 ?c61 ?k61 ?a66 ?l66 ?c66 ?k66 ?a67 ?l67 ?c67 ?k67 ?a68 ?l68 ?c68 ?k68 ?a69 ?l69 ?c69 ?k69 ?a70 ?l70 ?c70 ?k70 ?a71 ?l71 ?c71 ?k71 ?a72 ?l72 ?c72 ?k72 ?a73 ?l73 ?c73 ?k73 ?a74 ?l74 ?c74 ?k74 ?a75 ?l75 ?c75 ?k75 ?a76 ?l76 ?c76 ?k76 ?a77 ?l77 ?c77 ?k77 ?a78 ?l78 ?c78 ?k78 ?a79 ?l79 ?c79 ?k79 ?a80 ?l80 ?c80 ?k80 ?a81 ?l81 ?c81 ?k81 ?a82 ?l82 ?c82 ?k82 ?a83 ?l83 ?c83 ?k83 ?a84 ?l84 ?c84 ?k84 ?a85 ?l85 ?c85 ?k85 ?z_len ?z_all ?z_any ?z_abs ?z_int ?z_min ?z_max ?z_tuple ?z_repr ?z_isinstance ?z_str ?z_range ?z_enumerate ?z_sorted ?z_set ?z_list ?z_divmod ?z_dict ?c_MOST_THINGS ?c_MOST_RULES
    (case aC => show PySem.W.nsIn _ _ _ = _; k_is)
    (case pg => k_is)
    (case hd => k_is)
    (case po => k_is)
    (case sa => k_is)
    (case mk => k_is)
    (case kc => k_is)
    (case n1 => k_is)
    (case n2 => k_is)
    (case n3 => k_is)
    (case i1 => k_is)
    (case i2 => k_is)
    (case i3 => k_is)
    (case i4 => k_is)
    (case a14 => k_is)
    (case l14 => k_is)
    (case c14 => k_is)
    (case k14 => k_is)
    (case a15 => k_is)
    (case l15 => k_is)
    (case c15 => k_is)
    (case k15 => k_is)
    (case a16 => k_is)
    (case l16 => k_is)
    (case c16 => k_is)
    (case k16 => k_is)
    (case a17 => k_is)
    (case l17 => k_is)
    (case c17 => k_is)
    (case k17 => k_is)
    (case a24 => k_is)
    (case l24 => k_is)
    (case c24 => k_is)
    (case k24 => k_is)
    (case a18 => k_is)
    (case l18 => k_is)
    (case c18 => k_is)
    (case k18 => k_is)
    (case a19 => k_is)
    (case l19 => k_is)
    (case c19 => k_is)
    (case k19 => k_is)
    (case a20 => k_is)
    (case l20 => k_is)
    (case c20 => k_is)
    (case k20 => k_is)
    (case a21 => k_is)
    (case l21 => k_is)
    (case c21 => k_is)
    (case k21 => k_is)
    (case a22 => k_is)
    (case l22 => k_is)
    (case c22 => k_is)
    (case k22 => k_is)
    (case a23 => k_is)
    (case l23 => k_is)
    (case c23 => k_is)
    (case k23 => k_is)
    (case a25 => k_is)
    (case l25 => k_is)
    (case c25 => k_is)
    (case k25 => k_is)
    (case a26 => k_is)
    (case l26 => k_is)
    (case c26 => k_is)
    (case k26 => k_is)
    (case a27 => k_is)
    (case l27 => k_is)
    (case c27 => k_is)
    (case k27 => k_is)
    (case a28 => k_is)
    (case l28 => k_is)
    (case c28 => k_is)
    (case k28 => k_is)
    (case a29 => k_is)
    (case l29 => k_is)
    (case c29 => k_is)
    (case k29 => k_is)
    (case a30 => k_is)
    (case l30 => k_is)
    (case c30 => k_is)
    (case k30 => k_is)
    (case a31 => k_is)
    (case l31 => k_is)
    (case c31 => k_is)
    (case k31 => k_is)
    (case a32 => k_is)
    (case l32 => k_is)
    (case c32 => k_is)
    (case k32 => k_is)
    (case a37 => k_is)
    (case l37 => k_is)
    (case c37 => k_is)
    (case k37 => k_is)
    (case a35 => k_is)
    (case l35 => k_is)
    (case c35 => k_is)
    (case k35 => k_is)
    (case a39 => k_is)
    (case l39 => k_is)
    (case c39 => k_is)
    (case k39 => k_is)
    (case a38 => k_is)
    (case l38 => k_is)
    (case c38 => k_is)
    (case k38 => k_is)
    (case ac34_0 => k_is)
    (case bc34_0 => k_is)
    (case lc34_0 => k_is)
    (case cc34_0 => k_is)
    (case kc34_0 => k_is)
    (case ac34_2 => k_is)
    (case bc34_2 => k_is)
    (case tc34_2 => k_is)
    (case rc34_2 => k_is)
    (case lc34_2 => k_is)
    (case cc34_2 => k_is)
    (case kc34_2 => k_is)
    (case ac34_3 => k_is)
    (case bc34_3 => k_is)
    (case tc34_3 => k_is)
    (case rc34_3 => k_is)
    (case lc34_3 => k_is)
    (case cc34_3 => k_is)
    (case kc34_3 => k_is)
    (case ac34_7 => k_is)
    (case bc34_7 => k_is)
    (case lc34_7 => k_is)
    (case cc34_7 => k_is)
    (case kc34_7 => k_is)
    (case ac34_6 => k_is)
    (case bc34_6 => k_is)
    (case lc34_6 => k_is)
    (case cc34_6 => k_is)
    (case kc34_6 => k_is)
    (case a36 => k_is)
    (case l36 => k_is)
    (case c36 => k_is)
    (case k36 => k_is)
    (case a43 => k_is)
    (case l43 => k_is)
    (case c43 => k_is)
    (case k43 => k_is)
    (case a44 => k_is)
    (case l44 => k_is)
    (case c44 => k_is)
    (case k44 => k_is)
    (case a45 => k_is)
    (case l45 => k_is)
    (case c45 => k_is)
    (case k45 => k_is)
    (case a46 => k_is)
    (case l46 => k_is)
    (case c46 => k_is)
    (case k46 => k_is)
    (case a62 => k_is)
    (case l62 => k_is)
    (case c62 => k_is)
    (case k62 => k_is)
    (case a63 => k_is)
    (case l63 => k_is)
    (case c63 => k_is)
    (case k63 => k_is)
    (case a64 => k_is)
    (case l64 => k_is)
    (case c64 => k_is)
    (case k64 => k_is)
    (case a48 => k_is)
    (case l48 => k_is)
    (case c48 => k_is)
    (case k48 => k_is)
    (case a49 => k_is)
    (case l49 => k_is)
    (case c49 => k_is)
    (case k49 => k_is)
    (case a52 => k_is)
    (case l52 => k_is)
    (case c52 => k_is)
    (case k52 => k_is)
    (case a50 => k_is)
    (case l50 => k_is)
    (case c50 => k_is)
    (case k50 => k_is)
    (case a51 => k_is)
    (case l51 => k_is)
    (case c51 => k_is)
    (case k51 => k_is)
    (case a53 => k_is)
    (case l53 => k_is)
    (case c53 => k_is)
    (case k53 => k_is)
    (case a54 => k_is)
    (case l54 => k_is)
    (case c54 => k_is)
    (case k54 => k_is)
    (case a55 => k_is)
    (case l55 => k_is)
    (case c55 => k_is)
    (case k55 => k_is)
    (case ac34_8 => k_is)
    (case bc34_8 => k_is)
    (case lc34_8 => k_is)
    (case cc34_8 => k_is)
    (case kc34_8 => k_is)
    (case a57 => k_is)
    (case l57 => k_is)
    (case c57 => k_is)
    (case k57 => k_is)
    (case a58 => k_is)
    (case l58 => k_is)
    (case c58 => k_is)
    (case k58 => k_is)
    (case ac34_5 => k_is)
    (case bc34_5 => k_is)
    (case lc34_5 => k_is)
    (case cc34_5 => k_is)
    (case kc34_5 => k_is)
    (case a59 => k_is)
    (case l59 => k_is)
    (case c59 => k_is)
    (case k59 => k_is)
    (case a60 => k_is)
    (case l60 => k_is)
    (case c60 => k_is)
    (case k60 => k_is)
    (case a61 => k_is)
    (case l61 => k_is)
    (case c61 => k_is)
    (case k61 => k_is)
    (case a66 => k_is)
    (case l66 => k_is)
    (case c66 => k_is)
    (case k66 => k_is)
    (case a67 => k_is)
    (case l67 => k_is)
    (case c67 => k_is)
    (case k67 => k_is)
    (case a68 => k_is)
    (case l68 => k_is)
    (case c68 => k_is)
    (case k68 => k_is)
    (case a69 => k_is)
    (case l69 => k_is)
    (case c69 => k_is)
    (case k69 => k_is)
    (case a70 => k_is)
    (case l70 => k_is)
    (case c70 => k_is)
    (case k70 => k_is)
    (case a71 => k_is)
    (case l71 => k_is)
    (case c71 => k_is)
    (case k71 => k_is)
    (case a72 => k_is)
    (case l72 => k_is)
    (case c72 => k_is)
    (case k72 => k_is)
    (case a73 => k_is)
    (case l73 => k_is)
    (case c73 => k_is)
    (case k73 => k_is)
    (case a74 => k_is)
    (case l74 => k_is)
    (case c74 => k_is)
    (case k74 => k_is)
    (case a75 => k_is)
    (case l75 => k_is)
    (case c75 => k_is)
    (case k75 => k_is)
    (case a76 => k_is)
    (case l76 => k_is)
    (case c76 => k_is)
    (case k76 => k_is)
    (case a77 => k_is)
    (case l77 => k_is)
    (case c77 => k_is)
    (case k77 => k_is)
    (case a78 => k_is)
    (case l78 => k_is)
    (case c78 => k_is)
    (case k78 => k_is)
    (case a79 => k_is)
    (case l79 => k_is)
    (case c79 => k_is)
    (case k79 => k_is)
    (case a80 => k_is)
    (case l80 => k_is)
    (case c80 => k_is)
    (case k80 => k_is)
    (case a81 => k_is)
    (case l81 => k_is)
    (case c81 => k_is)
    (case k81 => k_is)
    (case a82 => k_is)
    (case l82 => k_is)
    (case c82 => k_is)
    (case k82 => k_is)
    (case a83 => k_is)
    (case l83 => k_is)
    (case c83 => k_is)
    (case k83 => k_is)
    (case a84 => k_is)
    (case l84 => k_is)
    (case c84 => k_is)
    (case k84 => k_is)
    (case a85 => k_is)
    (case l85 => k_is)
    (case c85 => k_is)
    (case k85 => k_is)
    (case z_len => k_is)
    (case z_all => k_is)
    (case z_any => k_is)
    (case z_abs => k_is)
    (case z_int => k_is)
    (case z_min => k_is)
    (case z_max => k_is)
    (case z_tuple => k_is)
    (case z_repr => k_is)
    (case z_isinstance => k_is)
    (case z_str => k_is)
    (case z_range => k_is)
    (case z_enumerate => k_is)
    (case z_sorted => k_is)
    (case z_set => k_is)
    (case z_list => k_is)
    (case z_divmod => k_is)
    (case z_dict => k_is)
    (case c_MOST_THINGS => k_is)
    (case c_MOST_RULES => k_is)
