import PyProof.Rows.All
import Wide.All
import OpenK.AllK
import Wide.FinOn
import HandS.Base
import HandS.Evl
import HandS.Call
import HandS.List
import HandS.Comp
import HandS.Words
import HandS.Dict
import HandS.Iter
import HandS.Text
import HandS.Wide
import HandS.WideBits
import HandS.Conv
import HandS.Ends
import HandS.Set
import HandS.SetFor
import HandS.Strs
import KE.SortData
import HandS.Style
import HandS.IsInst
import HandS.DictComp
import HandS.More
import PyProof.ReprRoads
import KE.DataEq
import PyProof.ReprLen
import PyProof.FitsInt
import KE.GoesMore
import KE.GoesEnum
import KE.GoesNew
import HandS.Zip
import HandS.Property
import HandS.RevTup
import HandS.TupAny
import KE.SortKeyHeap
import KE.KSortKey
import HandS.SortKw
import HandS.ExcOwn
import HandS.ExcValue
import HandS.Codes
import PyProof.ListStr
import HandS.NoneIn
import HandS.SlotsOwn
import HandS.Replace
import PyProof.InstNe
import KE.DataMinMax
import HandS.SetBool
import KE.RegKIsAll
import KE.DataFind
import KE.GoesZip
import KE.KDictZip
import PyProof.ListNew
import OpenK.KOps
import HandS.Spec
import PySem.Challenge.RW_closerworks_k34_whole_inner_lots_rims_wo
set_option Elab.async false
set_option linter.all false
set_option maxRecDepth 100000
set_option maxHeartbeats 8000000
namespace Vx
open PySem L2
/-! ### heaps: G what never changes, F what is owned (by this def or its callers), H all -/
abbrev Ex := Evl.Ex
theorem Ex.refl (H : Hp) : Ex H H := Evl.Ex.refl H
theorem Ex.trans {H H1 H2 : Hp} (a : Ex H H1) (b : Ex H1 H2) : Ex H H2 := Evl.Ex.trans a b
structure W (F G H : Hp) : Prop where
  g : Ex G H
  f : Ex F H
  d : ∀ a o, F a = some o → G a = none
theorem W.fresh {F G H : Hp} {p : Addr} (w : W F G H) (h : H p = none) : G p = none ∧ F p = none := by
  constructor
  · cases e : G p with
    | none => rfl
    | some o => rw [w.g p o e] at h; cases h
  · cases e : F p with
    | none => rfl
    | some o => rw [w.f p o e] at h; cases h
theorem Ex.upd {H : Hp} {p : Addr} {o : HO} (h : H p = none) : Ex H (upd H p o) := fun a u e => by
  rw [upd_ne (ne_of_none e h)]
  exact e
theorem Ex.upd2 {G H : Hp} {p : Addr} {o : HO} (e : Ex G H) : Ex (L2.upd G p o) (L2.upd H p o) := fun a u q => by
  by_cases h : a = p
  · subst h
    rw [upd_same] at q ⊢
    exact q
  · rw [upd_ne h] at q ⊢
    exact e a u q
/-- a new object that never changes -/
theorem W.new {F G H : Hp} {p : Addr} {o : HO} (w : W F G H) (h : H p = none) : W F (L2.upd G p o) (L2.upd H p o) :=
  ⟨w.g.upd2, w.f.trans (Ex.upd h), fun a u q => by rw [upd_ne (ne_of_none (w.f a u q) h)]; exact w.d a u q⟩
/-- a new object that is owned -/
theorem W.own {F G H : Hp} {p : Addr} {o : HO} (w : W F G H) (h : H p = none) : W (L2.upd F p o) G (L2.upd H p o) :=
  ⟨w.g.trans (Ex.upd h), w.f.upd2, fun a u q => by
    by_cases e : a = p
    · subst e
      exact (w.fresh h).1
    · rw [upd_ne e] at q
      exact w.d a u q⟩
/-- an owned object changes -/
theorem W.set {F G H : Hp} {p : Addr} {o u : HO} (w : W F G H) (h : F p = some o) : W (L2.upd F p u) G (L2.upd H p u) :=
  ⟨fun a v q => by
    have n : a ≠ p := fun e => by
      subst e
      rw [w.d _ _ h] at q
      cases q
    rw [upd_ne n]
    exact w.g a v q, w.f.upd2, fun a v q => by
    by_cases e : a = p
    · subst e
      exact w.d _ _ h
    · rw [upd_ne e] at q
      exact w.d a v q⟩
/-- an owned object is let go: it never changes from now on -/
def del (F : Hp) (p : Addr) : Hp := fun a => if a = p then none else F a
theorem del_ne {F : Hp} {a p : Addr} (h : a ≠ p) : del F p a = F a := if_neg h
theorem del_same {F : Hp} {p : Addr} : del F p p = none := if_pos rfl
theorem W.free {F G H : Hp} {p : Addr} {o : HO} (w : W F G H) (h : F p = some o) : W (del F p) (L2.upd G p o) H :=
  ⟨fun a v q => by
    by_cases e : a = p
    · subst e
      rw [upd_same] at q
      cases q
      exact w.f _ _ h
    · rw [upd_ne e] at q
      exact w.g a v q, fun a v q => by
    by_cases e : a = p
    · subst e
      rw [del_same] at q
      cases q
    · rw [del_ne e] at q
      exact w.f a v q, fun a v q => by
    by_cases e : a = p
    · subst e
      rw [del_same] at q
      cases q
    · rw [del_ne e] at q
      rw [upd_ne e]
      exact w.d a v q⟩
theorem W.less {F F' G H : Hp} (w : W F G H) (e : Ex F' F) : W F' G H := ⟨w.g, e.trans w.f, fun a o h => w.d a o (e a o h)⟩
/-! ### what a value stands for -/
class Rep (α : Type) where
  rep : PySem.W.Frag → Hp → α → V → Prop
  mono : ∀ {K : PySem.W.Frag} {G G' : Hp} {a : α} {v : V}, Ex G G' → rep K G a v → rep K G' a v
open Rep (rep)
theorem Paired.mono {α β : Type} {R S : α → β → Prop} (h : ∀ a b, R a b → S a b) : ∀ {xs : List α} {ys : List β}, PySem.Paired R xs ys → PySem.Paired S xs ys
  | _, _, .nil => .nil
  | _, _, .cons r t => .cons (h _ _ r) (Paired.mono h t)
instance : Rep Int := ⟨fun _ _ i v => v = .int i, fun _ h => h⟩
instance : Rep Bool := ⟨fun _ _ b v => v = .bl b, fun _ h => h⟩
instance : Rep Str := ⟨fun _ _ s v => v = .str s, fun _ h => h⟩
instance : Rep Unit := ⟨fun _ _ _ v => v = .non, fun _ h => h⟩
instance {α : Type} [Rep α] : Rep (Option α) := ⟨fun K G a v => match a with | none => v = .non | some x => rep K G x v, fun {K G G' a v} e h => by
  cases a with
  | none => exact h
  | some x => exact Rep.mono e h⟩
instance {α : Type} [Rep α] : Rep (List α) := ⟨fun K G xs v => ∃ p vs, v = .ref p ∧ G p = some (.lst vs) ∧ PySem.Paired (rep K G) xs vs,
  fun e ⟨p, vs, h1, h2, h3⟩ => ⟨p, vs, h1, e _ _ h2, Paired.mono (fun _ _ r => Rep.mono e r) h3⟩⟩
/-- a tuple of things of one kind -/
structure Tup (α : Type) where
  l : List α
  deriving DecidableEq
instance {α : Type} [Rep α] : Rep (Tup α) := ⟨fun K G xs v => ∃ p vs, v = .ref p ∧ G p = some (.tup vs) ∧ PySem.Paired (rep K G) xs.l vs,
  fun e ⟨p, vs, h1, h2, h3⟩ => ⟨p, vs, h1, e _ _ h2, Paired.mono (fun _ _ r => Rep.mono e r) h3⟩⟩
/-- a pair, a triple -/
structure T2 (α β : Type) where
  a : α
  b : β
  deriving DecidableEq
structure T3 (α β γ : Type) where
  a : α
  b : β
  c : γ
  deriving DecidableEq
instance {α β : Type} [Rep α] [Rep β] : Rep (T2 α β) := ⟨fun K G x v => ∃ p va vb, v = .ref p ∧ G p = some (.tup [va, vb]) ∧ rep K G x.a va ∧ rep K G x.b vb,
  fun e ⟨p, va, vb, h1, h2, h3, h4⟩ => ⟨p, va, vb, h1, e _ _ h2, Rep.mono e h3, Rep.mono e h4⟩⟩
instance {α β γ : Type} [Rep α] [Rep β] [Rep γ] : Rep (T3 α β γ) := ⟨fun K G x v => ∃ p va vb vc, v = .ref p ∧ G p = some (.tup [va, vb, vc]) ∧ rep K G x.a va ∧ rep K G x.b vb ∧ rep K G x.c vc,
  fun e ⟨p, va, vb, vc, h1, h2, h3, h4, h5⟩ => ⟨p, va, vb, vc, h1, e _ _ h2, Rep.mono e h3, Rep.mono e h4, Rep.mono e h5⟩⟩
/-- a list of the world's (the script) -/
structure Scr where
  l : List Int
instance : Rep Scr := ⟨fun K G x v => ∃ p, v = .ref p ∧ SqL K G p (x.l.map V.int), fun e ⟨p, h1, h2⟩ => ⟨p, h1, by
  rcases h2 with (h | ⟨o, h⟩) | h
  · exact .inl (.inl (e _ _ h))
  · exact .inl (.inr ⟨o, e _ _ h⟩)
  · exact .inr h⟩⟩
/-- a dict, read -/
structure Dct (β : Type) where
  l : List (Key × β)
instance {β : Type} [Rep β] : Rep (Dct β) := ⟨fun K G x v => ∃ p kvs, v = .ref p ∧ G p = some (.dK kvs) ∧ PySem.Paired (fun (q : Key × β) (r : Key × V) => q.1 = r.1 ∧ rep K G q.2 r.2) x.l kvs,
  fun e ⟨p, kvs, h1, h2, h3⟩ => ⟨p, kvs, h1, e _ _ h2, Paired.mono (fun _ _ ⟨r1, r2⟩ => ⟨r1, Rep.mono e r2⟩) h3⟩⟩
/-! ### slots and environments -/
class Slot (τ : Type) where
  sr : PySem.W.Frag → Hp → Hp → List Addr → Option V → τ → Prop
  mono : ∀ {K : PySem.W.Frag} {G G' F : Hp} {L : List Addr} {o : Option V} {t : τ}, Ex G G' → sr K G F L o t → sr K G' F L o t
  /-- it leans on its own cells alone -/
  keep : ∀ {K : PySem.W.Frag} {G F F' : Hp} {L : List Addr} {o : Option V} {t : τ}, (∀ q ∈ L, F' q = F q) → sr K G F L o t → sr K G F' L o t
  there : ∀ {K : PySem.W.Frag} {G F : Hp} {L : List Addr} {o : Option V} {t : τ}, sr K G F L o t → ∀ q ∈ L, F q ≠ none
structure Any where
instance (priority := low) {α : Type} [Rep α] : Slot α := ⟨fun K G _ L o t => L = [] ∧ ∃ v, o = some v ∧ rep K G t v, fun e ⟨h1, v, h2, h3⟩ => ⟨h1, v, h2, Rep.mono e h3⟩, fun _ h => h, fun h q hq => by
  rw [h.1] at hq
  cases hq⟩
instance : Slot Any := ⟨fun _ _ _ L _ _ => L = [], fun _ h => h, fun _ h => h, fun h q hq => by
  rw [h] at hq
  cases hq⟩
/-- a list of one's own: it may be changed -/
structure OL (α : Type) where
  l : List α
instance {α : Type} [Rep α] : Slot (OL α) := ⟨fun K G F L o t => ∃ q vs, L = [q] ∧ o = some (.ref q) ∧ F q = some (.lst vs) ∧ PySem.Paired (rep K G) t.l vs,
  fun e ⟨q, vs, h1, h2, h3, h4⟩ => ⟨q, vs, h1, h2, h3, Paired.mono (fun _ _ r => Rep.mono e r) h4⟩,
  fun k ⟨q, vs, h1, h2, h3, h4⟩ => ⟨q, vs, h1, h2, by rw [k q (by rw [h1]; exact List.mem_singleton.mpr rfl)]; exact h3, h4⟩, fun ⟨q, vs, h1, h2, h3, h4⟩ b hb => by
    rw [h1] at hb
    rw [List.mem_singleton.mp hb, h3]
    exact fun z => by cases z⟩
/-- a dict of one's own -/
structure OD (β : Type) where
  l : List (Key × β)
instance {β : Type} [Rep β] : Slot (OD β) := ⟨fun K G F L o t => ∃ q kvs, L = [q] ∧ o = some (.ref q) ∧ F q = some (.dK kvs) ∧ PySem.Paired (fun (q : Key × β) (r : Key × V) => q.1 = r.1 ∧ rep K G q.2 r.2) t.l kvs,
  fun e ⟨q, vs, h1, h2, h3, h4⟩ => ⟨q, vs, h1, h2, h3, Paired.mono (fun _ _ ⟨r1, r2⟩ => ⟨r1, Rep.mono e r2⟩) h4⟩,
  fun k ⟨q, vs, h1, h2, h3, h4⟩ => ⟨q, vs, h1, h2, by rw [k q (by rw [h1]; exact List.mem_singleton.mpr rfl)]; exact h3, h4⟩, fun ⟨q, vs, h1, h2, h3, h4⟩ b hb => by
    rw [h1] at hb
    rw [List.mem_singleton.mp hb, h3]
    exact fun z => by cases z⟩
/-- the kinds that own nothing -/
class VSlot (τ : Type) [Slot τ] : Prop where
  nil : ∀ {K : PySem.W.Frag} {G F : Hp} {L : List Addr} {o : Option V} {t : τ}, Slot.sr K G F L o t → L = []
instance (priority := low) {α : Type} [Rep α] : VSlot α := ⟨fun {K G F L o t} h => (show L = [] ∧ _ from h).1⟩
instance : VSlot Any := ⟨fun h => h⟩
class EnvR (Γ : Type) where
  er : PySem.W.Frag → Hp → Hp → List Addr → St → Γ → Prop
  mono : ∀ {K : PySem.W.Frag} {G G' F : Hp} {L : List Addr} {σ : St} {γ : Γ}, Ex G G' → er K G F L σ γ → er K G' F L σ γ
  keep : ∀ {K : PySem.W.Frag} {G F F' : Hp} {L : List Addr} {σ : St} {γ : Γ}, (∀ q ∈ L, F' q = F q) → er K G F L σ γ → er K G F' L σ γ
  there : ∀ {K : PySem.W.Frag} {G F : Hp} {L : List Addr} {σ : St} {γ : Γ}, er K G F L σ γ → ∀ q ∈ L, F q ≠ none
open EnvR (er)
instance : EnvR Unit := ⟨fun _ _ _ L σ _ => L = [] ∧ σ = [], fun _ h => h, fun _ h => h, fun h q hq => by
  rw [h.1] at hq
  cases hq⟩
instance {τ Γ : Type} [Slot τ] [EnvR Γ] : EnvR (τ × Γ) := ⟨fun K G F L σ γ => ∃ L1 L2 o σ', L = L1 ++ L2 ∧ σ = o :: σ' ∧ Slot.sr K G F L1 o γ.1 ∧ er K G F L2 σ' γ.2 ∧ ∀ q ∈ L1, q ∉ L2,
  fun e ⟨L1, L2, o, σ', h1, h2, h3, h4, h5⟩ => ⟨L1, L2, o, σ', h1, h2, Slot.mono e h3, EnvR.mono e h4, h5⟩,
  fun k ⟨L1, L2, o, σ', h1, h2, h3, h4, h5⟩ => ⟨L1, L2, o, σ', h1, h2, Slot.keep (fun q hq => k q (by rw [h1]; exact List.mem_append_left _ hq)) h3, EnvR.keep (fun q hq => k q (by rw [h1]; exact List.mem_append_right _ hq)) h4, h5⟩,
  fun ⟨L1, L2, o, σ', h1, h2, h3, h4, h5⟩ q hq => by
    rw [h1] at hq
    rcases List.mem_append.mp hq with h | h
    · exact Slot.there h3 q h
    · exact EnvR.there h4 q h⟩
/-- the value of the i-th slot -/
structure Get (i : Nat) (Γ α : Type) [EnvR Γ] [Rep α] where
  get : Γ → α
  ok : ∀ {K : PySem.W.Frag} {G F : Hp} {L : List Addr} {σ : St} {γ : Γ}, er K G F L σ γ → ∃ v, σ[i]? = some (some v) ∧ rep K G (get γ) v
def gz {Γ α : Type} [EnvR Γ] [Rep α] : Get 0 (α × Γ) α := ⟨fun γ => γ.1, fun ⟨L1, L2, o, σ', h1, h2, h3, h4, h5⟩ => by
  obtain ⟨_, v, e, r⟩ := h3
  subst h2
  exact ⟨v, by rw [e]; rfl, r⟩⟩
def gs {i : Nat} {τ Γ α : Type} [Slot τ] [EnvR Γ] [Rep α] (g : Get i Γ α) : Get (i + 1) (τ × Γ) α := ⟨fun γ => g.get γ.2, fun ⟨L1, L2, o, σ', h1, h2, h3, h4, h5⟩ => by
  obtain ⟨v, e, r⟩ := g.ok h4
  subst h2
  exact ⟨v, e, r⟩⟩
/-- the i-th slot, that owns nothing, is given a value -/
structure Put (i : Nat) (Γ τ Γ' : Type) [EnvR Γ] [Rep τ] [EnvR Γ'] where
  put : Γ → τ → Γ'
  ok : ∀ {K : PySem.W.Frag} {G F : Hp} {L : List Addr} {σ : St} {γ : Γ} {t : τ} {v : V}, er K G F L σ γ → rep K G t v → er K G F L (σ.set i (some v)) (put γ t)
def pz {τ₀ Γ τ : Type} [Slot τ₀] [VSlot τ₀] [EnvR Γ] [Rep τ] : Put 0 (τ₀ × Γ) τ (τ × Γ) := ⟨fun γ t => (t, γ.2), fun ⟨L1, L2, o, σ', h1, h2, h3, h4, h5⟩ r => by
  subst h2
  have e := VSlot.nil h3
  exact ⟨[], L2, _, σ', by rw [h1, e], rfl, ⟨rfl, _, rfl, r⟩, h4, fun q hq => by cases hq⟩⟩
def ps {i : Nat} {τ₀ Γ τ Γ' : Type} [Slot τ₀] [EnvR Γ] [Rep τ] [EnvR Γ'] (p : Put i Γ τ Γ') : Put (i + 1) (τ₀ × Γ) τ (τ₀ × Γ') := ⟨fun γ t => (γ.1, p.put γ.2 t), fun ⟨L1, L2, o, σ', h1, h2, h3, h4, h5⟩ r => by
  subst h2
  exact ⟨L1, L2, o, _, h1, rfl, h3, p.ok h4 r, h5⟩⟩
/-- some slots are forgotten -/
structure Wk (Γ Γ' : Type) [EnvR Γ] [EnvR Γ'] where
  wk : Γ → Γ'
  ok : ∀ {K : PySem.W.Frag} {G F : Hp} {L : List Addr} {σ : St} {γ : Γ}, er K G F L σ γ → ∃ L', L'.Sublist L ∧ er K G F L' σ (wk γ)
def wid {Γ : Type} [EnvR Γ] : Wk Γ Γ := ⟨fun γ => γ, fun h => ⟨_, List.Sublist.refl _, h⟩⟩
def wn : Wk Unit Unit := wid
def wk {τ Γ Γ' : Type} [Slot τ] [EnvR Γ] [EnvR Γ'] (w : Wk Γ Γ') : Wk (τ × Γ) (τ × Γ') := ⟨fun γ => (γ.1, w.wk γ.2), fun ⟨L1, L2, o, σ', h1, h2, h3, h4, h5⟩ => by
  obtain ⟨L', s, e⟩ := w.ok h4
  subst h2
  exact ⟨L1 ++ L', by rw [h1]; exact List.Sublist.append (List.Sublist.refl _) s, L1, L', o, σ', rfl, rfl, h3, e, fun q hq z => h5 q hq (s.subset z)⟩⟩
def wa {τ Γ Γ' : Type} [Slot τ] [EnvR Γ] [EnvR Γ'] (w : Wk Γ Γ') : Wk (τ × Γ) (Any × Γ') := ⟨fun γ => (⟨⟩, w.wk γ.2), fun ⟨L1, L2, o, σ', h1, h2, h3, h4, h5⟩ => by
  obtain ⟨L', s, e⟩ := w.ok h4
  subst h2
  exact ⟨L', by rw [h1]; exact List.Sublist.trans s (List.sublist_append_right _ _), [], L', o, σ', rfl, rfl, rfl, e, fun q hq => by cases hq⟩⟩
end Vx
namespace Vx
open Rep (rep)
open EnvR (er)
open PySem L2
theorem PE.le {X : Cx} {e : Expr} {t t' : TE} (h : PE X e t) (k : ∀ σ H Q, t' σ H Q → t σ H Q) : PE X e t' := ⟨fun pins s σ H Q I q => h.run pins s σ H Q I (k σ H Q q)⟩
theorem PT.le {X : Cx} {e : Expr} {t t' : TT} (h : PT X e t) (k : ∀ σ H Q, t' σ H Q → t σ H Q) : PT X e t' := ⟨fun pins s σ H Q I q => h.run pins s σ H Q I (k σ H Q q)⟩
theorem PA.le {X : Cx} {e : List Expr} {t t' : TA} (h : PA X e t) (k : ∀ σ H Q, t' σ H Q → t σ H Q) : PA X e t' := ⟨fun pos pins s σ H Q I q => h.run pos pins s σ H Q I (k σ H Q q)⟩
theorem PS.le {X : Cx} {st : Stmt} {t t' : TS} (h : PS X st t) (k : ∀ D σ H, t' D σ H → t D σ H) : PS X st t' := ⟨fun pins s σ H D I q => h.run pins s σ H D I (k D σ H q)⟩
theorem PSs.le {X : Cx} {st : List Stmt} {t t' : TS} (h : PSs X st t) (k : ∀ D σ H, t' D σ H → t D σ H) : PSs X st t' := ⟨fun pins s σ H D I q => h.run pins s σ H D I (k D σ H q)⟩
/-- how an operand is told: F, G, H -/
abbrev RR (α : Type) := Hp → Hp → Hp → α → V → Prop
abbrev RE (K : PySem.W.Frag) {α : Type} [Rep α] : RR α := fun _ G _ a v => rep K G a v
/-- a list to be read (one's own, or one that never changes) -/
def RL (K : PySem.W.Frag) {α : Type} [Rep α] : RR (List α) := fun F G _ xs v => ∃ p vs, v = .ref p ∧ (G p = some (.lst vs) ∨ F p = some (.lst vs)) ∧ PySem.Paired (rep K G) xs vs
def RMono {α : Type} (R : RR α) : Prop := ∀ {F G H G2 H2 : Hp} {a : α} {v : V}, Ex G G2 → W F G2 H2 → R F G H a v → R F G2 H2 a v
theorem re_mono {K : PySem.W.Frag} {α : Type} [Rep α] : RMono (RE K (α := α)) := fun e _ h => Rep.mono e h
theorem rl_mono {K : PySem.W.Frag} {α : Type} [Rep α] : RMono (RL K (α := α)) := fun e _ ⟨p, vs, h1, h2, h3⟩ => ⟨p, vs, h1, h2.imp (e _ _) id, Paired.mono (fun _ _ r => Rep.mono e r) h3⟩
theorem rl_of {K : PySem.W.Frag} {α : Type} [Rep α] {F G H : Hp} {xs : List α} {v : V} (h : rep K G xs v) : RL K F G H xs v := let ⟨p, vs, h1, h2, h3⟩ := h; ⟨p, vs, h1, .inl h2, h3⟩
/-- an own list, just made -/
def RF (K : PySem.W.Frag) {α : Type} [Rep α] : RR (List α) := fun F G H xs v => ∃ p vs, v = .ref p ∧ F p = none ∧ G p = none ∧ H p = some (.lst vs) ∧ PySem.Paired (rep K G) xs vs
section
variable {Γ : Type} [EnvR Γ] {α β δ : Type}
/-- what an expression is worth -/
def tev (K : PySem.W.Frag) (R : RR α) (f : Γ → Option α) : TE := fun σ H Q => ∃ F G L γ a, W F G H ∧ er K G F L σ γ ∧ f γ = some a ∧ ∀ v G2 H2, Ex G G2 → W F G2 H2 → R F G2 H2 a v → Q v H2
def tet (K : PySem.W.Frag) (f : Γ → Option Bool) : TT := fun σ H Q => ∃ F G L γ a, W F G H ∧ er K G F L σ γ ∧ f γ = some a ∧ ∀ G2 H2, Ex G G2 → W F G2 H2 → Q a H2
abbrev VO (X : Cx) (e : Expr) (R : RR α) (f : Γ → Option α) : Prop := PE X e (tev X.K R f)
abbrev VE [Rep α] (X : Cx) (e : Expr) (f : Γ → Option α) : Prop := PE X e (tev X.K (RE X.K) f)
abbrev VL [Rep α] (X : Cx) (e : Expr) (f : Γ → Option (List α)) : Prop := PE X e (tev X.K (RL X.K) f)
abbrev VF [Rep α] (X : Cx) (e : Expr) (f : Γ → Option (List α)) : Prop := PE X e (tev X.K (RF X.K) f)
abbrev VT (X : Cx) (e : Expr) (f : Γ → Option Bool) : Prop := PT X e (tet X.K f)
/-! ### the shapes of mirrors -/
def fv {i : Nat} [Rep α] (g : Get i Γ α) : Γ → Option α := fun γ => some (g.get γ)
def fc (c : α) : Γ → Option α := fun _ => some c
def f1 (φ : α → Option β) (f : Γ → Option α) : Γ → Option β := fun γ => (f γ).bind φ
def f2 (φ : α → β → Option δ) (f : Γ → Option α) (g : Γ → Option β) : Γ → Option δ := fun γ => (f γ).bind fun x => (g γ).bind fun y => φ x y
def fif (c : Γ → Option Bool) (f g : Γ → Option α) : Γ → Option α := fun γ => (c γ).bind fun b => if b then f γ else g γ
def fand (f g : Γ → Option Bool) : Γ → Option Bool := fun γ => (f γ).bind fun b => if b then g γ else some false
def foor (f g : Γ → Option Bool) : Γ → Option Bool := fun γ => (f γ).bind fun b => if b then some true else g γ
def fnot (f : Γ → Option Bool) : Γ → Option Bool := fun γ => (f γ).map (!·)
variable {X : Cx} {e a b c : Expr} {pos : Pos}
theorem ve_var {i : Nat} [Rep α] (g : Get i Γ α) {x : Str} (hN : X.N[i]? = some x := by rfl) (hv : Vis X.env.scope x := by first | exact Or.inl rfl | exact Or.inr (Or.inl rfl) | exact Or.inr (Or.inr rfl)) (hd : (x == ("__debug__" : Str)) = false := by decide)
    (hcd : (x == ("__classdict__" : Str)) = false := by decide) : VE X (.Name x pos) (fv g) := PE.le (pe_var hN hv hd hcd) fun σ H Q ⟨F, G, L, γ, a, w, h, ea, q⟩ => by
  obtain ⟨v, hi, r⟩ := g.ok h
  cases ea
  exact ⟨v, hi, q v G H (Ex.refl G) w r⟩
theorem ve_int {i : Int} {j} : VE X (.Constant (.int i) j pos) (fc (Γ := Γ) i) := PE.le pe_int fun σ H Q ⟨F, G, L, γ, a, w, h, ea, q⟩ => by
  cases ea
  exact q _ G H (Ex.refl G) w rfl
theorem ve_str {x : Str} {j} : VE X (.Constant (.str x) j pos) (fc (Γ := Γ) x) := PE.le pe_str fun σ H Q ⟨F, G, L, γ, a, w, h, ea, q⟩ => by
  cases ea
  exact q _ G H (Ex.refl G) w rfl
theorem ve_bl {x : Bool} {j} : VE X (.Constant (.bool x) j pos) (fc (Γ := Γ) x) := PE.le pe_bl fun σ H Q ⟨F, G, L, γ, a, w, h, ea, q⟩ => by
  cases ea
  exact q _ G H (Ex.refl G) w rfl
theorem ve_non {j} : VE X (.Constant .none j pos) (fc (Γ := Γ) ()) := PE.le pe_non fun σ H Q ⟨F, G, L, γ, a, w, h, ea, q⟩ => by
  cases ea
  exact q _ G H (Ex.refl G) w rfl
/-- None where something else may stand -/
theorem ve_nonO [Rep α] {j} : VE X (.Constant .none j pos) (fc (Γ := Γ) (none : Option α)) := PE.le pe_non fun σ H Q ⟨F, G, L, γ, a, w, h, ea, q⟩ => by
  cases ea
  exact q _ G H (Ex.refl G) w rfl
theorem ve_glob [Rep α] {x : Str} {y : α} {v : V} {u : Value} (hg : Gl X x) (hm : X.mg x = some u) (r : RelV v u) (h : ∀ G, rep X.K G y v) (hd : (x == ("__debug__" : Str)) = false := by decide) : VE X (.Name x pos) (fc (Γ := Γ) y) := PE.le (pe_glob hg hm r hd) fun σ H Q ⟨F, G, L, γ, a, w, _, ea, q⟩ => by
  cases ea
  exact q _ G H (Ex.refl G) w (h G)
theorem VE.some [Rep α] {f : Γ → Option α} (h : VE X e f) : VE X e (f1 (fun x => some (some x)) f) := PE.le h fun σ H Q ⟨F, G, L, γ, a, w, he, ea, q⟩ => by
  unfold f1 at ea
  cases e1 : f γ with
  | none => rw [e1] at ea; cases ea
  | some x =>
    rw [e1] at ea
    cases ea
    exact ⟨F, G, L, γ, x, w, he, e1, fun v G2 H2 e2 w2 r => q v G2 H2 e2 w2 r⟩
theorem VE.l [Rep α] {f : Γ → Option (List α)} (h : VE X e f) : VL X e f := PE.le h fun σ H Q ⟨F, G, L, γ, a, w, he, ea, q⟩ =>
  ⟨F, G, L, γ, a, w, he, ea, fun v G2 H2 e2 w2 r => q v G2 H2 e2 w2 (rl_of r)⟩
/-- a list just made never changes if nobody owns it -/
theorem VF.up [Rep α] {f : Γ → Option (List α)} (h : VF X e f) : VE X e f := PE.le h fun σ H Q ⟨F, G, L, γ, a, w, he, ea, q⟩ =>
  ⟨F, G, L, γ, a, w, he, ea, fun v G2 H2 e2 w2 ⟨p, vs, h1, h2, h3, h4, h5⟩ => by
    have ex : Ex G2 (upd G2 p (.lst vs)) := Ex.upd h3
    refine q v (upd G2 p (.lst vs)) H2 (e2.trans ex) ⟨fun a o z => ?_, w2.f, fun a o z => ?_⟩ ⟨p, vs, h1, upd_same, Paired.mono (fun _ _ r => Rep.mono ex r) h5⟩
    · by_cases hap : a = p
      · subst hap
        rw [upd_same] at z
        rw [← z]
        exact h4
      · rw [upd_ne hap] at z
        exact w2.g a o z
    · have hap : a ≠ p := fun y => by
        rw [y, h2] at z
        cases z
      rw [upd_ne hap]
      exact w2.d a o z⟩
/-! ### operators by values -/
def Op2 (r : L2.R2) (R1 : RR α) (R2 : RR β) (R3 : RR δ) (φ : α → β → Option δ) : Prop := ∀ F G H x y z vx vy Q, W F G H → R1 F G H x vx → R2 F G H y vy → φ x y = some z → (∀ v G2 H2, Ex G G2 → W F G2 H2 → R3 F G2 H2 z v → Q v H2) → r vx vy H Q
theorem tev2 {K : PySem.W.Frag} {r : L2.R2} {R1 : RR α} {R2 : RR β} {R3 : RR δ} {φ : α → β → Option δ} {f : Γ → Option α} {g : Γ → Option β} (o : Op2 r R1 R2 R3 φ) (mo : RMono R1) {σ : L2.St} {H : Hp} {Q : VK} (h : tev K R3 (f2 φ f g) σ H Q) :
    tev K R1 f σ H fun x H1 => tev K R2 g σ H1 fun y H2 => r x y H2 Q := by
  obtain ⟨F, G, L, γ, a, w, he, ea, q⟩ := h
  unfold f2 at ea
  cases e1 : f γ with
  | none => rw [e1] at ea; cases ea
  | some x =>
    rw [e1] at ea
    cases e2 : g γ with
    | none => simp only [Option.bind_some] at ea; rw [e2] at ea; cases ea
    | some y =>
      simp only [Option.bind_some] at ea
      rw [e2] at ea
      exact ⟨F, G, L, γ, x, w, he, e1, fun v G2 H2 x2 w2 r2 => ⟨F, G2, L, γ, y, w2, EnvR.mono x2 he, e2, fun v' G3 H3 x3 w3 r3 =>
        o F G3 H3 x y a v v' Q w3 (mo x3 w3 r2) r3 ea fun v4 G4 H4 x4 w4 r4 => q v4 G4 H4 ((x2.trans x3).trans x4) w4 r4⟩⟩
variable {f : Γ → Option α} {g : Γ → Option β}
theorem vo_op {op : Operator} {r : L2.R2} {R1 : RR α} {R2 : RR β} {R3 : RR δ} {φ : α → β → Option δ} (ho : OpR X (binaryOp op) r) (o : Op2 r R1 R2 R3 φ) (mo : RMono R1) (ha : VO X a R1 f) (hb : VO X b R2 g) : VO X (.BinOp a op b pos) R3 (f2 φ f g) :=
  PE.le (pe_op ho ha hb) fun σ H Q h => tev2 o mo h
theorem vo_cmp {op : CmpOp} {r : L2.R2} {R1 : RR α} {R2 : RR β} {φ : α → β → Option Bool} (ho : OpR X (compareOp op) r) (o : Op2 r R1 R2 (RE X.K) φ) (mo : RMono R1) (ha : VO X a R1 f) (hb : VO X b R2 g) (hm : behindInMarks op b = false) : VE X (.Compare a [op] [b] pos) (f2 φ f g) :=
  PE.le (pe_cmpR ho ha hb hm) fun σ H Q h => tev2 o mo h
theorem tet_of {K : PySem.W.Frag} {f : Γ → Option Bool} {t : TE} {σ : L2.St} {H : Hp} {Q : Bool → Hp → Prop} (k : ∀ Q : VK, tev K (RE K) f σ H Q → t σ H Q) (h : tet K f σ H Q) : tTest t σ H Q := by
  obtain ⟨F, G, L, γ, a, w, he, ea, q⟩ := h
  exact k _ ⟨F, G, L, γ, a, w, he, ea, fun v G2 H2 e2 w2 r => ⟨a, r, q G2 H2 e2 w2⟩⟩
theorem vt_cmp {op : CmpOp} {r : L2.R2} {R1 : RR α} {R2 : RR β} {φ : α → β → Option Bool} (ho : OpR X (compareOp op) r) (o : Op2 r R1 R2 (RE X.K) φ) (mo : RMono R1) (ha : VO X a R1 f) (hb : VO X b R2 g) (hm : behindInMarks op b = false) : VT X (.Compare a [op] [b] pos) (f2 φ f g) :=
  PT.le (pt_cmpR ho ha hb hm) fun σ H Q h => tet_of (fun Q h => tev2 o mo h) h
/-- any expression that gives a truth value, as a test -/
theorem vt_val {f : Γ → Option Bool} (h : VE X e f) (he : ∀ whole, isTrue e X.env whole = (do let v ← whole; standAt e.pos; holding [v] (truthy v)) := by intro _; rfl) : VT X e f :=
  PT.le (pt_val h he) fun σ H Q h => tet_of (t := tev X.K (RE X.K) f) (fun Q h => h) h
theorem line_ge : 100000 ≤ sizeLine := by decide
/-! ### and, or, not, if .. else -/
theorem vt_and2 {f g : Γ → Option Bool} {t u : TT} {K : PySem.W.Frag} (ht : ∀ σ H Q, tet K f σ H Q → t σ H Q) (hu : ∀ σ H Q, tet K g σ H Q → u σ H Q) {σ : L2.St} {H : Hp} {Q} (h : tet K (fand f g) σ H Q) : tAnd t u σ H Q := by
  obtain ⟨F, G, L, γ, a, w, he, ea, q⟩ := h
  unfold fand at ea
  cases e1 : f γ with
  | none => rw [e1] at ea; cases ea
  | some x =>
    rw [e1] at ea
    refine ht _ _ _ ⟨F, G, L, γ, x, w, he, e1, fun G2 H2 e2 w2 => ?_⟩
    cases x with
    | true => exact hu _ _ _ ⟨F, G2, L, γ, a, w2, EnvR.mono e2 he, ea, fun G3 H3 e3 w3 => q G3 H3 (e2.trans e3) w3⟩
    | false =>
      cases ea
      exact q G2 H2 e2 w2
theorem vt_or2 {f g : Γ → Option Bool} {t u : TT} {K : PySem.W.Frag} (ht : ∀ σ H Q, tet K f σ H Q → t σ H Q) (hu : ∀ σ H Q, tet K g σ H Q → u σ H Q) {σ : L2.St} {H : Hp} {Q} (h : tet K (foor f g) σ H Q) : tOr t u σ H Q := by
  obtain ⟨F, G, L, γ, a, w, he, ea, q⟩ := h
  unfold foor at ea
  cases e1 : f γ with
  | none => rw [e1] at ea; cases ea
  | some x =>
    rw [e1] at ea
    refine ht _ _ _ ⟨F, G, L, γ, x, w, he, e1, fun G2 H2 e2 w2 => ?_⟩
    cases x with
    | true =>
      cases ea
      exact q G2 H2 e2 w2
    | false => exact hu _ _ _ ⟨F, G2, L, γ, a, w2, EnvR.mono e2 he, ea, fun G3 H3 e3 w3 => q G3 H3 (e2.trans e3) w3⟩
abbrev VW (X : Cx) (e : Expr) (f : Γ → Option Bool) : Prop := PW X e (tet X.K f)
theorem PW.le {X : Cx} {e : Expr} {t t' : TT} (h : PW X e t) (k : ∀ σ H Q, t' σ H Q → t σ H Q) : PW X e t' := ⟨fun wh pins s σ H Q I q => h.run wh pins s σ H Q I (k σ H Q q)⟩
variable {rest : List Expr} {p q : Γ → Option Bool}
theorem vw_and1 (h : VT X a p) : VW X (.BoolOp .And [a] pos) p := pw_and1 h
theorem vw_or1 (h : VT X a p) : VW X (.BoolOp .Or [a] pos) p := pw_or1 h
theorem vw_and (h : VT X a p) (k : VW X (.BoolOp .And (b :: rest) pos) q) : VW X (.BoolOp .And (a :: b :: rest) pos) (fand p q) := PW.le (pw_and h k) fun _ _ _ z => vt_and2 (fun _ _ _ z => z) (fun _ _ _ z => z) z
theorem vw_or (h : VT X a p) (k : VW X (.BoolOp .Or (b :: rest) pos) q) : VW X (.BoolOp .Or (a :: b :: rest) pos) (foor p q) := PW.le (pw_or h k) fun _ _ _ z => vt_or2 (fun _ _ _ z => z) (fun _ _ _ z => z) z
theorem vw_t (h : VW X e p) : VT X e p := PW.pt h
theorem vt_not (h : VT X a p) : VT X (.UnaryOp .Not a pos) (fnot p) := PT.le (pt_not h) fun σ H Q ⟨F, G, L, γ, x, w, he, ea, k⟩ => by
  unfold fnot at ea
  cases e1 : p γ with
  | none => rw [e1] at ea; cases ea
  | some y =>
    rw [e1] at ea
    cases ea
    exact ⟨F, G, L, γ, y, w, he, e1, fun G2 H2 e2 w2 => k G2 H2 e2 w2⟩
theorem ve_one {op} (h : VE X a p) : VE X (.BoolOp op [a] pos) p := pe_one h
theorem ve_and (h : VE X a p) (k : VE X (.BoolOp .And (b :: rest) pos) q) : VE X (.BoolOp .And (a :: b :: rest) pos) (fand p q) := PE.le (pe_and h k) fun σ H Q ⟨F, G, L, γ, z, w, he, ea, kk⟩ => by
  unfold fand at ea
  cases e1 : p γ with
  | none => rw [e1] at ea; cases ea
  | some x =>
    rw [e1] at ea
    refine ⟨F, G, L, γ, x, w, he, e1, fun v G2 H2 e2 w2 r => ⟨x, r, ?_⟩⟩
    cases x with
    | true => exact ⟨F, G2, L, γ, z, w2, EnvR.mono e2 he, ea, fun v G3 H3 e3 w3 r => kk v G3 H3 (e2.trans e3) w3 r⟩
    | false =>
      cases ea
      exact kk _ G2 H2 e2 w2 rfl
theorem ve_or (h : VE X a p) (k : VE X (.BoolOp .Or (b :: rest) pos) q) : VE X (.BoolOp .Or (a :: b :: rest) pos) (foor p q) := PE.le (pe_or h k) fun σ H Q ⟨F, G, L, γ, z, w, he, ea, kk⟩ => by
  unfold foor at ea
  cases e1 : p γ with
  | none => rw [e1] at ea; cases ea
  | some x =>
    rw [e1] at ea
    refine ⟨F, G, L, γ, x, w, he, e1, fun v G2 H2 e2 w2 r => ⟨x, r, ?_⟩⟩
    cases x with
    | true =>
      cases ea
      exact kk _ G2 H2 e2 w2 rfl
    | false => exact ⟨F, G2, L, γ, z, w2, EnvR.mono e2 he, ea, fun v G3 H3 e3 w3 r => kk v G3 H3 (e2.trans e3) w3 r⟩
theorem ve_not (h : VE X a p) : VE X (.UnaryOp .Not a pos) (fnot p) := PE.le (pe_not h) fun σ H Q ⟨F, G, L, γ, x, w, he, ea, k⟩ => by
  unfold fnot at ea
  cases e1 : p γ with
  | none => rw [e1] at ea; cases ea
  | some y =>
    rw [e1] at ea
    cases ea
    exact ⟨F, G, L, γ, y, w, he, e1, fun v G2 H2 e2 w2 r => ⟨y, r, k _ G2 H2 e2 w2 rfl⟩⟩
theorem vo_if {R : RR α} {f g : Γ → Option α} (hc : VT X c p) (ha : VO X a R f) (hb : VO X b R g) : VO X (.IfExp c a b pos) R (fif p f g) := PE.le (pe_ifExp hc ha hb) fun σ H Q ⟨F, G, L, γ, z, w, he, ea, kk⟩ => by
  unfold fif at ea
  cases e1 : p γ with
  | none => rw [e1] at ea; cases ea
  | some x =>
    rw [e1] at ea
    refine ⟨F, G, L, γ, x, w, he, e1, fun G2 H2 e2 w2 => ?_⟩
    cases x with
    | true => exact ⟨F, G2, L, γ, z, w2, EnvR.mono e2 he, ea, fun v G3 H3 e3 w3 r => kk v G3 H3 (e2.trans e3) w3 r⟩
    | false => exact ⟨F, G2, L, γ, z, w2, EnvR.mono e2 he, ea, fun v G3 H3 e3 w3 r => kk v G3 H3 (e2.trans e3) w3 r⟩
/-! ### argument lists -/
class RepL (A : Type) where
  rl : PySem.W.Frag → Hp → A → List V → Prop
  mono : ∀ {K : PySem.W.Frag} {G G' : Hp} {a : A} {vs : List V}, Ex G G' → rl K G a vs → rl K G' a vs
  n : Nat
  len : ∀ {K : PySem.W.Frag} {G : Hp} {a : A} {vs : List V}, rl K G a vs → vs.length = n
instance : RepL Unit := ⟨fun _ _ _ vs => vs = [], fun _ h => h, 0, fun h => by rw [h]; rfl⟩
instance {α A : Type} [Rep α] [RepL A] : RepL (α × A) := ⟨fun K G a vs => ∃ v r, vs = v :: r ∧ rep K G a.1 v ∧ RepL.rl K G a.2 r, fun e ⟨v, r, h1, h2, h3⟩ => ⟨v, r, h1, Rep.mono e h2, RepL.mono e h3⟩, RepL.n A + 1, fun ⟨v, r, h1, h2, h3⟩ => by rw [h1, List.length_cons, RepL.len h3]⟩
def tea {A : Type} [RepL A] (K : PySem.W.Frag) (f : Γ → Option A) : TA := fun σ H Q => ∃ F G L γ a, W F G H ∧ er K G F L σ γ ∧ f γ = some a ∧ ∀ vs G2 H2, Ex G G2 → W F G2 H2 → RepL.rl K G2 a vs → Q vs H2
abbrev VA {A : Type} [RepL A] (X : Cx) (es : List Expr) (f : Γ → Option A) : Prop := PA X es (tea X.K f)
def fnil : Γ → Option Unit := fun _ => some ()
def fcons {A : Type} (f : Γ → Option α) (g : Γ → Option A) : Γ → Option (α × A) := fun γ => (f γ).bind fun x => (g γ).bind fun y => some (x, y)
theorem va_nil : VA X [] (fnil (Γ := Γ)) := PA.le pa_nil fun σ H Q ⟨F, G, L, γ, a, w, he, ea, q⟩ => by
  cases ea
  exact q [] G H (Ex.refl G) w rfl
theorem va_cons {A : Type} [RepL A] [Rep α] {es : List Expr} {f : Γ → Option α} {g : Γ → Option A} (h : VE X e f) (k : VA X es g) (hs : starEach (e :: es) X.env = (false, eval e X.env) :: starEach es X.env := by rfl) : VA X (e :: es) (fcons f g) :=
  PA.le (pa_cons h k hs) fun σ H Q ⟨F, G, L, γ, a, w, he, ea, q⟩ => by
    unfold fcons at ea
    cases e1 : f γ with
    | none => rw [e1] at ea; cases ea
    | some x =>
      rw [e1] at ea
      cases e2 : g γ with
      | none => simp only [Option.bind_some] at ea; rw [e2] at ea; cases ea
      | some y =>
        simp only [Option.bind_some] at ea
        rw [e2] at ea
        cases ea
        exact ⟨F, G, L, γ, x, w, he, e1, fun v G2 H2 x2 w2 r2 => ⟨F, G2, L, γ, y, w2, EnvR.mono x2 he, e2, fun vs G3 H3 x3 w3 r3 => q (v :: vs) G3 H3 (x2.trans x3) w3 ⟨v, vs, rfl, Rep.mono x3 r2, r3⟩⟩⟩
/-- keywords -/
theorem PK.le {X : Cx} {e : List Keyword} {t t' : TA} (h : PK X e t) (k : ∀ σ H Q, t' σ H Q → t σ H Q) : PK X e t' := ⟨fun pos pins s σ H Q I q => h.run pos pins s σ H Q I (k σ H Q q)⟩
abbrev VK' {A : Type} [RepL A] (X : Cx) (es : List Keyword) (f : Γ → Option A) : Prop := PK X es (tea X.K f)
theorem vk_nil : VK' X [] (fnil (Γ := Γ)) := PK.le pk_nil fun σ H Q ⟨F, G, L, γ, a, w, he, ea, q⟩ => by
  cases ea
  exact q [] G H (Ex.refl G) w rfl
theorem vk_cons {A : Type} [RepL A] [Rep α] {kws : List Keyword} {nm : Option Str} {kpos : Pos} {f : Γ → Option α} {g : Γ → Option A} (h : VE X e f) (k : VK' X kws g) : VK' X (⟨nm, e, kpos⟩ :: kws) (fcons f g) :=
  PK.le (pk_cons h k) fun σ H Q ⟨F, G, L, γ, a, w, he, ea, q⟩ => by
    unfold fcons at ea
    cases e1 : f γ with
    | none => rw [e1] at ea; cases ea
    | some x =>
      rw [e1] at ea
      cases e2 : g γ with
      | none => simp only [Option.bind_some] at ea; rw [e2] at ea; cases ea
      | some y =>
        simp only [Option.bind_some] at ea
        rw [e2] at ea
        cases ea
        exact ⟨F, G, L, γ, x, w, he, e1, fun v G2 H2 x2 w2 r2 => ⟨F, G2, L, γ, y, w2, EnvR.mono x2 he, e2, fun vs G3 H3 x3 w3 r3 => q (v :: vs) G3 H3 (x2.trans x3) w3 ⟨v, vs, rfl, Rep.mono x3 r2, r3⟩⟩⟩
/-! ### what a def promises, by its mirror -/
/-- a def that changes nothing -/
def spF {A ρ : Type} [RepL A] [Rep ρ] (K : PySem.W.Frag) (m : A → Option ρ) : Sp := fun vs H Q _ => ∃ F G a r, W F G H ∧ RepL.rl K G a vs ∧ m a = some r ∧ ∀ v G2 H2, Ex G G2 → W F G2 H2 → rep K G2 r v → Q v H2
/-- a def that makes a list for its caller -/
def spN {A α : Type} [RepL A] [Rep α] (K : PySem.W.Frag) (m : A → Option (List α)) : Sp := fun vs H Q _ => ∃ F G a r, W F G H ∧ RepL.rl K G a vs ∧ m a = some r ∧ ∀ v G2 H2, Ex G G2 → W F G2 H2 → RF K F G2 H2 r v → Q v H2
/-- a def that changes the list of ints that it is given first -/
def spM {A ρ : Type} [RepL A] [Rep ρ] (K : PySem.W.Frag) (m : List Int → A → Option (ρ × List Int)) : Sp := fun vs H Q _ => ∃ F G p vs' s a r s', vs = .ref p :: vs' ∧ W F G H ∧ F p = some (.lst (s.map V.int)) ∧ RepL.rl K G a vs' ∧ m s a = some (r, s') ∧
  ∀ v F2 G2 H2, Ex G G2 → W F2 G2 H2 → F2 p = some (.lst (s'.map V.int)) → (∀ b, b ≠ p → F2 b = F b) → rep K G2 r v → Q v H2
variable {A ρ : Type} [RepL A] [Rep ρ] {m : A → Option ρ} {k : Nat} {fa : Addr} {fd : FuncData} {psn : List Str} {x : Str} {pp : Pos} {es : List Expr} {g : Γ → Option A}
end
end Vx
namespace Vx
open Rep (rep)
open EnvR (er)
open PySem L2
/-! ### expressions that change the list of ints that stands first (the draw) -/
section
variable {Γ : Type} [EnvR Γ] {α β δ : Type}
/-- an expression that may change the cells of the environment -/
def tem (K : PySem.W.Frag) (R : RR α) (f : Γ → Option (α × Γ)) : TE := fun σ H Q => ∃ F G L γ a γ', W F G H ∧ er K G F L σ γ ∧ f γ = some (a, γ') ∧
  ∀ v F2 G2 H2, Ex G G2 → W F2 G2 H2 → (∀ b, b ∉ L → F2 b = F b) → er K G2 F2 L σ γ' → R F2 G2 H2 a v → Q v H2
def tmt (K : PySem.W.Frag) (f : Γ → Option (Bool × Γ)) : TT := fun σ H Q => ∃ F G L γ a γ', W F G H ∧ er K G F L σ γ ∧ f γ = some (a, γ') ∧
  ∀ F2 G2 H2, Ex G G2 → W F2 G2 H2 → (∀ b, b ∉ L → F2 b = F b) → er K G2 F2 L σ γ' → Q a H2
def tma {A : Type} [RepL A] (K : PySem.W.Frag) (f : Γ → Option (A × Γ)) : TA := fun σ H Q => ∃ F G L γ a γ', W F G H ∧ er K G F L σ γ ∧ f γ = some (a, γ') ∧
  ∀ vs F2 G2 H2, Ex G G2 → W F2 G2 H2 → (∀ b, b ∉ L → F2 b = F b) → er K G2 F2 L σ γ' → RepL.rl K G2 a vs → Q vs H2
abbrev MO (X : Cx) (e : Expr) (R : RR α) (f : Γ → Option (α × Γ)) : Prop := PE X e (tem X.K R f)
abbrev ME [Rep α] (X : Cx) (e : Expr) (f : Γ → Option (α × Γ)) : Prop := PE X e (tem X.K (RE X.K) f)
abbrev MT (X : Cx) (e : Expr) (f : Γ → Option (Bool × Γ)) : Prop := PT X e (tmt X.K f)
abbrev MA {A : Type} [RepL A] (X : Cx) (es : List Expr) (f : Γ → Option (A × Γ)) : Prop := PA X es (tma X.K f)
def up (f : Γ → Option α) : Γ → Option (α × Γ) := fun γ => (f γ).map (·, γ)
def m1 (φ : α → Option β) (f : Γ → Option (α × Γ)) : Γ → Option (β × Γ) := fun γ => (f γ).bind fun (x, γ') => (φ x).map (·, γ')
def m2 (φ : α → β → Option δ) (f : Γ → Option (α × Γ)) (g : Γ → Option (β × Γ)) : Γ → Option (δ × Γ) := fun γ => (f γ).bind fun (x, γ') => (g γ').bind fun (y, γ'') => (φ x y).map (·, γ'')
def mcons {A : Type} (f : Γ → Option (α × Γ)) (g : Γ → Option (A × Γ)) : Γ → Option ((α × A) × Γ) := m2 (fun x y => some (x, y)) f g
variable {X : Cx} {e a b c : Expr} {pos : Pos}
theorem up_some {f : Γ → Option α} {γ γ' : Γ} {x : α} (h : up f γ = some (x, γ')) : f γ = some x ∧ γ' = γ := by
  unfold up at h
  cases e : f γ with
  | none => rw [e] at h; cases h
  | some y =>
    rw [e] at h
    cases h
    exact ⟨rfl, rfl⟩
theorem vo_up {R : RR α} {f : Γ → Option α} (h : VO X e R f) : MO X e R (up f) := PE.le h fun σ H Q ⟨F, G, L, γ, x, γ', w, he, ea, q⟩ => by
  obtain ⟨ex, rfl⟩ := up_some ea
  exact ⟨F, G, L, γ', x, w, he, ex, fun v G2 H2 e2 w2 r => q v F G2 H2 e2 w2 (fun _ _ => rfl) (EnvR.mono e2 he) r⟩
theorem va_up {A : Type} [RepL A] {es : List Expr} {f : Γ → Option A} (h : VA X es f) : MA X es (up f) := PA.le h fun σ H Q ⟨F, G, L, γ, x, γ', w, he, ea, q⟩ => by
  obtain ⟨ex, rfl⟩ := up_some ea
  exact ⟨F, G, L, γ', x, w, he, ex, fun v G2 H2 e2 w2 r => q v F G2 H2 e2 w2 (fun _ _ => rfl) (EnvR.mono e2 he) r⟩
theorem m1_some {φ : α → Option β} {f : Γ → Option (α × Γ)} {γ γ' : Γ} {y : β} (h : m1 φ f γ = some (y, γ')) : ∃ x, f γ = some (x, γ') ∧ φ x = some y := by
  unfold m1 at h
  cases e : f γ with
  | none => rw [e] at h; cases h
  | some p =>
    rw [e] at h
    simp only [Option.bind_some] at h
    cases e2 : φ p.1 with
    | none => rw [e2] at h; cases h
    | some z =>
      rw [e2] at h
      cases h
      exact ⟨p.1, rfl, e2⟩
theorem m2_some {φ : α → β → Option δ} {f : Γ → Option (α × Γ)} {g : Γ → Option (β × Γ)} {γ γ' : Γ} {z : δ} (h : m2 φ f g γ = some (z, γ')) : ∃ x γ1 y, f γ = some (x, γ1) ∧ g γ1 = some (y, γ') ∧ φ x y = some z := by
  unfold m2 at h
  cases e : f γ with
  | none => rw [e] at h; cases h
  | some p =>
    rw [e] at h
    simp only [Option.bind_some] at h
    cases e1 : g p.2 with
    | none => rw [e1] at h; cases h
    | some q =>
      rw [e1] at h
      simp only [Option.bind_some] at h
      cases e2 : φ p.1 q.1 with
      | none => rw [e2] at h; cases h
      | some z =>
        rw [e2] at h
        cases h
        exact ⟨p.1, p.2, q.1, rfl, e1, e2⟩
theorem off_trans {L : List Addr} {F F2 F3 : Hp} (a : ∀ b, b ∉ L → F2 b = F b) (c : ∀ b, b ∉ L → F3 b = F2 b) : ∀ b, b ∉ L → F3 b = F b := fun b h => (c b h).trans (a b h)
/-- what was worth x stays so, whatever the draw does -/
def MMono {α : Type} (R : RR α) : Prop := ∀ {F F2 G H G2 H2 : Hp} {a : α} {v : V}, Ex G G2 → W F2 G2 H2 → R F G H a v → R F2 G2 H2 a v
theorem re_mmono {K : PySem.W.Frag} {α : Type} [Rep α] : MMono (RE K (α := α)) := fun e _ h => Rep.mono e h
theorem tem2 {K : PySem.W.Frag} {r : L2.R2} {R1 : RR α} {R2 : RR β} {R3 : RR δ} {φ : α → β → Option δ} {f : Γ → Option (α × Γ)} {g : Γ → Option (β × Γ)} (o : Op2 r R1 R2 R3 φ) (mo : MMono R1) {σ : L2.St} {H : Hp} {Q : VK} (h : tem K R3 (m2 φ f g) σ H Q) :
    tem K R1 f σ H fun x H1 => tem K R2 g σ H1 fun y H2 => r x y H2 Q := by
  obtain ⟨F, G, L, γ, z, γ', w, he, ea, q⟩ := h
  obtain ⟨x, γ1, y, e1, e2, e3⟩ := m2_some ea
  exact ⟨F, G, L, γ, x, γ1, w, he, e1, fun v F2 G2 H2 x2 w2 of er2 rx => ⟨F2, G2, L, γ1, y, γ', w2, er2, e2, fun v' F3 G3 H3 x3 w3 of3 er3 ry =>
    o F3 G3 H3 x y z v v' Q w3 (mo x3 w3 rx) ry e3 fun v4 G4 H4 x4 w4 r4 => q v4 F3 G4 H4 ((x2.trans x3).trans x4) w4 (off_trans of of3) (EnvR.mono x4 er3) r4⟩⟩
theorem mo_op {op : Operator} {r : L2.R2} {R1 : RR α} {R2 : RR β} {R3 : RR δ} {φ : α → β → Option δ} {f : Γ → Option (α × Γ)} {g : Γ → Option (β × Γ)} (ho : OpR X (binaryOp op) r) (o : Op2 r R1 R2 R3 φ) (mo : MMono R1) (ha : MO X a R1 f) (hb : MO X b R2 g) : MO X (.BinOp a op b pos) R3 (m2 φ f g) :=
  PE.le (pe_op ho ha hb) fun σ H Q h => tem2 o mo h
theorem tmt_of {K : PySem.W.Frag} {f : Γ → Option (Bool × Γ)} {t : TE} {σ : L2.St} {H : Hp} {Q : Bool → Hp → Prop} (k : ∀ Q : VK, tem K (RE K) f σ H Q → t σ H Q) (h : tmt K f σ H Q) : tTest t σ H Q := by
  obtain ⟨F, G, L, γ, x, γ', w, he, ea, q⟩ := h
  exact k _ ⟨F, G, L, γ, x, γ', w, he, ea, fun v F2 G2 H2 e2 w2 of r2 r => ⟨x, r, q F2 G2 H2 e2 w2 of r2⟩⟩
theorem mt_cmp {op : CmpOp} {r : L2.R2} {R1 : RR α} {R2 : RR β} {φ : α → β → Option Bool} {f : Γ → Option (α × Γ)} {g : Γ → Option (β × Γ)} (ho : OpR X (compareOp op) r) (o : Op2 r R1 R2 (RE X.K) φ) (mo : MMono R1) (ha : MO X a R1 f) (hb : MO X b R2 g) (hm : behindInMarks op b = false) : MT X (.Compare a [op] [b] pos) (m2 φ f g) :=
  PT.le (pt_cmpR ho ha hb hm) fun σ H Q h => tmt_of (fun Q h => tem2 o mo h) h
def mand (f g : Γ → Option (Bool × Γ)) : Γ → Option (Bool × Γ) := fun γ => (f γ).bind fun (b, γ') => if b then g γ' else some (false, γ')
def moor (f g : Γ → Option (Bool × Γ)) : Γ → Option (Bool × Γ) := fun γ => (f γ).bind fun (b, γ') => if b then some (true, γ') else g γ'
def mnot (f : Γ → Option (Bool × Γ)) : Γ → Option (Bool × Γ) := fun γ => (f γ).map fun (b, γ') => (!b, γ')
def mif (c : Γ → Option (Bool × Γ)) (f g : Γ → Option (α × Γ)) : Γ → Option (α × Γ) := fun γ => (c γ).bind fun (b, γ') => if b then f γ' else g γ'
variable {rest : List Expr} {p q : Γ → Option (Bool × Γ)}
theorem ma_cons {A : Type} [RepL A] [Rep α] {es : List Expr} {f : Γ → Option (α × Γ)} {g : Γ → Option (A × Γ)} (h : ME X e f) (k : MA X es g) (hs : starEach (e :: es) X.env = (false, eval e X.env) :: starEach es X.env := by rfl) : MA X (e :: es) (mcons f g) :=
  PA.le (pa_cons h k hs) fun σ H Q ⟨F, G, L, γ, z, γ', w, he, ea, q⟩ => by
    obtain ⟨x, γ1, y, e1, e2, e3⟩ := m2_some ea
    cases e3
    exact ⟨F, G, L, γ, x, γ1, w, he, e1, fun v F2 G2 H2 x2 w2 of er2 rx => ⟨F2, G2, L, γ1, y, γ', w2, er2, e2, fun vs F3 G3 H3 x3 w3 of3 er3 ry => q (v :: vs) F3 G3 H3 (x2.trans x3) w3 (off_trans of of3) er3 ⟨v, vs, rfl, Rep.mono x3 rx, ry⟩⟩⟩
end
end Vx
namespace Vx
open Rep (rep)
open EnvR (er)
open PySem L2
/-- a walk yields xs, whatever comes beside -/
def Walks {τ : Type} [Rep τ] (K : PySem.W.Frag) (G : Hp) (J : It) (xs : List τ) : Prop := ∀ F' G' H', Ex G G' → W F' G' H' → ∀ i, (∀ t, xs[i]? = some t → J.go i H' ∧ ∀ x H'', J.yld i H' x H'' → ∃ G'', Ex G' G'' ∧ W F' G'' H'' ∧ rep K G'' t x) ∧ (xs.length ≤ i → J.stop i H')
theorem Walks.mono {τ : Type} [Rep τ] {K : PySem.W.Frag} {G G2 : Hp} {J : It} {xs : List τ} (h : Walks K G J xs) (e : Ex G G2) : Walks K G2 J xs := fun F' G' H' x w => h F' G' H' (e.trans x) w
theorem PI.le {X : Cx} {tg e : Expr} {t t' : TI} (h : PI X tg e t) (k : ∀ σ H Q, t' σ H Q → t σ H Q) : PI X tg e t' := ⟨fun pins s σ H Q I q => h.run pins s σ H Q I (k σ H Q q)⟩
section
variable {Γ : Type} [EnvR Γ] {α β τ : Type} [Rep τ]
def tiv (K : PySem.W.Frag) (g : Γ → Option (List τ)) : TI := fun σ H R => ∃ F G L γ xs, W F G H ∧ er K G F L σ γ ∧ g γ = some xs ∧ ∀ J G2 H2, Ex G G2 → W F G2 H2 → Walks K G2 J xs → R J H2
def tim (K : PySem.W.Frag) (g : Γ → Option (List τ × Γ)) : TI := fun σ H R => ∃ F G L γ xs γ', W F G H ∧ er K G F L σ γ ∧ g γ = some (xs, γ') ∧ ∀ J F2 G2 H2, Ex G G2 → W F2 G2 H2 → (∀ b, b ∉ L → F2 b = F b) → er K G2 F2 L σ γ' → Walks K G2 J xs → R J H2
abbrev VI (X : Cx) (tg e : Expr) (g : Γ → Option (List τ)) : Prop := PI X tg e (tiv X.K g)
abbrev MI (X : Cx) (tg e : Expr) (g : Γ → Option (List τ × Γ)) : Prop := PI X tg e (tim X.K g)
variable {X : Cx} {tg e : Expr} {pos : Pos}
theorem vi_up {g : Γ → Option (List τ)} (h : VI X tg e g) : MI X tg e (up g) := PI.le h fun σ H R ⟨F, G, L, γ, xs, γ', w, he, ea, q⟩ => by
  obtain ⟨ex, rfl⟩ := up_some ea
  exact ⟨F, G, L, γ', xs, w, he, ex, fun J G2 H2 e2 w2 wl => q J F G2 H2 e2 w2 (fun _ _ => rfl) (EnvR.mono e2 he) wl⟩
theorem paired_get {α β : Type} {R : α → β → Prop} : ∀ {xs : List α} {ys : List β} {i : Nat} {x : α}, PySem.Paired R xs ys → xs[i]? = some x → ∃ y, ys[i]? = some y ∧ R x y
  | _, _, _, _, .nil, e => by simp at e
  | _, _, 0, _, .cons r _, e => by simp at e; subst e; exact ⟨_, rfl, r⟩
  | _, _, i + 1, x, .cons _ t, e => by
    obtain ⟨u, h1, h2⟩ := paired_get (i := i) (x := x) t (by simpa using e)
    exact ⟨u, by simpa using h1, h2⟩
theorem paired_len {α β : Type} {R : α → β → Prop} : ∀ {xs : List α} {ys : List β}, PySem.Paired R xs ys → xs.length = ys.length
  | _, _, .nil => rfl
  | _, _, .cons _ t => congrArg (· + 1) (paired_len t)
theorem paired_app {α β : Type} {R : α → β → Prop} : ∀ {xs xs' : List α} {ys ys' : List β}, PySem.Paired R xs ys → PySem.Paired R xs' ys' → PySem.Paired R (xs ++ xs') (ys ++ ys')
  | _, _, _, _, .nil, s => s
  | _, _, _, _, .cons r t, s => .cons r (paired_app t s)
theorem walks_list {K : PySem.W.Frag} {G : Hp} {p : Addr} {vs : List V} {xs : List τ} (h : G p = some (.lst vs)) (r : PySem.Paired (rep K G) xs vs) : Walks K G (Itl K p) xs := fun F' G' H' e w i => by
  have hl : SqL K H' p vs := .inl (.inl (w.g _ _ (e _ _ h)))
  refine ⟨fun t ht => ?_, fun hi => ⟨vs, hl, by rw [← paired_len r]; exact hi⟩⟩
  obtain ⟨v, hv, rv⟩ := paired_get r ht
  refine ⟨⟨vs, v, hl, hv⟩, fun x H'' hy => ?_⟩
  obtain ⟨rfl, f⟩ := hy
  obtain rfl : v = x := Option.some.inj (hv.symm.trans (f _ hl))
  exact ⟨G', Ex.refl _, w, Rep.mono e rv⟩
theorem walks_tup {K : PySem.W.Frag} {G : Hp} {p : Addr} {vs : List V} {xs : List τ} (h : G p = some (.tup vs)) (r : PySem.Paired (rep K G) xs vs) : Walks K G (Itt K p) xs := fun F' G' H' e w i => by
  have hl : SqT K H' p vs := .inl (.inl (w.g _ _ (e _ _ h)))
  refine ⟨fun t ht => ?_, fun hi => ⟨vs, hl, by rw [← paired_len r]; exact hi⟩⟩
  obtain ⟨v, hv, rv⟩ := paired_get r ht
  refine ⟨⟨vs, v, hl, hv⟩, fun x H'' hy => ?_⟩
  obtain ⟨rfl, f⟩ := hy
  obtain rfl : v = x := Option.some.inj (hv.symm.trans (f _ hl))
  exact ⟨G', Ex.refl _, w, Rep.mono e rv⟩
theorem vi_list {f : Γ → Option (List τ)} (h : VE X e f) : VI X tg e f := PI.le (pi_list h) fun σ H R ⟨F, G, L, γ, xs, w, he, ea, q⟩ =>
  ⟨F, G, L, γ, xs, w, he, ea, fun v G2 H2 e2 w2 ⟨p, vs, h1, h2, h3⟩ => ⟨p, h1, ⟨vs, .inl (.inl (w2.g _ _ h2))⟩, q _ G2 H2 e2 w2 (walks_list h2 h3)⟩⟩
theorem vi_tup {f : Γ → Option (Tup τ)} (h : VE X e f) : VI X tg e (f1 (fun t => some t.l) f) := PI.le (pi_tup h) fun σ H R ⟨F, G, L, γ, xs, w, he, ea, q⟩ => by
  unfold f1 at ea
  cases e1 : f γ with
  | none => rw [e1] at ea; cases ea
  | some x =>
    rw [e1] at ea
    cases ea
    exact ⟨F, G, L, γ, x, w, he, e1, fun v G2 H2 e2 w2 ⟨p, vs, h1, h2, h3⟩ => ⟨p, h1, ⟨vs, .inl (.inl (w2.g _ _ h2))⟩, q _ G2 H2 e2 w2 (walks_tup h2 h3)⟩⟩
/-- a text's signs -/
def signs (s : Str) : List Str := s.cps.toList.map fun c => ⟨#[c]⟩
theorem walks_str {K : PySem.W.Frag} {G : Hp} {s : Str} : Walks K G (Its s) (signs s) := fun F' G' H' e w i => by
  refine ⟨fun t ht => ?_, fun hi => (show s.cps.size ≤ i by simpa [signs] using hi)⟩
  have hi : i < s.cps.size := by
    have := (List.getElem?_eq_some_iff.mp ht).1
    simpa [signs] using this
  refine ⟨hi, fun x H'' hy => ?_⟩
  obtain ⟨rfl, c, hc, rfl⟩ := hy
  refine ⟨G', Ex.refl _, w, ?_⟩
  have : (signs s)[i]? = some ⟨#[c]⟩ := by
    unfold signs
    rw [List.getElem?_map, Array.getElem?_toList, hc]
    rfl
  rw [ht] at this
  cases this
  rfl
theorem vi_str {f : Γ → Option Str} (h : VE X e f) : VI X tg e (f1 (fun s => some (signs s)) f) := PI.le (pi_str h) fun σ H R ⟨F, G, L, γ, xs, w, he, ea, q⟩ => by
  unfold f1 at ea
  cases e1 : f γ with
  | none => rw [e1] at ea; cases ea
  | some x =>
    rw [e1] at ea
    cases ea
    exact ⟨F, G, L, γ, x, w, he, e1, fun v G2 H2 e2 w2 r => ⟨x, r, q _ G2 H2 e2 w2 walks_str⟩⟩
/-- range(lo, hi) -/
def rng (lo hi : Int) : List Int := (List.range (hi - lo).toNat).map fun (i : Nat) => lo + (i : Int)
theorem walks_rng {K : PySem.W.Frag} {G : Hp} {lo hi : Int} : Walks K G (Itr lo (hi - lo).toNat) (rng lo hi) := fun F' G' H' e w i => by
  refine ⟨fun t ht => ?_, fun hi' => (show (hi - lo).toNat ≤ i by simpa [rng] using hi')⟩
  have hi1 : i < (hi - lo).toNat := by
    have := (List.getElem?_eq_some_iff.mp ht).1
    simpa [rng] using this
  refine ⟨hi1, fun x H'' hy => ?_⟩
  obtain ⟨rfl, rfl⟩ := hy
  refine ⟨G', Ex.refl _, w, ?_⟩
  unfold rng at ht
  rw [List.getElem?_map, List.getElem?_range hi1] at ht
  cases ht
  rfl
def rangeOf1 (j : Int) : Option (List Int) := if -1000000 ≤ j ∧ j ≤ 1000000 then some (rng 0 j) else none
theorem vi_range1 {a : Expr} {p : Pos} {f : Γ → Option Int} (h : VE X a f) (hm : X.mg "range" = none) (hg : Gl X "range" := by rfl) (hs : starEach [a] X.env = [(false, eval a X.env)] := by rfl) : VI X tg (.Call (.Name "range" p) [a] [] pos) (f1 rangeOf1 f) :=
  PI.le (pi_range1 hg hm (pa_cons h pa_nil hs) hs) fun σ H R ⟨F, G, L, γ, xs, w, he, ea, q⟩ => by
    unfold f1 at ea
    cases e1 : f γ with
    | none => rw [e1] at ea; cases ea
    | some j =>
      rw [e1] at ea
      simp only [Option.bind_some] at ea
      unfold rangeOf1 at ea
      split at ea
      · rename_i hb
        cases ea
        refine ⟨F, G, L, γ, j, w, he, e1, fun v G2 H2 e2 w2 r => ⟨j, by cases r; rfl, by omega, by omega, ?_⟩⟩
        have hz : j.toNat = (j - 0).toNat := by rw [Int.sub_zero]
        rw [hz]
        exact q _ G2 H2 e2 w2 walks_rng
      · cases ea
/-- range of a drawn number -/
theorem mi_range1 {a : Expr} {p : Pos} {f : Γ → Option (Int × Γ)} (h : ME X a f) (hm : X.mg "range" = none) (hg : Gl X "range" := by rfl) (hs : starEach [a] X.env = [(false, eval a X.env)] := by rfl) : MI X tg (.Call (.Name "range" p) [a] [] pos) (m1 rangeOf1 f) :=
  PI.le (pi_range1 hg hm (pa_cons h pa_nil hs) hs) fun σ H R ⟨F, G, L, γ, xs, γ', w, he, ea, q⟩ => by
    obtain ⟨j, e1, e2⟩ := m1_some ea
    unfold rangeOf1 at e2
    split at e2
    · rename_i hb
      cases e2
      refine ⟨F, G, L, γ, j, γ', w, he, e1, fun v F2 G2 H2 e2 w2 of er2 r => ⟨j, by cases r; rfl, by omega, by omega, ?_⟩⟩
      have hz : j.toNat = (j - 0).toNat := by rw [Int.sub_zero]
      rw [hz]
      exact q _ F2 G2 H2 e2 w2 of er2 walks_rng
    · cases e2
/-! ### comprehensions -/
def lcGo (t : τ → Option Bool) (e : τ → Option α) : List τ → Option (List α)
  | [] => some []
  | x :: xs => (t x).bind fun b => if b then (e x).bind fun y => (lcGo t e xs).map (y :: ·) else lcGo t e xs
def lcSt {S : Type} (t : τ → S → Option (Bool × S)) (e : τ → S → Option (α × S)) : List τ → S → Option (List α × S)
  | [], s => some ([], s)
  | x :: xs, s => (t x s).bind fun (b, s1) => if b then (e x s1).bind fun (y, s2) => (lcSt t e xs s2).map fun (ys, s3) => (y :: ys, s3) else lcSt t e xs s1
variable {i : Nat} {Γe : Type} [EnvR Γe]
def flc (p : Put i Γ τ Γe) (g : Γ → Option (List τ)) (t : Γe → Option Bool) (e : Γe → Option α) : Γ → Option (List α) := fun γ => (g γ).bind fun xs => if xs.length ≤ 100000 then lcGo (fun x => t (p.put γ x)) (fun x => e (p.put γ x)) xs else none
/-- the draw goes on behind each turn -/
structure Bk (i : Nat) (Γ τ Γe : Type) [EnvR Γ] [Rep τ] [EnvR Γe] where
  back : Γe → Γ
  ok : ∀ {K : PySem.W.Frag} {G F : Hp} {L : List Addr} {σ : St} {γ : Γe} {o : Option V}, er K G F L (σ.set i o) γ → er K G F L σ (back γ)
def bz {Γ τ : Type} [EnvR Γ] [Rep τ] : Bk 0 (Any × Γ) τ (τ × Γ) := ⟨fun γ => (⟨⟩, γ.2), fun {K G F L σ γ o} ⟨L1, L2, u, σ', h1, h2, h3, h4, h5⟩ => by
  cases σ with
  | nil => cases h2
  | cons x σ0 =>
    have e : σ0 = σ' := (List.cons.inj h2).2
    subst e
    have z : L1 = [] := VSlot.nil h3
    exact ⟨[], L2, x, σ0, by rw [h1, z], rfl, rfl, h4, fun q hq => by cases hq⟩⟩
def bs {i : Nat} {τ₀ Γ τ Γe : Type} [Slot τ₀] [EnvR Γ] [Rep τ] [EnvR Γe] (b : Bk i Γ τ Γe) : Bk (i + 1) (τ₀ × Γ) τ (τ₀ × Γe) := ⟨fun γ => (γ.1, b.back γ.2), fun {K G F L σ γ o} ⟨L1, L2, u, σ', h1, h2, h3, h4, h5⟩ => by
  cases σ with
  | nil => cases h2
  | cons x σ0 =>
    have e1 : x = u := (List.cons.inj h2).1
    have e2 : σ0.set i o = σ' := (List.cons.inj h2).2
    subst e1
    subst e2
    exact ⟨L1, L2, x, σ0, h1, rfl, h3, b.ok h4, h5⟩⟩
def mlc (p : Put i Γ τ Γe) (bk : Bk i Γ τ Γe) (g : Γ → Option (List τ × Γ)) (t : Γe → Option (Bool × Γe)) (e : Γe → Option (α × Γe)) : Γ → Option (List α × Γ) := fun γ => (g γ).bind fun (xs, γ1) => if xs.length ≤ 100000 then
  lcSt (fun x γ => (t (p.put γ x)).map fun (b, γ') => (b, bk.back γ')) (fun x γ => (e (p.put γ x)).map fun (y, γ') => (y, bk.back γ')) xs γ1 else none
abbrev VTs (X : Cx) (ifs : List Expr) (f : Γ → Option Bool) : Prop := PTs X ifs (tet X.K f)
abbrev MTs (X : Cx) (ifs : List Expr) (f : Γ → Option (Bool × Γ)) : Prop := PTs X ifs (tmt X.K f)
theorem PTs.le {X : Cx} {e : List Expr} {t t' : TT} (h : PTs X e t) (k : ∀ σ H Q, t' σ H Q → t σ H Q) : PTs X e t' := ⟨fun pins s σ H Q I q => h.run pins s σ H Q I (k σ H Q q)⟩
def fyes : Γ → Option Bool := fun _ => some true
theorem vts_nil : VTs X [] (fyes (Γ := Γ)) := PTs.le pts_nil fun σ H Q ⟨F, G, L, γ, x, w, he, ea, q⟩ => by
  cases ea
  exact q G H (Ex.refl G) w
theorem vts_one {c : Expr} {f : Γ → Option Bool} (h : VT X c f) : VTs X [c] f := pts_one h
theorem vts_up {ifs : List Expr} {f : Γ → Option Bool} (h : VTs X ifs f) : MTs X ifs (up f) := PTs.le h fun σ H Q ⟨F, G, L, γ, x, γ', w, he, ea, q⟩ => by
  obtain ⟨ex, rfl⟩ := up_some ea
  exact ⟨F, G, L, γ', x, w, he, ex, fun G2 H2 e2 w2 => q F G2 H2 e2 w2 (fun _ _ => rfl) (EnvR.mono e2 he)⟩
theorem mts_one {c : Expr} {f : Γ → Option (Bool × Γ)} (h : MT X c f) : MTs X [c] f := pts_one h
theorem set_set' {σ : St} {i : Nat} {a b : Option V} : (σ.set i a).set i b = σ.set i b := List.set_set ..
variable [Rep α]
/-- the turns of a comprehension -/
theorem tlc {K : PySem.W.Frag} {p : Put i Γ τ Γe} {bk : Bk i Γ τ Γe} {g : Γ → Option (List τ × Γ)} {t : Γe → Option (Bool × Γe)} {e : Γe → Option (α × Γe)} {σ : L2.St} {H : Hp} {Q : VK} (h : tem K (RF K) (mlc p bk g t e) σ H Q) :
    tLc (tim K g) (gName i) (tmt K t) (tem K (RE K) e) [i] σ H Q := by
  obtain ⟨F, G, L, γ, zs, γ', w, he, ea, q⟩ := h
  unfold mlc at ea
  cases e0 : g γ with
  | none => rw [e0] at ea; cases ea
  | some r =>
  obtain ⟨xs, γ1⟩ := r
  rw [e0] at ea
  simp only [Option.bind_some] at ea
  split at ea
  case isFalse => cases ea
  rename_i hlen
  refine ⟨F, G, L, γ, xs, γ1, w, he, e0, fun J F1 G1 H1 x1 w1 of1 er1 wl D hD => ?_⟩
  have fd := w1.fresh hD
  have nD : ∀ {F' : Hp} {acc : List V}, (∀ q ∈ L, q ≠ D) := fun {F' acc} q hq z => EnvR.there er1 q hq (by rw [z]; exact fd.2)
  refine ⟨fun j m H' => m = xs.length - j ∧ j ≤ xs.length ∧ ∃ F2 G2 acc ys γ2 rest, Ex G1 G2 ∧ W (upd F2 D (.lst acc)) G2 H' ∧ F2 D = none ∧ (∀ b, b ∉ L → F2 b = F b) ∧ er K G2 F2 L σ γ2 ∧ PySem.Paired (rep K G2) ys acc ∧ acc.length ≤ j ∧
      lcSt (fun x γ => (t (p.put γ x)).map fun (b, γ') => (b, bk.back γ')) (fun x γ => (e (p.put γ x)).map fun (y, γ') => (y, bk.back γ')) (xs.drop j) γ2 = some (rest, γ') ∧ zs = ys ++ rest, ⟨xs.length, by simp, Nat.zero_le _, F1, G1, [], [], γ1, zs, Ex.refl _, w1.own hD, fd.2, of1, er1, .nil, Nat.zero_le _, ea, rfl⟩, ?_⟩
  rintro j m H' ⟨rfl, hj, F2, G2, acc, ys, γ2, rest, x2, w2, fD, of2, er2, r2, hacc, go, rfl⟩
  have wb : W F2 G2 H' := w2.less fun a o z => by
    rw [upd_ne (fun y => by rw [y, fD] at z; cases z)]
    exact z
  have keepE : ∀ {F3 G3 : Hp} {γ3 : Γ} {acc : List V}, er K G3 F3 L σ γ3 → er K G3 (upd F3 D (.lst acc)) L σ γ3 := fun {F3 G3 γ3 acc} z => EnvR.keep (fun q hq => upd_ne (nD (F' := F2) (acc := []) q hq)) z
  by_cases hlt : j < xs.length
  · obtain ⟨x, hx⟩ : ∃ x, xs[j]? = some x := ⟨xs[j], List.getElem?_eq_getElem hlt⟩
    obtain ⟨hgo, hyl⟩ := (wl (upd F2 D (.lst acc)) G2 H' x2 w2 j).1 x hx
    have hdrop : xs.drop j = x :: xs.drop (j + 1) := by
      rw [List.drop_eq_getElem_cons hlt]
      have : xs[j] = x := Option.some.inj ((List.getElem?_eq_getElem hlt).symm.trans hx)
      rw [this]
    rw [hdrop] at go
    unfold lcSt at go
    refine .inr ⟨hgo, fun H3 => ∃ F2 G2 acc ys γ2 rest', Ex G1 G2 ∧ W (upd F2 D (.lst acc)) G2 H3 ∧ F2 D = none ∧ (∀ b, b ∉ L → F2 b = F b) ∧ er K G2 F2 L σ γ2 ∧ PySem.Paired (rep K G2) ys acc ∧ acc.length ≤ j + 1 ∧
      lcSt (fun x γ => (t (p.put γ x)).map fun (b, γ') => (b, bk.back γ')) (fun x γ => (e (p.put γ x)).map fun (y, γ') => (y, bk.back γ')) (xs.drop (j + 1)) γ2 = some (rest', γ') ∧ _ = ys ++ rest', fun H3 z => ⟨xs.length - (j + 1), by omega, rfl, hlt, z⟩, fun xv H3 hy => ?_⟩
    obtain ⟨G3, x3, w3, rx⟩ := hyl xv H3 hy
    have er3 : er K G3 (upd F2 D (.lst acc)) L (σ.set i (some xv)) (p.put γ2 x) := p.ok (keepE (EnvR.mono x3 er2)) rx
    show wipe ((σ.set i none).set i (some xv)) [i] = wipe σ [i] ∧ _
    refine ⟨by show ((σ.set i none).set i (some xv)).set i none = σ.set i none; rw [set_set', set_set'], ?_⟩
    rw [show (wipe σ [i]).set i (some xv) = σ.set i (some xv) from set_set']
    cases et : t (p.put γ2 x) with
    | none =>
      rw [et] at go
      cases go
    | some rb =>
      obtain ⟨b, γb⟩ := rb
      rw [et] at go
      simp only [Option.map_some, Option.bind_some] at go
      refine ⟨_, G3, L, _, b, γb, w3, er3, et, fun F4 G4 H4 x4 w4 of4 er4 => ?_⟩
      have hF4 : F4 D = some (.lst acc) := by
        rw [of4 D (fun z => nD (F' := F2) (acc := []) D z rfl), upd_same]
      have er4' : er K G4 F4 L σ (bk.back γb) := bk.ok er4
      have off4 : ∀ b, b ∉ L → del F4 D b = F b := fun b hb => by
        by_cases hbD : b = D
        · rw [hbD, del_same]
          exact (by rw [← of1 D (fun z => nD (F' := F2) (acc := []) D z rfl)]; exact fd.2.symm)
        · rw [del_ne hbD, of4 b hb, upd_ne hbD]
          exact of2 b hb
      have updel : ∀ {F5 : Hp} {o : HO}, F5 D = some o → upd (del F5 D) D o = F5 := fun {F5 o} z => by
        funext a
        by_cases haD : a = D
        · rw [haD, upd_same, z]
        · rw [upd_ne haD, del_ne haD]
      cases b with
      | false =>
        simp only [Bool.false_eq_true, if_false] at go ⊢
        refine ⟨del F4 D, G4, acc, ys, bk.back γb, rest, (x2.trans x3).trans x4, by rw [updel hF4]; exact w4, del_same, off4, EnvR.keep (fun q hq => del_ne (nD (F' := F2) (acc := []) q hq)) er4', Paired.mono (fun _ _ z => Rep.mono (x3.trans x4) z) r2, by omega, go, rfl⟩
      | true =>
        simp only [if_true] at go ⊢
        cases ee : e (p.put (bk.back γb) x) with
        | none =>
          rw [ee] at go
          cases go
        | some ry =>
          obtain ⟨y, γy⟩ := ry
          rw [ee] at go
          simp only [Option.map_some, Option.bind_some] at go
          cases eg : lcSt (fun x γ => (t (p.put γ x)).map fun (b, γ') => (b, bk.back γ')) (fun x γ => (e (p.put γ x)).map fun (y, γ') => (y, bk.back γ')) (xs.drop (j + 1)) (bk.back γy) with
          | none =>
            rw [eg] at go
            cases go
          | some rr =>
            obtain ⟨rest', γr⟩ := rr
            rw [eg] at go
            simp only [Option.map_some] at go
            cases go
            have er4'' : er K G4 F4 L (σ.set i (some xv)) (p.put (bk.back γb) x) := p.ok er4' (Rep.mono x4 rx)
            refine ⟨F4, G4, L, _, y, γy, w4, er4'', ee, fun yv F5 G5 H5 x5 w5 of5 er5 ry => ?_⟩
            have hF5 : F5 D = some (.lst acc) := by
              rw [of5 D (fun z => nD (F' := F2) (acc := []) D z rfl)]
              exact hF4
            refine ⟨acc, w5.f _ _ hF5, Nat.lt_of_lt_of_le (Nat.lt_of_le_of_lt hacc (Nat.lt_of_lt_of_le hlt hlen)) line_ge, del F5 D, G5, acc ++ [yv], ys ++ [y], bk.back γy, rest', ((x2.trans x3).trans x4).trans x5, ?_, del_same, fun b hb => ?_,
              EnvR.keep (fun q hq => del_ne (nD (F' := F2) (acc := []) q hq)) (bk.ok er5), paired_app (Paired.mono (fun _ _ z => Rep.mono ((x3.trans x4).trans x5) z) r2) (.cons ry .nil), ?_, eg, ?_⟩
            · have : upd (del F5 D) D (.lst (acc ++ [yv])) = upd F5 D (.lst (acc ++ [yv])) := by
                funext a
                by_cases haD : a = D
                · rw [haD, upd_same, upd_same]
                · rw [upd_ne haD, upd_ne haD, del_ne haD]
              rw [this]
              exact w5.set hF5
            · by_cases hbD : b = D
              · rw [hbD, del_same]
                exact (by rw [← of1 D (fun z => nD (F' := F2) (acc := []) D z rfl)]; exact fd.2.symm)
              · rw [del_ne hbD, of5 b hb]
                rw [← off4 b hb, del_ne hbD]
            · rw [List.length_append, List.length_singleton]
              omega
            · rw [List.append_assoc]
              rfl
  · have hj' : j = xs.length := by omega
    subst hj'
    rw [List.drop_length] at go
    unfold lcSt at go
    cases go
    refine .inl ⟨(wl (upd F2 D (.lst acc)) G2 H' x2 w2 xs.length).2 (Nat.le_refl _), ?_⟩
    rw [List.append_nil] at q
    exact q _ F2 G2 H' (x1.trans x2) wb of2 er2 ⟨D, acc, rfl, fD, w2.d D _ upd_same, w2.f _ _ upd_same, r2⟩
end
end Vx
namespace Vx
open Rep (rep)
open EnvR (er)
open PySem L2
/-- a slot that holds nothing known, for a comprehension's own name -/
structure PB (i : Nat) (Γ τ Γe : Type) [EnvR Γ] [Rep τ] [EnvR Γe] where
  p : Put i Γ τ Γe
  b : Bk i Γ τ Γe
  bp : ∀ γ t, b.back (p.put γ t) = γ
def cz {Γ τ : Type} [EnvR Γ] [Rep τ] : PB 0 (Any × Γ) τ (τ × Γ) := ⟨pz, bz, fun γ t => rfl⟩
def cs {i : Nat} {τ₀ Γ τ Γe : Type} [Slot τ₀] [EnvR Γ] [Rep τ] [EnvR Γe] (c : PB i Γ τ Γe) : PB (i + 1) (τ₀ × Γ) τ (τ₀ × Γe) := ⟨ps c.p, bs c.b, fun γ t => by
  show (γ.1, c.b.back (c.p.put γ.2 t)) = γ
  rw [c.bp]⟩
section
variable {Γ : Type} [EnvR Γ] {α β τ : Type} [Rep τ] [Rep α] {i : Nat} {Γe : Type} [EnvR Γe]
/-- the turns of a comprehension that changes nothing -/
theorem tlcp {K : PySem.W.Frag} {p : Put i Γ τ Γe} {g : Γ → Option (List τ)} {t : Γe → Option Bool} {e : Γe → Option α} {σ : L2.St} {H : Hp} {Q : VK} (h : tev K (RF K) (flc p g t e) σ H Q) :
    tLc (tiv K g) (gName i) (tet K t) (tev K (RE K) e) [i] σ H Q := by
  obtain ⟨F, G, L, γ, zs, w, he, ea, q⟩ := h
  unfold flc at ea
  cases e0 : g γ with
  | none => rw [e0] at ea; cases ea
  | some xs =>
  rw [e0] at ea
  simp only [Option.bind_some] at ea
  split at ea
  case isFalse => cases ea
  rename_i hlen
  refine ⟨F, G, L, γ, xs, w, he, e0, fun J G1 H1 x1 w1 wl D hD => ?_⟩
  have fd := w1.fresh hD
  have nD : ∀ q ∈ L, q ≠ D := fun q hq z => EnvR.there he q hq (by rw [z]; exact fd.2)
  refine ⟨fun j m H' => m = xs.length - j ∧ j ≤ xs.length ∧ ∃ G2 acc ys rest, Ex G1 G2 ∧ W (upd F D (.lst acc)) G2 H' ∧ PySem.Paired (rep K G2) ys acc ∧ acc.length ≤ j ∧
      lcGo (fun x => t (p.put γ x)) (fun x => e (p.put γ x)) (xs.drop j) = some rest ∧ zs = ys ++ rest, ⟨xs.length, by simp, Nat.zero_le _, G1, [], [], zs, Ex.refl _, w1.own hD, .nil, Nat.zero_le _, ea, rfl⟩, ?_⟩
  rintro j m H' ⟨rfl, hj, G2, acc, ys, rest, x2, w2, r2, hacc, go, rfl⟩
  have fDx : ∀ acc : List V, Ex F (upd F D (.lst acc)) := fun acc a o z => by
    rw [upd_ne (fun y => by rw [y, fd.2] at z; cases z)]
    exact z
  by_cases hlt : j < xs.length
  · obtain ⟨x, hx⟩ : ∃ x, xs[j]? = some x := ⟨xs[j], List.getElem?_eq_getElem hlt⟩
    obtain ⟨hgo, hyl⟩ := (wl (upd F D (.lst acc)) G2 H' x2 w2 j).1 x hx
    have hdrop : xs.drop j = x :: xs.drop (j + 1) := by
      rw [List.drop_eq_getElem_cons hlt]
      have : xs[j] = x := Option.some.inj ((List.getElem?_eq_getElem hlt).symm.trans hx)
      rw [this]
    rw [hdrop] at go
    unfold lcGo at go
    refine .inr ⟨hgo, fun H3 => ∃ G2 acc ys rest', Ex G1 G2 ∧ W (upd F D (.lst acc)) G2 H3 ∧ PySem.Paired (rep K G2) ys acc ∧ acc.length ≤ j + 1 ∧
      lcGo (fun x => t (p.put γ x)) (fun x => e (p.put γ x)) (xs.drop (j + 1)) = some rest' ∧ _ = ys ++ rest', fun H3 z => ⟨xs.length - (j + 1), by omega, rfl, hlt, z⟩, fun xv H3 hy => ?_⟩
    obtain ⟨G3, x3, w3, rx⟩ := hyl xv H3 hy
    have er3 : er K G3 (upd F D (.lst acc)) L (σ.set i (some xv)) (p.put γ x) := p.ok (EnvR.keep (fun q hq => upd_ne (nD q hq)) (EnvR.mono ((x1.trans x2).trans x3) he)) rx
    show wipe ((σ.set i none).set i (some xv)) [i] = wipe σ [i] ∧ _
    refine ⟨by show ((σ.set i none).set i (some xv)).set i none = σ.set i none; rw [set_set', set_set'], ?_⟩
    rw [show (wipe σ [i]).set i (some xv) = σ.set i (some xv) from set_set']
    cases et : t (p.put γ x) with
    | none =>
      rw [et] at go
      cases go
    | some b =>
      rw [et] at go
      simp only [Option.bind_some] at go
      refine ⟨_, G3, L, _, b, w3, er3, et, fun G4 H4 x4 w4 => ?_⟩
      cases b with
      | false =>
        simp only [Bool.false_eq_true, if_false] at go ⊢
        exact ⟨G4, acc, ys, rest, (x2.trans x3).trans x4, w4, Paired.mono (fun _ _ z => Rep.mono (x3.trans x4) z) r2, by omega, go, rfl⟩
      | true =>
        simp only [if_true] at go ⊢
        cases ee : e (p.put γ x) with
        | none =>
          rw [ee] at go
          cases go
        | some y =>
          rw [ee] at go
          simp only [Option.bind_some] at go
          cases eg : lcGo (fun x => t (p.put γ x)) (fun x => e (p.put γ x)) (xs.drop (j + 1)) with
          | none =>
            rw [eg] at go
            cases go
          | some rest' =>
            rw [eg] at go
            simp only [Option.map_some] at go
            cases go
            refine ⟨_, G4, L, _, y, w4, EnvR.mono x4 er3, ee, fun yv G5 H5 x5 w5 ry => ?_⟩
            refine ⟨acc, w5.f _ _ upd_same, Nat.lt_of_lt_of_le (Nat.lt_of_le_of_lt hacc (Nat.lt_of_lt_of_le hlt hlen)) line_ge, G5, acc ++ [yv], ys ++ [y], rest', ((x2.trans x3).trans x4).trans x5, ?_,
              paired_app (Paired.mono (fun _ _ z => Rep.mono ((x3.trans x4).trans x5) z) r2) (.cons ry .nil), ?_, (by first | exact eg | rfl), ?_⟩
            · have := w5.set (u := .lst (acc ++ [yv])) upd_same
              rw [upd_upd] at this
              exact this
            · rw [List.length_append, List.length_singleton]
              omega
            · rw [List.append_assoc]
              rfl
  · have hj' : j = xs.length := by omega
    subst hj'
    rw [List.drop_length] at go
    unfold lcGo at go
    cases go
    refine .inl ⟨(wl (upd F D (.lst acc)) G2 H' x2 w2 xs.length).2 (Nat.le_refl _), ?_⟩
    rw [List.append_nil] at q
    exact q _ G2 H' (x1.trans x2) (w2.less (fDx acc)) ⟨D, acc, rfl, fd.2, w2.d D _ upd_same, w2.f _ _ upd_same, r2⟩
variable {X : Cx} {elt iter : Expr} {ifs : List Expr} {scope : Scope} {pos tpos : Pos} {x : Str}
/-- [elt for x in iter if ..], x in slot i; the draw goes on -/
theorem mf_lc (c : PB i Γ τ Γe) {g : Γ → Option (List τ × Γ)} {t : Γe → Option (Bool × Γe)} {e : Γe → Option (α × Γe)} (hc : X.calm = true) (hN : X.N.Nodup) (hi : MI X (.Name x tpos) iter g) (ok : blkC X.N X.env.scope scope [(x, i)] = true)
    (hg : ∀ (s : Shared) (H : Hp) (C : Addr) (cl : List (Str × Addr)) (fp : List Addr), PG (X.blk s H scope (compEnvC scope cl C X.env) fp) (.Name x tpos) (gName i))
    (ht : ∀ (s : Shared) (H : Hp) (C : Addr) (cl : List (Str × Addr)) (fp : List Addr), MTs (X.blk s H scope (compEnvC scope cl C X.env) fp) ifs t)
    (he : ∀ (s : Shared) (H : Hp) (C : Addr) (cl : List (Str × Addr)) (fp : List Addr), ME (X.blk s H scope (compEnvC scope cl C X.env) fp) elt e) (hs : ∀ x, foldedSetIterable iter X.env x = pure x := by intro _; rfl) :
    MO X (.ListComp elt [⟨.Name x tpos, iter, ifs, 0⟩] scope pos) (RF X.K) (mlc c.p c.b g t e) :=
  PE.le (pe_lc (own := [(x, i)]) (g := gName i) hc hN hi (blkOk_by ok) hg ht he hs) fun σ H Q h => tlc h
theorem vf_lc (p : Put i Γ τ Γe) {g : Γ → Option (List τ)} {t : Γe → Option Bool} {e : Γe → Option α} (hc : X.calm = true) (hN : X.N.Nodup) (hi : VI X (.Name x tpos) iter g) (ok : blkC X.N X.env.scope scope [(x, i)] = true)
    (hg : ∀ (s : Shared) (H : Hp) (C : Addr) (cl : List (Str × Addr)) (fp : List Addr), PG (X.blk s H scope (compEnvC scope cl C X.env) fp) (.Name x tpos) (gName i))
    (ht : ∀ (s : Shared) (H : Hp) (C : Addr) (cl : List (Str × Addr)) (fp : List Addr), VTs (X.blk s H scope (compEnvC scope cl C X.env) fp) ifs t)
    (he : ∀ (s : Shared) (H : Hp) (C : Addr) (cl : List (Str × Addr)) (fp : List Addr), VE (X.blk s H scope (compEnvC scope cl C X.env) fp) elt e) (hs : ∀ x, foldedSetIterable iter X.env x = pure x := by intro _; rfl) :
    VF X (.ListComp elt [⟨.Name x tpos, iter, ifs, 0⟩] scope pos) (flc p g t e) :=
  PE.le (pe_lc (own := [(x, i)]) (g := gName i) hc hN hi (blkOk_by ok) hg ht he hs) fun σ H Q h => tlcp h
end
end Vx
namespace Vx
open Rep (rep)
open EnvR (er)
open PySem L2
/-! ### what a def must leave of the list that it was given: nothing, or the list of ints in slot 0 -/
class Md (S : Type) where
  own : S → Addr → Hp → Prop
  atp : Addr → L2.St → Prop
  okI : Nat → Bool
  keep : ∀ {p : Addr} {σ : L2.St} {i : Nat} {o : Option V}, okI i = true → atp p σ → atp p (σ.set i o)
instance : Md Unit := ⟨fun _ _ _ => True, fun _ _ => True, fun _ => true, fun _ h => h⟩
instance : Md (List Int) := ⟨fun s p F => F p = some (.lst (s.map V.int)), fun p σ => σ[0]? = some (some (.ref p)), fun i => match i with | 0 => false | _ => true, fun {p σ i o} h k => by
  cases i with
  | zero => cases h
  | succ n =>
    cases σ with
    | nil => cases k
    | cons x r => exact k⟩
class Hd (S : Type) [Md S] (Γ : Type) [EnvR Γ] where
  hd : Γ → S
  ok : ∀ {K : PySem.W.Frag} {G F : Hp} {L : List Addr} {σ : L2.St} {γ : Γ} {p : Addr}, er K G F L σ γ → Md.atp S p σ → Md.own (hd γ) p F
instance {Γ : Type} [EnvR Γ] : Hd Unit Γ := ⟨fun _ => (), fun _ _ => trivial⟩
theorem ints_of {K : PySem.W.Frag} {G : Hp} : ∀ {xs : List Int} {vs : List V}, PySem.Paired (rep K G) xs vs → vs = xs.map V.int
  | _, _, .nil => rfl
  | x :: xs, v :: vs, .cons r t => by
    have e : v = .int x := r
    rw [e, ints_of t]
    rfl
theorem of_ints {K : PySem.W.Frag} {G : Hp} : ∀ {xs : List Int}, PySem.Paired (rep K G) xs (xs.map V.int)
  | [] => .nil
  | _ :: _ => .cons rfl of_ints
instance {Γ : Type} [EnvR Γ] : Hd (List Int) (OL Int × Γ) := ⟨fun γ => γ.1.l, fun {K G F L σ γ p} h k => by
  obtain ⟨L1, L2, o, σ', h1, h2, ⟨q, vs, h3, h4, h5, h6⟩, _⟩ := h
  subst h2
  have e : o = some (V.ref p) := Option.some.inj k
  rw [h4] at e
  cases e
  show F p = some (.lst (γ.1.l.map V.int))
  rw [h5, ints_of h6]⟩
inductive Fl (Γ S ρ : Type) where
  | nx (γ : Γ)
  | rt (r : ρ) (s : S)
def Fl.bnd {Γ Γ' S ρ : Type} (x : Fl Γ S ρ) (k : Γ → Option (Fl Γ' S ρ)) : Option (Fl Γ' S ρ) := match x with
  | .nx γ => k γ
  | .rt r s => some (.rt r s)
/-- what else was owned is as it was -/
def Off (L : List Addr) (F F2 : Hp) : Prop := ∀ b o, b ∉ L → F b = some o → F2 b = some o
def Sub (L L2 : List Addr) (F : Hp) : Prop := ∀ b ∈ L2, b ∈ L ∨ F b = none
theorem Off.refl {L : List Addr} {F : Hp} : Off L F F := fun _ _ _ h => h
theorem Sub.refl {L : List Addr} {F : Hp} : Sub L L F := fun _ h => .inl h
theorem Off.trans {L L2 : List Addr} {F F2 F3 : Hp} (a : Off L F F2) (s : Sub L L2 F) (b : Off L2 F2 F3) : Off L F F3 := fun c o h e => b c o (fun z => by
  rcases s c z with q | q
  · exact h q
  · rw [q] at e
    cases e) (a c o h e)
theorem Sub.trans {L L2 L3 : List Addr} {F F2 : Hp} (a : Sub L L2 F) (s : Sub L2 L3 F2) (o : Off L F F2) : Sub L L3 F := fun c h => by
  rcases s c h with q | q
  · exact a c q
  · by_cases hL : c ∈ L
    · exact .inl hL
    · cases e : F c with
      | none => exact .inr rfl
      | some u =>
        rw [o c u hL e] at q
        cases q
theorem Off.of {L : List Addr} {F F2 : Hp} (h : ∀ b, b ∉ L → F2 b = F b) : Off L F F2 := fun b o hb e => (h b hb).trans e
section
variable {Γ Γ' Γ'' S ρ : Type} [EnvR Γ] [EnvR Γ'] [EnvR Γ''] [Md S] {α β τ : Type}
def Post (K : PySem.W.Frag) (R : RR ρ) (D : Ends) (F G : Hp) (L : List Addr) (p : Addr) : Fl Γ' S ρ → Prop
  | .nx γ' => ∀ σ' L2 F2 G2 H2, Ex G G2 → W F2 G2 H2 → L2.Nodup → Off L F F2 → Sub L L2 F → er K G2 F2 L2 σ' γ' → Md.atp S p σ' → D.nx σ' H2
  | .rt x s => ∀ v F2 G2 H2, Ex G G2 → W F2 G2 H2 → Off L F F2 → Md.own s p F2 → R F2 G2 H2 x v → D.rt v H2
theorem Post.trans {K : PySem.W.Frag} {R : RR ρ} {D : Ends} {F G F2 G2 : Hp} {L L2 : List Addr} {p : Addr} {r : Fl Γ' S ρ} (h : Post K R D F G L p r) (x : Ex G G2) (o : Off L F F2) (s : Sub L L2 F) : Post K R D F2 G2 L2 p r := by
  cases r with
  | nx γ => exact fun σ' L3 F3 G3 H3 x3 w3 n3 o3 s3 er3 at3 => h σ' L3 F3 G3 H3 (x.trans x3) w3 n3 (o.trans s o3) (s.trans s3 o) er3 at3
  | rt y t => exact fun v F3 G3 H3 x3 w3 o3 ow r3 => h v F3 G3 H3 (x.trans x3) w3 (o.trans s o3) ow r3
def tst (K : PySem.W.Frag) (S : Type) [Md S] (R : RR ρ) (f : Γ → Option (Fl Γ' S ρ)) : TS := fun D σ H => ∃ F G L γ p r, W F G H ∧ L.Nodup ∧ er K G F L σ γ ∧ Md.atp S p σ ∧ f γ = some r ∧ Post K R D F G L p r
abbrev VS (X : Cx) (S : Type) [Md S] (R : RR ρ) (st : Stmt) (f : Γ → Option (Fl Γ' S ρ)) : Prop := PS X st (tst X.K S R f)
abbrev VSs (X : Cx) (S : Type) [Md S] (R : RR ρ) (st : List Stmt) (f : Γ → Option (Fl Γ' S ρ)) : Prop := PSs X st (tst X.K S R f)
variable {X : Cx} {R : RR ρ} {e a b c : Expr} {pos : Pos} {st : Stmt} {sts : List Stmt}
/-! ### blocks -/
def snil (w : Wk Γ Γ') : Γ → Option (Fl Γ' S ρ) := fun γ => some (.nx (w.wk γ))
def sseq (f : Γ → Option (Fl Γ' S ρ)) (g : Γ' → Option (Fl Γ'' S ρ)) : Γ → Option (Fl Γ'' S ρ) := fun γ => (f γ).bind fun x => x.bnd g
theorem vs_nil (w : Wk Γ Γ') : VSs X S R [] (snil (S := S) w) := PSs.le pss_nil fun D σ H ⟨F, G, L, γ, p, r, wd, nd, he, ha, ea, k⟩ => by
  cases ea
  obtain ⟨L', sl, e'⟩ := w.ok he
  exact k σ L' F G H (Ex.refl _) wd (nd.sublist sl) Off.refl (fun b hb => .inl (sl.subset hb)) e' ha
theorem vs_cons {f : Γ → Option (Fl Γ' S ρ)} {g : Γ' → Option (Fl Γ'' S ρ)} (h : VS X S R st f) (k : VSs X S R sts g) : VSs X S R (st :: sts) (sseq f g) := PSs.le (pss_cons h k) fun D σ H ⟨F, G, L, γ, p, r, wd, nd, he, ha, ea, q⟩ => by
  unfold sseq at ea
  cases e1 : f γ with
  | none => rw [e1] at ea; cases ea
  | some x =>
    rw [e1] at ea
    refine ⟨F, G, L, γ, p, x, wd, nd, he, ha, e1, ?_⟩
    cases x with
    | nx γ' => exact fun σ' L2 F2 G2 H2 x2 w2 n2 o2 s2 er2 at2 => ⟨F2, G2, L2, γ', p, r, w2, n2, er2, at2, ea, q.trans x2 o2 s2⟩
    | rt x s =>
      cases ea
      exact q
/-- a statement that is never reached -/
def snever : Γ → Option (Fl Γ' S ρ) := fun _ => none
/-! ### x = e -/
def sset {i : Nat} [Rep α] (p : Put i Γ α Γ') (f : Γ → Option α) : Γ → Option (Fl Γ' S ρ) := fun γ => (f γ).map fun a => .nx (p.put γ a)
def ssetm {i : Nat} [Rep α] (p : Put i Γ α Γ') (f : Γ → Option (α × Γ)) : Γ → Option (Fl Γ' S ρ) := fun γ => (f γ).map fun (a, γ) => .nx (p.put γ a)
/-- the own cells are younger than what comes now -/
theorem vs_setM {i : Nat} [Rep α] (pt : Put i Γ α Γ') {x : Str} {pos' : Pos} {f : Γ → Option (α × Γ)} (hN : X.N.Nodup) (h : ME X e f) (hi : X.N[i]? = some x := by rfl) (hx : Loc X.env.scope x := by first | exact Or.inl rfl | exact Or.inr rfl) (ho : Md.okI S i = true := by rfl) (hs : swapsWith e (some (.Name x pos')) pos.line X.env = pure false := by rfl)
    (hf : X.fn x = true ∨ X.env.scope.names.lookup x = some .local := by first | exact .inl rfl | exact .inr rfl) : VS X S R (.Assign [.Name x pos'] e pos) (ssetm (S := S) pt f) :=
  PS.le (ps_set hN hi hx h hs hf) fun D σ H ⟨F, G, L, γ, p, r, wd, nd, he, ha, ea, k⟩ => by
    unfold ssetm at ea
    cases e1 : f γ with
    | none => rw [e1] at ea; cases ea
    | some y =>
      rw [e1] at ea
      cases ea
      refine ⟨F, G, L, γ, y.1, y.2, wd, he, e1, fun v F2 G2 H2 x2 w2 of er2 r2 => ?_⟩
      exact k _ L F2 G2 H2 x2 w2 nd (Off.of of) Sub.refl (pt.ok er2 r2) (Md.keep ho ha)
theorem vs_set {i : Nat} [Rep α] (pt : Put i Γ α Γ') {x : Str} {pos' : Pos} {f : Γ → Option α} (hN : X.N.Nodup) (h : VE X e f) (hi : X.N[i]? = some x := by rfl) (hx : Loc X.env.scope x := by first | exact Or.inl rfl | exact Or.inr rfl) (ho : Md.okI S i = true := by rfl) (hs : swapsWith e (some (.Name x pos')) pos.line X.env = pure false := by rfl)
    (hf : X.fn x = true ∨ X.env.scope.names.lookup x = some .local := by first | exact .inl rfl | exact .inr rfl) : VS X S R (.Assign [.Name x pos'] e pos) (sset (S := S) pt f) :=
  PS.le (ps_set hN hi hx h hs hf) fun D σ H ⟨F, G, L, γ, p, r, wd, nd, he, ha, ea, k⟩ => by
    unfold sset at ea
    cases e1 : f γ with
    | none => rw [e1] at ea; cases ea
    | some y =>
      rw [e1] at ea
      cases ea
      refine ⟨F, G, L, γ, y, wd, he, e1, fun v G2 H2 x2 w2 r2 => ?_⟩
      exact k _ L F G2 H2 x2 w2 nd Off.refl Sub.refl (pt.ok (EnvR.mono x2 he) r2) (Md.keep ho ha)
/-! ### return -/
def sret [Hd S Γ] (f : Γ → Option ρ) : Γ → Option (Fl Γ' S ρ) := fun γ => (f γ).map fun a => .rt a (Hd.hd γ)
def sretm [Hd S Γ] (f : Γ → Option (ρ × Γ)) : Γ → Option (Fl Γ' S ρ) := fun γ => (f γ).map fun (a, γ) => .rt a (Hd.hd γ)
theorem vs_ret [Hd S Γ] {f : Γ → Option ρ} (h : VO X e R f) : VS X S R (.Return (some e) pos) (sret (S := S) (Γ' := Γ') f) := PS.le (ps_ret h) fun D σ H ⟨F, G, L, γ, p, r, wd, nd, he, ha, ea, k⟩ => by
  unfold sret at ea
  cases e1 : f γ with
  | none => rw [e1] at ea; cases ea
  | some y =>
    rw [e1] at ea
    cases ea
    exact ⟨F, G, L, γ, y, wd, he, e1, fun v G2 H2 x2 w2 r2 => k v F G2 H2 x2 w2 Off.refl (Hd.ok he ha) r2⟩
theorem vs_retM [Hd S Γ] {f : Γ → Option (ρ × Γ)} (h : MO X e R f) : VS X S R (.Return (some e) pos) (sretm (S := S) (Γ' := Γ') f) := PS.le (ps_ret h) fun D σ H ⟨F, G, L, γ, p, r, wd, nd, he, ha, ea, k⟩ => by
  unfold sretm at ea
  cases e1 : f γ with
  | none => rw [e1] at ea; cases ea
  | some y =>
    rw [e1] at ea
    cases ea
    exact ⟨F, G, L, γ, y.1, y.2, wd, he, e1, fun v F2 G2 H2 x2 w2 of er2 r2 => k v F2 G2 H2 x2 w2 (Off.of of) (Hd.ok er2 ha) r2⟩
/-! ### if -/
def sif (c : Γ → Option Bool) (f g : Γ → Option (Fl Γ' S ρ)) : Γ → Option (Fl Γ' S ρ) := fun γ => (c γ).bind fun b => if b then f γ else g γ
def sifm (c : Γ → Option (Bool × Γ)) (f g : Γ → Option (Fl Γ' S ρ)) : Γ → Option (Fl Γ' S ρ) := fun γ => (c γ).bind fun (b, γ) => if b then f γ else g γ
theorem vs_if {cf : Γ → Option Bool} {f g : Γ → Option (Fl Γ' S ρ)} {bs cs : List Stmt} (hc : VT X c cf) (hf : VSs X S R bs f) (hg : VSs X S R cs g) : VS X S R (.If c bs cs pos) (sif cf f g) := PS.le (ps_if hc hf hg) fun D σ H ⟨F, G, L, γ, p, r, wd, nd, he, ha, ea, k⟩ => by
  unfold sif at ea
  cases e1 : cf γ with
  | none => rw [e1] at ea; cases ea
  | some y =>
    rw [e1] at ea
    refine ⟨F, G, L, γ, y, wd, he, e1, fun G2 H2 x2 w2 => ?_⟩
    have k' := k.trans x2 (Off.refl (F := F)) (Sub.refl (L := L))
    cases y with
    | true => exact ⟨F, G2, L, γ, p, r, w2, nd, EnvR.mono x2 he, ha, ea, k'⟩
    | false => exact ⟨F, G2, L, γ, p, r, w2, nd, EnvR.mono x2 he, ha, ea, k'⟩
/-! ### an expression alone -/
def sex {α : Type} (f : Γ → Option α) : Γ → Option (Fl Γ S ρ) := fun γ => (f γ).map fun _ => .nx γ
def sexm {α : Type} (f : Γ → Option (α × Γ)) : Γ → Option (Fl Γ S ρ) := fun γ => (f γ).map fun (_, γ) => .nx γ
theorem vs_ex {α : Type} {R' : RR α} {f : Γ → Option α} (h : VO X e R' f) (hs : swapsWith e none pos.line X.env = pure false := by rfl) : VS X S R (.Expr e pos) (sex (S := S) f) := PS.le (ps_expr h hs) fun D σ H ⟨F, G, L, γ, p, r, wd, nd, he, ha, ea, k⟩ => by
  unfold sex at ea
  cases e1 : f γ with
  | none => rw [e1] at ea; cases ea
  | some y =>
    rw [e1] at ea
    cases ea
    exact ⟨F, G, L, γ, y, wd, he, e1, fun v G2 H2 x2 w2 r2 => k σ L F G2 H2 x2 w2 nd Off.refl Sub.refl (EnvR.mono x2 he) ha⟩
/-! ### for -/
def forL {S : Type} (step : τ → Γ → Option (Fl Γ S ρ)) : List τ → Γ → Option (Fl Γ S ρ)
  | [], γ => some (.nx γ)
  | x :: xs, γ => (step x γ).bind fun r => r.bnd (forL step xs)
/-- how an item comes to the target's slots -/
structure Tg (Γ τ Γe : Type) [EnvR Γ] [Rep τ] [EnvR Γe] (K : PySem.W.Frag) (S : Type) [Md S] (g : TG) where
  put : Γ → τ → Γe
  ok : ∀ {F G H : Hp} {L : List Addr} {σ : L2.St} {γ : Γ} {t : τ} {v : V} {p : Addr} {Q : L2.St → Hp → Prop}, W F G H → er K G F L σ γ → Md.atp S p σ → rep K G t v → (∀ σ', er K G F L σ' (put γ t) → Md.atp S p σ' → Q σ' H) → g v σ H Q
def tgName {i : Nat} [Rep τ] {Γe : Type} [EnvR Γe] {K : PySem.W.Frag} (p : Put i Γ τ Γe) (ho : Md.okI S i = true := by rfl) : Tg Γ τ Γe K S (gName i) := ⟨p.put, fun w he ha r k => k _ (p.ok he r) (Md.keep ho ha)⟩
def sfor [Rep τ] {Γh Γe : Type} [EnvR Γh] [EnvR Γe] (w : Wk Γ Γh) (put : Γh → τ → Γe) (g : Γ → Option (List τ)) (f : Γe → Option (Fl Γh S ρ)) : Γ → Option (Fl Γh S ρ) := fun γ => (g γ).bind fun xs => forL (fun x γ => f (put γ x)) xs (w.wk γ)
def sform [Rep τ] {Γh Γe : Type} [EnvR Γh] [EnvR Γe] (w : Wk Γ Γh) (put : Γh → τ → Γe) (g : Γ → Option (List τ × Γ)) (f : Γe → Option (Fl Γh S ρ)) : Γ → Option (Fl Γh S ρ) := fun γ => (g γ).bind fun (xs, γ) => forL (fun x γ => f (put γ x)) xs (w.wk γ)
theorem tfor [Rep τ] {Γh Γe : Type} [EnvR Γh] [EnvR Γe] {K : PySem.W.Frag} {w : Wk Γ Γh} {tg : TG} (T : Tg Γh τ Γe K S tg) {g : Γ → Option (List τ × Γ)} {f : Γe → Option (Fl Γh S ρ)} {D : Ends} {σ : L2.St} {H : Hp} (h : tst K S R (sform w T.put g f) D σ H) :
    tFor (tim K g) tg (tst K S R f) D σ H := by
  obtain ⟨F, G, L, γ, p, r, wd, nd, he, ha, ea, k⟩ := h
  unfold sform at ea
  cases e1 : g γ with
  | none => rw [e1] at ea; cases ea
  | some y =>
  obtain ⟨xs, γ1⟩ := y
  rw [e1] at ea
  simp only [Option.bind_some] at ea
  refine ⟨F, G, L, γ, xs, γ1, wd, he, e1, fun J F1 G1 H1 x1 w1 of1 er1 wl => ?_⟩
  refine ⟨fun j m σ' H' => m = xs.length - j ∧ j ≤ xs.length ∧ ∃ F2 G2 L2 γ2, Ex G1 G2 ∧ W F2 G2 H' ∧ L2.Nodup ∧ Off L F F2 ∧ Sub L L2 F ∧ er K G2 F2 L2 σ' γ2 ∧ Md.atp S p σ' ∧ forL (fun x γ => f (T.put γ x)) (xs.drop j) γ2 = some r, ?_, ?_⟩
  · obtain ⟨L', sl, er'⟩ := w.ok er1
    exact ⟨xs.length, by simp, Nat.zero_le _, F1, G1, L', w.wk γ1, Ex.refl _, w1, nd.sublist sl, Off.of of1, fun b hb => .inl (sl.subset hb), er', ha, ea⟩
  · rintro j m σ' H' ⟨rfl, hj, F2, G2, L2, γ2, x2, w2, n2, o2, s2, er2, at2, go⟩
    by_cases hlt : j < xs.length
    · obtain ⟨x, hx⟩ : ∃ x, xs[j]? = some x := ⟨xs[j], List.getElem?_eq_getElem hlt⟩
      obtain ⟨hgo, hyl⟩ := (wl F2 G2 H' x2 w2 j).1 x hx
      have hdrop : xs.drop j = x :: xs.drop (j + 1) := by
        rw [List.drop_eq_getElem_cons hlt]
        have : xs[j] = x := Option.some.inj ((List.getElem?_eq_getElem hlt).symm.trans hx)
        rw [this]
      rw [hdrop] at go
      unfold forL at go
      cases e2 : f (T.put γ2 x) with
      | none =>
        simp only [e2] at go
        cases go
      | some fr =>
      simp only [e2, Option.bind_some] at go
      refine .inr ⟨hgo, fun σ' H3 => ∃ F2 G2 L2 γ2, Ex G1 G2 ∧ W F2 G2 H3 ∧ L2.Nodup ∧ Off L F F2 ∧ Sub L L2 F ∧ er K G2 F2 L2 σ' γ2 ∧ Md.atp S p σ' ∧ forL (fun x γ => f (T.put γ x)) (xs.drop (j + 1)) γ2 = some r,
        fun σ' H3 z => ⟨xs.length - (j + 1), by omega, rfl, hlt, z⟩, fun xv H3 hy => ?_⟩
      obtain ⟨G3, x3, w3, rx⟩ := hyl xv H3 hy
      refine T.ok w3 (EnvR.mono x3 er2) at2 rx fun σ4 er4 at4 => ?_
      refine ⟨F2, G3, L2, _, p, fr, w3, n2, er4, at4, e2, ?_⟩
      cases fr with
      | nx γ5 => exact fun σ5 L5 F5 G5 H5 x5 w5 n5 o5 s5 er5 at5 => ⟨F5, G5, L5, γ5, (x2.trans x3).trans x5, w5, n5, o2.trans s2 o5, s2.trans s5 o2, er5, at5, go⟩
      | rt y s =>
        cases go
        exact fun v F5 G5 H5 x5 w5 o5 ow r5 => k v F5 G5 H5 (((x1.trans x2).trans x3).trans x5) w5 (o2.trans s2 o5) ow r5
    · have hj' : j = xs.length := by omega
      subst hj'
      rw [List.drop_length] at go
      unfold forL at go
      cases go
      exact .inl ⟨(wl F2 G2 H' x2 w2 xs.length).2 (Nat.le_refl _), k σ' L2 F2 G2 H' (x1.trans x2) w2 n2 o2 s2 er2 at2⟩
end
end Vx
namespace Vx
open Rep (rep)
open EnvR (er)
open PySem L2
/-! ### lists of one's own -/
structure Own (i : Nat) (Γ α Γd : Type) [EnvR Γ] [Rep α] [EnvR Γd] where
  get : Γ → List α
  set : Γ → List α → Γ
  drop : Γ → Γd
  ok : ∀ {K : PySem.W.Frag} {G F : Hp} {L : List Addr} {σ : L2.St} {γ : Γ}, er K G F L σ γ → ∃ q vs, σ[i]? = some (some (.ref q)) ∧ q ∈ L ∧ F q = some (.lst vs) ∧ PySem.Paired (rep K G) (get γ) vs ∧
    (∀ {G' : Hp} {ys : List α} {vs' : List V}, Ex G G' → PySem.Paired (rep K G') ys vs' → er K G' (upd F q (.lst vs')) L σ (set γ ys)) ∧
    ∃ L', (∀ b ∈ L', b ∈ L ∧ b ≠ q) ∧ L'.Sublist L ∧ er K G (del F q) L' σ (drop γ)
def oz {Γ α : Type} [EnvR Γ] [Rep α] : Own 0 (OL α × Γ) α (Any × Γ) := ⟨fun γ => γ.1.l, fun γ ys => (⟨ys⟩, γ.2), fun γ => (⟨⟩, γ.2), fun {K G F L σ γ} ⟨L1, L2, o, σ', h1, h2, ⟨q, vs, h3, h4, h5, h6⟩, h7, h8⟩ => by
  subst h2
  have hq : q ∉ L2 := h8 q (by rw [h3]; exact List.mem_singleton.mpr rfl)
  refine ⟨q, vs, by rw [h4]; rfl, by rw [h1, h3]; exact List.mem_append_left _ (List.mem_singleton.mpr rfl), h5, h6, fun {G' ys vs'} e r => ?_, L2, fun b hb => ⟨by rw [h1]; exact List.mem_append_right _ hb, fun z => hq (by rw [← z]; exact hb)⟩, by rw [h1]; exact List.sublist_append_right _ _, ?_⟩
  · exact ⟨L1, L2, o, σ', h1, rfl, ⟨q, vs', h3, h4, upd_same, r⟩, EnvR.keep (fun b hb => upd_ne (fun z => hq (by rw [← z]; exact hb))) (EnvR.mono e h7), h8⟩
  · exact ⟨[], L2, o, σ', rfl, rfl, rfl, EnvR.keep (fun b hb => del_ne (fun z => hq (by rw [← z]; exact hb))) h7, fun _ hb => by cases hb⟩⟩
def os {i : Nat} {τ Γ α Γd : Type} [Slot τ] [EnvR Γ] [Rep α] [EnvR Γd] (w : Own i Γ α Γd) : Own (i + 1) (τ × Γ) α (τ × Γd) := ⟨fun γ => w.get γ.2, fun γ ys => (γ.1, w.set γ.2 ys), fun γ => (γ.1, w.drop γ.2), fun {K G F L σ γ} ⟨L1, L2, o, σ', h1, h2, h3, h4, h5⟩ => by
  obtain ⟨q, vs, k1, k2, k3, k4, k5, L', k6, k7, k8⟩ := w.ok h4
  subst h2
  have hq : q ∉ L1 := fun z => h5 q z k2
  refine ⟨q, vs, k1, by rw [h1]; exact List.mem_append_right _ k2, k3, k4, fun {G' ys vs'} e r => ?_, L1 ++ L', fun b hb => ?_, by rw [h1]; exact List.Sublist.append (List.Sublist.refl _) k7, ?_⟩
  · exact ⟨L1, L2, o, σ', h1, rfl, Slot.keep (fun b hb => upd_ne (fun z => hq (by rw [← z]; exact hb))) (Slot.mono e h3), k5 e r, h5⟩
  · rcases List.mem_append.mp hb with h | h
    · exact ⟨by rw [h1]; exact List.mem_append_left _ h, fun z => hq (by rw [← z]; exact h)⟩
    · exact ⟨by rw [h1]; exact List.mem_append_right _ (k6 b h).1, (k6 b h).2⟩
  · exact ⟨L1, L', o, σ', rfl, rfl, Slot.keep (fun b hb => del_ne (fun z => hq (by rw [← z]; exact hb))) h3, k8, fun b hb hb' => h5 b hb (k6 b hb').1⟩⟩
/-- the i-th slot is given a list just made -/
structure PutO (i : Nat) (Γ α Γ' : Type) [EnvR Γ] [Rep α] [EnvR Γ'] where
  put : Γ → List α → Γ'
  ok : ∀ {K : PySem.W.Frag} {G F : Hp} {L : List Addr} {σ : L2.St} {γ : Γ} {q : Addr} {xs : List α} {vs : List V}, er K G F L σ γ → q ∉ L → F q = some (.lst vs) → PySem.Paired (rep K G) xs vs →
    ∃ L', (∀ b ∈ L', b ∈ L ∨ b = q) ∧ (L.Nodup → L'.Nodup) ∧ er K G F L' (σ.set i (some (.ref q))) (put γ xs)
def poz {τ₀ Γ α : Type} [Slot τ₀] [EnvR Γ] [Rep α] : PutO 0 (τ₀ × Γ) α (OL α × Γ) := ⟨fun γ xs => (⟨xs⟩, γ.2), fun {K G F L σ γ q xs vs} ⟨L1, L2, o, σ', h1, h2, h3, h4, h5⟩ hq hF r => by
  subst h2
  have hq2 : q ∉ L2 := fun z => hq (by rw [h1]; exact List.mem_append_right _ z)
  exact ⟨q :: L2, fun b hb => by
    rcases List.mem_cons.mp hb with h | h
    · exact .inr h
    · exact .inl (by rw [h1]; exact List.mem_append_right _ h), fun nd => List.nodup_cons.mpr ⟨hq2, by rw [h1] at nd; exact (List.nodup_append.mp nd).2.1⟩, [q], L2, _, σ', rfl, rfl, ⟨q, vs, rfl, rfl, hF, r⟩, h4, fun b hb => by
      rw [List.mem_singleton.mp hb]
      exact hq2⟩⟩
def pos' {i : Nat} {τ Γ α Γ' : Type} [Slot τ] [EnvR Γ] [Rep α] [EnvR Γ'] (p : PutO i Γ α Γ') : PutO (i + 1) (τ × Γ) α (τ × Γ') := ⟨fun γ xs => (γ.1, p.put γ.2 xs), fun {K G F L σ γ q xs vs} ⟨L1, L2, o, σ', h1, h2, h3, h4, h5⟩ hq hF r => by
  subst h2
  have hq2 : q ∉ L2 := fun z => hq (by rw [h1]; exact List.mem_append_right _ z)
  have hq1 : q ∉ L1 := fun z => hq (by rw [h1]; exact List.mem_append_left _ z)
  obtain ⟨L', k1, k2, k3⟩ := p.ok h4 hq2 hF r
  have dj : ∀ b ∈ L1, b ∉ L' := fun b hb hb' => by
    rcases k1 b hb' with h | h
    · exact h5 b hb h
    · exact hq1 (by rw [← h]; exact hb)
  refine ⟨L1 ++ L', fun b hb => ?_, fun nd => ?_, L1, L', o, _, rfl, rfl, h3, k3, dj⟩
  · rcases List.mem_append.mp hb with h | h
    · exact .inl (by rw [h1]; exact List.mem_append_left _ h)
    · rcases k1 b h with h | h
      · exact .inl (by rw [h1]; exact List.mem_append_right _ h)
      · exact .inr h
  · rw [h1] at nd
    obtain ⟨n1, n2, n3⟩ := List.nodup_append.mp nd
    exact List.nodup_append.mpr ⟨n1, k2 n2, fun a ha b hb z => dj a ha (by rw [z]; exact hb)⟩⟩
section
variable {Γ Γ' Γ'' Γd S ρ : Type} [EnvR Γ] [EnvR Γ'] [EnvR Γ''] [EnvR Γd] [Md S] {α β τ : Type} [Rep α] [Rep τ]
variable {X : Cx} {R : RR ρ} {e a b c : Expr} {pos : Pos} {st : Stmt} {sts : List Stmt} {i : Nat}
/-- one's own list, read -/
def fown (o : Own i Γ α Γd) : Γ → Option (List α) := fun γ => some (o.get γ)
theorem vl_own (o : Own i Γ α Γd) {x : Str} (hN : X.N[i]? = some x := by rfl) (hv : Vis X.env.scope x := by first | exact Or.inl rfl | exact Or.inr (Or.inl rfl) | exact Or.inr (Or.inr rfl)) (hd : (x == ("__debug__" : Str)) = false := by decide)
    (hcd : (x == ("__classdict__" : Str)) = false := by decide) : VL X (.Name x pos) (fown o) := PE.le (pe_var hN hv hd hcd) fun σ H Q ⟨F, G, L, γ, a, w, h, ea, q⟩ => by
  obtain ⟨p, vs, k1, k2, k3, k4, _⟩ := o.ok h
  cases ea
  exact ⟨.ref p, k1, q _ G H (Ex.refl G) w ⟨p, vs, rfl, .inr k3, k4⟩⟩
/-- x = a list just made, to be changed -/
def snew (p : PutO i Γ α Γ') (f : Γ → Option (List α)) : Γ → Option (Fl Γ' S ρ) := fun γ => (f γ).map fun xs => .nx (p.put γ xs)
theorem W.take {F G H : Hp} {p : Addr} {o : HO} (w : W F G H) (hF : F p = none) (hG : G p = none) (hH : H p = some o) : W (upd F p o) G H := ⟨w.g, fun a u q => by
  by_cases z : a = p
  · subst z
    rw [upd_same] at q
    rw [← q]
    exact hH
  · rw [upd_ne z] at q
    exact w.f a u q, fun a u q => by
  by_cases z : a = p
  · subst z
    exact hG
  · rw [upd_ne z] at q
    exact w.d a u q⟩
theorem off_new {L : List Addr} {F : Hp} {p : Addr} {o : HO} (h : F p = none) : Off L F (upd F p o) := fun b u _ e => by
  rw [upd_ne (ne_of_none e h)]
  exact e
theorem vs_new (pt : PutO i Γ α Γ') {x : Str} {pos' : Pos} {f : Γ → Option (List α)} (hN : X.N.Nodup) (h : VF X e f) (hi : X.N[i]? = some x := by rfl) (hx : Loc X.env.scope x := by first | exact Or.inl rfl | exact Or.inr rfl) (ho : Md.okI S i = true := by rfl) (hs : swapsWith e (some (.Name x pos')) pos.line X.env = pure false := by rfl)
    (hf : X.fn x = true ∨ X.env.scope.names.lookup x = some .local := by first | exact .inl rfl | exact .inr rfl) : VS X S R (.Assign [.Name x pos'] e pos) (snew (S := S) pt f) :=
  PS.le (ps_set hN hi hx h hs hf) fun D σ H ⟨F, G, L, γ, p, r, wd, nd, he, ha, ea, k⟩ => by
    unfold snew at ea
    cases e1 : f γ with
    | none => rw [e1] at ea; cases ea
    | some y =>
      rw [e1] at ea
      cases ea
      refine ⟨F, G, L, γ, y, wd, he, e1, fun v G2 H2 x2 w2 ⟨q, vs, ev, hF, hG, hH, r2⟩ => ?_⟩
      subst ev
      have hq : q ∉ L := fun z => EnvR.there he q z hF
      obtain ⟨L', l1, l2, l3⟩ := pt.ok (F := upd F q (.lst vs)) (EnvR.keep (fun b hb => upd_ne (fun z => hq (by rw [← z]; exact hb))) (EnvR.mono x2 he)) hq upd_same r2
      exact k _ L' (upd F q (.lst vs)) G2 H2 x2 (w2.take hF hG hH) (l2 nd) (off_new hF) (fun b hb => (l1 b hb).imp id fun z => by rw [z]; exact hF) l3 (Md.keep ho ha)
/-- found.append(e) -/
def sapp (o : Own i Γ α Γd) (f : Γ → Option (α × Γ)) : Γ → Option (Fl Γ S ρ) := fun γ => (f γ).bind fun (y, γ') => if (o.get γ').length < 100000 then some (.nx (o.set γ' (o.get γ' ++ [y]))) else none
theorem tyV_list {K : PySem.W.Frag} {H : Hp} {p : Addr} {vs : List V} (h : H p = some (.lst vs)) : tyV K "list" (.ref p) H := .inl ⟨rfl, _, SqL.of h⟩
theorem vs_app (o : Own i Γ α Γd) {f : Γ → Option (α × Γ)} {x : Str} {p1 p2 p3 : Pos} (h : ME X e f) (hN : X.N[i]? = some x := by rfl) (hv : Vis X.env.scope x := by first | exact Or.inl rfl | exact Or.inr (Or.inl rfl) | exact Or.inr (Or.inr rfl)) (hd : (x == ("__debug__" : Str)) = false := by decide)
    (hcd : (x == ("__classdict__" : Str)) = false := by decide) (hpe : ∀ t, PA X [e] t → PE X (.Call (.Attribute (.Name x p1) "append" p2) [e] [] p3) (tBM X.K "list" rAppend (tVar i) t)) (hs : swapsWith (.Call (.Attribute (.Name x p1) "append" p2) [e] [] p3) none pos.line X.env = pure false := by rfl)
    (he : starEach [e] X.env = (false, eval e X.env) :: starEach [] X.env := by rfl) : VS X S R (.Expr (.Call (.Attribute (.Name x p1) "append" p2) [e] [] p3) pos) (sapp (S := S) o f) :=
  PS.le (ps_expr (hpe _ (pa_cons h pa_nil he)) hs) fun D σ H ⟨F, G, L, γ, p, r, wd, nd, he, ha, ea, k⟩ => by
    unfold sapp at ea
    cases e1 : f γ with
    | none => rw [e1] at ea; cases ea
    | some y =>
      obtain ⟨y, γ'⟩ := y
      rw [e1] at ea
      simp only [Option.bind_some] at ea
      split at ea
      case isFalse => cases ea
      rename_i hlen
      cases ea
      obtain ⟨q, vs, k1, k2, k3, k4, k5, _⟩ := o.ok he
      refine ⟨.ref q, k1, tyV_list (wd.f _ _ k3), F, G, L, γ, y, γ', wd, he, e1, fun v F2 G2 H2 x2 w2 of er2 r2 => ?_⟩
      obtain ⟨q', vs', j1, j2, j3, j4, j5, _⟩ := o.ok er2
      rw [k1] at j1
      cases j1
      refine ⟨q, vs', v, rfl, rfl, w2.f _ _ j3, by rw [← paired_len j4]; exact Nat.lt_of_lt_of_le hlen line_ge, ?_⟩
      exact k σ L _ G2 _ x2 (w2.set j3) nd (fun b u hb e => by rw [upd_ne (fun z => hb (by rw [z]; exact k2))]; exact (of b hb).trans e) Sub.refl (j5 (Ex.refl _) (paired_app j4 (.cons r2 .nil))) ha
/-! ### for, while -/
theorem vs_forM {Γh Γe : Type} [EnvR Γh] [EnvR Γe] (w : Wk Γ Γh) {tg : TG} (T : Tg Γh τ Γe X.K S tg) {target iter : Expr} {body : List Stmt} {g : Γ → Option (List τ × Γ)} {f : Γe → Option (Fl Γh S ρ)} (hp : PassesOwn (model X.prog X.w) X.A X.env X.xe) (hc : X.calm = true) (hi : MI X target iter g) (hg : PG X target tg) (hb : VSs X S R body f)
    (hs : ∀ x, foldedSetIterable iter X.env x = pure x := by intro _; rfl) : VS X S R (.For target iter body [] pos) (sform (S := S) w T.put g f) := PS.le (ps_for hp hc hi hg hb hs) fun D σ H h => tfor T h
theorem vs_for {Γh Γe : Type} [EnvR Γh] [EnvR Γe] (w : Wk Γ Γh) {tg : TG} (T : Tg Γh τ Γe X.K S tg) {target iter : Expr} {body : List Stmt} {g : Γ → Option (List τ)} {f : Γe → Option (Fl Γh S ρ)} (hp : PassesOwn (model X.prog X.w) X.A X.env X.xe) (hc : X.calm = true) (hi : VI X target iter g) (hg : PG X target tg) (hb : VSs X S R body f)
    (hs : ∀ x, foldedSetIterable iter X.env x = pure x := by intro _; rfl) : VS X S R (.For target iter body [] pos) (sfor (S := S) w T.put g f) := PS.le (vs_forM w T hp hc (vi_up hi) hg hb hs) fun D σ H ⟨F, G, L, γ, p, r, wd, nd, he, ha, ea, k⟩ =>
    ⟨F, G, L, γ, p, r, wd, nd, he, ha, by
      rw [← ea]
      unfold sform sfor up
      cases g γ <;> rfl, k⟩
def whl (n : Nat) (c : Γ → Option Bool) (f : Γ → Option (Fl Γ S ρ)) : Γ → Option (Fl Γ S ρ) := match n with
  | 0 => fun _ => none
  | n + 1 => fun γ => (c γ).bind fun b => if b then (f γ).bind fun r => r.bnd (whl n c f) else some (.nx γ)
def swhl {Γh : Type} [EnvR Γh] (w : Wk Γ Γh) (n : Nat) (c : Γh → Option Bool) (f : Γh → Option (Fl Γh S ρ)) : Γ → Option (Fl Γh S ρ) := fun γ => whl n c f (w.wk γ)
theorem vs_while {Γh : Type} [EnvR Γh] (w : Wk Γ Γh) (n : Nat) {body : List Stmt} {cf : Γh → Option Bool} {f : Γh → Option (Fl Γh S ρ)} (hp : PassesOwn (model X.prog X.w) X.A X.env X.xe) (hc : VT X c cf) (hb : VSs X S R body f) : VS X S R (.While c body [] pos) (swhl (S := S) w n cf f) :=
  PS.le (ps_while hp hc hb) fun D σ H ⟨F, G, L, γ, p, r, wd, nd, he, ha, ea, k⟩ => by
    refine ⟨fun m σ' H' => ∃ F2 G2 L2 γ2, Ex G G2 ∧ W F2 G2 H' ∧ L2.Nodup ∧ Off L F F2 ∧ Sub L L2 F ∧ er X.K G2 F2 L2 σ' γ2 ∧ Md.atp S p σ' ∧ whl m cf f γ2 = some r, ?_, ?_⟩
    · obtain ⟨L', sl, er'⟩ := w.ok he
      exact ⟨n, F, G, L', w.wk γ, Ex.refl _, wd, nd.sublist sl, Off.refl, fun b hb => .inl (sl.subset hb), er', ha, ea⟩
    · rintro m σ' H' ⟨F2, G2, L2, γ2, x2, w2, n2, o2, s2, er2, at2, go⟩
      cases m with
      | zero => cases go
      | succ m =>
        unfold whl at go
        cases e1 : cf γ2 with
        | none => rw [e1] at go; cases go
        | some y =>
          rw [e1] at go
          simp only [Option.bind_some] at go
          refine ⟨F2, G2, L2, γ2, y, w2, er2, e1, fun G3 H3 x3 w3 => ?_⟩
          cases y with
          | false =>
            simp only [Bool.false_eq_true, if_false] at go ⊢
            cases go
            exact k σ' L2 F2 G3 H3 (x2.trans x3) w3 n2 o2 s2 (EnvR.mono x3 er2) at2
          | true =>
            simp only [if_true] at go ⊢
            cases e2 : f γ2 with
            | none => rw [e2] at go; cases go
            | some fr =>
              rw [e2] at go
              simp only [Option.bind_some] at go
              refine ⟨fun σ' H' => ∃ F2 G2 L2 γ2, Ex G G2 ∧ W F2 G2 H' ∧ L2.Nodup ∧ Off L F F2 ∧ Sub L L2 F ∧ er X.K G2 F2 L2 σ' γ2 ∧ Md.atp S p σ' ∧ whl m cf f γ2 = some r, fun σ' H' z => ⟨m, Nat.lt_succ_self _, z⟩, F2, G3, L2, γ2, p, fr, w3, n2, EnvR.mono x3 er2, at2, e2, ?_⟩
              cases fr with
              | nx γ5 => exact fun σ5 L5 F5 G5 H5 x5 w5 n5 o5 s5 er5 at5 => ⟨F5, G5, L5, γ5, (x2.trans x3).trans x5, w5, n5, o2.trans s2 o5, s2.trans s5 o2, er5, at5, go⟩
              | rt y s =>
                cases go
                exact fun v F5 G5 H5 x5 w5 o5 ow r5 => k v F5 G5 H5 ((x2.trans x3).trans x5) w5 (o2.trans s2 o5) ow r5
end
end Vx
namespace Vx
open Rep (rep)
open EnvR (er)
open PySem PySem.Spec PyProof.Rows L2
/-! ### defs that run where no repr is under way -/
structure GnOk (P : Program) (w : World) (K : PySem.W.Frag) (mg : Str → Option Value) (base : Heap) (k : Nat) (f : Addr) (fd : FuncData) (ps : List Str) (sp : Sp) : Prop where
  len : ∀ vs H Q E, sp vs H Q E → vs.length = ps.length
  run : ∀ (A : Around) (outer : List Env) (s : Shared) (H : Hp) (args : Args) (us : List Value) (vs : List V) (Q : VK), A.guards = some [] → Room k A → Env0 P w K mg base A outer s H →
    BindsTo s fd args (ps.zip us) → Vals vs us → sp vs H Q E0 → codeAny (model P w) A (.call (.ref f) args) (CR CX0 outer P w H s Q E0) s
theorem GnOk.mono {P : Program} {w : World} {K : PySem.W.Frag} {mg : Str → Option Value} {base : Heap} {j k : Nat} {f : Addr} {fd : FuncData} {ps : List Str} {sp : Sp} (F : GnOk P w K mg base j f fd ps sp) (h : j ≤ k) : GnOk P w K mg base k f fd ps sp :=
  ⟨F.len, fun A outer s H args us vs Q hg hr => F.run A outer s H args us vs Q hg (hr.mono h)⟩
/-- the context of a body -/
abbrev bodyX (P : Program) (w : World) (K : PySem.W.Frag) (mg : Str → Option Value) (base : Heap) (N : List Str) (qual : Str) (scope : Scope) (f : Addr) (cdv : Value) (A : Around) (outer : List Env) (s : Shared) (H : Hp) : Cx :=
  (cxOf CX0 P w K mg base N qual scope f cdv A outer s H E0).nox
theorem gn_of {P : Program} {w : World} {K : PySem.W.Frag} {mg : Str → Option Value} {base : Heap} {x qual : Str} {st : Stmt} {f : Addr} {fd : FuncData} {N ps : List Str} {k : Nat} {sp : Sp} (F : Fun K x qual st f fd) (S : FnScope N ps (defScope st))
    (len : ∀ vs H Q E, sp vs H Q E → vs.length = ps.length)
    (body : ∀ (cdv : Value) (A : Around) (outer : List Env) (s : Shared) (H : Hp) (vs : List V) (Q : VK), (A.deeper (envOfC qual (defScope st) s.heap.objs.size f cdv)).guards = some [] →
      Room k (A.deeper (envOfC qual (defScope st) s.heap.objs.size f cdv)) → sp vs H Q E0 →
      ∃ t, PSs (bodyX P w K mg base N qual (defScope st) f cdv A outer s H) (defBody st) t ∧ t { nx := fun _ H' => Q .non H', rt := Q } (start N vs) H) : GnOk P w K mg base (k + 1) f fd ps sp := by
  obtain ⟨oc, od, kV, doc, pm, an, cdv, ct, osl, rfl, lk, hcd⟩ := F.ex
  constructor
  · exact len
  intro A outer s H args us vs Q hgd hr e0 hb r hsp
  have hlv := len vs H Q E0 hsp
  have inK : K.In s.heap := e0.mod.kin.keeps (fun b o e => (e0.bs b o e).1)
  have nlim : s.heap.NoLimit := e0.mod.nolimit.keeps (fun b o e => (e0.bs b o e).1)
  have kinds : ∀ y ∈ ps.zip us, (defScope st).names.lookup y.1 = some .local ∨
      ((defScope st).names.lookup y.1 = some .cell ∧ ((cellsFrom (s.heap.objs.size + 1) (defScope st).names []).lookup y.1).isSome = true) := by
    intro y hy
    cases S.par y.1 (List.of_mem_zip hy).1 with
    | inl q => exact Or.inl q
    | inr q => exact Or.inr ⟨q, PySem.W.cellsFrom_some _ _ _ (Or.inl q)⟩
  apply codeAny_call_function hr.depth (inK _ _ lk) rfl S.co S.gen rfl (PySem.W.codeRec_of inK hcd)
  apply hb
  apply wpAny_newFunctionEnv_cells S.kind kinds
  intro env he s1 x1
  subst he
  constructor
  · exact nlim.keeps x1.toInCall.keep
  apply codeAny_func
  obtain ⟨t, ht, hq⟩ := body cdv A outer s H vs Q hgd (hr.deeper _) hsp
  have I := inv_start (CX := CX0) (E := E0) (w := w) (P := P) S hr.hd e0 hlv r x1
  apply wpAny_mono (ht.nox.run [] s1 (start N vs) H _ I hq)
  · intro fl s' hs
    cases fl with
    | brk => exact hs.elim fun _ z => z.elim fun _ z => z.2.elim
    | cont => exact hs.elim fun _ z => z.elim fun _ z => z.2.elim
    | next =>
      obtain ⟨σ', H', J, q⟩ := hs
      exact ⟨V.non, H', J.os, J.bare, J.base, J.hok, rfl, q⟩
    | ret u =>
      obtain ⟨v, σ', H', J, rv, q⟩ := hs
      exact ⟨v, H', J.os, J.bare, J.base, J.hok, rv, q⟩
  · intro e s' hs
    exact hs
section
variable {X : Cx} {k : Nat} {f : Addr} {fd : FuncData} {ps ks : List Str} {sp : Sp} {x : Str} {p pos : Pos} {e : Expr} {es : List Expr} {t tk : TA} {kws : List Keyword}
theorem g_run {pins : List (Addr × Obj)} {σ : L2.St} {H : Hp} {s : Shared} {Q : VK} {args : Args} {us : List Value} {vs : List V} (F : GnOk X.prog X.w X.K X.mg X.base k f fd ps sp) (hg : X.A.guards = some []) (hr : Room k X.A) (hb : BindsTo s fd args (ps.zip us))
    (I : Inv X pins σ H s) (r : Vals vs us) (h : sp vs H Q E0) : codeAny (model X.prog X.w) X.A (.call (.ref f) args) (fun r s' => match r with
      | .ok (.ret u) => EP X pins σ Q u s'
      | _ => False) s := by
  apply codeAny_mono (F.run X.A X.stack s H args us vs Q hg hr I.env0 hb r h)
  intro r s' hq
  cases r with
  | error e => exact hq
  | ok fl => cases fl with
    | ret u => exact I.after hq
    | next => exact hq
    | brk => exact hq
    | cont => exact hq
theorem ge_call (F : GnOk X.prog X.w X.K X.mg X.base k f fd ps sp) (hgd : X.A.guards = some []) (hr : Room k X.A) (hm : X.mg x = some (.ref f)) (hk : PySem.W.keepIn X.K (.ref f) = true) (hb : Binds X.K fd ps []) (ha : PA X (e :: es) t) (hg : Gl X x := by rfl)
    (hdb : (x == ("__debug__" : Str)) = false := by decide) (he : starEach (e :: es) X.env = (false, eval e X.env) :: starEach es X.env := by rfl) (hpl : (backTo pos (starEach es X.env)).any (·.1) = false := by rfl) :
    PE X (.Call (.Name x p) (e :: es) [] pos) (fun σ H Q => t σ H fun vs H1 => sp vs H1 Q E0) := by
  constructor
  intro pins s σ H Q I h
  apply wpAny_Call_Name_kw
  apply ld_glob I hg hm (hd := hdb)
  refine PySem.W.callWith_K (h₀ := X.base) I.ok.mod.kin hk (thn (ha.run pos pins s σ H _ I h) ?_) he hpl
  intro us s1 ⟨vs, H1, I1, r, q⟩
  constructor
  · exact I1.kIn
  have hl : us.length = ps.length := by
    rw [← r.length]
    exact F.len _ _ _ _ q
  have bt := hb s1 us I1.kIn (by rw [List.append_nil]; exact hl)
  rw [List.append_nil] at bt
  apply wpAny_call
  apply codeAny_mono (g_run F hgd hr bt I1 r q)
  intro r s' z
  cases r with
  | error _ => exact z.elim
  | ok fl => cases fl <;> first | exact z | exact z.elim
/-- the parameters' order: π picks from the positional arguments and the keywords' values, as they are written -/
def pickU (π : List Nat) (l : List Value) : List Value := π.map fun i => l.getD i Value.none
def pickV (π : List Nat) (l : List V) : List V := π.map fun i => l.getD i V.non
theorem vals_pick {vs : List V} {us : List Value} (r : Vals vs us) : ∀ π : List Nat, Vals (pickV π vs) (pickU π us)
  | [] => .nil
  | i :: π => by
    refine .cons ?_ (vals_pick r π)
    show L2.RelV (vs.getD i V.non) (us.getD i Value.none)
    rw [List.getD_eq_getElem?_getD, List.getD_eq_getElem?_getD]
    cases e : vs[i]? with
    | none =>
      rw [r.none_of e]
      rfl
    | some v =>
      obtain ⟨u, hu, ru⟩ := r.get e
      rw [hu]
      exact ru
def KB (fd : FuncData) (ps ks : List Str) (n1 : Nat) (π : List Nat) : Prop := ∀ us ws : List Value, us.length = n1 → ws.length = ks.length → bindArgs fd ⟨us, ks.zip ws⟩ = pure (ps.zip (pickU π (us ++ ws)))
variable {n1 : Nat} {π : List Nat}
/-- f(k = v, ..) -/
theorem ge_callK0 (F : GnOk X.prog X.w X.K X.mg X.base k f fd ps sp) (hgd : X.A.guards = some []) (hr : Room k X.A) (hm : X.mg x = some (.ref f)) (hk : PySem.W.keepIn X.K (.ref f) = true) (hb : KB fd ps ks 0 π) (hkw : PK X kws tk) (hg : Gl X x := by rfl)
    (hall : (backToKw pos (keywordEach kws X.env)).all (·.1.isSome) = true := by rfl) (hks : (backToKw pos (keywordEach kws X.env)).filterMap (·.1) = ks := by rfl)
    (hdb : (x == ("__debug__" : Str)) = false := by decide) (hpl : ((backTo pos (starEach [] X.env)).any (·.1) || (backToKw pos (keywordEach kws X.env)).any (·.1.isNone)) = false := by rfl) :
    PE X (.Call (.Name x p) [] kws pos) (fun σ H Q => tk σ H fun zs H2 => zs.length = ks.length ∧ sp (pickV π zs) H2 Q E0) := by
  constructor
  intro pins s σ H Q I h
  apply wpAny_Call_Name_kw
  apply ld_glob I hg hm (hd := hdb)
  refine PySem.W.callWith_KW0 (h₀ := X.base) I.ok.mod.kin hk hall (thn (hkw.run pos pins s σ H _ I h) ?_) hpl
  intro ws s2 ⟨zs, H2, I2, rz, l2, q2⟩
  constructor
  · exact I2.kIn
  rw [hks]
  have r2 := vals_pick rz π
  apply wpAny_call
  apply codeAny_mono (g_run F hgd hr (.of_eq (hb [] ws rfl (by rw [← rz.length]; exact l2))) I2 r2 q2)
  intro r s' z
  cases r with
  | error _ => exact z.elim
  | ok fl => cases fl <;> first | exact z | exact z.elim
/-! ### defs and calls by their mirrors -/
structure Ini (A Γ : Type) [RepL A] [EnvR Γ] (n : Nat) where
  ini : A → Γ
  ok : ∀ {K : PySem.W.Frag} {G F : Hp} {a : A} {vs : List V}, RepL.rl K G a vs → er K G F [] (vs.map some ++ List.replicate n none) (ini a)
def i0 : Ini Unit Unit 0 := ⟨fun _ => (), fun {K G F a vs} h => by
  have e : vs = [] := h
  rw [e]
  exact ⟨rfl, rfl⟩⟩
def ia {Γ : Type} [EnvR Γ] {n : Nat} (w : Ini Unit Γ n) : Ini Unit (Any × Γ) (n + 1) := ⟨fun a => (⟨⟩, w.ini a), fun {K G F a vs} h => by
  have e : vs = [] := h
  have z := w.ok (F := F) h
  rw [e] at z ⊢
  exact ⟨[], [], none, _, rfl, rfl, rfl, z, fun _ h => by cases h⟩⟩
def ic {α A Γ : Type} [Rep α] [RepL A] [EnvR Γ] {n : Nat} (w : Ini A Γ n) : Ini (α × A) (α × Γ) n := ⟨fun a => (a.1, w.ini a.2), fun {K G F a vs} ⟨v, r, h1, h2, h3⟩ => by
  rw [h1]
  exact ⟨[], [], some v, _, rfl, rfl, ⟨rfl, v, rfl, h2⟩, w.ok h3, fun _ h => by cases h⟩⟩
def im {A Γ : Type} [RepL A] [EnvR Γ] {n : Nat} (w : Ini A Γ n) (s : List Int) (a : A) : OL Int × Γ := (⟨s⟩, w.ini a)
def runF {Γ Γ' ρ : Type} (f : Γ → Option (Fl Γ' Unit ρ)) (γ : Γ) : Option ρ := (f γ).bind fun r => match r with
  | .rt x _ => some x
  | .nx _ => none
def runU {Γ Γ' : Type} (f : Γ → Option (Fl Γ' Unit Unit)) (γ : Γ) : Option Unit := (f γ).bind fun _ => some ()
def runM {Γ Γ' ρ : Type} (f : Γ → Option (Fl Γ' (List Int) ρ)) (γ : Γ) : Option (ρ × List Int) := (f γ).bind fun r => match r with
  | .rt x s => some (x, s)
  | .nx _ => none
end
section
variable {P : Program} {w : World} {K : PySem.W.Frag} {mg : Str → Option Value} {base : Heap} {x qual : Str} {st : Stmt} {f : Addr} {fd : FuncData} {N ps : List Str} {k n : Nat} {A ρ α Γ Γ' : Type} [RepL A] [EnvR Γ] [EnvR Γ'] [Rep ρ] [Rep α]
theorem start_eq {vs : List V} (hn : N.length = RepL.n A + n) (hv : vs.length = RepL.n A) : L2.start N vs = vs.map some ++ List.replicate n none := by
  unfold L2.start
  rw [hn, hv, Nat.add_sub_cancel_left]
abbrev BodyOk (P : Program) (w : World) (K : PySem.W.Frag) (mg : Str → Option Value) (base : Heap) (N : List Str) (qual : Str) (st : Stmt) (k : Nat) (C : Cx → Prop) : Prop := ∀ (cdv : Value) (A : Around) (outer : List Env) (s : Shared) (H : Hp) (f : Addr), (A.deeper (envOfC qual (defScope st) s.heap.objs.size f cdv)).guards = some [] →
      Room k (A.deeper (envOfC qual (defScope st) s.heap.objs.size f cdv)) → C (bodyX P w K mg base N qual (defScope st) f cdv A outer s H)
theorem ok_F (F : Fun K x qual st f fd) (S : FnScope N ps (defScope st)) (I : Ini A Γ n) {b : Γ → Option (Fl Γ' Unit ρ)} (hn : N.length = RepL.n A + n) (hp : RepL.n A = ps.length)
    (body : BodyOk P w K mg base N qual st k fun X => VSs X Unit (RE K) (defBody st) b) : GnOk P w K mg base (k + 1) f fd ps (spF K fun a => runF b (I.ini a)) := by
  apply gn_of F S
  · intro vs H Q E ⟨F, G, a, r, h1, h2, h3, h4⟩
    rw [← hp]
    exact RepL.len h2
  · intro cdv A outer s H vs Q hg hr ⟨F, G, a, r, h1, h2, h3, h4⟩
    refine ⟨_, body cdv A outer s H f hg hr, ?_⟩
    rw [start_eq hn (RepL.len h2)]
    have h3 : runF b (I.ini a) = some r := h3
    unfold runF at h3
    cases e : b (I.ini a) with
    | none => rw [e] at h3; cases h3
    | some fr =>
      rw [e] at h3
      cases fr with
      | nx γ => cases h3
      | rt y u =>
        cases h3
        exact ⟨F, G, [], I.ini a, 0, .rt _ _, h1, List.nodup_nil, I.ok h2, trivial, e, fun v F2 G2 H2 x2 w2 o2 _ r2 => h4 v G2 H2 x2 (w2.less fun b o z => o2 b o (by simp) z) r2⟩
theorem ok_U (F : Fun K x qual st f fd) (S : FnScope N ps (defScope st)) (I : Ini A Γ n) {b : Γ → Option (Fl Γ' Unit Unit)} (hn : N.length = RepL.n A + n) (hp : RepL.n A = ps.length)
    (body : BodyOk P w K mg base N qual st k fun X => VSs X Unit (RE K) (defBody st) b) : GnOk P w K mg base (k + 1) f fd ps (spF K fun a => runU b (I.ini a)) := by
  apply gn_of F S
  · intro vs H Q E ⟨F, G, a, r, h1, h2, h3, h4⟩
    rw [← hp]
    exact RepL.len h2
  · intro cdv A outer s H vs Q hg hr ⟨F, G, a, r, h1, h2, h3, h4⟩
    refine ⟨_, body cdv A outer s H f hg hr, ?_⟩
    rw [start_eq hn (RepL.len h2)]
    have h3 : runU b (I.ini a) = some r := h3
    unfold runU at h3
    cases e : b (I.ini a) with
    | none => rw [e] at h3; cases h3
    | some fr =>
      rw [e] at h3
      cases h3
      refine ⟨F, G, [], I.ini a, 0, fr, h1, List.nodup_nil, I.ok h2, trivial, e, ?_⟩
      cases fr with
      | nx γ => exact fun σ' L2 F2 G2 H2 x2 w2 n2 o2 s2 e2 a2 => h4 .non G2 H2 x2 (w2.less fun b o z => o2 b o (by simp) z) rfl
      | rt y u => exact fun v F2 G2 H2 x2 w2 o2 _ r2 => h4 v G2 H2 x2 (w2.less fun b o z => o2 b o (by simp) z) r2
theorem back {F F2 : Hp} {q : Addr} (h : ∀ o, F q = some o → F2 q = some o) (k : F2 q = none) : F q = none := by
  cases z : F q with
  | none => rfl
  | some o =>
    rw [h o z] at k
    cases k
theorem ok_N (F : Fun K x qual st f fd) (S : FnScope N ps (defScope st)) (I : Ini A Γ n) {b : Γ → Option (Fl Γ' Unit (List α))} (hn : N.length = RepL.n A + n) (hp : RepL.n A = ps.length)
    (body : BodyOk P w K mg base N qual st k fun X => VSs X Unit (RF K) (defBody st) b) : GnOk P w K mg base (k + 1) f fd ps (spN K fun a => runF b (I.ini a)) := by
  apply gn_of F S
  · intro vs H Q E ⟨F, G, a, r, h1, h2, h3, h4⟩
    rw [← hp]
    exact RepL.len h2
  · intro cdv A outer s H vs Q hg hr ⟨F, G, a, r, h1, h2, h3, h4⟩
    refine ⟨_, body cdv A outer s H f hg hr, ?_⟩
    rw [start_eq hn (RepL.len h2)]
    have h3 : runF b (I.ini a) = some r := h3
    unfold runF at h3
    cases e : b (I.ini a) with
    | none => rw [e] at h3; cases h3
    | some fr =>
      rw [e] at h3
      cases fr with
      | nx γ => cases h3
      | rt y u =>
        cases h3
        exact ⟨F, G, [], I.ini a, 0, .rt _ _, h1, List.nodup_nil, I.ok h2, trivial, e, fun v F2 G2 H2 x2 w2 o2 _ ⟨q, vs', k1, k2, k3, k4, k5⟩ => h4 v G2 H2 x2 (w2.less fun b o z => o2 b o (by simp) z) ⟨q, vs', k1, back (fun o z => o2 q o (by simp) z) k2, k3, k4, k5⟩⟩
theorem ok_M (F : Fun K x qual st f fd) (S : FnScope N ps (defScope st)) (I : Ini A Γ n) {b : OL Int × Γ → Option (Fl Γ' (List Int) ρ)} (hn : N.length = RepL.n A + 1 + n) (hp : RepL.n A + 1 = ps.length)
    (body : BodyOk P w K mg base N qual st k fun X => VSs X (List Int) (RE K) (defBody st) b) : GnOk P w K mg base (k + 1) f fd ps (spM K fun s a => runM b (im I s a)) := by
  apply gn_of F S
  · intro vs H Q E ⟨F, G, p, vs', s, a, r, s', h0, h1, hF, h2, h3, h4⟩
    rw [← hp, h0, List.length_cons, RepL.len h2]
  · intro cdv A outer s H vs Q hg hr ⟨F, G, p, vs', ss, a, r, s', h0, h1, hF, h2, h3, h4⟩
    refine ⟨_, body cdv A outer s H f hg hr, ?_⟩
    have e0 : L2.start N vs = some (.ref p) :: (vs'.map some ++ List.replicate n none) := by
      unfold L2.start
      rw [h0, hn, List.length_cons, RepL.len h2, Nat.add_sub_cancel_left]
      rfl
    rw [e0]
    have h3 : runM b (im I ss a) = some (r, s') := h3
    unfold runM at h3
    cases e : b (im I ss a) with
    | none => rw [e] at h3; cases h3
    | some fr =>
      rw [e] at h3
      cases fr with
      | nx γ => cases h3
      | rt y u =>
        cases h3
        refine ⟨F, G, [p], im I ss a, p, .rt _ _, h1, (by simp), ⟨[p], [], _, _, rfl, rfl, ⟨p, _, rfl, rfl, hF, of_ints⟩, I.ok h2, fun _ _ h => by cases h⟩, rfl, e, fun v F2 G2 H2 x2 w2 o2 ow r2 => ?_⟩
        -- what the caller is told: outside of p all as it was
        have offp : ∀ b o, b ≠ p → F b = some o → F2 b = some o := fun b o hb z => o2 b o (fun y => hb (List.mem_singleton.mp y)) z
        have low : Ex (fun b => if b = p then F2 b else F b) F2 := fun b o z => by
          by_cases hb : b = p
          · have z' := (if_pos hb).symm.trans z
            exact z'
          · have z' := (if_neg hb).symm.trans z
            exact offp b o hb z'
        exact h4 v (fun b => if b = p then F2 b else F b) G2 H2 x2 (w2.less low) ((if_pos rfl).trans ow) (fun b hb => if_neg hb) r2
end
/-! ### calls by mirrors -/
section
variable {Γ : Type} [EnvR Γ] {X : Cx} {A A1 A2 ρ α : Type} [RepL A] [RepL A1] [RepL A2] [Rep ρ] [Rep α] {k : Nat} {fa : Addr} {fd : FuncData} {psn ks : List Str} {x : Str} {pp pos : Pos} {e : Expr} {es : List Expr} {kws : List Keyword} {n1 : Nat} {π : List Nat}
theorem vg_call {m : A → Option ρ} {g : Γ → Option A} (Fn : GnOk X.prog X.w X.K X.mg X.base k fa fd psn (spF X.K m)) (hgd : X.A.guards = some []) (hr : Room k X.A) (hm : X.mg x = some (.ref fa)) (hk : PySem.W.keepIn X.K (.ref fa) = true) (hb : Binds X.K fd psn []) (ha : VA X (e :: es) g) (hg : Gl X x := by rfl)
    (hdb : (x == ("__debug__" : Str)) = false := by decide) (he : starEach (e :: es) X.env = (false, eval e X.env) :: starEach es X.env := by rfl) (hpl : (backTo pos (starEach es X.env)).any (·.1) = false := by rfl) : VE X (.Call (.Name x pp) (e :: es) [] pos) (f1 m g) :=
  PE.le (ge_call Fn hgd hr hm hk hb ha hg hdb he hpl) fun σ H Q ⟨F, G, L, γ, r, w, he, ea, q⟩ => by
    unfold f1 at ea
    cases e1 : g γ with
    | none => rw [e1] at ea; cases ea
    | some y =>
      rw [e1] at ea
      exact ⟨F, G, L, γ, y, w, he, e1, fun vs G2 H2 e2 w2 r2 => ⟨F, G2, y, r, w2, r2, ea, fun v G3 H3 e3 w3 r3 => q v G3 H3 (e2.trans e3) w3 r3⟩⟩
theorem vf_gcall {m : A → Option (List α)} {g : Γ → Option A} (Fn : GnOk X.prog X.w X.K X.mg X.base k fa fd psn (spN X.K m)) (hgd : X.A.guards = some []) (hr : Room k X.A) (hm : X.mg x = some (.ref fa)) (hk : PySem.W.keepIn X.K (.ref fa) = true) (hb : Binds X.K fd psn []) (ha : VA X (e :: es) g) (hg : Gl X x := by rfl)
    (hdb : (x == ("__debug__" : Str)) = false := by decide) (he : starEach (e :: es) X.env = (false, eval e X.env) :: starEach es X.env := by rfl) (hpl : (backTo pos (starEach es X.env)).any (·.1) = false := by rfl) : VF X (.Call (.Name x pp) (e :: es) [] pos) (f1 m g) :=
  PE.le (ge_call Fn hgd hr hm hk hb ha hg hdb he hpl) fun σ H Q ⟨F, G, L, γ, r, w, he, ea, q⟩ => by
    unfold f1 at ea
    cases e1 : g γ with
    | none => rw [e1] at ea; cases ea
    | some y =>
      rw [e1] at ea
      exact ⟨F, G, L, γ, y, w, he, e1, fun vs G2 H2 e2 w2 r2 => ⟨F, G2, y, r, w2, r2, ea, fun v G3 H3 e3 w3 r3 => q v G3 H3 (e2.trans e3) w3 r3⟩⟩
/-- the same, its arguments drawn -/
theorem mg_call {m : A → Option ρ} {g : Γ → Option (A × Γ)} (Fn : GnOk X.prog X.w X.K X.mg X.base k fa fd psn (spF X.K m)) (hgd : X.A.guards = some []) (hr : Room k X.A) (hm : X.mg x = some (.ref fa)) (hk : PySem.W.keepIn X.K (.ref fa) = true) (hb : Binds X.K fd psn []) (ha : MA X (e :: es) g) (hg : Gl X x := by rfl)
    (hdb : (x == ("__debug__" : Str)) = false := by decide) (he : starEach (e :: es) X.env = (false, eval e X.env) :: starEach es X.env := by rfl) (hpl : (backTo pos (starEach es X.env)).any (·.1) = false := by rfl) : ME X (.Call (.Name x pp) (e :: es) [] pos) (m1 m g) :=
  PE.le (ge_call Fn hgd hr hm hk hb ha hg hdb he hpl) fun σ H Q ⟨F, G, L, γ, r, γ', w, he, ea, q⟩ => by
    obtain ⟨y, e1, e2⟩ := m1_some ea
    exact ⟨F, G, L, γ, y, γ', w, he, e1, fun vs F2 G2 H2 x2 w2 of er2 r2 => ⟨F2, G2, y, r, w2, r2, e2, fun v G3 H3 x3 w3 r3 => q v F2 G3 H3 (x2.trans x3) w3 of (EnvR.mono x3 er2) r3⟩⟩
/-- the keywords' values brought into the parameters' order -/
def fkw (kA : A1 → A2 → A) (g1 : Γ → Option A1) (g2 : Γ → Option A2) : Γ → Option A := fun γ => (g1 γ).bind fun a => (g2 γ).bind fun b => some (kA a b)
theorem vg_callK0 {m : A → Option ρ} {g2 : Γ → Option A2} (kA : Unit → A2 → A) (hkA : ∀ {K : PySem.W.Frag} {G : Hp} {b : A2} {zs : List V}, RepL.rl K G b zs → RepL.rl K G (kA () b) (pickV π zs))
    (Fn : GnOk X.prog X.w X.K X.mg X.base k fa fd psn (spF X.K m)) (hgd : X.A.guards = some []) (hr : Room k X.A) (hm : X.mg x = some (.ref fa)) (hk : PySem.W.keepIn X.K (.ref fa) = true) (hb : KB fd psn ks 0 π) (hkw : VK' X kws g2) (hn2 : RepL.n A2 = ks.length := by rfl) (hg : Gl X x := by rfl)
    (hall : (backToKw pos (keywordEach kws X.env)).all (·.1.isSome) = true := by rfl) (hks : (backToKw pos (keywordEach kws X.env)).filterMap (·.1) = ks := by rfl)
    (hdb : (x == ("__debug__" : Str)) = false := by decide) (hpl : ((backTo pos (starEach [] X.env)).any (·.1) || (backToKw pos (keywordEach kws X.env)).any (·.1.isNone)) = false := by rfl) :
    VE X (.Call (.Name x pp) [] kws pos) (f1 m (fkw kA fnil g2)) :=
  PE.le (ge_callK0 Fn hgd hr hm hk hb hkw hg hall hks hdb hpl) fun σ H Q ⟨F, G, L, γ, r, w, he, ea, q⟩ => by
    unfold f1 fkw fnil at ea
    simp only [Option.bind_some] at ea
    cases e2 : g2 γ with
    | none => rw [e2] at ea; cases ea
    | some z =>
      rw [e2] at ea
      simp only [Option.bind_some] at ea
      exact ⟨F, G, L, γ, z, w, he, e2, fun zs G3 H3 x3 w3 r3 =>
          ⟨by rw [RepL.len r3, hn2], F, G3, kA () z, r, w3, hkA r3, ea, fun v G4 H4 x4 w4 r4 => q v G4 H4 (x3.trans x4) w4 r4⟩⟩
/-- a def that draws: the list of ints in slot 0 goes first -/
def mdr (m : List Int → A → Option (ρ × List Int)) (g : OL Int × Γ → Option (A × (OL Int × Γ))) : OL Int × Γ → Option (ρ × (OL Int × Γ)) := fun γ => (g γ).bind fun (a, γ') => (m γ'.1.l a).map fun (r, s) => (r, (⟨s⟩, γ'.2))
theorem mg_draw {m : List Int → A → Option (ρ × List Int)} {g : OL Int × Γ → Option (A × (OL Int × Γ))} {y : Str} {py : Pos} (Fn : GnOk X.prog X.w X.K X.mg X.base k fa fd psn (spM X.K m)) (hgd : X.A.guards = some []) (hr : Room k X.A) (hm : X.mg x = some (.ref fa)) (hk : PySem.W.keepIn X.K (.ref fa) = true) (hb : Binds X.K fd psn []) (hy : PE X (.Name y py) (tVar 0)) (ha : MA X es g) (hg : Gl X x := by rfl)
    (hdb : (x == ("__debug__" : Str)) = false := by decide) (he : starEach ((.Name y py) :: es) X.env = (false, eval (.Name y py) X.env) :: starEach es X.env := by rfl) (hpl : (backTo pos (starEach es X.env)).any (·.1) = false := by rfl) : ME X (.Call (.Name x pp) (.Name y py :: es) [] pos) (mdr m g) :=
  PE.le (ge_call Fn hgd hr hm hk hb (pa_cons hy ha he) hg hdb he hpl) fun σ H Q ⟨F, G, L, γ, r, γ', w, he, ea, q⟩ => by
    unfold mdr at ea
    cases e1 : g γ with
    | none => rw [e1] at ea; cases ea
    | some z =>
      obtain ⟨a, γ1⟩ := z
      rw [e1] at ea
      simp only [Option.bind_some] at ea
      cases e2 : m γ1.1.l a with
      | none => rw [e2] at ea; cases ea
      | some u =>
        obtain ⟨rr, s'⟩ := u
        rw [e2] at ea
        cases ea
        obtain ⟨p, vs, k1, _⟩ := (oz (Γ := Γ) (α := Int)).ok he
        refine ⟨.ref p, k1, F, G, L, γ, a, γ1, w, he, e1, fun zs F2 G2 H2 x2 w2 of er2 ra => ?_⟩
        obtain ⟨p', vs', j1, j2, j3, j4, j5, _⟩ := (oz (Γ := Γ) (α := Int)).ok er2
        rw [k1] at j1
        cases j1
        refine ⟨F2, G2, p, zs, γ1.1.l, a, rr, s', rfl, w2, ?_, ra, e2, fun v F3 G3 H3 x3 w3 hp of3 r3 => ?_⟩
        · rw [j3, ints_of (K := X.K) (G := G2) j4]
          rfl
        · have z3 : upd F2 p (.lst (s'.map V.int)) = F3 := by
            funext b
            by_cases hb : b = p
            · rw [hb, upd_same, hp]
            · rw [upd_ne hb, of3 b hb]
          have er3 := j5 x3 (of_ints (K := X.K) (G := G3) (xs := s'))
          rw [z3] at er3
          exact q v F3 G3 H3 (x2.trans x3) w3 (fun b hb => (of3 b (fun z => hb (by rw [z]; exact j2))).trans (of b hb)) er3 r3
end
end Vx
/-! sets of texts, made of a list or of a text's signs, and sorted at once -/
namespace Vx
open Rep (rep)
open EnvR (er)
open PySem PySem.Spec PyProof.Rows L2
def keyS (e : Int × Value) : Str := match e.2 with
  | .str k _ => k
  | _ => Str.empty
def GoodS (w : World) (e : Int × Value) : Prop := ∃ k tk, e.2 = Value.str k tk ∧ e.1 = hashStr w k
/-- at a stands a set whose members are the texts l, each once, in some order -/
def SetS (w : World) (h : Heap) (a : Addr) (l : List Str) : Prop := ∃ o es ep t,
  h.get? a = some o ∧ o.ExactSet ∧ o.data = .set es ep t ∧ (∀ e ∈ es.toList, GoodS w e) ∧ l.Nodup ∧ (es.toList.map keyS).Perm l ∧
  es.size < scanBound ∧ t.fits es.size = true ∧ Ris t.place.toList ∧ (w.params.followText "set-order" = true ∨ t.led = true)
section
variable {P : Program} {w : World} {A : Around} {E : Value → Shared → Prop} {s : Shared} {h h' : Heap} {a : Addr} {l : List Str}
theorem SetS.at (R : SetS w h a l) (k : ∀ o, h.get? a = some o → h'.get? a = some o) : SetS w h' a l := by
  obtain ⟨o, es, ep, t, ho, rest⟩ := R
  exact ⟨o, es, ep, t, k o ho, rest⟩
theorem goodS_is {e : Int × Value} (g : GoodS w e) (k : Str) : (PySem.strKind P w).is k e.2 = true ↔ keyS e = k := by
  obtain ⟨k0, tk, h1, _⟩ := g
  unfold keyS
  rw [h1]
  show Value.isStrOf k (.str k0 tk) = true ↔ k0 = k
  simp [Value.isStrOf]
theorem goodS_elems {es : List (Int × Value)} (g : ∀ e ∈ es, GoodS w e) : ElemsOf (PySem.strKind P w) es := by
  intro e he
  obtain ⟨k, tk, h1, h2⟩ := g e he
  constructor
  · refine ⟨k, ?_, h2⟩
    rw [h1]
    exact strKind_is _ _ _ _
  · rw [h1]
    rfl
theorem goodS_mem {es : List (Int × Value)} (g : ∀ e ∈ es, GoodS w e) (k : Str) : k ∈ es.map keyS ↔ ∃ e ∈ es, (PySem.strKind P w).is k e.2 = true := by
  constructor
  · intro z
    obtain ⟨e, he, q⟩ := List.mem_map.mp z
    exact ⟨e, he, (goodS_is (g e he) k).mpr q⟩
  · intro z
    obtain ⟨e, he, q⟩ := z
    exact List.mem_map.mpr ⟨e, he, (goodS_is (g e he) k).mp q⟩
/-- what lies behind the table's growth -/
theorem setS_tail {gw : Bool → Sem Unit} (hg : ∀ (b : Bool) (s₁ : Shared) (Q' : Unit → Shared → Prop), Q' () s₁ → wpAny (model P w) A (gw b) Q' E s₁) {o : Obj} {es : Array (Int × Value)} {ep : Nat} {t : SetTable}
    (ho : s.heap.get? a = some o) (hex : o.ExactSet) (hd : o.data = .set es ep t) {es1 : Array (Int × Value)} {t2 : SetTable} {l' : List Str} (g1 : ∀ e ∈ es1.toList, GoodS w e) (nd1 : l'.Nodup) (p1 : (es1.toList.map keyS).Perm l')
    (hb1 : es1.size < scanBound) (hf2 : t2.fits es1.size = true) (hr : Ris t2.place.toList) (hl : w.params.followText "set-order" = true ∨ t2.led = true) {wasDummy : Bool} {R : Option Bool → Shared → Prop}
    (hR : ∀ h', Heap.SameBut a s.heap h' → SetS w h' a l' → R (some true) { s with heap := h' }) :
    wpAny (model P w) A (do
        storeSet a es1 t2
        if (!wasDummy && t2.tooFull) = true then do
            gw (relayAll t2 es1 (SetTable.grown es1.size)).2.2
            storeSet a (relayAll t2 es1 (SetTable.grown es1.size)).1 (relayAll t2 es1 (SetTable.grown es1.size)).2.1
            pure (some true)
          else pure (some true)) R E s := by
  have at1 := store_at (es' := es1) (t' := t2) ho hd
  have same1 := Heap.SameBut.update s.heap a (Obj.putSet es1 t2)
  apply wpAny_bind
  apply wpAny_storeSet_of ho hd (fits_of_scanBound hb1 |> fun z => ?_) (fits_of_scanBound hb1)
  split
  · have pm := relayAll_perm t2 es1 (SetTable.grown es1.size)
    have f3 := relayAll_fits t2 es1 (SetTable.grown es1.size)
    have r3 := relayAll_ris t2 es1 (SetTable.grown es1.size)
    have l3 := relayAll_led t2 es1 (SetTable.grown es1.size)
    generalize relayAll t2 es1 (SetTable.grown es1.size) = Z at pm f3 r3 l3 ⊢
    obtain ⟨es2, t3, gave⟩ := Z
    dsimp only at pm f3 r3 l3 ⊢
    have sz : es2.size = es1.size := by
      have := pm.length_eq
      simpa using this
    have b2 : es2.size < scanBound := by omega
    apply wpAny_bind
    apply hg
    apply wpAny_bind
    apply wpAny_storeSet_of at1 rfl ?_ (fits_of_scanBound b2)
    have at2 := store_at (es' := es2) (t' := t3) at1 rfl
    apply wpAny_pure
    apply hR _ (same1.trans (Heap.SameBut.update _ a _))
    refine ⟨_, es2, _, t3, at2, hex, rfl, fun e he => g1 e (pm.mem_iff.mp he), nd1, (pm.map keyS).trans p1, b2, f3, r3, ?_⟩
    cases hl with
    | inl z => exact Or.inl z
    | inr z => exact Or.inr (l3.trans z)
  · apply wpAny_pure
    apply hR _ same1
    exact ⟨_, es1, _, t2, at1, hex, rfl, g1, nd1, p1, hb1, hf2, hr, hl⟩
theorem setS_add {k : Str} {tk : Tok} {Q : Bool → Shared → Prop} (R : SetS w s.heap a l) (room : l.length + 1 < scanBound)
    (hQ : ∀ h' b, Heap.SameBut a s.heap h' → SetS w h' a (if k ∈ l then l else k :: l) → Q b { s with heap := h' }) :
    wpAny (model P w) A (setAddHashed a (.str k tk) (hashStr w k)) Q E s := by
  obtain ⟨o, es, ep, t, ho, hex, hd, g, nd, pm, hb, hf, hr, hl⟩ := R
  have isk : (PySem.strKind P w).is k (.str k tk) = true := strKind_is _ _ _ _
  have scn : (Value.str k tk).scannable = true := rfl
  have hel : ElemsOf (PySem.strKind P w) es.toList := goodS_elems g
  unfold setAddHashed setAddHashedIn
  apply wpAny_holding
  apply wpAny_bind
  apply wpAny_setState_of ho hd hf
  dsimp only
  rw [byScan_of scn hb hel]
  simp only [↓reduceIte]
  unfold setAddByScan
  apply wpAny_bind
  apply wpAny_bind
  apply wpAny_rule
  apply wpAny_bind
  apply wpAny_setScan_of (knd := PySem.strKind P w) (k := k) isk ho hd hf hel
  cases hfi : List.findIdx? (fun e => (PySem.strKind P w).is k e.2) es.toList with
  | some j =>
    dsimp only
    obtain ⟨hj, pj, _⟩ := List.findIdx?_eq_some_iff_getElem.mp hfi
    have kin : k ∈ l := pm.mem_iff.mp ((goodS_mem (P := P) g k).mpr ⟨es.toList[j], List.getElem_mem hj, pj⟩)
    apply wpAny_pure
    apply wpAny_pure
    apply hQ s.heap _ (Heap.SameBut.refl a s.heap)
    rw [if_pos kin]
    exact ⟨o, es, ep, t, ho, hex, hd, g, nd, pm, hb, hf, hr, hl⟩
  | none =>
    dsimp only
    have kout : k ∉ l := by
      intro z
      obtain ⟨e, he, q⟩ := (goodS_mem (P := P) g k).mp (pm.mem_iff.mpr z)
      have c := List.findIdx?_eq_none_iff.mp hfi e he
      rw [q] at c
      cases c
    have gw : ∀ (b : Bool) {s₁ : Shared} {Q' : Unit → Shared → Prop}, Q' () s₁ → wpAny (model P w) A (match b with | true => rule "set.scan.the-table-gave-way" | false => pure ()) Q' E s₁ := by
      intro b s₁ Q' q
      cases b
      · exact wpAny_pure q
      · exact wpAny_rule q
    have pn := layNew_perm t es (hashStr w k) (.str k tk)
    have f1 := layNew_fits t es (hashStr w k) (.str k tk)
    have r1 := layNew_ris t es (hashStr w k) (.str k tk) hr
    have l1 := layNew_led t es (hashStr w k) (.str k tk)
    generalize layNew t es (hashStr w k) (.str k tk) = Z at pn f1 r1 l1 ⊢
    obtain ⟨es1, t1, wasDummy, gave⟩ := Z
    dsimp only at pn f1 r1 l1 ⊢
    rw [Array.toList_push] at pn
    have pc : es1.toList.Perm ((hashStr w k, Value.str k tk) :: es.toList) := pn.trans (List.perm_append_singleton _ _)
    have pk : (es1.toList.map keyS).Perm (k :: l) := (pc.map keyS).trans (List.Perm.cons k pm)
    have g1 : ∀ e ∈ es1.toList, GoodS w e := by
      intro e he
      cases List.mem_cons.mp (pc.mem_iff.mp he) with
      | inl z =>
        rw [z]
        exact ⟨k, tk, rfl, rfl⟩
      | inr z => exact g e z
    have n1 : (k :: l).Nodup := List.nodup_cons.mpr ⟨kout, nd⟩
    have sz : es1.size = l.length + 1 := by
      have := pk.length_eq
      simpa using this
    have b1 : es1.size < scanBound := by omega
    have led : w.params.followText "set-order" = true ∨ t1.led = true := by
      cases hl with
      | inl z => exact Or.inl z
      | inr z => exact Or.inr (l1.trans z)
    have fin : ∀ h', Heap.SameBut a s.heap h' → SetS w h' a (k :: l) → Q true { s with heap := h' } := by
      intro h' sb r
      apply hQ h' true sb
      rw [if_neg kout]
      exact r
    apply wpAny_bind
    apply gw
    split
    · apply wpAny_bind
      rw [hashByValue_scannable 8 scn]
      apply wpAny_pure
      refine setS_tail ?_ ho hex hd g1 n1 pk b1 ?_ ?_ ?_ ?_
      · intro b s₁ Q' q
        exact gw b q
      · first | (split <;> first | exact f1 | exact SetTable.fits_plain_off f1) | exact f1
      · first | (split <;> exact r1) | exact r1
      · first | (split <;> exact led) | exact led
      · intro h' sb r
        dsimp only
        exact wpAny_pure (fin h' sb r)
    · apply wpAny_bind
      apply wpAny_pure
      simp only [↓reduceIte]
      refine setS_tail ?_ ho hex hd g1 n1 pk b1 f1 r1 led ?_
      · intro b s₁ Q' q
        exact gw b q
      · intro h' sb r
        dsimp only
        exact wpAny_pure (fin h' sb r)
/-- the members so far -/
def ded : List Str → List Str → List Str
  | acc, [] => acc
  | acc, x :: xs => ded (if x ∈ acc then acc else x :: acc) xs
theorem ded_len : ∀ (xs acc : List Str), (ded acc xs).length ≤ acc.length + xs.length
  | [], acc => Nat.le_refl _
  | x :: xs, acc => by
    have := ded_len xs (if x ∈ acc then acc else x :: acc)
    unfold ded
    by_cases hx : x ∈ acc
    · rw [if_pos hx] at this ⊢
      simp only [List.length_cons]
      omega
    · rw [if_neg hx] at this ⊢
      simp only [List.length_cons] at this ⊢
      omega
theorem set_update_strs {I : Addr} {fp wr : List Addr} {G : Array GenState → Array GenState → Prop} {n : Nat} {Pv : Nat → Value → Prop} {St : Nat → Shared → Prop} {R : Result → Shared → Prop} (W : WalksS P w A.in1 I fp wr G n Pv St)
    (D : Addr) (hD : D ∉ fp) (xs : List Str) (hn : n = xs.length) (hb : xs.length + 1 < scanBound) (hval : ∀ i v, Pv i v → ∃ k t, xs[i]? = some k ∧ v = .str k t) :
    ∀ (k i : Nat) (s : Shared), n - i = k → i ≤ n → St i s → (∃ acc, acc.length ≤ i ∧ SetS w s.heap D acc ∧ ded acc (xs.drop i) = ded [] xs) →
      (∀ s', Moved (D :: wr) G s s' → SetS w s'.heap D (ded [] xs) → R (.ok (.ret .none)) s') →
      codeAny (model P w) A (.builtin "set.update.loop" ⟨[.ref D, .ref I], []⟩) R s := by
  have hDw : D ∉ wr := fun z => hD (W.sub _ z)
  have sub : ∀ b ∈ wr, b ∈ D :: wr := fun b z => List.mem_cons_of_mem _ z
  intro k
  induction k with
  | zero =>
    rintro i s hk hi st ⟨acc, hc, hS, hded⟩ hR
    have hin : i = n := by omega
    subst hin
    apply codeAny_builtin F.entry_set_update_loop
    rw [Around.under_plainId F.plain_set_update_loop _]
    show wpAny _ A.in1 (pyNext (.ref I) >>= _) _ _ s
    apply wpAny_bind
    apply W.done s _ _ st
    intro s' hm
    show wpAny _ A.in1 (ret Value.none) _ _ s'
    apply wpAny_pure
    apply hR s' (hm.mono sub)
    have e : xs.drop i = [] := List.drop_eq_nil_of_le (by omega)
    rw [e] at hded
    have hded : acc = ded [] xs := hded
    rw [← hded]
    exact hS.at fun o e => hm.heap D o hDw e
  | succ k ih =>
    rintro i s hk hi st ⟨acc, hc, hS, hded⟩ hR
    have hlt : i < n := by omega
    apply codeAny_builtin F.entry_set_update_loop
    rw [Around.under_plainId F.plain_set_update_loop _]
    show wpAny _ A.in1 (pyNext (.ref I) >>= _) _ _ s
    apply wpAny_bind
    apply W.item i s _ _ hlt st
    intro v s' hP st' hm
    obtain ⟨z, t, hz, rfl⟩ := hval i v hP
    have hS' : SetS w s'.heap D acc := hS.at fun o e => hm.heap D o hDw e
    show wpAny _ A.in1 (holding [Value.str z t] (setAdd D (.str z t)) >>= _) _ _ s'
    apply wpAny_bind
    apply wpAny_holding
    unfold setAdd
    apply wpAny_holding
    apply wpAny_bind
    apply (PySem.strKind P w).pyHash (k := z) (strKind_is _ _ _ _)
    apply setS_add (s := { s' with toks := s'.toks + 1 }) hS' (by omega)
    intro h' b hsb hS2
    have hl2 : (if z ∈ acc then acc else z :: acc).length ≤ i + 1 := by
      split
      · omega
      · simp only [List.length_cons]
        omega
    have hd2 : xs.drop i = z :: xs.drop (i + 1) := by
      obtain ⟨hi2, e2⟩ := List.getElem?_eq_some_iff.mp hz
      rw [List.drop_eq_getElem_cons hi2, e2]
    rw [hd2] at hded
    have hded : ded (if z ∈ acc then acc else z :: acc) (xs.drop (i + 1)) = ded [] xs := hded
    apply wpAny_pure
    refine ⟨plainId_quiet F.plain_set_update_loop _, ih (i + 1) _ (by omega) hlt (W.frame _ s' _ _ st' (Nat.le_succ _) ?_) ⟨_, hl2, hS2, hded⟩ ?_⟩
    · intro b hb o e
      rw [hsb.2 b (fun q => hD (by rw [← q]; exact hb))]
      exact e
    · intro s'' hm'' hS''
      apply hR s'' (Moved.trans W.gtrans ((hm.mono sub).then_heap (Nat.le_succ _) ?_) hm'') hS''
      intro b o hb e
      rw [hsb.2 b (fun q => hb (by rw [q]; exact List.mem_cons_self))]
      exact e
end
end Vx
namespace Vx
open Rep (rep)
open EnvR (er)
open PySem PySem.Spec PyProof.Rows L2
section
variable {P : Program} {w : World} {A : Around} {E : Value → Shared → Prop} {s : Shared}
theorem setS_nil {h : Heap} {a : Addr} (ho : h.get? a = some { cls := .type "set", dict := none, data := .set #[] 0 (.fresh 0 0 (!w.params.followText "set-order")) }) : SetS w h a [] := by
  refine ⟨_, #[], 0, _, ho, ⟨rfl, rfl, rfl⟩, rfl, fun e he => by simp at he, List.nodup_nil, List.Perm.refl _, by decide, by rfl, List.Pairwise.nil, ?_⟩
  show _ ∨ (!w.params.followText "set-order") = true
  cases w.params.followText "set-order"
  · exact Or.inr rfl
  · exact Or.inl rfl
/-- a new set -/
abbrev newSet (w : World) : Obj := { cls := .type "set", dict := none, data := .set #[] 0 (.fresh 0 0 (!w.params.followText "set-order")) }
/-- what is wanted behind set(x), x of the texts xs -/
def SetEnd (w : World) (xs : List Str) (s : Shared) (r : Value) (s₂ : Shared) : Prop := r = .none ∧ ∃ h' tk, s₂ = { s with heap := h', toks := tk } ∧ SetS w h' s.heap.objs.size (ded [] xs) ∧ ∀ b o, s.heap.get? b = some o → h'.get? b = some o
/-- the loop over an iterator I, behind the set's making -/
theorem set_loop {xs : List Str} (hb : xs.length + 1 < scanBound) {I : Addr} {fp wr : List Addr} {Pv : Nat → Value → Prop} {St : Nat → Heap → Prop} {h1 : Heap} {tk : Nat} (W : PySem.Walks P w A.in1 I fp wr xs.length Pv St) (hD : s.heap.objs.size ∉ fp) (hw : ∀ b ∈ wr, s.heap.objs.size < b)
    (hval : ∀ i v, Pv i v → ∃ k t, xs[i]? = some k ∧ v = .str k t) (st : St 0 h1) (hS : h1.get? s.heap.objs.size = some (newSet w)) (keep : ∀ b o, s.heap.get? b = some o → h1.get? b = some o) :
    codeAny (model P w) A (.builtin "set.update.loop" ⟨[.ref s.heap.objs.size, .ref I], []⟩) (fun r s₂ => r = .ok (.ret .none) ∧ SetEnd w xs s .none s₂) { s with heap := h1, toks := tk } := by
  apply set_update_strs W.toS s.heap.objs.size hD xs rfl hb hval (xs.length - 0) 0 _ (by omega) (Nat.zero_le _) st ⟨[], Nat.le_refl _, setS_nil hS, rfl⟩
  intro s' hm hS'
  obtain ⟨h', g', d', tk', os'⟩ := s'
  have eg : g' = s.gens := hm.gens
  have ed : d' = s.drawn := hm.drawn
  have eo : os' = s.os := hm.os
  subst eg
  subst ed
  subst eo
  refine ⟨rfl, rfl, h', tk', rfl, hS', fun b o e => ?_⟩
  have hlt : b < s.heap.objs.size := Heap.lt_size e
  apply hm.heap b o ?_ (keep b o e)
  intro z
  cases List.mem_cons.mp z with
  | inl q => exact absurd hlt (by rw [q]; exact Nat.lt_irrefl _)
  | inr q => exact absurd (Nat.lt_trans hlt (hw b q)) (Nat.lt_irrefl _)
theorem set_call {x : Value} (xs : List Str) {Q : Value → Shared → Prop} (init : ∀ A' : Around, A'.handled = A.handled → codeAny (model P w) A' (.call (.builtin "set.__init__") ⟨[.ref s.heap.objs.size, x], []⟩) (wants (SetEnd w xs s) E) { s with heap := s.heap.push (newSet w) })
    (h : ∀ (h' : Heap) (tk : Nat), SetS w h' s.heap.objs.size (ded [] xs) → (∀ b o, s.heap.get? b = some o → h'.get? b = some o) → Q (.ref s.heap.objs.size) { s with heap := h', toks := tk }) :
    wpAny (model P w) A (call (.type "set") [x]) Q E s := by
  obtain ⟨c, tl, hmro⟩ := F.called_set.mro
  have k1 := F.called_set.made
  have k2 := F.called_set.sub
  have k3 := F.called_set.notType
  have k4 := F.called_set.canCreate
  have k5 := F.typeCall_set_1 x
  apply wpAny_call
  apply codeAny_of_tree
  show wpAny _ _ (callAny (.type "set") _) _ _ _
  apply wpAny_pure
  refine ⟨Code.quiet_builtin _ (by decide +kernel), codeAny_builtin F.entry_type_call ?_⟩
  rw [Around.under_plain (weight_type_call_type "set" [x] []) rfl]
  repeat (any_goals (first | assumption | wp_step))
  refine codeAny_mono (code_set_led1 x (E := E) (Q₁ := fun obj s₁ => obj = .ref s.heap.objs.size ∧ s₁ = { s with heap := s.heap.push (newSet w) }) ⟨rfl, rfl⟩) ?_
  intro r s₁ hr
  cases r with
  | error e => exact hr
  | ok fl =>
    cases fl with
    | next => exact hr.elim
    | brk => exact hr.elim
    | cont => exact hr.elim
    | ret obj =>
      obtain ⟨rfl, rfl⟩ := hr
      have hS : (s.heap.push (newSet w)).get? s.heap.objs.size = some (newSet w) := Heap.get?_push_size _ rfl
      have hT : Shared.TypeIs { s with heap := s.heap.push (newSet w) } (.ref s.heap.objs.size) "set" := ⟨_, hS, rfl⟩
      have k6 := F.called_set.init.lookup
      have k7 := F.called_set.init.bind (.ref s.heap.objs.size)
      repeat (any_goals (first | assumption | wp_step))
      refine codeAny_mono (init _ (by simp)) ?_
      intro r₂ s₂ hr₂
      cases r₂ with
      | error e => exact hr₂
      | ok fl₂ =>
        cases fl₂ with
        | next => exact hr₂.elim
        | brk => exact hr₂.elim
        | cont => exact hr₂.elim
        | ret r =>
          obtain ⟨rfl, h', tk, rfl, hS', hk'⟩ := hr₂
          repeat (any_goals (first | assumption | wp_step))
          exact h _ _ hS' hk'
theorem set_of_list {l : Addr} {items : Array Value} (xs : List Str) {Q : Value → Shared → Prop} (hh : A.handled = none) (hl : s.heap.IsList l items) (hit : StrsAre items.toList xs) (hb : xs.length + 1 < scanBound)
    (h : ∀ (h' : Heap) (tk : Nat), SetS w h' s.heap.objs.size (ded [] xs) → (∀ b o, s.heap.get? b = some o → h'.get? b = some o) → Q (.ref s.heap.objs.size) { s with heap := h', toks := tk }) :
    wpAny (model P w) A (call (.type "set") [.ref l]) Q E s := by
  have isz : items.size = xs.length := by
    rw [← StrsAre.len_eq hit, Array.length_toList]
  have vals : ∀ (i : Nat) (v : Value), items[i]? = some v → ∃ k t, xs[i]? = some k ∧ v = .str k t := by
    intro i v hv
    have hi : i < xs.length := by
      rw [← isz]
      exact (Array.getElem?_eq_some_iff.mp hv).1
    obtain ⟨t, e⟩ := SS.strs_at hit i v (by rw [Array.getElem?_toList]; exact hv)
    refine ⟨xs[i], t, List.getElem?_eq_getElem hi, ?_⟩
    rw [e, List.getD_eq_getElem?_getD, List.getElem?_eq_getElem hi]
    rfl
  refine set_call xs (fun A' hA' => ?_) h
  have hS : (s.heap.push (newSet w)).get? s.heap.objs.size = some (newSet w) := Heap.get?_push_size _ rfl
  have hT : Shared.TypeIs { s with heap := s.heap.push (newSet w) } (.ref s.heap.objs.size) "set" := ⟨_, hS, rfl⟩
  refine codeAny_call_builtin F.called_set.init.plain F.entry_set_init (check_set_init_1 hT ?_)
  obtain ⟨⟨ocls, odict, odata, oslots⟩, hol, hcl, nl, hdl⟩ := hl
  simp only at hcl hdl
  subst hcl
  subst hdl
  have hol' : (s.heap.push (newSet w)).get? l = some { cls := .type "list", dict := odict, data := .seq items nl, slots := oslots } := Heap.get?_push_of_some _ hol
  have hl1 : (s.heap.push (newSet w)).IsList l items := ⟨_, hol', rfl, nl, rfl⟩
  have k8 := PySem.F.sub_list_set
  have k9 := PySem.F.sub_list_frozenset
  have k10 : (Value.type "list" == Value.type "dict") = false := by decide
  have hlS : l < s.heap.objs.size := Heap.lt_size hol
  have sz1 : (s.heap.push (newSet w)).objs.size = s.heap.objs.size + 1 := Heap.size_push ..
  unfold Builtin.«set.__init__» noKeywords Builtin.Frozenset.updateFrom
  generalize hPI : pyIter = PI
  wp_walk
  subst hPI
  apply wpAny_pyIter_list hl1
  apply wpAny_bind
  apply wpAny_runValue
  have neI : l ≠ (s.heap.push (newSet w)).objs.size := by
    rw [sz1]
    exact Nat.ne_of_lt (Nat.lt_succ_of_lt hlS)
  have hh3 : A'.in1.in1.handled = none := by simp [hh, hA']
  have wl : PySem.Walks P w A'.in1.in1 (s.heap.objs.size + 1) [s.heap.objs.size + 1, l] [s.heap.objs.size + 1] xs.length (fun i v => items[i]? = some v) (fun i h => h.IsListIter (s.heap.objs.size + 1) l i ∧ h.IsList l items) := by
    rw [← isz]
    rw [sz1] at neI
    exact PySem.Walks.list hh3 _ l neI items
  have hD : s.heap.objs.size ∉ [s.heap.objs.size + 1, l] := by
    simp only [List.mem_cons, List.not_mem_nil, or_false, not_or]
    exact ⟨Nat.ne_of_lt (Nat.lt_succ_self _), Nat.ne_of_gt hlS⟩
  have hw : ∀ b ∈ [s.heap.objs.size + 1], s.heap.objs.size < b := by
    intro b hb
    rw [List.mem_singleton.mp hb]
    exact Nat.lt_succ_self _
  have st0 : ((s.heap.push (newSet w)).push { cls := .type "list_iterator", data := .fields #[.ref l, .int 0 0] }).IsListIter (s.heap.objs.size + 1) l 0 := by
    rw [← sz1]
    exact ⟨_, Heap.get?_push_size _ rfl, rfl, rfl⟩
  have lp := set_loop (A := A'.in1) (P := P) (w := w) (s := s) (tk := s.toks) hb wl hD hw vals (h1 := (s.heap.push (newSet w)).push { cls := .type "list_iterator", data := .fields #[.ref l, .int 0 0] }) ⟨st0, hl1.push _⟩ (Heap.get?_push_of_some _ hS) (fun b o e => Heap.get?_push_of_some _ (Heap.get?_push_of_some _ e))
  rw [← sz1] at lp
  apply codeAny_mono lp
  intro r₃ s₃ hr₃
  obtain ⟨rfl, hend⟩ := hr₃
  show wpAny _ _ _ _ _ _
  apply wpAny_pure
  show wpAny _ _ (ret Value.none) _ _ _
  exact wpAny_pure hend
end
end Vx
namespace Vx
open Rep (rep)
open EnvR (er)
open PySem PySem.Spec PyProof.Rows L2
section
variable {P : Program} {w : World} {A : Around} {E : Value → Shared → Prop} {s : Shared}
theorem set_of_str {x : Str} {t : Tok} {Q : Value → Shared → Prop} (hh : A.handled = none) (hb : x.cps.size + 1 < scanBound)
    (h : ∀ (h' : Heap) (tk : Nat), SetS w h' s.heap.objs.size (ded [] (signs x)) → (∀ b o, s.heap.get? b = some o → h'.get? b = some o) → Q (.ref s.heap.objs.size) { s with heap := h', toks := tk }) :
    wpAny (model P w) A (call (.type "set") [.str x t]) Q E s := by
  have len : (signs x).length = x.cps.size := by simp [signs]
  have vals : ∀ (i : Nat) (v : Value), SignAt x i v → ∃ k t, (signs x)[i]? = some k ∧ v = .str k t := by
    rintro i v ⟨c, u, hc, rfl⟩
    refine ⟨⟨#[c]⟩, u, ?_, rfl⟩
    unfold signs
    rw [List.getElem?_map, Array.getElem?_toList, hc]
    rfl
  refine set_call (signs x) (fun A' hA' => ?_) h
  have hS : (s.heap.push (newSet w)).get? s.heap.objs.size = some (newSet w) := Heap.get?_push_size _ rfl
  have hT : Shared.TypeIs { s with heap := s.heap.push (newSet w) } (.ref s.heap.objs.size) "set" := ⟨_, hS, rfl⟩
  refine codeAny_call_builtin F.called_set.init.plain F.entry_set_init (check_set_init_1 hT ?_)
  have k8 := PySem.F.sub_str_set
  have k9 := PySem.F.sub_str_frozenset
  have k10 : (Value.type "str" == Value.type "dict") = false := by decide
  have sz1 : (s.heap.push (newSet w)).objs.size = s.heap.objs.size + 1 := Heap.size_push ..
  have hh3 : A'.in1.in1.handled = none := by simp [hh, hA']
  have hb' : (signs x).length + 1 < scanBound := by rw [len]; exact hb
  have hD : s.heap.objs.size ∉ [s.heap.objs.size + 1] := by
    simp only [List.mem_cons, List.not_mem_nil, or_false, not_or]
    exact Nat.ne_of_lt (Nat.lt_succ_self _)
  have hw : ∀ b ∈ [s.heap.objs.size + 1], s.heap.objs.size < b := by
    intro b hb
    rw [List.mem_singleton.mp hb]
    exact Nat.lt_succ_self _
  unfold Builtin.«set.__init__» noKeywords Builtin.Frozenset.updateFrom
  generalize hPI : pyIter = PI
  wp_walk
  subst hPI
  have fin : ∀ {o : Obj} {ty : String}, (ty = "str_ascii_iterator" ∨ ty = "str_iterator") → ((s.heap.push (newSet w)).push o).IsStrIter (s.heap.objs.size + 1) ty x t 0 →
      codeAny (model P w) A'.in1 (.builtin "set.update.loop" ⟨[.ref s.heap.objs.size, .ref (s.heap.objs.size + 1)], []⟩) (fun r s₂ => r = .ok (.ret .none) ∧ SetEnd w (signs x) s .none s₂) { s with heap := (s.heap.push (newSet w)).push o } := by
    intro o ty hty st
    have W : PySem.Walks P w A'.in1.in1 (s.heap.objs.size + 1) [s.heap.objs.size + 1] [s.heap.objs.size + 1] (signs x).length (SignAt x) (fun i h => h.IsStrIter (s.heap.objs.size + 1) ty x t i) := by
      rw [len]
      cases hty with
      | inl e =>
        rw [e]
        exact PySem.Walks.strAscii hh3 _ x t
      | inr e =>
        rw [e]
        exact PySem.Walks.strWide hh3 _ x t
    exact set_loop (A := A'.in1) (P := P) (w := w) (s := s) (tk := s.toks) hb' W hD hw vals st (Heap.get?_push_of_some _ hS) (fun b o e => Heap.get?_push_of_some _ (Heap.get?_push_of_some _ e))
  cases ha : x.cps.all (· < 128) with
  | true =>
    apply wpAny_pyIter_ascii ha
    apply wpAny_bind
    apply wpAny_runValue
    have lp := fin (o := { cls := .type "str_ascii_iterator", data := .fields #[.str x t, .int 0 0] }) (.inl rfl) (by rw [← sz1]; exact ⟨_, Heap.get?_push_size _ rfl, rfl, rfl⟩)
    rw [← sz1] at lp
    apply codeAny_mono lp
    intro r₃ s₃ hr₃
    obtain ⟨rfl, hend⟩ := hr₃
    show wpAny _ _ _ _ _ _
    apply wpAny_pure
    show wpAny _ _ (ret Value.none) _ _ _
    exact wpAny_pure hend
  | false =>
    apply wpAny_pyIter_wide ha
    apply wpAny_bind
    apply wpAny_runValue
    have lp := fin (o := { cls := .type "str_iterator", data := .fields #[.str x t, .int 0 0] }) (.inr rfl) (by rw [← sz1]; exact ⟨_, Heap.get?_push_size _ rfl, rfl, rfl⟩)
    rw [← sz1] at lp
    apply codeAny_mono lp
    intro r₃ s₃ hr₃
    obtain ⟨rfl, hend⟩ := hr₃
    show wpAny _ _ _ _ _ _
    apply wpAny_pure
    show wpAny _ _ (ret Value.none) _ _ _
    exact wpAny_pure hend
theorem set_of_tup {l : Addr} {items : Array Value} (xs : List Str) {Q : Value → Shared → Prop} (hh : A.handled = none) (hl : s.heap.IsTuple l items) (hit : StrsAre items.toList xs) (hb : xs.length + 1 < scanBound)
    (h : ∀ (h' : Heap) (tk : Nat), SetS w h' s.heap.objs.size (ded [] xs) → (∀ b o, s.heap.get? b = some o → h'.get? b = some o) → Q (.ref s.heap.objs.size) { s with heap := h', toks := tk }) :
    wpAny (model P w) A (call (.type "set") [.ref l]) Q E s := by
  have isz : items.size = xs.length := by
    rw [← StrsAre.len_eq hit, Array.length_toList]
  have vals : ∀ (i : Nat) (v : Value), items[i]? = some v → ∃ k t, xs[i]? = some k ∧ v = .str k t := by
    intro i v hv
    have hi : i < xs.length := by
      rw [← isz]
      exact (Array.getElem?_eq_some_iff.mp hv).1
    obtain ⟨t, e⟩ := SS.strs_at hit i v (by rw [Array.getElem?_toList]; exact hv)
    refine ⟨xs[i], t, List.getElem?_eq_getElem hi, ?_⟩
    rw [e, List.getD_eq_getElem?_getD, List.getElem?_eq_getElem hi]
    rfl
  refine set_call xs (fun A' hA' => ?_) h
  have hS : (s.heap.push (newSet w)).get? s.heap.objs.size = some (newSet w) := Heap.get?_push_size _ rfl
  have hT : Shared.TypeIs { s with heap := s.heap.push (newSet w) } (.ref s.heap.objs.size) "set" := ⟨_, hS, rfl⟩
  refine codeAny_call_builtin F.called_set.init.plain F.entry_set_init (check_set_init_1 hT ?_)
  obtain ⟨⟨ocls, odict, odata, oslots⟩, hol, hcl, nl, hdl⟩ := hl
  simp only at hcl hdl
  subst hcl
  subst hdl
  have hol' : (s.heap.push (newSet w)).get? l = some { cls := .type "tuple", dict := odict, data := .seq items nl, slots := oslots } := Heap.get?_push_of_some _ hol
  have hl1 : (s.heap.push (newSet w)).IsTuple l items := ⟨_, hol', rfl, nl, rfl⟩
  have k8 := PySem.F.sub_tuple_set
  have k9 := PySem.F.sub_tuple_frozenset
  have k10 : (Value.type "tuple" == Value.type "dict") = false := by decide
  have hlS : l < s.heap.objs.size := Heap.lt_size hol
  have sz1 : (s.heap.push (newSet w)).objs.size = s.heap.objs.size + 1 := Heap.size_push ..
  unfold Builtin.«set.__init__» noKeywords Builtin.Frozenset.updateFrom
  generalize hPI : pyIter = PI
  wp_walk
  subst hPI
  apply wpAny_pyIter_tuple hl1
  apply wpAny_bind
  apply wpAny_runValue
  have neI : l ≠ (s.heap.push (newSet w)).objs.size := by
    rw [sz1]
    exact Nat.ne_of_lt (Nat.lt_succ_of_lt hlS)
  have hh3 : A'.in1.in1.handled = none := by simp [hh, hA']
  have wl : PySem.Walks P w A'.in1.in1 (s.heap.objs.size + 1) [s.heap.objs.size + 1, l] [s.heap.objs.size + 1] xs.length (fun i v => items[i]? = some v) (fun i h => h.IsTupleIter (s.heap.objs.size + 1) l i ∧ h.IsTuple l items) := by
    rw [← isz]
    rw [sz1] at neI
    exact PySem.Walks.tuple hh3 _ l neI items
  have hD : s.heap.objs.size ∉ [s.heap.objs.size + 1, l] := by
    simp only [List.mem_cons, List.not_mem_nil, or_false, not_or]
    exact ⟨Nat.ne_of_lt (Nat.lt_succ_self _), Nat.ne_of_gt hlS⟩
  have hw : ∀ b ∈ [s.heap.objs.size + 1], s.heap.objs.size < b := by
    intro b hb
    rw [List.mem_singleton.mp hb]
    exact Nat.lt_succ_self _
  have st0 : ((s.heap.push (newSet w)).push { cls := .type "tuple_iterator", data := .fields #[.ref l, .int 0 0] }).IsTupleIter (s.heap.objs.size + 1) l 0 := by
    rw [← sz1]
    exact ⟨_, Heap.get?_push_size _ rfl, rfl, rfl⟩
  have lp := set_loop (A := A'.in1) (P := P) (w := w) (s := s) (tk := s.toks) hb wl hD hw vals (h1 := (s.heap.push (newSet w)).push { cls := .type "tuple_iterator", data := .fields #[.ref l, .int 0 0] }) ⟨st0, hl1.push _⟩ (Heap.get?_push_of_some _ hS) (fun b o e => Heap.get?_push_of_some _ (Heap.get?_push_of_some _ e))
  rw [← sz1] at lp
  apply codeAny_mono lp
  intro r₃ s₃ hr₃
  obtain ⟨rfl, hend⟩ := hr₃
  show wpAny _ _ _ _ _ _
  apply wpAny_pure
  show wpAny _ _ (ret Value.none) _ _ _
  exact wpAny_pure hend
/-! ### the order of texts -/
def leS (a b : Str) : Bool := decide (a.cps.toList ≤ b.cps.toList)
/-- sorted(xs) -/
def srt (xs : List Str) : List Str := xs.mergeSort leS
theorem each_strs : ∀ {us : List Value} {xs : List Str}, StrsAre us xs → PySem.W.EachIs (fun v b => ∃ t, v = Value.str b t) us xs
  | _, _, .nil => .nil
  | _, _, .cons n t h => .cons ⟨t, rfl⟩ (each_strs h)
theorem strs_each : ∀ {us : List Value} {xs : List Str}, PySem.W.EachIs (fun v b => ∃ t, v = Value.str b t) us xs → StrsAre us xs
  | _, _, .nil => .nil
  | _, _, .cons ⟨t, e⟩ h => by
    subst e
    exact .cons _ t (strs_each h)
end
end Vx
namespace Vx
open Rep (rep)
open EnvR (er)
open PySem PySem.Spec PyProof.Rows L2
theorem leS_trans (a b c : Str) (h1 : leS a b = true) (h2 : leS b c = true) : leS a c = true := decide_eq_true (List.le_trans (of_decide_eq_true h1) (of_decide_eq_true h2))
theorem leS_total (a b : Str) : (leS a b || leS b a) = true := by
  unfold leS
  rw [Bool.or_eq_true, decide_eq_true_eq, decide_eq_true_eq]
  exact List.le_total _ _
theorem str_ext {a b : Str} (h : a.cps.toList = b.cps.toList) : a = b := by
  obtain ⟨⟨x⟩⟩ := a
  obtain ⟨⟨y⟩⟩ := b
  have h' : x = y := h
  rw [h']
theorem leS_anti (a b : Str) (h1 : leS a b = true) (h2 : leS b a = true) : a = b := str_ext (List.le_antisymm (of_decide_eq_true h1) (of_decide_eq_true h2))
theorem srt_pair (xs : List Str) : (srt xs).Pairwise (fun a b => leS a b = true) := List.pairwise_mergeSort leS_trans leS_total xs
theorem srt_perm (xs : List Str) : (srt xs).Perm xs := List.mergeSort_perm xs leS
theorem srt_eq {xs ys : List Str} (p : xs.Perm ys) : srt xs = srt ys := List.Perm.eq_of_pairwise (fun a b _ _ => leS_anti a b) (srt_pair xs) (srt_pair ys) ((srt_perm xs).trans (p.trans (srt_perm ys).symm))
section
variable {P : Program} {w : World} {A : Around} {E : Value → Shared → Prop} {s : Shared}
theorem strs_alike (bs : List Str) : PySem.W.AllAlike (bs.map PyData.str) := PySem.W.AllAlike.of fun b b' => rfl
theorem strs_sortable (bs : List Str) : PySem.W.Sortable (bs.map PyData.str) := PySem.W.Sortable.others fun b => ⟨fun z => PyData.noConfusion z, fun _ z => PyData.noConfusion z⟩
theorem strs_le : PySem.W.dataLe false PyData.str = leS := PySem.W.dataLe_str id
theorem each_reads {h : Heap} {us : List Value} {xs : List Str} (e : PySem.W.EachIs (fun v b => ∃ t, v = Value.str b t) us xs) : PySem.W.EachIs (fun v b => ∃ as, Reads h v (PyData.str b) as) us xs := by
  induction e with
  | nil => exact .nil
  | cons r _ ih =>
    obtain ⟨t, rfl⟩ := r
    exact .cons ⟨_, Reads.str _ t⟩ ih
theorem each_reads2 {h : Heap} {a : Addr} {us : List Value} {xs : List Str} (e : PySem.W.EachIs (fun v b => ∃ t, v = Value.str b t) us xs) : PySem.W.EachIs (fun v b => ∃ as, Reads h v (PyData.str b) as ∧ a ∉ as) us xs := by
  induction e with
  | nil => exact .nil
  | cons r _ ih =>
    obtain ⟨t, rfl⟩ := r
    exact .cons ⟨_, Reads.str _ t, by simp⟩ ih
/-- sorted(set(..)) behind the set -/
theorem sorted_setS {D : Addr} {l : List Str} {Q : Value → Shared → Prop} (R : SetS w s.heap D l) (hh : A.handled = none) (hu : A.units + 64 < cLine)
    (hQ : ∀ s' p (out : Array Value) (c : Nat), (∀ b o, s.heap.get? b = some o → s'.heap.get? b = some o) → s'.gens = s.gens → s'.os = s.os → s.heap.objs.size ≤ p → s'.heap.get? p = some (seqObj "list" out c) → StrsAre out.toList (srt l) → Q (.ref p) s') :
    wpAny (model P w) A (call (.builtin "sorted") [.ref D]) Q E s := by
  obtain ⟨o, es, ep, t, ho, hex, hd, g, nd, pm, hb, hf, hr, hl⟩ := R
  apply Calls.call_function_entry kind_sorted plain_sorted entry_sorted (args_sorted1 _)
  unfold Builtin.«sorted»
  refine wpAny_bind (m := checkCount "sorted" 1 1 _) (wpAny_pure ?_)
  apply wpAny_bind
  apply collect_set (A := A.in1) hh ⟨o, ho, hex.1, hd⟩ hf hb hr hl
  intro s1 vs k1 hz g1 o1 pv
  have txt : ∀ v ∈ vs, ∃ k tk, v = Value.str k tk := by
    intro v hv
    obtain ⟨e, he, q⟩ := List.mem_map.mp (pv.mem_iff.mp hv)
    obtain ⟨k, tk, e1, _⟩ := g e he
    exact ⟨k, tk, by rw [← q]; exact e1⟩
  have ev : PySem.W.EachIs (fun v b => ∃ t, v = Value.str b t) vs (vs.map fun v => keyS (0, v)) := by
    clear pv
    induction vs with
    | nil => exact .nil
    | cons v vs ih =>
      obtain ⟨k, tk, rfl⟩ := txt v List.mem_cons_self
      exact .cons ⟨tk, rfl⟩ (ih fun u hu => txt u (List.mem_cons_of_mem _ hu))
  have pk : (vs.map fun v => keyS (0, v)).Perm l := by
    have q := pv.map (fun v => keyS ((0 : Int), v))
    rw [List.map_map] at q
    exact q.trans pm
  have len : vs.length ≤ sizeLine := by
    have e1 := pv.length_eq
    have e2 : es.toList.length = es.size := Array.length_toList
    rw [List.length_map, e2] at e1
    rw [e1, sizeLine_eq]
    have : scanBound = 4096 := rfl
    omega
  apply wpAny_bind
  refine wpAny_newList ?_ len
  have hoL : (s1.heap.push (seqObj "list" vs.toArray 0)).get? s1.heap.objs.size = some (seqObj "list" vs.toArray 0) := Heap.get?_push_size _ rfl
  apply wpAny_bind
  apply wpAny_holding
  have er : PySem.W.EachIs (fun v b => ∃ as, Reads (s1.heap.push (seqObj "list" vs.toArray 0)) v (PyData.str b) as ∧ s1.heap.objs.size ∉ as) vs (vs.map fun v => keyS (0, v)) := each_reads2 ev
  apply PySem.W.list_sort_data (s := { s1 with heap := s1.heap.push (seqObj "list" vs.toArray 0) }) (enc := PyData.str) hoL ev er (strs_alike _) (strs_sortable _) (by rw [List.length_map]; exact len)
  · intro b _
    show A.units + 1 + 1 + 0 < cLine
    omega
  intro out hlen eo
  rw [strs_le] at eo
  obtain ⟨c, hc⟩ := sortedHeap_at (vs := vs) (out := out.toArray) hoL
  apply wpAny_pure
  refine ⟨_, rfl, hQ _ s1.heap.objs.size out.toArray c ?_ g1 o1 hz hc ?_⟩
  · intro b u e
    have q := k1 b u e
    have hlt := Heap.lt_size q
    show (sortedHeap (s1.heap.push (seqObj "list" vs.toArray 0)) s1.heap.objs.size vs out.toArray).get? b = some u
    rw [sortedHeap_old (Nat.ne_of_lt hlt) (by rw [size_push']; exact Nat.lt_succ_of_lt hlt)]
    exact Heap.get?_push_of_some _ q
  · have := strs_each eo
    show StrsAre out.toArray.toList (srt l)
    rw [← srt_eq pk]
    exact this
end
section
variable {X : Cx} {a : Expr} {ta : TE} {p p2 q pos : Pos}
/-- sorted(xs), texts -/
theorem cr_srt (hu : X.A.units + 64 < cLine) : CallR X (.builtin "sorted") (fun vs H Q => ∃ (b : Addr) (xs : List Str), vs = [.ref b] ∧ SqL X.K H b (xs.map V.str) ∧ xs.length ≤ 100000 ∧ ∀ p, H p = none → Q (.ref p) (upd H p (.lst ((srt xs).map V.str)))) := by
  intro pins s σ H vs us Q I r h
  obtain ⟨b, xs, rfl, hs, hz, k⟩ := h
  obtain ⟨its, rv, hl, _⟩ := I.list hs
  rw [Vals.ref1 r]
  have es := each_strs rv.strs
  have hL : xs.length ≤ sizeLine := Nat.le_trans hz (by decide)
  apply PySem.W.sorted_data (enc := PyData.str) hl.isList es (each_reads es) (strs_alike _) (strs_sortable _) hL
  · intro b _
    show X.A.units + 2 + 0 < cLine
    omega
  intro out hlen eo
  rw [strs_le] at eo
  have so := strs_each eo
  obtain ⟨ep, he'⟩ := PyProof.Rows.sortedAll_at s.heap its out.toArray
  have hn : H (s.heap.objs.size + 1) = none := I.hok.fresh (Nat.le_succ _)
  have lz : ((srt xs).map V.str).length ≤ sizeLine := by
    rw [List.length_map, (srt_perm xs).length_eq]
    exact hL
  exact ⟨.ref _, _, I.laid (t' := s.toks) (o := .lst ((srt xs).map V.str)) (fun _ _ => PyProof.Rows.sortedAll_old) (Nat.le_succ _) ⟨lz, out, ep, vals_of_strs so, he'⟩, rfl, k _ hn⟩
/-- a list of texts, or a text's signs -/
def Txts (K : PySem.W.Frag) (H : Hp) (x : V) (xs : List Str) : Prop := (∃ l, x = .ref l ∧ SqL K H l (xs.map V.str)) ∨ (∃ l, x = .ref l ∧ SqT K H l (xs.map V.str)) ∨ ∃ z : Str, x = .str z ∧ xs = signs z
def tSortSet (K : PySem.W.Frag) (te : TE) : TE := fun σ H Q => te σ H fun x H1 => ∃ xs : List Str, Txts K H1 x xs ∧ xs.length ≤ 4000 ∧ ∀ p, H1 p = none → Q (.ref p) (upd H1 p (.lst ((srt (ded [] xs)).map V.str)))
theorem pe_sortSet (hc : X.calm = true) (hu : X.A.units + 64 < cLine) (hm : X.mg "sorted" = none) (hm2 : X.mg "set" = none) (ha : PE X a ta) (hg : Gl X "sorted" := by rfl) (hg2 : Gl X "set" := by rfl)
    (na : starEach [a] X.env = (false, eval a X.env) :: starEach [] X.env := by rfl) : PE X (.Call (.Name "sorted" p) [.Call (.Name "set" p2) [a] [] q] [] pos) (tSortSet X.K ta) := by
  constructor
  intro pins s σ H Q I h
  refine Call_ (ld_blt I hg hm boot_sorted ?_)
  refine PyProof.Rows.callWith_builtin1 (PyProof.Rows.args_cons ?_ rfl) rfl rfl
  refine Call_ (ld_blt I hg2 hm2 boot_set ?_)
  refine PyProof.Rows.callWith_type1 (PyProof.Rows.args_cons (thn (ha.run pins s σ H _ I h) ?_) na) na rfl
  intro v s1 ⟨x, H1, I1, r1, xs, hx, hz, k⟩
  apply PyProof.Rows.args_nil
  have hz2 : xs.length + 1 < scanBound := by
    have : scanBound = 4096 := rfl
    omega
  have fin : ∀ (h' : Heap) (tk : Nat), SetS X.w h' s1.heap.objs.size (ded [] xs) → (∀ b o, s1.heap.get? b = some o → h'.get? b = some o) →
      wpAny (model X.prog X.w) X.A (spliced (backTo pos (starEach [] X.env))) (fun vs s₂ => wpAny (model X.prog X.w) X.A (call (.builtin "sorted") (Value.ref s1.heap.objs.size :: vs)) (EP X pins σ Q) X.xe s₂) X.xe { s1 with heap := h', toks := tk } := by
    intro h' tk hS hk
    apply PyProof.Rows.args_nil
    have I2 : L2.Inv X pins σ H1 { s1 with heap := h', toks := tk } := I1.kept hk
    apply sorted_setS (s := { s1 with heap := h', toks := tk }) hS (I1.ok.hd hc) hu
    intro s' p out c hk' hgn hos hp hget hst
    have hn : H1 p = none := I2.hok.fresh hp
    have lz : ((srt (ded [] xs)).map V.str).length ≤ sizeLine := by
      rw [List.length_map, (srt_perm _).length_eq]
      have := ded_len xs []
      refine Nat.le_trans this (Nat.le_trans ?_ (by decide : 4000 ≤ sizeLine))
      simpa using hz
    have J := I2.call (h' := s'.heap) (g' := s'.gens) (d' := s'.drawn) (t' := s'.toks) (ch := []) (Un.laid hk' hp hn) (I2.hok.laid hk' hp (o := .lst ((srt (ded [] xs)).map V.str)) ⟨lz, out.toList, c, vals_of_strs hst, hget⟩) (by rw [hgn]; exact I2.bare) (fun _ z => nomatch z)
    have e : s' = { s1 with heap := s'.heap, gens := s'.gens, drawn := s'.drawn, toks := s'.toks } := by
      cases s'
      cases hos
      rfl
    rw [e]
    exact ⟨.ref p, _, J, rfl, k p hn⟩
  rcases hx with ⟨l, rfl, hq⟩ | ⟨l, rfl, hq⟩ | ⟨z, rfl, rfl⟩
  · cases r1
    obtain ⟨its, rv, pl, _⟩ := I1.list hq
    exact set_of_list xs (I1.ok.hd hc) pl.isList (by simpa using rv.strs) hz2 fin
  · cases r1
    obtain ⟨its, rv, pl, _⟩ := I1.tuple hq
    exact set_of_tup xs (I1.ok.hd hc) pl (by simpa using rv.strs) hz2 fin
  · obtain ⟨t, rfl⟩ := r1
    exact set_of_str (I1.ok.hd hc) (by simpa [signs] using hz2) fin
end
end Vx
namespace Vx
open Rep (rep)
open EnvR (er)
open PySem PySem.Spec PyProof.Rows L2
/-! ### operators -/
section
variable {K : PySem.W.Frag}
theorem op2_I0 {g : Int → Int → V} {δ : Type} [Rep δ] {φ : Int → Int → Option δ} (h : ∀ G i j z, φ i j = some z → rep K G z (g i j)) : Op2 (rI0 g) (RE K) (RE K) (RE K) φ := fun F G H x y z vx vy Q w rx ry e k => by
  cases rx
  cases ry
  exact ⟨x, y, rfl, rfl, k _ G H (Ex.refl G) w (h G x y z e)⟩
theorem op2_I {C : Int → Int → Prop} {g : Int → Int → V} {δ : Type} [Rep δ] {φ : Int → Int → Option δ} (h : ∀ G i j z, φ i j = some z → C i j ∧ rep K G z (g i j)) : Op2 (rI C g) (RE K) (RE K) (RE K) φ := fun F G H x y z vx vy Q w rx ry e k => by
  cases rx
  cases ry
  exact ⟨x, y, rfl, rfl, (h G x y z e).1, k _ G H (Ex.refl G) w (h G x y z e).2⟩
def iAdd (i j : Int) : Option Int := some (i + j)
def iSub (i j : Int) : Option Int := some (i - j)
def iMul (i j : Int) : Option Int := if ((-(2 ^ 64) < i ∧ i < 2 ^ 64) ∨ (-(2 ^ 64) < j ∧ j < 2 ^ 64)) then some (i * j) else none
def iMod (i j : Int) : Option Int := if 0 < j then some (i % j) else none
def iDiv (i j : Int) : Option Int := if 0 < j ∧ j < 1073741824 then some (i / j) else none
def iPow (i j : Int) : Option Int := if 0 ≤ j ∧ j ≤ 1000 ∧ i.natAbs < 2 ^ 64 then some (i ^ j.toNat) else none
def iAnd (i j : Int) : Option Int := some (Builtin.bitAnd i j)
def iLt (i j : Int) : Option Bool := some (decide (i < j))
def iLe (i j : Int) : Option Bool := some (decide (i ≤ j))
def iGt (i j : Int) : Option Bool := some (decide (j < i))
def iGe (i j : Int) : Option Bool := some (decide (j ≤ i))
theorem o_iAdd : Op2 (rI0 fun i j => .int (i + j)) (RE K) (RE K) (RE K) iAdd := op2_I0 fun G i j z e => by cases e; rfl
theorem o_iSub : Op2 (rI0 fun i j => .int (i - j)) (RE K) (RE K) (RE K) iSub := op2_I0 fun G i j z e => by cases e; rfl
theorem o_iMul : Op2 (rI CMul fun i j => .int (i * j)) (RE K) (RE K) (RE K) iMul := op2_I fun G i j z e => by
  unfold iMul at e
  split at e
  · rename_i h
    cases e
    exact ⟨h, rfl⟩
  · cases e
theorem o_iMod : Op2 (rI (fun _ j => 0 < j) fun i j => .int (i % j)) (RE K) (RE K) (RE K) iMod := op2_I fun G i j z e => by
  unfold iMod at e
  split at e
  · rename_i h
    cases e
    exact ⟨h, rfl⟩
  · cases e
theorem o_iDiv : Op2 (rI CDiv fun i j => .int (i / j)) (RE K) (RE K) (RE K) iDiv := op2_I fun G i j z e => by
  unfold iDiv at e
  split at e
  · rename_i h
    cases e
    exact ⟨h, rfl⟩
  · cases e
theorem o_iPow : Op2 (rI CPow fun i j => .int (i ^ j.toNat)) (RE K) (RE K) (RE K) iPow := op2_I fun G i j z e => by
  unfold iPow at e
  split at e
  · rename_i h
    cases e
    exact ⟨⟨h.1, by omega, h.2.2⟩, rfl⟩
  · cases e
theorem o_iAnd : Op2 (rI0 fun i j => .int (Builtin.bitAnd i j)) (RE K) (RE K) (RE K) iAnd := op2_I0 fun G i j z e => by cases e; rfl
theorem o_iLt : Op2 (rI0 fun i j => .bl (decide (i < j))) (RE K) (RE K) (RE K) iLt := op2_I0 fun G i j z e => by cases e; rfl
theorem o_iLe : Op2 (rI0 fun i j => .bl (decide (i ≤ j))) (RE K) (RE K) (RE K) iLe := op2_I0 fun G i j z e => by cases e; rfl
theorem o_iGt : Op2 (rI0 fun i j => .bl (decide (j < i))) (RE K) (RE K) (RE K) iGt := op2_I0 fun G i j z e => by cases e; rfl
theorem o_iGe : Op2 (rI0 fun i j => .bl (decide (j ≤ i))) (RE K) (RE K) (RE K) iGe := op2_I0 fun G i j z e => by cases e; rfl
/-- == of numbers, texts, truths -/
class Scl (α : Type) [Rep α] [DecidableEq α] : Prop where
  v : ∀ {K : PySem.W.Frag} {G : Hp} {x y : α} {vx vy : V}, rep K G x vx → rep K G y vy → scal vx vy = true ∧ (vx = vy ↔ x = y)
instance : Scl Int := ⟨fun h k => by
  cases h
  cases k
  exact ⟨rfl, fun z => V.int.inj z, fun z => by rw [z]⟩⟩
instance : Scl Str := ⟨fun h k => by
  cases h
  cases k
  exact ⟨rfl, fun z => V.str.inj z, fun z => by rw [z]⟩⟩
instance : Scl Bool := ⟨fun h k => by
  cases h
  cases k
  exact ⟨rfl, fun z => V.bl.inj z, fun z => by rw [z]⟩⟩
def sEq {α : Type} [DecidableEq α] (x y : α) : Option Bool := some (decide (x = y))
def sNe {α : Type} [DecidableEq α] (x y : α) : Option Bool := some (!decide (x = y))
theorem o_sEq {α : Type} [Rep α] [DecidableEq α] [Scl α] : Op2 rEq (RE K (α := α)) (RE K) (RE K) sEq := fun F G H x y z vx vy Q w rx ry e k => by
  obtain ⟨h1, h2⟩ := Scl.v rx ry
  cases e
  refine ⟨h1, k _ G H (Ex.refl G) w ?_⟩
  show V.bl _ = V.bl _
  rw [decide_eq_decide.mpr h2]
theorem o_sNe {α : Type} [Rep α] [DecidableEq α] [Scl α] : Op2 rNe (RE K (α := α)) (RE K) (RE K) sNe := fun F G H x y z vx vy Q w rx ry e k => by
  obtain ⟨h1, h2⟩ := Scl.v rx ry
  cases e
  refine ⟨h1, k _ G H (Ex.refl G) w ?_⟩
  show V.bl _ = V.bl _
  rw [decide_eq_decide.mpr h2]
/-- texts -/
def sAdd (x y : Str) : Option Str := if x.length + y.length ≤ 100000 then some (x ++ y) else none
theorem o_sAdd : Op2 (fun x y H Q => ∃ i j, x = .str i ∧ y = .str j ∧ i.length + j.length ≤ sizeLine ∧ Q (.str (i ++ j)) H) (RE K) (RE K) (RE K) sAdd := fun F G H x y z vx vy Q w rx ry e k => by
  cases rx
  cases ry
  unfold sAdd at e
  split at e
  · rename_i h
    cases e
    exact ⟨x, y, rfl, rfl, Nat.le_trans h line_ge, k _ G H (Ex.refl G) w rfl⟩
  · cases e
/-- one sign -/
def sign1 (x : Str) : Option Nat := match x.cps.toList with
  | [c] => some c
  | _ => none
theorem sign1_eq {x : Str} {c : Nat} (h : sign1 x = some c) : x = ⟨#[c]⟩ := by
  obtain ⟨⟨l⟩⟩ := x
  unfold sign1 at h
  match l, h with
  | [d], h =>
    cases h
    rfl
def sIn (x y : Str) : Option Bool := (sign1 x).map fun c => decide (c ∈ y.cps.toList)
def sNotIn (x y : Str) : Option Bool := (sign1 x).map fun c => !decide (c ∈ y.cps.toList)
theorem o_sIn : Op2 (fun x y H Q => ∃ (c : Nat) (z : Str), x = .str ⟨#[c]⟩ ∧ y = .str z ∧ Q (.bl (decide (c ∈ z.cps.toList))) H) (RE K) (RE K) (RE K) sIn := fun F G H x y z vx vy Q w rx ry e k => by
  cases rx
  cases ry
  unfold sIn at e
  cases e1 : sign1 x with
  | none => rw [e1] at e; cases e
  | some c =>
    rw [e1] at e
    cases e
    have := sign1_eq e1
    subst this
    exact ⟨c, y, rfl, rfl, k _ G H (Ex.refl G) w rfl⟩
theorem o_sNotIn : Op2 (fun x y H Q => ∃ (c : Nat) (z : Str), x = .str ⟨#[c]⟩ ∧ y = .str z ∧ Q (.bl (!decide (c ∈ z.cps.toList))) H) (RE K) (RE K) (RE K) sNotIn := fun F G H x y z vx vy Q w rx ry e k => by
  cases rx
  cases ry
  unfold sNotIn at e
  cases e1 : sign1 x with
  | none => rw [e1] at e; cases e
  | some c =>
    rw [e1] at e
    cases e
    have := sign1_eq e1
    subst this
    exact ⟨c, y, rfl, rfl, k _ G H (Ex.refl G) w rfl⟩
def sLe (x y : Str) : Option Bool := some (!decide (y.cps.toList < x.cps.toList))
theorem o_sLe : Op2 (fun x y H Q => ∃ i j, x = .str i ∧ y = .str j ∧ Q (.bl (!decide (j.cps.toList < i.cps.toList))) H) (RE K) (RE K) (RE K) sLe := fun F G H x y z vx vy Q w rx ry e k => by
  cases rx
  cases ry
  cases e
  exact ⟨x, y, rfl, rfl, k _ G H (Ex.refl G) w rfl⟩
/-- None -/
class NN (α : Type) [Rep α] : Prop where
  nn : ∀ {K : PySem.W.Frag} {G : Hp} {x : α} {v : V}, rep K G x v → v ≠ .non
instance : NN Int := ⟨fun h => by cases h; exact fun z => V.noConfusion z⟩
instance : NN Str := ⟨fun h => by cases h; exact fun z => V.noConfusion z⟩
instance : NN Bool := ⟨fun h => by cases h; exact fun z => V.noConfusion z⟩
def isN {α : Type} (x : Option α) (_ : Unit) : Option Bool := some x.isNone
def notN {α : Type} (x : Option α) (_ : Unit) : Option Bool := some x.isSome
theorem non_iff {α : Type} [Rep α] [NN α] {G : Hp} {x : Option α} {v : V} (h : rep K G x v) : v = .non ↔ x = none := by
  cases x with
  | none => exact ⟨fun _ => rfl, fun _ => h⟩
  | some y => exact ⟨fun z => absurd z (NN.nn (show rep K G y v from h)), fun z => by cases z⟩
theorem o_isN {α : Type} [Rep α] [NN α] : Op2 (fun x y H Q => y = .non ∧ Q (.bl (decide (x = .non))) H) (RE K (α := Option α)) (RE K) (RE K) isN := fun F G H x y z vx vy Q w rx ry e k => by
  cases e
  refine ⟨ry, k _ G H (Ex.refl G) w ?_⟩
  have := non_iff (K := K) (G := G) rx
  show V.bl _ = V.bl _
  cases x with
  | none => rw [decide_eq_true (this.mpr rfl)]; rfl
  | some y => rw [decide_eq_false (fun z => by cases this.mp z)]; rfl
theorem o_notN {α : Type} [Rep α] [NN α] : Op2 (fun x y H Q => y = .non ∧ Q (.bl (!decide (x = .non))) H) (RE K (α := Option α)) (RE K) (RE K) notN := fun F G H x y z vx vy Q w rx ry e k => by
  cases e
  refine ⟨ry, k _ G H (Ex.refl G) w ?_⟩
  have := non_iff (K := K) (G := G) rx
  show V.bl _ = V.bl _
  cases x with
  | none => rw [decide_eq_true (this.mpr rfl)]; rfl
  | some y => rw [decide_eq_false (fun z => by cases this.mp z)]; rfl
/-- lists put together; a new list -/
def lCat {α : Type} (x y : List α) : Option (List α) := if x.length + y.length ≤ 100000 then some (x ++ y) else none
theorem rl_at {α : Type} [Rep α] {F G H : Hp} {x : List α} {v : V} (w : W F G H) (h : RL K F G H x v) : ∃ p vs, v = .ref p ∧ H p = some (.lst vs) ∧ PySem.Paired (rep K G) x vs := by
  obtain ⟨p, vs, h1, h2, h3⟩ := h
  exact ⟨p, vs, h1, h2.elim (w.g _ _) (w.f _ _), h3⟩
theorem rf_new {α : Type} [Rep α] {F G H : Hp} {x : List α} {p : Addr} {vs : List V} (w : W F G H) (hp : H p = none) (r : PySem.Paired (rep K G) x vs) : W F G (upd H p (.lst vs)) ∧ RF K F G (upd H p (.lst vs)) x (.ref p) := by
  have fr := w.fresh hp
  exact ⟨⟨w.g.trans (Ex.upd hp), w.f.trans (Ex.upd hp), w.d⟩, p, vs, rfl, fr.2, fr.1, upd_same, r⟩
theorem o_lCat {α : Type} [Rep α] : Op2 rCat (RL K (α := α)) (RL K) (RF K) lCat := fun F G H x y z vx vy Q w rx ry e k => by
  obtain ⟨p, vs, h1, h2, h3⟩ := rl_at w rx
  obtain ⟨q, us, j1, j2, j3⟩ := rl_at w ry
  unfold lCat at e
  split at e
  · rename_i hl
    cases e
    refine ⟨p, q, vs, us, h1, j1, h2, j2, by rw [← paired_len h3, ← paired_len j3]; exact Nat.le_trans hl line_ge, fun d hd => ?_⟩
    obtain ⟨w2, r2⟩ := rf_new w hd (paired_app h3 j3)
    exact k _ G _ (Ex.refl G) w2 r2
  · cases e
def lRep {α : Type} (x : List α) (n : Int) : Option (List α) := if 0 ≤ n ∧ n ≤ 1000 ∧ x.length ≤ 100 then some (List.replicate n.toNat x).flatten else none
theorem paired_rep {α β : Type} {R : α → β → Prop} {xs : List α} {ys : List β} (h : PySem.Paired R xs ys) : ∀ n : Nat, PySem.Paired R (List.replicate n xs).flatten (List.replicate n ys).flatten
  | 0 => .nil
  | n + 1 => by
    rw [List.replicate_succ, List.replicate_succ, List.flatten_cons, List.flatten_cons]
    exact paired_app h (paired_rep h n)
theorem o_lRep {α : Type} [Rep α] : Op2 rRep (RL K (α := α)) (RE K) (RF K) lRep := fun F G H x y z vx vy Q w rx ry e k => by
  obtain ⟨p, vs, h1, h2, h3⟩ := rl_at w rx
  cases ry
  unfold lRep at e
  split at e
  · rename_i hl
    cases e
    have e1 : vs.length ≤ 100 := by rw [← paired_len h3]; exact hl.2.2
    refine ⟨p, y, vs, h1, rfl, h2, by omega, by omega, ?_, fun d hd => ?_⟩
    · refine Nat.le_trans (Nat.mul_le_mul e1 (show y.toNat ≤ 1000 by omega)) (by decide)
    · obtain ⟨w2, r2⟩ := rf_new w hd (paired_rep h3 y.toNat)
      exact k _ G _ (Ex.refl G) w2 r2
  · cases e
/-- items -/
def lIx {α : Type} (x : List α) (i : Int) : Option α := atI x i
theorem paired_atI {α : Type} {R : α → V → Prop} {xs : List α} {vs : List V} {i : Int} {x : α} (h : PySem.Paired R xs vs) (e : atI xs i = some x) : ∃ v, atI vs i = some v ∧ R x v := by
  unfold atI at e ⊢
  rw [← paired_len h]
  cases q : ixN xs.length i with
  | none => rw [q] at e; cases e
  | some j =>
    rw [q] at e
    exact paired_get h e
theorem o_lIx {α : Type} [Rep α] : Op2 (rIxL K) (RL K (α := α)) (RE K) (RE K) lIx := fun F G H x y z vx vy Q w rx ry e k => by
  obtain ⟨p, vs, h1, h2, h3⟩ := rl_at w rx
  cases ry
  obtain ⟨v, hv, rv⟩ := paired_atI h3 e
  exact ⟨p, vs, y, v, h1, rfl, .inl (.inl h2), hv, k _ G H (Ex.refl G) w rv⟩
def tIx {α : Type} (x : Tup α) (i : Int) : Option α := atI x.l i
theorem o_tIx {α : Type} [Rep α] : Op2 (rIxT K) (RE K (α := Tup α)) (RE K) (RE K) tIx := fun F G H x y z vx vy Q w rx ry e k => by
  obtain ⟨p, vs, h1, h2, h3⟩ := rx
  cases ry
  obtain ⟨v, hv, rv⟩ := paired_atI h3 e
  exact ⟨p, vs, y, v, h1, rfl, .inl (.inl (w.g _ _ h2)), hv, k _ G H (Ex.refl G) w rv⟩
def sIx (x : Str) (i : Int) : Option Str := if x.length ≤ 100000 then (atI x.cps.toList i).map fun c => ⟨#[c]⟩ else none
theorem o_sIx : Op2 rIxS (RE K) (RE K) (RE K) sIx := fun F G H x y z vx vy Q w rx ry e k => by
  cases rx
  cases ry
  unfold sIx at e
  split at e
  · rename_i hl
    cases e1 : atI x.cps.toList y with
    | none => rw [e1] at e; cases e
    | some c =>
      rw [e1] at e
      cases e
      exact ⟨x, y, c, rfl, rfl, Nat.le_trans hl line_ge, e1, k _ G H (Ex.refl G) w rfl⟩
  · cases e
/-- the script's items -/
def cIx (x : Scr) (i : Int) : Option Int := atI x.l i
theorem atI_map {α β : Type} (f : α → β) (xs : List α) (i : Int) : atI (xs.map f) i = (atI xs i).map f := by
  unfold atI
  rw [List.length_map]
  cases ixN xs.length i with
  | none => rfl
  | some j => simp [List.getElem?_map]
theorem scr_at {F G H : Hp} {x : Scr} {v : V} (w : W F G H) (h : rep K G x v) : ∃ p, v = .ref p ∧ SqL K H p (x.l.map V.int) := Rep.mono (Ex.trans w.g (Ex.refl H)) h
theorem o_cIx : Op2 (rIxL K) (RE K (α := Scr)) (RE K) (RE K) cIx := fun F G H x y z vx vy Q w rx ry e k => by
  obtain ⟨p, h1, h2⟩ := scr_at w rx
  cases ry
  have e' : atI x.l y = some z := e
  exact ⟨p, _, y, .int z, h1, rfl, h2, by rw [atI_map, e']; rfl, k _ G H (Ex.refl G) w rfl⟩
def lNotIn (x : Str) (ys : List Str) : Option Bool := some (!decide (x ∈ ys))
theorem strs_of {G : Hp} : ∀ {xs : List Str} {vs : List V}, PySem.Paired (rep K G) xs vs → vs = xs.map V.str
  | _, _, .nil => rfl
  | x :: xs, v :: vs, .cons r t => by
    have e : v = .str x := r
    rw [e, strs_of t]
    rfl
theorem of_strs {G : Hp} : ∀ {xs : List Str}, PySem.Paired (rep K G) xs (xs.map V.str)
  | [] => .nil
  | _ :: _ => .cons rfl of_strs
theorem inV_strs (x : Str) : ∀ ys : List Str, inV (.str x) (ys.map V.str) = decide (x ∈ ys)
  | [] => by simp [inV]
  | y :: ys => by
    have ih := inV_strs x ys
    unfold inV at ih ⊢
    rw [List.map_cons, List.any_cons, ih]
    show ((y == x) || decide (x ∈ ys)) = decide (x ∈ y :: ys)
    by_cases h : y = x
    · subst h
      simp
    · have h' : x ≠ y := fun z => h z.symm
      have : (y == x) = false := by simpa using h
      rw [this]
      simp [h']
theorem flat_map (ys : List Str) : (ys.map V.str).all flatV = true := by
  induction ys with
  | nil => rfl
  | cons y ys ih => simp [flatV, ih]
theorem o_lNotIn : Op2 (rIn K true) (RE K) (RL K) (RE K) lNotIn := fun F G H x y z vx vy Q w rx ry e k => by
  obtain ⟨p, vs, h1, h2, h3⟩ := rl_at w ry
  cases rx
  cases e
  have := strs_of h3
  subst this
  refine ⟨p, _, h1, .inl (.inl (.inl h2)), rfl, flat_map y, k _ G H (Ex.refl G) w ?_⟩
  show V.bl _ = V.bl _
  rw [inV_strs]
  rfl
def tNotIn (x : Str) (ys : Tup Str) : Option Bool := some (!decide (x ∈ ys.l))
theorem o_tNotIn : Op2 (rIn K true) (RE K) (RE K) (RE K) tNotIn := fun F G H x y z vx vy Q w rx ry e k => by
  obtain ⟨p, vs, h1, h2, h3⟩ := ry
  cases rx
  cases e
  have := strs_of h3
  subst this
  refine ⟨p, _, h1, .inr (.inl (.inl (w.g _ _ h2))), rfl, flat_map y.l, k _ G H (Ex.refl G) w ?_⟩
  show V.bl _ = V.bl _
  rw [inV_strs]
  rfl
end
end Vx
namespace Vx
open Rep (rep)
open EnvR (er)
open PySem PySem.Spec PyProof.Rows L2
/-! ### plain data -/
class Dat (α : Type) [Rep α] where
  d : α → PyData
  ok : ∀ {K : PySem.W.Frag} {G H : Hp} {a : α} {v : V}, rep K G a v → Ex G H → Dp K H v (d a)
  plain : ∀ a : α, (d a).plain = true
  dep : Nat
  depth : ∀ a : α, (d a).depth ≤ dep
class DatE (α : Type) [Rep α] [Dat α] [DecidableEq α] : Prop where
  eqv : ∀ x y : α, PyData.eqv (Dat.d x) (Dat.d y) = decide (x = y)
instance : Dat Int := ⟨PyData.int, fun h _ => by cases h; exact .int _, fun _ => rfl, 0, fun _ => Nat.le_refl _⟩
instance : DatE Int := ⟨fun x y => rfl⟩
instance : Dat Bool := ⟨PyData.bool, fun h _ => by cases h; exact .bl _, fun _ => rfl, 0, fun _ => Nat.le_refl _⟩
instance : DatE Bool := ⟨fun x y => by cases x <;> cases y <;> rfl⟩
instance : Dat Str := ⟨PyData.str, fun h _ => by cases h; exact .str _, fun _ => rfl, 0, fun _ => Nat.le_refl _⟩
instance : DatE Str := ⟨fun x y => rfl⟩
instance : Dat Unit := ⟨fun _ => PyData.none, fun h _ => by cases h; exact .non, fun _ => rfl, 0, fun _ => Nat.le_refl _⟩
instance : DatE Unit := ⟨fun x y => rfl⟩
instance {α : Type} [Rep α] [Dat α] : Dat (Option α) := ⟨fun x => match x with | none => PyData.none | some y => Dat.d y, fun {K G H a v} h e => by
  cases a with
  | none => cases (show v = .non from h); exact .non
  | some y => exact Dat.ok h e, fun x => by
  cases x with
  | none => rfl
  | some y => exact Dat.plain y, Dat.dep α, fun x => by
  cases x with
  | none => exact Nat.zero_le _
  | some y => exact Dat.depth y⟩
theorem dp_all {α : Type} [Rep α] [Dat α] {K : PySem.W.Frag} {G H : Hp} (e : Ex G H) : ∀ {xs : List α} {vs : List V}, PySem.Paired (rep K G) xs vs → DpAll K H vs (xs.map Dat.d)
  | _, _, .nil => .nil
  | _, _, .cons r t => .cons (Dat.ok r e) (dp_all e t)
theorem plain_all {α : Type} [Rep α] [Dat α] : ∀ xs : List α, PyData.plainAll (xs.map Dat.d) = true
  | [] => rfl
  | x :: xs => by
    rw [List.map_cons]
    show (PyData.plain (Dat.d x) && PyData.plainAll (xs.map Dat.d)) = true
    rw [Dat.plain x, plain_all xs]
    rfl
theorem depth_all {α : Type} [Rep α] [Dat α] : ∀ xs : List α, PyData.depthAll (xs.map Dat.d) ≤ Dat.dep α
  | [] => Nat.zero_le _
  | x :: xs => by
    rw [List.map_cons]
    have h1 := Dat.depth x
    have h2 := depth_all xs
    simp only [PyData.depthAll]
    omega
theorem eqv_all {α : Type} [Rep α] [Dat α] [DecidableEq α] [DatE α] (xs ys : List α) : PyData.eqvAll (xs.map Dat.d) (ys.map Dat.d) = decide (xs = ys) := by
  induction xs generalizing ys with
  | nil => cases ys <;> rfl
  | cons x xs ih =>
    cases ys with
    | nil => rfl
    | cons y ys =>
      have z : PyData.eqvAll ((x :: xs).map Dat.d) ((y :: ys).map Dat.d) = (decide (x = y) && decide (xs = ys)) := by
        rw [← DatE.eqv x y, ← ih ys]; rfl
      rw [z, ← Bool.decide_and]
      exact decide_eq_decide.mpr (by simp)
instance {α : Type} [Rep α] [Dat α] : Dat (List α) := ⟨fun xs => PyData.list (xs.map Dat.d), fun ⟨p, vs, h1, h2, h3⟩ e => by
  subst h1
  exact .lst (.inl (.inl (e _ _ h2))) (dp_all e h3), fun xs => plain_all xs, Dat.dep α + 1, fun xs => by
  have := depth_all xs
  simp only [PyData.depth]
  omega⟩
instance {α : Type} [Rep α] [Dat α] [DecidableEq α] [DatE α] : DatE (List α) := ⟨fun xs ys => by
  show PyData.eqv (.list _) (.list _) = _
  rw [PyData.eqv]
  exact eqv_all xs ys⟩
instance {α : Type} [Rep α] [Dat α] : Dat (Tup α) := ⟨fun xs => PyData.tuple (xs.l.map Dat.d), fun ⟨p, vs, h1, h2, h3⟩ e => by
  subst h1
  exact .tup (.inl (.inl (e _ _ h2))) (dp_all e h3), fun xs => plain_all xs.l, Dat.dep α + 1, fun xs => by
  have := depth_all xs.l
  simp only [PyData.depth]
  omega⟩
instance {α : Type} [Rep α] [Dat α] [DecidableEq α] [DatE α] : DatE (Tup α) := ⟨fun xs ys => by
  show PyData.eqv (.tuple _) (.tuple _) = _
  rw [PyData.eqv, eqv_all]
  obtain ⟨xs⟩ := xs
  obtain ⟨ys⟩ := ys
  simp⟩
instance {α β : Type} [Rep α] [Rep β] [Dat α] [Dat β] : Dat (T2 α β) := ⟨fun x => PyData.tuple [Dat.d x.a, Dat.d x.b], fun ⟨p, va, vb, h1, h2, h3, h4⟩ e => by
  subst h1
  exact .tup (.inl (.inl (e _ _ h2))) (.cons (Dat.ok h3 e) (.cons (Dat.ok h4 e) .nil)), fun x => by
  show (PyData.plain (Dat.d x.a) && (PyData.plain (Dat.d x.b) && true)) = true
  rw [Dat.plain, Dat.plain]
  rfl, Dat.dep α + Dat.dep β + 1, fun x => by
  have h1 := Dat.depth x.a
  have h2 := Dat.depth x.b
  simp only [PyData.depth, PyData.depthAll]
  omega⟩
instance {α β : Type} [Rep α] [Rep β] [Dat α] [Dat β] [DecidableEq α] [DecidableEq β] [DatE α] [DatE β] : DatE (T2 α β) := ⟨fun x y => by
  show PyData.eqv (.tuple [_, _]) (.tuple [_, _]) = _
  obtain ⟨a, b⟩ := x
  obtain ⟨c, e⟩ := y
  simp only [PyData.eqv, PyData.eqvAll, DatE.eqv]
  by_cases h1 : a = c <;> by_cases h2 : b = e <;> simp [h1, h2]⟩
/-! ### == and != of plain data -/
def rEqP (K : PySem.W.Frag) : L2.R2 := fun x y H Q => ∃ d e, Dp K H x d ∧ Dp K H y e ∧ d.plain = true ∧ e.plain = true ∧ d.depth ≤ 60 ∧ Q (.bl (PyData.eqv d e)) H
def rNeP (K : PySem.W.Frag) : L2.R2 := fun x y H Q => ∃ d e, Dp K H x d ∧ Dp K H y e ∧ d.plain = true ∧ e.plain = true ∧ d.depth ≤ 60 ∧ Q (.bl (!PyData.eqv d e)) H
theorem op_eqP {X : Cx} (hu : X.A.units + 60 < cLine) : OpR X (compareOp .Eq) (rEqP X.K) := by
  intro pins s σ H x y v u Q I rx ry h
  obtain ⟨d, e, hd, he, sd, se, hl, q⟩ := h
  obtain ⟨as, r1⟩ := Dp.reads I d x v hd rx
  obtain ⟨bs, r2⟩ := Dp.reads I e y u he ry
  exact PySem.SeqAt.eq_plain r1 r2 sd se (by omega) ⟨.bl _, H, I, rfl, q⟩
theorem op_neP {X : Cx} (hu : X.A.units + 60 < cLine) : OpR X (compareOp .NotEq) (rNeP X.K) := by
  intro pins s σ H x y v u Q I rx ry h
  obtain ⟨d, e, hd, he, sd, se, hl, q⟩ := h
  obtain ⟨as, r1⟩ := Dp.reads I d x v hd rx
  obtain ⟨bs, r2⟩ := Dp.reads I e y u he ry
  exact PySem.SeqAt.ne_plain r1 r2 sd se (by omega) ⟨.bl _, H, I, rfl, q⟩
section
variable {K : PySem.W.Frag}
/-- == of what stands for one kind -/
def dEq {α : Type} [DecidableEq α] (x y : α) : Option Bool := some (decide (x = y))
def dNe {α : Type} [DecidableEq α] (x y : α) : Option Bool := some (!decide (x = y))
theorem o_dEq {α : Type} [Rep α] [Dat α] [DecidableEq α] [DatE α] (hd : Dat.dep α ≤ 60 := by decide) : Op2 (rEqP K) (RE K (α := α)) (RE K) (RE K) dEq := fun F G H x y z vx vy Q w rx ry e k => by
  cases e
  refine ⟨_, _, Dat.ok rx w.g, Dat.ok ry w.g, Dat.plain _, Dat.plain _, Nat.le_trans (Dat.depth _) hd, ?_⟩
  rw [DatE.eqv]
  exact k _ G H (Ex.refl G) w rfl
theorem o_dNe {α : Type} [Rep α] [Dat α] [DecidableEq α] [DatE α] (hd : Dat.dep α ≤ 60 := by decide) : Op2 (rNeP K) (RE K (α := α)) (RE K) (RE K) dNe := fun F G H x y z vx vy Q w rx ry e k => by
  cases e
  refine ⟨_, _, Dat.ok rx w.g, Dat.ok ry w.g, Dat.plain _, Dat.plain _, Nat.le_trans (Dat.depth _) hd, ?_⟩
  rw [DatE.eqv]
  exact k _ G H (Ex.refl G) w rfl
end
/-! ### built-in functions of values -/
section
variable {Γ : Type} [EnvR Γ] {β : Type} {A : Type} [RepL A] {X : Cx} {e : Expr} {es : List Expr} {x : Str} {p pos : Pos} {r : List V → Hp → VK → Prop} {R : RR β} {φ : A → Option β} {f : Γ → Option A} {fm : Γ → Option (A × Γ)}
def OpA (r : List V → Hp → VK → Prop) (K : PySem.W.Frag) (R : RR β) (φ : A → Option β) : Prop := ∀ F G H a y vs (Q : VK), W F G H → RepL.rl K G a vs → φ a = some y → (∀ v G2 H2, Ex G G2 → W F G2 H2 → R F G2 H2 y v → Q v H2) → r vs H Q
theorem tea1 {K : PySem.W.Frag} (o : OpA r K R φ) {σ : L2.St} {H : Hp} {Q : VK} (h : tev K R (f1 φ f) σ H Q) : tea K f σ H fun vs H1 => r vs H1 Q := by
  obtain ⟨F, G, L, γ, y, w, he, ea, q⟩ := h
  unfold f1 at ea
  cases e1 : f γ with
  | none => rw [e1] at ea; cases ea
  | some a =>
    rw [e1] at ea
    exact ⟨F, G, L, γ, a, w, he, e1, fun vs G2 H2 e2 w2 r2 => o F G2 H2 a y vs Q w2 r2 ea fun v G3 H3 e3 w3 r3 => q v G3 H3 (e2.trans e3) w3 r3⟩
theorem tma1 {K : PySem.W.Frag} (o : OpA r K R φ) {σ : L2.St} {H : Hp} {Q : VK} (h : tem K R (m1 φ fm) σ H Q) : tma K fm σ H fun vs H1 => r vs H1 Q := by
  obtain ⟨F, G, L, γ, y, γ', w, he, ea, q⟩ := h
  obtain ⟨a, e1, e2⟩ := m1_some ea
  exact ⟨F, G, L, γ, a, γ', w, he, e1, fun vs F2 G2 H2 x2 w2 o2 h2 r2 => o F2 G2 H2 a y vs Q w2 r2 e2 fun v G3 H3 x3 w3 r3 => q v F2 G3 H3 (x2.trans x3) w3 o2 (EnvR.mono x3 h2) r3⟩
theorem vo_blt {id : String} (hc : CallR X (.builtin id) r) (o : OpA r X.K R φ) (ha : VA X (e :: es) f) (hm : X.mg x = none) (hv : bootBuiltins x = some (.builtin id) := by decide +kernel) (hg : Gl X x := by rfl) (hn : x ≠ "__name__" := by decide) (hdb : (x == ("__debug__" : Str)) = false := by decide)
    (he : starEach (e :: es) X.env = (false, eval e X.env) :: starEach es X.env := by rfl) (hpl : (backTo pos (starEach es X.env)).any (·.1) = false := by rfl) : VO X (.Call (.Name x p) (e :: es) [] pos) R (f1 φ f) :=
  PE.le (pe_callB hc hg hm hv ha hn hdb he hpl) fun σ H Q h => tea1 o h
theorem vo_bty {T : String} (hc : CallR X (.type T) r) (o : OpA r X.K R φ) (ha : VA X (e :: es) f) (hm : X.mg x = none) (hv : bootBuiltins x = some (.type T) := by decide +kernel) (hg : Gl X x := by rfl) (hn : x ≠ "__name__" := by decide) (hdb : (x == ("__debug__" : Str)) = false := by decide)
    (he : starEach (e :: es) X.env = (false, eval e X.env) :: starEach es X.env := by rfl) (hpl : (backTo pos (starEach es X.env)).any (·.1) = false := by rfl) : VO X (.Call (.Name x p) (e :: es) [] pos) R (f1 φ f) :=
  PE.le (pe_callTy hc hg hm hv ha hn hdb he hpl) fun σ H Q h => tea1 o h
theorem mo_blt {id : String} (hc : CallR X (.builtin id) r) (o : OpA r X.K R φ) (ha : MA X (e :: es) fm) (hm : X.mg x = none) (hv : bootBuiltins x = some (.builtin id) := by decide +kernel) (hg : Gl X x := by rfl) (hn : x ≠ "__name__" := by decide) (hdb : (x == ("__debug__" : Str)) = false := by decide)
    (he : starEach (e :: es) X.env = (false, eval e X.env) :: starEach es X.env := by rfl) (hpl : (backTo pos (starEach es X.env)).any (·.1) = false := by rfl) : MO X (.Call (.Name x p) (e :: es) [] pos) R (m1 φ fm) :=
  PE.le (pe_callB hc hg hm hv ha hn hdb he hpl) fun σ H Q h => tma1 o h
end
section
variable {K : PySem.W.Frag}
theorem rl1 {α : Type} [Rep α] {G : Hp} {a : α × Unit} {vs : List V} (h : RepL.rl K G a vs) : ∃ v, vs = [v] ∧ rep K G a.1 v := by
  obtain ⟨v, r, h1, h2, h3⟩ := h
  cases (show r = [] from h3)
  exact ⟨v, h1, h2⟩
theorem rl2 {α β : Type} [Rep α] [Rep β] {G : Hp} {a : α × β × Unit} {vs : List V} (h : RepL.rl K G a vs) : ∃ v u, vs = [v, u] ∧ rep K G a.1 v ∧ rep K G a.2.1 u := by
  obtain ⟨v, r, h1, h2, h3⟩ := h
  obtain ⟨u, e, h4⟩ := rl1 h3
  exact ⟨v, u, by rw [h1, e], h2, h4⟩
def lenS (a : Str × Unit) : Option Int := if a.1.length ≤ 100000 then some (a.1.length : Int) else none
def lenL {α : Type} (a : List α × Unit) : Option Int := some (a.1.length : Int)
def lenT {α : Type} (a : Tup α × Unit) : Option Int := some (a.1.l.length : Int)
def lenC (a : Scr × Unit) : Option Int := some (a.1.l.length : Int)
abbrev rLen (K : PySem.W.Frag) : List V → Hp → VK → Prop := fun xs H Q => ∃ x n, xs = [x] ∧ LenV K x H n ∧ Q (.int n) H
theorem o_lenS : OpA (rLen K) K (RE K) lenS := fun F G H a y vs Q w r e k => by
  obtain ⟨v, h1, h2⟩ := rl1 r
  cases h2
  unfold lenS at e
  split at e
  · rename_i hl
    cases e
    exact ⟨_, _, h1, ⟨Nat.le_trans hl line_ge, rfl⟩, k _ G H (Ex.refl G) w rfl⟩
  · cases e
theorem o_lenL {α : Type} [Rep α] : OpA (rLen K) K (RE K) (lenL (α := α)) := fun F G H a y vs Q w r e k => by
  obtain ⟨v, h1, p, us, h2, h3, h4⟩ := rl1 r
  cases e
  subst h2
  exact ⟨_, us.length, h1, .inl ⟨us, .inl (.inl (w.g _ _ h3)), rfl⟩, k _ G H (Ex.refl G) w (by rw [paired_len h4]; rfl)⟩
theorem o_lenT {α : Type} [Rep α] : OpA (rLen K) K (RE K) (lenT (α := α)) := fun F G H a y vs Q w r e k => by
  obtain ⟨v, h1, p, us, h2, h3, h4⟩ := rl1 r
  cases e
  subst h2
  exact ⟨_, us.length, h1, .inr ⟨us, .inl (.inl (w.g _ _ h3)), rfl⟩, k _ G H (Ex.refl G) w (by rw [paired_len h4]; rfl)⟩
theorem o_lenC : OpA (rLen K) K (RE K) lenC := fun F G H a y vs Q w r e k => by
  obtain ⟨v, h1, h2⟩ := rl1 r
  obtain ⟨p, h3, h4⟩ := scr_at w h2
  cases e
  subst h3
  exact ⟨_, _, h1, .inl ⟨_, h4, rfl⟩, k _ G H (Ex.refl G) w (by rw [List.length_map]; rfl)⟩
def absI (a : Int × Unit) : Option Int := some (if a.1 < 0 then -a.1 else a.1)
theorem o_abs : OpA (fun xs H Q => ∃ i, xs = [.int i] ∧ Q (.int (if i < 0 then -i else i)) H) K (RE K) absI := fun F G H a y vs Q w r e k => by
  obtain ⟨v, h1, h2⟩ := rl1 r
  cases h2
  cases e
  exact ⟨_, h1, k _ G H (Ex.refl G) w rfl⟩
def intI (a : Int × Unit) : Option Int := some a.1
theorem o_int : OpA (fun xs H Q => (∃ i, xs = [.int i] ∧ Q (.int i) H) ∨ ∃ k, xs = [.bl k] ∧ Q (.int (if k then 1 else 0)) H) K (RE K) intI := fun F G H a y vs Q w r e k => by
  obtain ⟨v, h1, h2⟩ := rl1 r
  cases h2
  cases e
  exact .inl ⟨_, h1, k _ G H (Ex.refl G) w rfl⟩
def max2 (a : Int × Int × Unit) : Option Int := some (if a.2.1 > a.1 then a.2.1 else a.1)
def min2 (a : Int × Int × Unit) : Option Int := some (if a.2.1 < a.1 then a.2.1 else a.1)
theorem o_max2 : OpA (fun xs H Q => ∃ i j, xs = [.int i, .int j] ∧ Q (.int (if j > i then j else i)) H) K (RE K) max2 := fun F G H a y vs Q w r e k => by
  obtain ⟨v, u, h1, h2, h3⟩ := rl2 r
  cases h2
  cases h3
  cases e
  exact ⟨_, _, h1, k _ G H (Ex.refl G) w rfl⟩
theorem o_min2 : OpA (fun xs H Q => ∃ i j, xs = [.int i, .int j] ∧ Q (.int (if j < i then j else i)) H) K (RE K) min2 := fun F G H a y vs Q w r e k => by
  obtain ⟨v, u, h1, h2, h3⟩ := rl2 r
  cases h2
  cases h3
  cases e
  exact ⟨_, _, h1, k _ G H (Ex.refl G) w rfl⟩
/-- tuple(a list), tuple(a tuple) -/
def tupL {α : Type} (a : List α × Unit) : Option (Tup α) := some ⟨a.1⟩
abbrev rTupOf (K : PySem.W.Frag) : List V → Hp → VK → Prop := fun xs H Q => ∃ p ys, xs = [.ref p] ∧ ((SqL K H p ys ∧ ∀ l, H l = none → Q (.ref l) (upd H l (.tup ys))) ∨ (SqT K H p ys ∧ Q (.ref p) H))
theorem o_tupL {α : Type} [Rep α] : OpA (rTupOf K) K (RE K) (tupL (α := α)) := fun F G H a y vs Q w r e k => by
  obtain ⟨v, h1, p, us, h2, h3, h4⟩ := rl1 r
  cases e
  subst h2
  exact ⟨p, us, h1, .inl ⟨.inl (.inl (w.g _ _ h3)), fun l hl => k _ _ _ (Ex.upd (w.fresh hl).1) (w.new hl) ⟨l, us, rfl, upd_same, Paired.mono (fun _ _ r => Rep.mono (Ex.upd (w.fresh hl).1) r) h4⟩⟩⟩
/-- all, any of truths -/
theorem bls_of {G : Hp} : ∀ {xs : List Bool} {vs : List V}, PySem.Paired (rep K G) xs vs → vs = xs.map V.bl
  | _, _, .nil => rfl
  | x :: xs, v :: vs, .cons r t => by
    have e : v = .bl x := r
    rw [e, bls_of t]
    rfl
def allB (a : List Bool × Unit) : Option Bool := some (a.1.all id)
theorem o_allB : OpA (rAll K) K (RE K) allB := fun F G H a y vs Q w r e k => by
  obtain ⟨v, h1, p, us, h2, h3, h4⟩ := rl1 r
  cases e
  subst h2
  rw [bls_of h4] at h3
  exact ⟨p, a.1, h1, .inl (.inl (w.g _ _ h3)), k _ G H (Ex.refl G) w rfl⟩
/-- all, any of whole numbers -/
theorem paired_getR {α β : Type} {R : α → β → Prop} : ∀ {xs : List α} {ys : List β} {i : Nat} {y : β}, PySem.Paired R xs ys → ys[i]? = some y → ∃ x, xs[i]? = some x ∧ R x y
  | _, _, 0, _, .cons r _, h => by
    cases h
    exact ⟨_, rfl, r⟩
  | _, _, i + 1, _, .cons _ t, h => paired_getR (i := i) t (by simpa using h)
mutual
theorem dict_unplain : ∀ d : PyData, d.hasDict = true → d.plain = false
  | .dict _, _ => rfl
  | .list xs, h => dicts_unplain xs h
  | .tuple xs, h => dicts_unplain xs h
theorem dicts_unplain : ∀ xs : List PyData, PyData.hasDictAll xs = true → PyData.plainAll xs = false
  | x :: xs, h => by
    have z : x.hasDict = true ∨ PyData.hasDictAll xs = true := by simpa [PyData.hasDictAll] using h
    have y : x.plain = false ∨ PyData.plainAll xs = false := z.imp (dict_unplain x) (dicts_unplain xs)
    show (x.plain && PyData.plainAll xs) = false
    rw [Bool.and_eq_false_iff]
    exact y
end
/-! repr of plain data -/
theorem hasDict_plain (d : PyData) (h : d.plain = true) : d.hasDict = false := by
  cases z : d.hasDict with
  | false => rfl
  | true => rw [dict_unplain d z] at h; cases h
def fits (d : PyData) : Bool := d.showable && decide (d.depth ≤ 50) && decide (d.shown.length ≤ sizeLine)
abbrev rRepr (K : PySem.W.Frag) : List V → Hp → VK → Prop := fun xs H Q => ∃ a d, xs = [V.ref a] ∧ Dp K H (.ref a) d ∧ d.plain = true ∧ fits d = true ∧ Q (.str d.shown) H
theorem cr_repr {X : Cx} (hg : X.A.guards = some []) (hu : X.A.units + 60 < cLine) : CallR X (.builtin "repr") (rRepr X.K) := by
  intro pins s σ H vs us Q I r h
  obtain ⟨a, d, rfl, hd, hp, hf, q⟩ := h
  obtain ⟨as, r1⟩ := Dp.reads I d (.ref a) (.ref a) hd rfl
  rw [Vals.ref1 r]
  have hf' : d.showable = true ∧ d.depth ≤ 50 ∧ d.shown.length ≤ sizeLine := by
    unfold fits at hf
    simp only [Bool.and_eq_true, decide_eq_true_eq] at hf
    exact ⟨hf.1.1, hf.1.2, hf.2⟩
  exact repr_of_reads' r1 hf'.1 (fun z => by rw [hasDict_plain d hp] at z; cases z) hg (by omega) (fun _ _ e => e) (fun h' u tk k => ⟨.str d.shown, H, I.kept k, ⟨u, rfl⟩, q⟩) hf'.2.2
class Ref (α : Type) [Rep α] : Prop where
  ref : ∀ {K : PySem.W.Frag} {G : Hp} {a : α} {v : V}, rep K G a v → ∃ p, v = .ref p
instance {α : Type} [Rep α] : Ref (List α) := ⟨fun ⟨p, _, h, _⟩ => ⟨p, h⟩⟩
instance {α : Type} [Rep α] : Ref (Tup α) := ⟨fun ⟨p, _, h, _⟩ => ⟨p, h⟩⟩
instance {α β : Type} [Rep α] [Rep β] : Ref (T2 α β) := ⟨fun ⟨p, _, _, h, _⟩ => ⟨p, h⟩⟩
def rprD {α : Type} [Rep α] [Dat α] (a : α × Unit) : Option Str := if fits (Dat.d a.1) then some (Dat.d a.1).shown else none
theorem o_repr {α : Type} [Rep α] [Dat α] [Ref α] : OpA (rRepr K) K (RE K) (rprD (α := α)) := fun F G H a y vs Q w r e k => by
  obtain ⟨v, h1, h2⟩ := rl1 r
  obtain ⟨p, h3⟩ := Ref.ref h2
  subst h3
  unfold rprD at e
  split at e
  · rename_i hf
    cases e
    exact ⟨p, _, h1, Dat.ok h2 w.g, Dat.plain _, hf, k _ G H (Ex.refl G) w rfl⟩
  · cases e
end
end Vx
namespace Vx
open Rep (rep)
open EnvR (er)
open PySem PySem.Spec PyProof.Rows L2
/-! ### rows of things of one kind: [e, ..], (e, ..) -/
section
variable {Γ : Type} [EnvR Γ] {α : Type} [Rep α] {X : Cx} {e : Expr} {es : List Expr} {pos : Pos}
def tel (K : PySem.W.Frag) (f : Γ → Option (List α)) : TA := fun σ H Q => ∃ F G L γ a, W F G H ∧ er K G F L σ γ ∧ f γ = some a ∧ ∀ vs G2 H2, Ex G G2 → W F G2 H2 → PySem.Paired (rep K G2) a vs → Q vs H2
abbrev VLs (X : Cx) (es : List Expr) (f : Γ → Option (List α)) : Prop := PA X es (tel X.K f)
def lnil : Γ → Option (List α) := fun _ => some []
def lcons (f : Γ → Option α) (g : Γ → Option (List α)) : Γ → Option (List α) := f2 (fun x y => some (x :: y)) f g
theorem f2_some {β δ : Type} {φ : α → β → Option δ} {f : Γ → Option α} {g : Γ → Option β} {γ : Γ} {z : δ} (h : f2 φ f g γ = some z) : ∃ x y, f γ = some x ∧ g γ = some y ∧ φ x y = some z := by
  unfold f2 at h
  cases e1 : f γ with
  | none => rw [e1] at h; cases h
  | some x =>
    rw [e1] at h
    cases e2 : g γ with
    | none => simp only [Option.bind_some] at h; rw [e2] at h; cases h
    | some y =>
      simp only [Option.bind_some] at h
      rw [e2] at h
      exact ⟨x, y, rfl, rfl, h⟩
theorem vls_nil : VLs X [] (lnil (Γ := Γ) (α := α)) := PA.le pa_nil fun σ H Q ⟨F, G, L, γ, a, w, he, ea, q⟩ => by
  cases ea
  exact q [] G H (Ex.refl G) w .nil
theorem vls_cons {f : Γ → Option α} {g : Γ → Option (List α)} (h : VE X e f) (k : VLs X es g) (hs : starEach (e :: es) X.env = (false, eval e X.env) :: starEach es X.env := by rfl) : VLs X (e :: es) (lcons f g) :=
  PA.le (pa_cons h k hs) fun σ H Q ⟨F, G, L, γ, a, w, he, ea, q⟩ => by
    obtain ⟨x, y, e1, e2, e3⟩ := f2_some ea
    cases e3
    exact ⟨F, G, L, γ, x, w, he, e1, fun v G2 H2 x2 w2 r2 => ⟨F, G2, L, γ, y, w2, EnvR.mono x2 he, e2, fun vs G3 H3 x3 w3 r3 => q (v :: vs) G3 H3 (x2.trans x3) w3 (.cons (Rep.mono x3 r2) r3)⟩⟩
def short (xs : List α) : Option (List α) := if xs.length ≤ 100000 then some xs else none
def shortT (xs : List α) : Option (Tup α) := if xs.length ≤ 100000 then some ⟨xs⟩ else none
theorem vf_lst {f : Γ → Option (List α)} (h : VLs X es f) : VF X (.List es pos) (f1 short f) := PE.le (pe_lst h) fun σ H Q ⟨F, G, L, γ, a, w, he, ea, q⟩ => by
  unfold f1 at ea
  cases e1 : f γ with
  | none => rw [e1] at ea; cases ea
  | some x =>
    rw [e1] at ea
    simp only [Option.bind_some, short] at ea
    split at ea
    · rename_i hl
      cases ea
      exact ⟨F, G, L, γ, _, w, he, e1, fun vs G2 H2 x2 w2 r2 => ⟨by rw [← paired_len r2]; exact Nat.le_trans hl line_ge, fun p hp => let ⟨w3, r3⟩ := rf_new w2 hp r2; q _ _ _ x2 w3 r3⟩⟩
    · cases ea
theorem ve_tupL {k} {f : Γ → Option (List α)} (h : VLs X es f) : VE X (.Tuple es k pos) (f1 shortT f) := PE.le (pe_tup h) fun σ H Q ⟨F, G, L, γ, a, w, he, ea, q⟩ => by
  unfold f1 at ea
  cases e1 : f γ with
  | none => rw [e1] at ea; cases ea
  | some x =>
    rw [e1] at ea
    simp only [Option.bind_some, shortT] at ea
    split at ea
    · rename_i hl
      cases ea
      exact ⟨F, G, L, γ, _, w, he, e1, fun vs G2 H2 x2 w2 r2 => ⟨by rw [← paired_len r2]; exact Nat.le_trans hl line_ge, fun p hp => by
        have ex := Ex.upd (o := HO.tup vs) (w2.fresh hp).1
        exact q _ _ _ (x2.trans ex) (w2.new hp) ⟨p, vs, rfl, upd_same, Paired.mono (fun _ _ r => Rep.mono ex r) r2⟩⟩⟩
    · cases ea
/-- a pair -/
def pairT {β : Type} (x : α × β × Unit) : Option (T2 α β) := some ⟨x.1, x.2.1⟩
theorem ve_pair {β : Type} [Rep β] {a b : Expr} {k} {f : Γ → Option (α × β × Unit)} (h : VA X [a, b] f) : VE X (.Tuple [a, b] k pos) (f1 pairT f) := PE.le (pe_tup h) fun σ H Q ⟨F, G, L, γ, z, w, he, ea, q⟩ => by
  unfold f1 at ea
  cases e1 : f γ with
  | none => rw [e1] at ea; cases ea
  | some x =>
    rw [e1] at ea
    cases ea
    exact ⟨F, G, L, γ, _, w, he, e1, fun vs G2 H2 x2 w2 r2 => by
      obtain ⟨v, u, h1, h2, h3⟩ := rl2 r2
      subst h1
      refine ⟨show 2 ≤ sizeLine by decide, fun p hp => ?_⟩
      have ex := Ex.upd (o := HO.tup [v, u]) (w2.fresh hp).1
      exact q _ _ _ (x2.trans ex) (w2.new hp) ⟨p, v, u, rfl, upd_same, Rep.mono ex h2, Rep.mono ex h3⟩⟩
/-! ### a <= b <= c -/
def fch {β δ : Type} (φ : α → β → Option Bool) (ψ : β → δ → Option Bool) (f : Γ → Option α) (g : Γ → Option β) (h : Γ → Option δ) : Γ → Option Bool := fun γ => (f γ).bind fun x => (g γ).bind fun y => (φ x y).bind fun b => if b then (h γ).bind fun z => ψ y z else some false
theorem ve_chain {β δ : Type} [Rep β] [Rep δ] {a b c : Expr} {op op' : CmpOp} {r r' : L2.R2} {φ : α → β → Option Bool} {ψ : β → δ → Option Bool} {f : Γ → Option α} {g : Γ → Option β} {h : Γ → Option δ} (ho : OpR X (compareOp op) r) (ho' : OpR X (compareOp op') r') (o : Op2 r (RE X.K) (RE X.K) (RE X.K) φ) (o' : Op2 r' (RE X.K) (RE X.K) (RE X.K) ψ)
    (ha : VE X a f) (hb : VE X b g) (hc : VE X c h) (hm : lastMarks [op, op'] [b, c] = false := by with_unfolding_all rfl) : VE X (.Compare a [op, op'] [b, c] pos) (fch φ ψ f g h) :=
  PE.le (pe_chain ho ho' ha hb hc hm) fun σ H Q ⟨F, G, L, γ, z, w, he, ea, q⟩ => by
    unfold fch at ea
    cases e1 : f γ with
    | none => rw [e1] at ea; cases ea
    | some x =>
      rw [e1] at ea
      cases e2 : g γ with
      | none => simp only [Option.bind_some] at ea; rw [e2] at ea; cases ea
      | some y =>
        simp only [Option.bind_some] at ea
        rw [e2] at ea
        simp only [Option.bind_some] at ea
        cases e3 : φ x y with
        | none => rw [e3] at ea; cases ea
        | some k =>
          rw [e3] at ea
          simp only [Option.bind_some] at ea
          refine ⟨F, G, L, γ, x, w, he, e1, fun vx G2 H2 x2 w2 r2 => ⟨F, G2, L, γ, y, w2, EnvR.mono x2 he, e2, fun vy G3 H3 x3 w3 r3 => o F G3 H3 x y k vx vy _ w3 (Rep.mono x3 r2) r3 e3 fun v G4 H4 x4 w4 r4 => ⟨k, r4, ?_⟩⟩⟩
          cases k with
          | true =>
            simp only [if_true] at ea ⊢
            cases e5 : h γ with
            | none => rw [e5] at ea; cases ea
            | some u =>
              rw [e5] at ea
              exact ⟨F, G4, L, γ, u, w4, EnvR.mono (x2.trans (x3.trans x4)) he, e5, fun vu G5 H5 x5 w5 r5 => o' F G5 H5 y u z vy vu _ w5 (Rep.mono (x4.trans x5) r3) r5 ea fun v6 G6 H6 x6 w6 r6 => q _ _ _ (x2.trans (x3.trans (x4.trans (x5.trans x6)))) w6 r6⟩
          | false =>
            simp only [Bool.false_eq_true, if_false] at ea ⊢
            cases ea
            exact q _ _ _ (x2.trans (x3.trans x4)) w4 rfl
/-! ### ''.join(..) -/
def jn (a : Str) (ys : List Str) : Option Str := if (ys.map (·.length)).sum + ys.length * a.length ≤ 100000 then some (Txt.join a ys) else none
theorem ve_join {o e : Expr} {apos : Pos} {f : Γ → Option Str} {g : Γ → Option (List Str)} (ho : VE X o f) (he : VE X e g) (hs : starEach [e] X.env = [(false, eval e X.env)] := by rfl) (hbase : attributeBase o "join" X.env (eval o X.env) = eval o X.env := by rfl) (hline : (apos.endLine == pos.line) = true := by rfl) :
    VE X (.Call (.Attribute o "join" apos) [e] [] pos) (f2 jn f g) := PE.le (pe_join ho he hs hbase hline) fun σ H Q ⟨F, G, L, γ, z, w, hh, ea, q⟩ => by
  obtain ⟨x, y, e1, e2, e3⟩ := f2_some ea
  unfold jn at e3
  split at e3
  · rename_i hl
    cases e3
    refine ⟨F, G, L, γ, x, w, hh, e1, fun v G2 H2 x2 w2 r2 => ⟨⟨x, r2⟩, F, G2, L, γ, y, w2, EnvR.mono x2 hh, e2, fun u G3 H3 x3 w3 r3 => ?_⟩⟩
    obtain ⟨p, vs, h1, h2, h3⟩ := r3
    rw [strs_of h3] at h2
    exact ⟨x, p, y, r2, by rw [h1], .inl (.inl (.inl (w3.g _ _ h2))), by omega, q _ _ _ (x2.trans x3) w3 rfl⟩
  · cases e3
/-! ### slices -/
def cutSt (lo hi : Option Int) (z : Str) : Option Str := if z.length ≤ 100000 then some (cutS z lo hi) else none
def cutA {α : Type} (lo hi : Option Int) (xs : List α) : List α := (xs.drop (HT.sIx xs.length 0 lo)).take (HT.sIx xs.length xs.length hi - HT.sIx xs.length 0 lo)
/-- the script's front -/
def cutC (lo hi : Option Int) (x : Scr) : Option (List Int) := some (cutA lo hi x.l)
theorem vf_scrTo {a b : Expr} {p2 : Pos} {f : Γ → Option Scr} {g : Γ → Option Int} (ha : VE X a f) (hb : VE X b g) : VF X (.Subscript a (.Slice none (some b) none p2) pos) (f2 (fun z i => cutC none (some i) z) f g) :=
  PE.le (pe_slice sl_list ha po_none (po_some hb)) fun σ H Q ⟨F, G, L, γ, z, w, he, ea, q⟩ => by
    obtain ⟨x, y, e1, e2, e3⟩ := f2_some ea
    cases e3
    refine ⟨F, G, L, γ, x, w, he, e1, fun v G2 H2 x2 w2 r2 => ⟨F, G2, L, γ, y, w2, EnvR.mono x2 he, e2, fun u G3 H3 x3 w3 r3 => ?_⟩⟩
    obtain ⟨p, h1, h2⟩ := scr_at w3 (Rep.mono x3 r2)
    refine ⟨y, r3, p, _, h1, h2, fun l hl => ?_⟩
    have rr : PySem.Paired (rep X.K G3) (cutA none (some y) x.l) (cutV (x.l.map V.int) none (some y)) := by
      have e : cutV (x.l.map V.int) none (some y) = (cutA none (some y) x.l).map V.int := by
        unfold cutV cutA
        rw [List.length_map, ← List.map_drop, ← List.map_take]
      rw [e]
      exact of_ints
    obtain ⟨w4, r4⟩ := rf_new w3 hl rr
    exact q _ _ _ (x2.trans x3) w4 r4
end
end Vx
namespace Vx
open Rep (rep)
open EnvR (er)
open PySem PySem.Spec PyProof.Rows L2
/-! ### walks that the library tells as GoesN, as walks of the hand layer -/
/-- cells `cs`, the iterator's state `tn`: what an iterator of pairs owes in a context -/
structure PairsGo (X : Cx) (tg : Expr) (J : It) (I0 : Addr) (cs : List Addr) (tn : Nat → Heap → Prop) (i n : Nat) (s : Shared) (H : Hp) : Prop where
  go : ∃ fp wr Y St, GoesN X.prog X.w X.A tg I0 fp wr n Y St ∧ (∀ b ∈ wr, b ∈ cs) ∧ (∀ j h, tn j h → j = i → s.heap = h → St j h) ∧ (∀ h, i < n → St (i + 1) h → tn (i + 1) h) ∧
    ∀ v h', i < n → Y i s.heap v h' → ∃ T a b x y, v = Value.ref T ∧ s.heap.objs.size ≤ T ∧ h'.IsTuple T #[a, b] ∧ RelV x a ∧ RelV y b ∧ J.yld i H (.ref T) (L2.upd H T (.tup [x, y]))
theorem turn_of_pairs {P : Program} {w : World} {K : PySem.W.Frag} {tg : Expr} {J : It} {I0 : Addr} {cs : List Addr} {tn : Nat → Heap → Prop} (mem : I0 ∈ cs) (live : ∀ i h, tn i h → ∀ b ∈ cs, ∃ o, h.get? b = some o ∧ ∀ v, o.data ≠ .cell v)
    (keep : ∀ i h h', tn i h → (∀ b ∈ cs, ∀ o, h.get? b = some o → h'.get? b = some o) → tn i h')
    (goes : ∀ (X : Cx) (i : Nat) (pins : List (Addr × Obj)) (s : Shared) (σ : L2.St) (H : Hp), X.prog = P → X.w = w → X.K = K → X.calm = true → Inv X pins σ H s → tn i s.heap → J.go i H → ∃ n, i < n ∧ PairsGo X tg J I0 cs tn i n s H)
    (stops : ∀ (X : Cx) (i : Nat) (pins : List (Addr × Obj)) (s : Shared) (σ : L2.St) (H : Hp) (Q : Shared → Prop) (E : Value → Shared → Prop), X.prog = P → X.w = w → X.K = K → X.calm = true → Inv X pins σ H s → tn i s.heap → J.stop i H →
      (∀ h' tk, (∀ b o, b ∉ cs → s.heap.get? b = some o → h'.get? b = some o) → Q { s with heap := h', toks := tk }) → wpAny (model P w) X.A (pyNext (.ref I0)) (fun r s1 => r = none ∧ Q s1) E s)
    (self : ∀ (A : Around) (i : Nat) (s : Shared) (Q E : Value → Shared → Prop), tn i s.heap → Q (.ref I0) s → wpAny (model P w) A (pyIter (.ref I0)) Q E s) : Turn P w K tg J cs I0 tn := by
  refine ⟨mem, live, keep, ?_, ?_, self⟩
  · intro X e1 e2 e3 calm i pins s σ H E I free st more
    obtain ⟨n, hin, ⟨fp, wr, Y, St, W, sub, into, out, pair⟩⟩ := goes X i pins s σ H e1 e2 e3 calm I st more
    subst e1 e2
    refine W.goes i s _ E hin (into i s.heap st rfl rfl) fun v h' tk found st' old _ => ?_
    obtain ⟨T, a, b, x, y, ev, new, tup, ra, rb, yields⟩ := pair v h' hin found
    obtain ⟨o, ho, cls, k, dat⟩ := tup
    have two : ObjOk X.prog X.w (L2.upd H T (.tup [x, y])) h' T (.tup [x, y]) := ⟨(by decide : 2 ≤ sizeLine), [a, b], .cons ra (.cons rb .nil), o, ho, cls, k, dat⟩
    have J1 := I.turnedNew (t' := tk) (ch := cs) (fun c u hc => old c u fun z => hc (sub c z)) free new two
    refine ⟨.ref T, _, J1, ev, yields, out h' hin st', fun c hc => ?_⟩
    have lt : c < s.heap.objs.size := by
      obtain ⟨u, hu, _⟩ := live i s.heap st c hc
      exact Heap.lt_size hu
    rw [upd_ne (Nat.ne_of_lt (Nat.lt_of_lt_of_le lt new))]
    exact (free c hc).1
  · intro X e1 e2 e3 calm i pins s σ H E I free st no
    exact stops X i pins s σ H _ E e1 e2 e3 calm I st no fun h' tk old => I.turnedL (t' := tk) (ch := cs) old free
/-! ### enumerate(a tuple) -/
theorem enum_new1 {v : Value} {o : Obj} {H : Heap → Prop} (B : Begins v o H) :
    Meets (Builtin.«enumerate.__new__» ⟨[.type "enumerate", v], []⟩) (fun _ R s => H s.heap ∧
      R (.ok (.ret (.ref (s.heap.push o).objs.size))) { s with heap := (s.heap.push o).push { cls := .type "enumerate", data := .fields #[.none, .bool false, .ref s.heap.objs.size, rawInt 0, .none, .none] } }) := by
  refine .of_wp fun prog w A R s ⟨here, ends⟩ => ?_
  have sub := sub_enumerate
  cases s with
  | mk hp gs dr tk os =>
    have begins : ∀ {A' : Around} {E Q : Value → Shared → Prop}, Q (.ref hp.objs.size) ⟨hp.push o, gs, dr, tk, os⟩ → wpAny (model prog w) A' (pyIter v) Q E ⟨hp, gs, dr, tk, os⟩ := fun q => B.iter prog w _ _ _ _ here q
    wp_walk using begins
    refine wpAny_stack_any fun stk => wpAny_pure ?_
    have both : ∀ b : Bool, b = true ∨ b = false := fun b => by cases b <;> simp
    split
    · rename_i cl _ _ _ _ _
      rcases both (cl == Value.type "enumerate") with z | z <;> rw [z] <;> wp_walk using begins <;> exact ⟨_, rfl, ends⟩
    · wp_walk using begins
      exact ⟨_, rfl, ends⟩
theorem enum_call1 {prog : Program} {w : World} {A : Around} {E : Value → Shared → Prop} {s : Shared} {v : Value} {o : Obj} {H : Heap → Prop} {Q : Value → Shared → Prop} (B : Begins v o H) (h1 : H s.heap)
    (h : ∀ h', IsEnum h' (s.heap.objs.size + 1) s.heap.objs.size 0 .none → h'.get? s.heap.objs.size = some o → (∀ b o, s.heap.get? b = some o → h'.get? b = some o) → Q (.ref (s.heap.objs.size + 1)) { s with heap := h' }) :
    wpAny (model prog w) A (call (.type "enumerate") [v]) Q E s := by
  have step : (s.heap.push o).objs.size = s.heap.objs.size + 1 := by simp [Heap.size_push]
  have made := Heap.get?_push_size (s.heap.push o) (o := { cls := .type "enumerate", data := .fields #[.none, .bool false, .ref s.heap.objs.size, rawInt 0, .none, .none] }) rfl
  rw [step] at made
  refine callType_new F.called_enumerate (by decide) (F.typeCall_enumerate_1 _) (F.newCall_enumerate_1 _) (fun obj => F.args_object_init_2 obj _) F.entry_enumerate_new (enum_new1 B) ⟨h1, ?_⟩
  rw [step]
  refine ⟨⟨_, made, rfl⟩, h _ made ?_ ?_⟩
  · exact Heap.get?_push_of_some _ (Heap.get?_push_size _ B.free)
  · intro b u e
    exact Heap.get?_push_of_some _ (Heap.get?_push_of_some _ e)
/-- the tuple at a, each item in a new pair -/
def Itu (K : PySem.W.Frag) (a : Addr) : It where
  go i H := ∃ (xs : List V) (x : V), SqT K H a xs ∧ xs[i]? = some x
  yld i H v H' := ∃ T x, v = .ref T ∧ H T = none ∧ H' = L2.upd H T (.tup [.int (i : Nat), x]) ∧ ∀ xs, SqT K H a xs → xs[i]? = some x
  stop i H := ∃ xs : List V, SqT K H a xs ∧ xs.length ≤ i
/-- enumerate's own state over the tuple at a -/
def EnT (a e it : Addr) (i : Nat) (h : Heap) : Prop := (∃ old, IsEnum h e it ((i : Nat) : Int) old) ∧ h.IsTupleIter it a i ∧ e ≠ it ∧ a ≠ it ∧ e ≠ a
theorem enT_pairs {X : Cx} {elts : List Expr} {kk : Nat} {tpos : Pos} {a e it : Addr} {i : Nat} {pins : List (Addr × Obj)} {s : Shared} {σ : L2.St} {H : Hp} {xs : List V} (calm : X.calm = true) (I : Inv X pins σ H s) (st : EnT a e it i s.heap) (hq : SqT X.K H a xs) :
    PairsGo X (.Tuple elts kk tpos) (Itu X.K a) e [e, it] (EnT a e it) i xs.length s H := by
  obtain ⟨_, _, d1, d2, d3⟩ := st
  obtain ⟨its, rv, tup, _⟩ := I.tuple hq
  have len : xs.length = its.toArray.size := by simpa using rv.length
  rw [len]
  refine ⟨_, _, _, _, GoesN.enumFrom 0 (Draws.tuple (A := X.A.in1) (I.ok.hd calm) it a d2 its.toArray) e d1 (by simp [d1, d3]) (by simp), by simp, ?_, ?_, ?_⟩
  · rintro j h ⟨⟨old, he⟩, hi, _⟩ rfl rfl
    exact ⟨⟨old, by simpa using he⟩, hi, tup⟩
  · rintro h _ ⟨⟨old, he⟩, hi, _⟩
    exact ⟨⟨old, by simpa using he⟩, hi, d1, d2, d3⟩
  · rintro v h' hin ⟨T, t, u, rfl, new, hu, two⟩
    obtain ⟨x, hx, ru⟩ := paired_getR rv (show its[i]? = some u by simpa using hu)
    refine ⟨T, .int (0 + (i : Int)) t, u, .int (i : Nat), x, rfl, new, two, ⟨t, by simp⟩, ru, T, x, rfl, I.hok.fresh new, rfl, fun ys hy => ?_⟩
    rw [I.tuple_inj hy hq]
    exact hx
theorem turn_enumT {P : Program} {w : World} {K : PySem.W.Frag} {elts : List Expr} {kk : Nat} {tpos : Pos} (a e it : Addr) : Turn P w K (.Tuple elts kk tpos) (Itu K a) [e, it] e (EnT a e it) := by
  refine turn_of_pairs List.mem_cons_self ?_ ?_ ?_ ?_ fun A i s Q E st q => wpAny_pyIter_enum st.1.choose_spec q
  · rintro i h ⟨⟨old, he⟩, ⟨o, ho, _, dat⟩, _⟩ b hb
    simp only [List.mem_cons, List.not_mem_nil, or_false] at hb
    cases hb with
    | inl z => subst z; exact ⟨_, he, nofun⟩
    | inr z => subst z; exact ⟨o, ho, fun v q => by simp [dat] at q⟩
  · rintro i h h' ⟨⟨old, he⟩, hi, ds⟩ k
    exact ⟨⟨old, k e (by simp) _ he⟩, hi.at fun o q => k it (by simp) o q, ds⟩
  · rintro X i pins s σ H rfl rfl rfl calm I st ⟨xs, x, hq, hx⟩
    exact ⟨xs.length, (List.getElem?_eq_some_iff.mp hx).1, enT_pairs calm I st hq⟩
  · rintro X i pins s σ H Q E rfl rfl rfl calm I st ⟨xs, hq, hx⟩ q
    obtain ⟨⟨old, he⟩, hi, d1, d2, d3⟩ := st
    obtain ⟨its, rv, tup, _⟩ := I.tuple hq
    have over : its.toArray[i]? = none := by
      have := rv.length
      simp
      omega
    -- from here on it draws nothing
    have D : Draws X.prog X.w X.A.in1 it [it, a] 0 (fun _ _ => True) (fun _ h => h.IsTupleIter it a i ∧ h.IsTuple a its.toArray) :=
      { live := fun _ _ z => z.1.imp fun _ y => y.1
        frame := fun _ _ _ z k => ⟨z.1.at fun o y => k it (by simp) o y, z.2.at fun o y => k a (by simp) o y⟩
        item := fun _ _ _ _ no => absurd no (Nat.not_lt_zero _)
        done := fun _ _ _ z => wpAny_nextOf_tuple_end (I.ok.hd calm) z.1 z.2 over }
    exact wpAny_pyNext_enum_endD D he (by exact ⟨hi, tup⟩) fun h' kept => ⟨rfl, q h' s.toks fun b o hb e => kept b o (fun z => hb (by simp [z])) e⟩
def iEnT (K : PySem.W.Frag) (ta : TA) : TI := fun σ H R => ta σ H fun vs H1 => ∃ a xs, vs = [.ref a] ∧ SqT K H1 a xs ∧ R (Itu K a) H1
theorem pi_enumT {X : Cx} {e : Expr} {ta : TA} {p pos tpos : Pos} {elts : List Expr} {kk : Nat} (hg : Gl X "enumerate") (hm : X.mg "enumerate" = none) (ha : PA X [e] ta) (hs : starEach [e] X.env = [(false, eval e X.env)] := by rfl) :
    PI X (.Tuple elts kk tpos) (.Call (.Name "enumerate" p) [e] [] pos) (iEnT X.K ta) := by
  constructor
  intro pins s σ H R I h
  refine Call_ (ld_blt I hg hm boot_enumerate (PyProof.Rows.callWith_type1 (thn (ha.run pos pins s σ H _ I h) ?_) hs rfl))
  rintro us s1 ⟨vs, H1, I1, r1, a, xs, rfl, hq, q⟩
  rw [Vals.ref1 r1]
  obtain ⟨its, _, tup, _⟩ := I1.tuple hq
  have low : a < s1.heap.objs.size := by
    obtain ⟨o, ho, _⟩ := id tup
    exact Heap.lt_size ho
  refine enum_call1 (begins_tuple a its.toArray) tup fun h' he hi old => wpAny_pyIter_enum he ?_
  refine ⟨_, [s1.heap.objs.size + 1, s1.heap.objs.size], _, _, H1, rfl, I1.kept (t' := s1.toks) old, turn_enumT a _ s1.heap.objs.size, ⟨⟨.none, he⟩, ⟨_, hi, rfl, rfl⟩, Nat.succ_ne_self _, Nat.ne_of_lt low, Nat.ne_of_gt (Nat.lt_succ_of_lt low)⟩, ?_, q⟩
  intro b hb
  have up : s1.heap.objs.size ≤ b := by
    simp only [List.mem_cons, List.not_mem_nil, or_false] at hb
    cases hb with
    | inl z => exact z ▸ Nat.le_succ _
    | inr z => exact z ▸ Nat.le_refl _
  exact I1.fpOk up (I1.hok.fresh up)
end Vx
namespace Vx
open Rep (rep)
open EnvR (er)
open PySem PySem.Spec PyProof.Rows L2 RZ
/-! ### enumerate -/
def enumF {τ : Type} : Nat → List τ → List (T2 Int τ)
  | _, [] => []
  | i, x :: xs => ⟨(i : Int), x⟩ :: enumF (i + 1) xs
theorem enumF_get {τ : Type} : ∀ (xs : List τ) (k i : Nat), (enumF k xs)[i]? = xs[i]?.map fun x => ⟨((k + i : Nat) : Int), x⟩
  | [], _, _ => rfl
  | x :: xs, k, 0 => rfl
  | x :: xs, k, i + 1 => by
    show (enumF (k + 1) xs)[i]? = (xs[i]?).map _
    rw [enumF_get xs (k + 1) i]
    have e : k + 1 + i = k + (i + 1) := by omega
    rw [e]
theorem enumF_len {τ : Type} : ∀ (xs : List τ) (k : Nat), (enumF k xs).length = xs.length
  | [], _ => rfl
  | x :: xs, k => by
    show (enumF (k + 1) xs).length + 1 = xs.length + 1
    rw [enumF_len xs (k + 1)]
section
variable {τ : Type} [Rep τ]
theorem walks_enumL {K : PySem.W.Frag} {G : Hp} {p : Addr} {vs : List V} {xs : List τ} (h : G p = some (.lst vs)) (r : PySem.Paired (rep K G) xs vs) : Walks K G (Ite K p) (enumF 0 xs) := fun F' G' H' e w i => by
  have hH : SqL K H' p vs := .inl (.inl (w.g _ _ (e _ _ h)))
  refine ⟨fun t ht => ?_, fun hl => ⟨vs, hH, by rw [← paired_len r]; rw [enumF_len] at hl; exact hl⟩⟩
  rw [enumF_get] at ht
  cases ex : xs[i]? with
  | none => rw [ex] at ht; cases ht
  | some x =>
    rw [ex] at ht
    cases ht
    obtain ⟨v, hv, rv⟩ := paired_get r ex
    refine ⟨⟨vs, v, hH, hv⟩, fun y H'' ⟨T, u, e1, e2, e3, e4⟩ => ?_⟩
    have eu : u = v := Option.some.inj ((e4 vs hH).symm.trans hv)
    subst eu
    subst e1
    subst e3
    have ex2 := Ex.upd (o := HO.tup [V.int (i : Nat), u]) (w.fresh e2).1
    exact ⟨_, ex2, w.new e2, T, _, _, rfl, upd_same, by rw [Nat.zero_add]; rfl, Rep.mono (e.trans ex2) rv⟩
theorem walks_enumT {K : PySem.W.Frag} {G : Hp} {p : Addr} {vs : List V} {xs : List τ} (h : G p = some (.tup vs)) (r : PySem.Paired (rep K G) xs vs) : Walks K G (Itu K p) (enumF 0 xs) := fun F' G' H' e w i => by
  have hH : SqT K H' p vs := .inl (.inl (w.g _ _ (e _ _ h)))
  refine ⟨fun t ht => ?_, fun hl => ⟨vs, hH, by rw [← paired_len r]; rw [enumF_len] at hl; exact hl⟩⟩
  rw [enumF_get] at ht
  cases ex : xs[i]? with
  | none => rw [ex] at ht; cases ht
  | some x =>
    rw [ex] at ht
    cases ht
    obtain ⟨v, hv, rv⟩ := paired_get r ex
    refine ⟨⟨vs, v, hH, hv⟩, fun y H'' ⟨T, u, e1, e2, e3, e4⟩ => ?_⟩
    have eu : u = v := Option.some.inj ((e4 vs hH).symm.trans hv)
    subst eu
    subst e1
    subst e3
    have ex2 := Ex.upd (o := HO.tup [V.int (i : Nat), u]) (w.fresh e2).1
    exact ⟨_, ex2, w.new e2, T, _, _, rfl, upd_same, by rw [Nat.zero_add]; rfl, Rep.mono (e.trans ex2) rv⟩
variable {Γ : Type} [EnvR Γ] {X : Cx} {a : Expr} {p pos tpos : Pos} {elts : List Expr} {kk : Nat}
theorem vi_enumL {f : Γ → Option (List τ)} (h : VE X a f) (hm : X.mg "enumerate" = none) (hg : Gl X "enumerate" := by rfl) (hs : starEach [a] X.env = [(false, eval a X.env)] := by rfl) (he : starEach [a] X.env = (false, eval a X.env) :: starEach [] X.env := by rfl) :
    VI X (.Tuple elts kk tpos) (.Call (.Name "enumerate" p) [a] [] pos) (f1 (fun xs => some (enumF 0 xs)) f) := PI.le (pi_enum hg hm (pa_cons h pa_nil he) hs) fun σ H R ⟨F, G, L, γ, xs, w, hh, ea, q⟩ => by
  unfold f1 at ea
  cases e1 : f γ with
  | none => rw [e1] at ea; cases ea
  | some ys =>
    rw [e1] at ea
    cases ea
    exact ⟨F, G, L, γ, ys, w, hh, e1, fun v G2 H2 x2 w2 ⟨p, vs, h1, h2, h3⟩ => ⟨p, vs, by rw [h1], .inl (.inl (w2.g _ _ h2)), q _ G2 H2 x2 w2 (walks_enumL h2 h3)⟩⟩
theorem vi_enumT {f : Γ → Option (Tup τ)} (h : VE X a f) (hm : X.mg "enumerate" = none) (hg : Gl X "enumerate" := by rfl) (hs : starEach [a] X.env = [(false, eval a X.env)] := by rfl) (he : starEach [a] X.env = (false, eval a X.env) :: starEach [] X.env := by rfl) :
    VI X (.Tuple elts kk tpos) (.Call (.Name "enumerate" p) [a] [] pos) (f1 (fun xs => some (enumF 0 xs.l)) f) := PI.le (pi_enumT hg hm (pa_cons h pa_nil he) hs) fun σ H R ⟨F, G, L, γ, xs, w, hh, ea, q⟩ => by
  unfold f1 at ea
  cases e1 : f γ with
  | none => rw [e1] at ea; cases ea
  | some ys =>
    rw [e1] at ea
    cases ea
    exact ⟨F, G, L, γ, ys, w, hh, e1, fun v G2 H2 x2 w2 ⟨p, vs, h1, h2, h3⟩ => ⟨p, vs, by rw [h1], .inl (.inl (w2.g _ _ h2)), q _ G2 H2 x2 w2 (walks_enumT h2 h3)⟩⟩
end
/-- a pair comes to two names -/
abbrev gPair (K : PySem.W.Frag) (i j : Nat) : TG := gTup K 2 (gCons (gName i) (gCons (gName j) gNil))
def tgPair {Γ Γ1 Γ2 α β S : Type} [EnvR Γ] [EnvR Γ1] [EnvR Γ2] [Rep α] [Rep β] [Md S] {i j : Nat} {K : PySem.W.Frag} (p1 : Put i Γ α Γ1) (p2 : Put j Γ1 β Γ2) (ho : Md.okI S i = true := by rfl) (ho' : Md.okI S j = true := by rfl) : Tg Γ (T2 α β) Γ2 K S (gPair K i j) :=
  ⟨fun γ t => p2.put (p1.put γ t.a) t.b, fun w he ha ⟨p, va, vb, h1, h2, h3, h4⟩ k => ⟨p, [va, vb], h1, .inl (.inl (w.g _ _ h2)), rfl, va, [vb], rfl, vb, [], rfl, rfl, k _ (p2.ok (p1.ok he h3) h4) (Md.keep ho' (Md.keep ho ha))⟩⟩
/-! ### isinstance(e, T), e of the type T itself -/
section
variable {Γ : Type} [EnvR Γ] {X : Cx} {a : Expr} {p p2 pos : Pos}
theorem ve_isT {α : Type} [Rep α] {T : Str} {Tn : String} {f : Γ → Option α} (ty : ∀ {G : Hp} {x : α} {v : V}, rep X.K G x v → Ty4 G v Tn) (h : VE X a f) (hm : X.mg "isinstance" = none) (hm2 : X.mg T = none) (hv : bootBuiltins T = some (.type Tn)) (hg2 : Gl X T) (hn2 : T ≠ "__name__") (hd2 : (T == ("__debug__" : Str)) = false)
    (hg : Gl X "isinstance" := by rfl) (hb : bootBuiltins "isinstance" = some (.builtin "isinstance") := by decide +kernel)
    (he : starEach [a, .Name T p2] X.env = (false, eval a X.env) :: starEach [.Name T p2] X.env := by rfl) (he2 : starEach [.Name T p2] X.env = (false, eval (.Name T p2) X.env) :: starEach [] X.env := by rfl) (hpl : (backTo pos (starEach [.Name T p2] X.env)).any (·.1) = false := by rfl) :
    VE X (.Call (.Name "isinstance" p) [a, .Name T p2] [] pos) (f1 (fun _ => some true) f) :=
  PE.le (pe_callB call_isTy hg hm hb (pa_cons h (pa_cons (pe_bltn hg2 hm2 hv (v := .ty Tn) rfl hn2 hd2) pa_nil he2) he) (he := he) (hpl := hpl)) fun σ H Q ⟨F, G, L, γ, z, w, hh, ea, q⟩ => by
    unfold f1 at ea
    cases e1 : f γ with
    | none => rw [e1] at ea; cases ea
    | some x =>
      rw [e1] at ea
      cases ea
      refine ⟨F, G, L, γ, x, w, hh, e1, fun v G2 H2 x2 w2 r2 => ⟨v, Tn, rfl, ?_, q _ G2 H2 x2 w2 rfl⟩⟩
      have t := ty r2
      cases t with
      | int i => exact .int i
      | str x => exact .str x
      | lst e => exact .lst (w2.g _ _ e)
      | tup e => exact .tup (w2.g _ _ e)
theorem ve_isStr {f : Γ → Option Str} (h : VE X a f) (hm : X.mg "isinstance" = none) (hm2 : X.mg "str" = none) (hg : Gl X "isinstance" := by rfl) (hg2 : Gl X "str" := by rfl)
    (he : starEach [a, .Name "str" p2] X.env = (false, eval a X.env) :: starEach [.Name "str" p2] X.env := by rfl) (he2 : starEach [.Name "str" p2] X.env = (false, eval (.Name "str" p2) X.env) :: starEach [] X.env := by rfl) (hpl : (backTo pos (starEach [.Name "str" p2] X.env)).any (·.1) = false := by rfl) :
    VE X (.Call (.Name "isinstance" p) [a, .Name "str" p2] [] pos) (f1 (fun _ => some true) f) :=
  ve_isT (T := "str") (Tn := "str") (fun r => by cases r; exact .str _) h hm hm2 (by decide +kernel) hg2 (by decide) (by decide) hg (by decide +kernel) he he2 hpl
theorem ve_isTup {α : Type} [Rep α] {f : Γ → Option (Tup α)} (h : VE X a f) (hm : X.mg "isinstance" = none) (hm2 : X.mg "tuple" = none) (hg : Gl X "isinstance" := by rfl) (hg2 : Gl X "tuple" := by rfl)
    (he : starEach [a, .Name "tuple" p2] X.env = (false, eval a X.env) :: starEach [.Name "tuple" p2] X.env := by rfl) (he2 : starEach [.Name "tuple" p2] X.env = (false, eval (.Name "tuple" p2) X.env) :: starEach [] X.env := by rfl) (hpl : (backTo pos (starEach [.Name "tuple" p2] X.env)).any (·.1) = false := by rfl) :
    VE X (.Call (.Name "isinstance" p) [a, .Name "tuple" p2] [] pos) (f1 (fun _ => some true) f) :=
  ve_isT (α := Tup α) (T := "tuple") (Tn := "tuple") (fun ⟨q, vs, h1, h2, h3⟩ => by rw [h1]; exact .tup h2) h hm hm2 (by decide +kernel) hg2 (by decide) (by decide) hg (by decide +kernel) he he2 hpl
end
/-! ### more statements -/
section
variable {Γ Γ1 Γ2 Γd S ρ : Type} [EnvR Γ] [EnvR Γ1] [EnvR Γ2] [EnvR Γd] [Md S] {α β τ : Type} [Rep α] [Rep β]
variable {X : Cx} {R : RR ρ} {e a b c : Expr} {pos : Pos} {i j : Nat}
/-- a, b = (x, y) -/
def spar (p1 : Put i Γ α Γ1) (p2 : Put j Γ1 β Γ2) (f : Γ → Option ((α × β × Unit) × Γ)) : Γ → Option (Fl Γ2 S ρ) := fun γ => (f γ).map fun (x, γ) => .nx (p2.put (p1.put γ x.1) x.2.1)
theorem vs_par (p1 : Put i Γ α Γ1) (p2 : Put j Γ1 β Γ2) {x y : Str} {px py pt : Pos} {kt k2 pt2} {f : Γ → Option ((α × β × Unit) × Γ)} (hc : X.calm = true) (hN : X.N.Nodup) (h : MA X [a, b] f) (hij : i ≠ j := by decide) (hi : X.N[i]? = some x := by rfl) (hj : X.N[j]? = some y := by rfl)
    (hx : X.env.scope.names.lookup x = some .local := by rfl) (hy : X.env.scope.names.lookup y = some .local := by rfl) (hw : swappedStores [.Tuple [.Name x px, .Name y py] kt pt] (.Tuple [a, b] k2 pt2) X.env = pure (some [x, y]) := by rfl)
    (hs : swapsWithSole [.Tuple [.Name x px, .Name y py] kt pt] (.Tuple [a, b] k2 pt2) pos.line X.env = pure false := by rfl) (ho : Md.okI S i = true := by rfl) (ho' : Md.okI S j = true := by rfl) :
    VS X S R (.Assign [.Tuple [.Name x px, .Name y py] kt pt] (.Tuple [a, b] k2 pt2) pos) (spar (S := S) p1 p2 f) :=
  PS.le (ps_par hc hN hi hj hij hx hy h hw hs) fun D σ H ⟨F, G, L, γ, p, r, wd, nd, he, ha, ea, k⟩ => by
    unfold spar at ea
    cases e1 : f γ with
    | none => rw [e1] at ea; cases ea
    | some z =>
      obtain ⟨z, γ'⟩ := z
      rw [e1] at ea
      cases ea
      refine ⟨F, G, L, γ, z, γ', wd, he, e1, fun vs F2 G2 H2 x2 w2 of er2 r2 => ?_⟩
      obtain ⟨v, u, h1, h2, h3⟩ := rl2 r2
      exact ⟨v, u, h1, k _ L F2 G2 H2 x2 w2 nd (Off.of of) Sub.refl (p2.ok (p1.ok er2 h2) h3) (Md.keep ho' (Md.keep ho ha))⟩
/-- xs[i] = e, xs of one's own -/
def sset1 (o : Own i Γ α Γd) (g : Γ → Option Int) (f : Γ → Option α) : Γ → Option (Fl Γ S ρ) := fun γ => (f γ).bind fun v => (g γ).bind fun k => (ixN (o.get γ).length k).map fun j => .nx (o.set γ ((o.get γ).set j v))
theorem paired_set {α β : Type} {R : α → β → Prop} : ∀ {xs : List α} {ys : List β} {x : α} {y : β} (j : Nat), PySem.Paired R xs ys → R x y → PySem.Paired R (xs.set j x) (ys.set j y)
  | _, _, _, _, _, .nil, _ => .nil
  | _, _, _, _, 0, .cons _ t, r => .cons r t
  | _, _, _, _, j + 1, .cons h t, r => .cons h (paired_set j t r)
theorem vs_set1 (o : Own i Γ α Γd) {f : Γ → Option α} {g : Γ → Option Int} {x : Str} {p1 p2 : Pos} (hv : VE X e f) (hg : VE X a g) (hN : X.N[i]? = some x := by rfl) (hvs : Vis X.env.scope x := by first | exact Or.inl rfl | exact Or.inr (Or.inl rfl) | exact Or.inr (Or.inr rfl)) (hd : (x == ("__debug__" : Str)) = false := by decide)
    (hcd : (x == ("__classdict__" : Str)) = false := by decide) (hs : swapsWithSole [.Subscript (.Name x p1) a p2] e pos.line X.env = pure false := by rfl) (hw : swappedStores [.Subscript (.Name x p1) a p2] e X.env = pure none := by rfl)
    (h1 : (assignEach [.Subscript (.Name x p1) a p2] X.env).map (·.2) = [assign (.Subscript (.Name x p1) a p2) X.env] := by rfl)
    (hasg : ∀ v, assign (.Subscript (.Name x p1) a p2) X.env v = (do
      let ov ← holding [v] (eval (.Name x p1) X.env)
      let iv ← holding [v, ov] (eval a X.env)
      standAt p2
      holding [v, ov, iv] (setItem ov iv v)
      release [v, ov, iv] []) := by intro _; rfl) : VS X S R (.Assign [.Subscript (.Name x p1) a p2] e pos) (sset1 (S := S) o g f) :=
  PS.le (ps_asg hv (pg_sub (pe_var hN hvs hd hcd) hg set_list hasg) hs hw h1) fun D σ H ⟨F, G, L, γ, p, r, wd, nd, he, ha, ea, k⟩ => by
    unfold sset1 at ea
    cases e1 : f γ with
    | none => rw [e1] at ea; cases ea
    | some v =>
      rw [e1] at ea
      simp only [Option.bind_some] at ea
      cases e2 : g γ with
      | none => rw [e2] at ea; cases ea
      | some n =>
        rw [e2] at ea
        simp only [Option.bind_some] at ea
        cases e3 : ixN (o.get γ).length n with
        | none => rw [e3] at ea; cases ea
        | some m =>
          rw [e3] at ea
          cases ea
          refine ⟨F, G, L, γ, v, wd, he, e1, fun vv G2 H2 x2 w2 r2 => ?_⟩
          obtain ⟨q, vs, k1, k2, k3, k4, k5, _⟩ := o.ok (EnvR.mono x2 he)
          refine ⟨.ref q, k1, F, G2, L, γ, n, w2, EnvR.mono x2 he, e2, fun vi G3 H3 x3 w3 r3 => ?_⟩
          cases r3
          refine ⟨q, vs, n, m, rfl, rfl, w3.f _ _ k3, by rw [← paired_len k4]; exact e3, ?_⟩
          exact k σ L _ G3 _ (x2.trans x3) (w3.set k3) nd (fun b u hb e => by rw [upd_ne (fun z => hb (by rw [z]; exact k2))]; exact e) Sub.refl (k5 x3 (paired_set m (Paired.mono (fun _ _ z => Rep.mono x3 z) k4) (Rep.mono x3 r2))) ha
/-- xs[i], y = divmod(a, b), xs of one's own -/
def sdm (o : Own i Γ Int Γd) (pt : Put j Γ Int Γ1) (n : Int) (f : Γ → Option (Int × Int × Unit)) : Γ → Option (Fl Γ1 S ρ) := fun γ => (f γ).bind fun x => if 0 < x.2.1 ∧ x.2.1 < 1073741824 then
  (ixN (o.get γ).length n).map fun j => .nx (pt.put (o.set γ ((o.get γ).set j (x.1 / x.2.1))) (x.1 % x.2.1)) else none
theorem vs_dm (o : Own i Γ Int Γd) (pt : Put j Γ Int Γ1) {n : Int} {f : Γ → Option (Int × Int × Unit)} {x y : Str} {p1 p2 p3 p4 p5 p6 p7 : Pos} {kt jc} (hc : X.calm = true) (hNd : X.N.Nodup) (ha : VA X [a, b] f) (hm : X.mg "divmod" = none)
    (hg : Gl X "divmod" := by rfl) (hb : bootBuiltins "divmod" = some (.builtin "divmod") := by decide +kernel) (hN : X.N[i]? = some x := by rfl) (hvs : Vis X.env.scope x := by first | exact Or.inl rfl | exact Or.inr (Or.inl rfl) | exact Or.inr (Or.inr rfl)) (hd : (x == ("__debug__" : Str)) = false := by decide)
    (hcd : (x == ("__classdict__" : Str)) = false := by decide) (hj : X.N[j]? = some y := by rfl) (hy : Loc X.env.scope y := by first | exact Or.inl rfl | exact Or.inr rfl) (hf : X.fn y = true ∨ X.env.scope.names.lookup y = some .local := by first | exact .inl rfl | exact .inr rfl) (ho : Md.okI S j = true := by rfl)
    (he : starEach [a, b] X.env = (false, eval a X.env) :: starEach [b] X.env := by rfl) (hpl : (backTo p7 (starEach [b] X.env)).any (·.1) = false := by rfl)
    (hasg : ∀ v, assign (.Subscript (.Name x p1) (.Constant (.int n) jc p2) p3) X.env v = (do
      let ov ← holding [v] (eval (.Name x p1) X.env)
      let iv ← holding [v, ov] (eval (.Constant (.int n) jc p2) X.env)
      standAt p3
      holding [v, ov, iv] (setItem ov iv v)
      release [v, ov, iv] []) := by intro _; rfl)
    (hs1 : (assignEach [.Subscript (.Name x p1) (.Constant (.int n) jc p2) p3, .Name y p4] X.env).map (·.2) = assign (.Subscript (.Name x p1) (.Constant (.int n) jc p2) p3) X.env :: (assignEach [.Name y p4] X.env).map (·.2) := by rfl)
    (hs2 : (assignEach [.Name y p4] X.env).map (·.2) = assign (.Name y p4) X.env :: (assignEach [] X.env).map (·.2) := by rfl)
    (hln : (assignEach [.Subscript (.Name x p1) (.Constant (.int n) jc p2) p3, .Name y p4] X.env).length = 2 := by rfl) (hst : (assignEach [.Subscript (.Name x p1) (.Constant (.int n) jc p2) p3, .Name y p4] X.env).findIdx? (·.1) = none := by rfl)
    (hs : swapsWithSole [.Tuple [.Subscript (.Name x p1) (.Constant (.int n) jc p2) p3, .Name y p4] kt p5] (.Call (.Name "divmod" p6) [a, b] [] p7) pos.line X.env = pure false := by rfl)
    (hw : swappedStores [.Tuple [.Subscript (.Name x p1) (.Constant (.int n) jc p2) p3, .Name y p4] kt p5] (.Call (.Name "divmod" p6) [a, b] [] p7) X.env = pure none := by rfl)
    (h1 : (assignEach [.Tuple [.Subscript (.Name x p1) (.Constant (.int n) jc p2) p3, .Name y p4] kt p5] X.env).map (·.2) = [assign (.Tuple [.Subscript (.Name x p1) (.Constant (.int n) jc p2) p3, .Name y p4] kt p5) X.env] := by rfl) :
    VS X S R (.Assign [.Tuple [.Subscript (.Name x p1) (.Constant (.int n) jc p2) p3, .Name y p4] kt p5] (.Call (.Name "divmod" p6) [a, b] [] p7) pos) (sdm (S := S) o pt n f) :=
  PS.le (ps_asg (pe_callB call_divmod hg hm hb ha (he := he) (hpl := hpl)) (pg_tup (n := 2) hc (pgs_cons (pg_sub (pe_var hN hvs hd hcd) pe_int set_list hasg) (pgs_cons (pg_name hNd hj hy hf) pgs_nil hs2) hs1) hln hst) hs hw h1) fun D σ H ⟨F, G, L, γ, p, r, wd, nd, he, ha, ea, k⟩ => by
    unfold sdm at ea
    cases e1 : f γ with
    | none => rw [e1] at ea; cases ea
    | some z =>
      rw [e1] at ea
      simp only [Option.bind_some] at ea
      split at ea
      case isFalse => cases ea
      rename_i hz
      cases e3 : ixN (o.get γ).length n with
      | none => rw [e3] at ea; cases ea
      | some m =>
        rw [e3] at ea
        cases ea
        refine ⟨F, G, L, γ, z, wd, he, e1, fun vs G2 H2 x2 w2 r2 => ?_⟩
        obtain ⟨v, u, g1, g2, g3⟩ := rl2 r2
        cases g2
        cases g3
        refine ⟨_, _, g1, ⟨hz.1, hz.2⟩, fun T hT => ?_⟩
        have ex := Ex.upd (o := HO.tup [V.int (z.1 / z.2.1), V.int (z.1 % z.2.1)]) (w2.fresh hT).1
        have w3 := w2.new (o := HO.tup [V.int (z.1 / z.2.1), V.int (z.1 % z.2.1)]) hT
        obtain ⟨q, us, k1, k2, k3, k4, k5, _⟩ := o.ok (EnvR.mono (x2.trans ex) he)
        refine ⟨T, _, rfl, .inl (.inl upd_same), rfl, _, _, rfl, ?_⟩
        refine ⟨.ref q, k1, q, us, n, m, rfl, rfl, w3.f _ _ k3, by rw [← paired_len k4]; exact e3, _, _, rfl, rfl, ?_⟩
        exact k _ L _ _ _ (x2.trans ex) (w3.set k3) nd (fun b u hb e => by rw [upd_ne (fun z => hb (by rw [z]; exact k2))]; exact e) Sub.refl (pt.ok (k5 (Ex.refl _) (paired_set m k4 rfl)) rfl) (Md.keep ho ha)
end
end Vx
namespace Vx
open Rep (rep)
open EnvR (er)
open PySem PySem.Spec PyProof.Rows L2
/-! ### dicts -/
/-- what may be a key -/
class KeyOf (κ : Type) [Rep κ] where
  key : κ → Key
  ofK : Key → Option κ
  of : ∀ {K : PySem.W.Frag} {G : Hp} {k : κ} {v : V}, rep K G k v → v = kV (key k)
  back : ∀ {K : PySem.W.Frag} {G : Hp} {k : Key} {x : κ}, ofK k = some x → rep K G x (kV k)
instance : KeyOf Int := ⟨Sum.inl, fun k => match k with | .inl i => some i | .inr _ => none, fun h => by cases h; rfl, fun {K G k x} h => by
  cases k with
  | inl i => cases h; rfl
  | inr s => cases h⟩
instance : KeyOf Str := ⟨Sum.inr, fun k => match k with | .inl _ => none | .inr s => some s, fun h => by cases h; rfl, fun {K G k x} h => by
  cases k with
  | inl i => cases h
  | inr s => cases h; rfl⟩
def putB {β : Type} (d : List (Key × β)) (k : Key) (v : β) : List (Key × β) := if (d.any fun kv => decide (kv.1 = k)) = true then d.map (fun kv => if kv.1 = k then (kv.1, v) else kv) else d ++ [(k, v)]
def valB {β : Type} (d : List (Key × β)) (k : Key) : Option β := (d.find? fun kv => decide (kv.1 = k)).map (·.2)
abbrev RK {β : Type} [Rep β] (K : PySem.W.Frag) (G : Hp) : Key × β → Key × V → Prop := fun q r => q.1 = r.1 ∧ rep K G q.2 r.2
section
variable {β : Type} [Rep β] {K : PySem.W.Frag} {G : Hp}
theorem rk_any {k : Key} : ∀ {d : List (Key × β)} {kvs : List (Key × V)}, PySem.Paired (RK K G) d kvs → (d.any fun kv => decide (kv.1 = k)) = (kvs.any fun kv => decide (kv.1 = k))
  | _, _, .nil => rfl
  | x :: d, y :: kvs, .cons r t => by rw [List.any_cons, List.any_cons, rk_any t, r.1]
theorem rk_map {k : Key} {v : β} {u : V} (hv : rep K G v u) : ∀ {d : List (Key × β)} {kvs : List (Key × V)}, PySem.Paired (RK K G) d kvs → PySem.Paired (RK K G) (d.map fun kv => if kv.1 = k then (kv.1, v) else kv) (kvs.map fun kv => if kv.1 = k then (kv.1, u) else kv)
  | _, _, .nil => .nil
  | x :: d, y :: kvs, .cons r t => by
    rw [List.map_cons, List.map_cons]
    refine .cons ?_ (rk_map hv t)
    rw [r.1]
    by_cases e : y.1 = k
    · rw [if_pos e, if_pos e]
      exact ⟨rfl, hv⟩
    · rw [if_neg e, if_neg e]
      exact r
theorem rk_put {k : Key} {v : β} {u : V} (hv : rep K G v u) {d : List (Key × β)} {kvs : List (Key × V)} (h : PySem.Paired (RK K G) d kvs) : PySem.Paired (RK K G) (putB d k v) (putK kvs k u) := by
  unfold putB putK
  rw [rk_any h]
  by_cases e : (kvs.any fun kv => decide (kv.1 = k)) = true
  · rw [if_pos e, if_pos e]
    exact rk_map hv h
  · rw [if_neg e, if_neg e]
    exact paired_app h (.cons ⟨rfl, hv⟩ .nil)
theorem rk_val {k : Key} {b : β} : ∀ {d : List (Key × β)} {kvs : List (Key × V)}, PySem.Paired (RK K G) d kvs → valB d k = some b → ∃ u, valV kvs k = some u ∧ rep K G b u
  | _, _, .nil, h => by cases h
  | x :: d, y :: kvs, .cons r t, h => by
    unfold valB at h
    rw [List.find?_cons] at h
    by_cases e : x.1 = k
    · rw [decide_eq_true e] at h
      cases h
      exact ⟨y.2, valV_pos (r.1 ▸ e), r.2⟩
    · rw [decide_eq_false e] at h
      obtain ⟨u, h1, h2⟩ := rk_val t h
      exact ⟨u, by rw [valV_neg (fun z => e (r.1.trans z))]; exact h1, h2⟩
theorem putB_len (d : List (Key × β)) (k : Key) (v : β) : (putB d k v).length ≤ d.length + 1 := by
  unfold putB
  split
  · rw [List.length_map]
    omega
  · rw [List.length_append]
    exact Nat.le_refl _
theorem rk_mono {G' : Hp} (e : Ex G G') {d : List (Key × β)} {kvs : List (Key × V)} (h : PySem.Paired (RK K G) d kvs) : PySem.Paired (RK K G') d kvs := Paired.mono (fun _ _ ⟨a, b⟩ => ⟨a, Rep.mono e b⟩) h
end
section
variable {Γ : Type} [EnvR Γ] {β κ τ : Type} [Rep β] [Rep κ] [KeyOf κ] [Rep τ] {X : Cx} {a b : Expr} {pos : Pos} {i j : Nat}
/-- d[k], d never changed -/
def dget (d : Dct β) (k : κ) : Option β := valB d.l (KeyOf.key k)
theorem ve_dget {f : Γ → Option (Dct β)} {g : Γ → Option κ} (hu : X.A.units + 1 < cLine) (ha : VE X a f) (hb : VE X b g) (hs : NoSl b) : VE X (.Subscript a b pos) (f2 dget f g) :=
  PE.le (pe_dget hu ha hb hs) fun σ H Q ⟨F, G, L, γ, z, w, he, ea, q⟩ => by
    obtain ⟨x, y, e1, e2, e3⟩ := f2_some ea
    refine ⟨F, G, L, γ, x, w, he, e1, fun v G2 H2 x2 w2 r2 => ⟨F, G2, L, γ, y, w2, EnvR.mono x2 he, e2, fun u G3 H3 x3 w3 r3 => ?_⟩⟩
    obtain ⟨p, kvs, h1, h2, h3⟩ := (Rep.mono x3 r2 : rep X.K G3 x v)
    obtain ⟨o, h4, h5⟩ := rk_val h3 e3
    refine ⟨p, o, h1, .inl ⟨kvs, KeyOf.key y, .inl (w3.g _ _ h2), KeyOf.of r3, h4.symm⟩, q _ _ _ (x2.trans x3) w3 h5⟩
/-- {k: v for .. in ..} -/
def dcGo (kf : τ → Option κ) (vf : τ → Option β) : List τ → List (Key × β) → Option (List (Key × β))
  | [], d => some d
  | x :: xs, d => (kf x).bind fun k => (vf x).bind fun v => dcGo kf vf xs (putB d (KeyOf.key k) v)
variable {Γ1 Γ2 : Type} [EnvR Γ1] [EnvR Γ2] {α1 α2 : Type} [Rep α1] [Rep α2]
def fdc (p1 : Put i Γ α1 Γ1) (p2 : Put j Γ1 α2 Γ2) (g : Γ → Option (List (T2 α1 α2))) (kf : Γ2 → Option κ) (vf : Γ2 → Option β) : Γ → Option (Dct β) := fun γ => (g γ).bind fun xs => if xs.length ≤ 100000 then
  (dcGo (fun x => kf (p2.put (p1.put γ x.a) x.b)) (fun x => vf (p2.put (p1.put γ x.a) x.b)) xs []).map fun d => ⟨d⟩ else none
theorem wipe2 {σ : L2.St} {x y : Option V} (hij : i ≠ j) : ((wipe σ [i, j]).set i x).set j y = (σ.set i x).set j y := by
  show ((((σ.set j none).set i none).set i x).set j y) = _
  rw [List.set_set, List.set_comm (i := j) (j := i) _ _ (Ne.symm hij), List.set_set]
theorem wipe2' {σ : L2.St} {x y : Option V} (hij : i ≠ j) : wipe (((wipe σ [i, j]).set i x).set j y) [i, j] = wipe σ [i, j] := by
  rw [wipe2 hij]
  show ((((σ.set i x).set j y).set j none).set i none) = ((σ.set j none).set i none)
  rw [List.set_set, List.set_comm (i := i) (j := j) _ _ hij, List.set_set]
theorem tdc (hij : i ≠ j) {K : PySem.W.Frag} {p1 : Put i Γ α1 Γ1} {p2 : Put j Γ1 α2 Γ2} {g : Γ → Option (List (T2 α1 α2))} {t : Γ2 → Option Bool} {kf : Γ2 → Option κ} {vf : Γ2 → Option β} {σ : L2.St} {H : Hp} {Q : VK} (h : tev K (RE K) (fdc p1 p2 g kf vf) σ H Q) :
    tDc (tiv K g) (gPair K i j) (tet K (fyes (Γ := Γ2))) (tev K (RE K) kf) (tev K (RE K) vf) [i, j] σ H Q := by
  obtain ⟨F, G, L, γ, zs, w, he, ea, q⟩ := h
  unfold fdc at ea
  cases e0 : g γ with
  | none => rw [e0] at ea; cases ea
  | some xs =>
  rw [e0] at ea
  simp only [Option.bind_some] at ea
  split at ea
  case isFalse => cases ea
  rename_i hlen
  cases e9 : dcGo (fun x => kf (p2.put (p1.put γ x.a) x.b)) (fun x => vf (p2.put (p1.put γ x.a) x.b)) xs [] with
  | none => rw [e9] at ea; cases ea
  | some dz =>
  rw [e9] at ea
  cases ea
  refine ⟨F, G, L, γ, xs, w, he, e0, fun J G1 H1 x1 w1 wl D hD => ?_⟩
  have fd := w1.fresh hD
  have nD : ∀ q ∈ L, q ≠ D := fun q hq z => EnvR.there he q hq (by rw [z]; exact fd.2)
  refine ⟨fun n m H' => m = xs.length - n ∧ n ≤ xs.length ∧ ∃ G2 acc d, Ex G1 G2 ∧ W (upd F D (.dK acc)) G2 H' ∧ PySem.Paired (RK K G2) d acc ∧ d.length ≤ n ∧
      dcGo (fun x => kf (p2.put (p1.put γ x.a) x.b)) (fun x => vf (p2.put (p1.put γ x.a) x.b)) (xs.drop n) d = some dz, ⟨xs.length, by simp, Nat.zero_le _, G1, [], [], Ex.refl _, w1.own hD, .nil, Nat.zero_le _, e9⟩, ?_⟩
  rintro n m H' ⟨rfl, hj, G2, acc, d, x2, w2, r2, hacc, go⟩
  by_cases hlt : n < xs.length
  · obtain ⟨x, hx⟩ : ∃ x, xs[n]? = some x := ⟨xs[n], List.getElem?_eq_getElem hlt⟩
    obtain ⟨hgo, hyl⟩ := (wl (upd F D (.dK acc)) G2 H' x2 w2 n).1 x hx
    have hdrop : xs.drop n = x :: xs.drop (n + 1) := by
      rw [List.drop_eq_getElem_cons hlt]
      have : xs[n] = x := Option.some.inj ((List.getElem?_eq_getElem hlt).symm.trans hx)
      rw [this]
    rw [hdrop] at go
    unfold dcGo at go
    refine .inr ⟨hgo, fun H3 => ∃ G2 acc d, Ex G1 G2 ∧ W (upd F D (.dK acc)) G2 H3 ∧ PySem.Paired (RK K G2) d acc ∧ d.length ≤ n + 1 ∧
      dcGo (fun x => kf (p2.put (p1.put γ x.a) x.b)) (fun x => vf (p2.put (p1.put γ x.a) x.b)) (xs.drop (n + 1)) d = some dz, fun H3 z => ⟨xs.length - (n + 1), by omega, rfl, hlt, z⟩, fun xv H3 hy => ?_⟩
    obtain ⟨G3, x3, w3, p, va, vb, h1, h2, h3, h4⟩ := hyl xv H3 hy
    refine ⟨p, [va, vb], h1, .inl (.inl (w3.g _ _ h2)), rfl, va, [vb], rfl, vb, [], rfl, rfl, wipe2' hij, ?_⟩
    rw [wipe2 hij]
    have er3 : er K G3 (upd F D (.dK acc)) L ((σ.set i (some va)).set j (some vb)) (p2.put (p1.put γ x.a) x.b) := p2.ok (p1.ok (EnvR.keep (fun q hq => upd_ne (nD q hq)) (EnvR.mono ((x1.trans x2).trans x3) he)) h3) h4
    refine ⟨_, G3, L, _, true, w3, er3, rfl, fun G4 H4 x4 w4 => ?_⟩
    show (if true = true then _ else _)
    rw [if_pos rfl]
    cases e5 : kf (p2.put (p1.put γ x.a) x.b) with
    | none =>
      rw [e5] at go
      cases go
    | some kk =>
      rw [e5] at go
      simp only [Option.bind_some] at go
      cases e6 : vf (p2.put (p1.put γ x.a) x.b) with
      | none =>
        rw [e6] at go
        cases go
      | some vv =>
        rw [e6] at go
        simp only [Option.bind_some] at go
        refine ⟨_, G4, L, _, kk, w4, EnvR.mono x4 er3, e5, fun yk G5 H5 x5 w5 rk => ⟨_, G5, L, _, vv, w5, EnvR.mono (x4.trans x5) er3, e6, fun yv G6 H6 x6 w6 rv => ?_⟩⟩
        have r6 := rk_mono (((x3.trans x4).trans x5).trans x6) r2
        refine ⟨acc, KeyOf.key kk, KeyOf.of rk, w6.f _ _ upd_same, ?_, G6, putK acc (KeyOf.key kk) yv, putB d (KeyOf.key kk) vv, (((x2.trans x3).trans x4).trans x5).trans x6, ?_, rk_put rv r6, Nat.le_trans (putB_len (β := β) d _ _) (Nat.succ_le_succ hacc), go⟩
        · rw [← paired_len r6]
          exact Nat.lt_of_lt_of_le (Nat.lt_of_le_of_lt hacc (Nat.lt_of_lt_of_le hlt hlen)) line_ge
        · have := w6.set (u := .dK (putK acc (KeyOf.key kk) yv)) upd_same
          rw [upd_upd] at this
          exact this
  · have hj' : n = xs.length := by omega
    subst hj'
    rw [List.drop_length] at go
    unfold dcGo at go
    cases go
    refine .inl ⟨(wl (upd F D (.dK acc)) G2 H' x2 w2 xs.length).2 (Nat.le_refl _), ?_⟩
    have gD : G2 D = none := w2.d D _ upd_same
    have ex := Ex.upd (o := HO.dK acc) gD
    have w5 : W F (upd G2 D (.dK acc)) H' := by
      have := w2.free (p := D) upd_same
      refine this.less fun a o z => ?_
      have ha : a ≠ D := fun y => by
        rw [y, fd.2] at z
        cases z
      rw [del_ne ha, upd_ne ha]
      exact z
    exact q _ _ H' ((x1.trans x2).trans ex) w5 ⟨D, acc, rfl, upd_same, rk_mono ex r2⟩
variable {kx vx iter : Expr} {scope : Scope} {tpos px py : Pos} {x y : Str} {k0 : Nat}
/-- {k: v for x, y in iter} -/
theorem ve_dc (p1 : Put i Γ α1 Γ1) (p2 : Put j Γ1 α2 Γ2) {g : Γ → Option (List (T2 α1 α2))} {kf : Γ2 → Option κ} {vf : Γ2 → Option β} (hc : X.calm = true) (hN : X.N.Nodup) (hi : VI X (.Tuple [.Name x px, .Name y py] k0 tpos) iter g) (ok : blkC X.N X.env.scope scope [(x, i), (y, j)] = true)
    (hg : ∀ (s : Shared) (H : Hp) (C : Addr) (cl : List (Str × Addr)) (fp : List Addr), PG (X.blk s H scope (compEnvC scope cl C X.env) fp) (.Tuple [.Name x px, .Name y py] k0 tpos) (gPair X.K i j))
    (hk : ∀ (s : Shared) (H : Hp) (C : Addr) (cl : List (Str × Addr)) (fp : List Addr), VE (X.blk s H scope (compEnvC scope cl C X.env) fp) kx kf)
    (hv : ∀ (s : Shared) (H : Hp) (C : Addr) (cl : List (Str × Addr)) (fp : List Addr), VE (X.blk s H scope (compEnvC scope cl C X.env) fp) vx vf) (hij : i ≠ j := by decide) (hs : ∀ x, foldedSetIterable iter X.env x = pure x := by intro _; rfl) :
    VE X (.DictComp kx vx [⟨.Tuple [.Name x px, .Name y py] k0 tpos, iter, [], 0⟩] scope pos) (fdc p1 p2 g kf vf) :=
  PE.le (pe_dc (own := [(x, i), (y, j)]) (g := gPair X.K i j) (tt := tet X.K (fyes (Γ := Γ2))) hc hN hi (blkOk_by ok) hg (fun _ _ _ _ _ => vts_nil) hk hv hs) fun σ H Q h => tdc hij (t := fyes) h
end
end Vx
namespace Vx
open Rep (rep)
open EnvR (er)
open PySem PySem.Spec PyProof.Rows L2
/-! ### dicts of one's own -/
structure OwnD (i : Nat) (Γ β : Type) [EnvR Γ] [Rep β] where
  get : Γ → List (Key × β)
  set : Γ → List (Key × β) → Γ
  ok : ∀ {K : PySem.W.Frag} {G F : Hp} {L : List Addr} {σ : L2.St} {γ : Γ}, er K G F L σ γ → ∃ q vs, σ[i]? = some (some (.ref q)) ∧ q ∈ L ∧ F q = some (.dK vs) ∧ PySem.Paired (RK K G) (get γ) vs ∧
    (∀ {G' : Hp} {ys : List (Key × β)} {vs' : List (Key × V)}, Ex G G' → PySem.Paired (RK K G') ys vs' → er K G' (upd F q (.dK vs')) L σ (set γ ys))
def dz {Γ β : Type} [EnvR Γ] [Rep β] : OwnD 0 (OD β × Γ) β := ⟨fun γ => γ.1.l, fun γ ys => (⟨ys⟩, γ.2), fun {K G F L σ γ} ⟨L1, L2, o, σ', h1, h2, ⟨q, vs, h3, h4, h5, h6⟩, h7, h8⟩ => by
  subst h2
  have hq : q ∉ L2 := h8 q (by rw [h3]; exact List.mem_singleton.mpr rfl)
  refine ⟨q, vs, by rw [h4]; rfl, by rw [h1, h3]; exact List.mem_append_left _ (List.mem_singleton.mpr rfl), h5, h6, fun {G' ys vs'} e r => ?_⟩
  exact ⟨L1, L2, o, σ', h1, rfl, ⟨q, vs', h3, h4, upd_same, r⟩, EnvR.keep (fun b hb => upd_ne (fun z => hq (by rw [← z]; exact hb))) (EnvR.mono e h7), h8⟩⟩
def ds {i : Nat} {τ Γ β : Type} [Slot τ] [EnvR Γ] [Rep β] (w : OwnD i Γ β) : OwnD (i + 1) (τ × Γ) β := ⟨fun γ => w.get γ.2, fun γ ys => (γ.1, w.set γ.2 ys), fun {K G F L σ γ} ⟨L1, L2, o, σ', h1, h2, h3, h4, h5⟩ => by
  obtain ⟨q, vs, k1, k2, k3, k4, k5⟩ := w.ok h4
  subst h2
  have hq : q ∉ L1 := fun z => h5 q z k2
  refine ⟨q, vs, k1, by rw [h1]; exact List.mem_append_right _ k2, k3, k4, fun {G' ys vs'} e r => ?_⟩
  exact ⟨L1, L2, o, σ', h1, rfl, Slot.keep (fun b hb => upd_ne (fun z => hq (by rw [← z]; exact hb))) (Slot.mono e h3), k5 e r, h5⟩⟩
structure PutD (i : Nat) (Γ β Γ' : Type) [EnvR Γ] [Rep β] [EnvR Γ'] where
  put : Γ → List (Key × β) → Γ'
  ok : ∀ {K : PySem.W.Frag} {G F : Hp} {L : List Addr} {σ : L2.St} {γ : Γ} {q : Addr} {xs : List (Key × β)} {vs : List (Key × V)}, er K G F L σ γ → q ∉ L → F q = some (.dK vs) → PySem.Paired (RK K G) xs vs →
    ∃ L', (∀ b ∈ L', b ∈ L ∨ b = q) ∧ (L.Nodup → L'.Nodup) ∧ er K G F L' (σ.set i (some (.ref q))) (put γ xs)
def pdz {τ₀ Γ β : Type} [Slot τ₀] [EnvR Γ] [Rep β] : PutD 0 (τ₀ × Γ) β (OD β × Γ) := ⟨fun γ xs => (⟨xs⟩, γ.2), fun {K G F L σ γ q xs vs} ⟨L1, L2, o, σ', h1, h2, h3, h4, h5⟩ hq hF r => by
  subst h2
  have hq2 : q ∉ L2 := fun z => hq (by rw [h1]; exact List.mem_append_right _ z)
  exact ⟨q :: L2, fun b hb => by
    rcases List.mem_cons.mp hb with h | h
    · exact .inr h
    · exact .inl (by rw [h1]; exact List.mem_append_right _ h), fun nd => List.nodup_cons.mpr ⟨hq2, by rw [h1] at nd; exact (List.nodup_append.mp nd).2.1⟩, [q], L2, _, σ', rfl, rfl, ⟨q, vs, rfl, rfl, hF, r⟩, h4, fun b hb => by
      rw [List.mem_singleton.mp hb]
      exact hq2⟩⟩
def pds {i : Nat} {τ Γ β Γ' : Type} [Slot τ] [EnvR Γ] [Rep β] [EnvR Γ'] (p : PutD i Γ β Γ') : PutD (i + 1) (τ × Γ) β (τ × Γ') := ⟨fun γ xs => (γ.1, p.put γ.2 xs), fun {K G F L σ γ q xs vs} ⟨L1, L2, o, σ', h1, h2, h3, h4, h5⟩ hq hF r => by
  subst h2
  have hq2 : q ∉ L2 := fun z => hq (by rw [h1]; exact List.mem_append_right _ z)
  have hq1 : q ∉ L1 := fun z => hq (by rw [h1]; exact List.mem_append_left _ z)
  obtain ⟨L', k1, k2, k3⟩ := p.ok h4 hq2 hF r
  have dj : ∀ b ∈ L1, b ∉ L' := fun b hb hb' => by
    rcases k1 b hb' with h | h
    · exact h5 b hb h
    · exact hq1 (by rw [← h]; exact hb)
  refine ⟨L1 ++ L', fun b hb => ?_, fun nd => ?_, L1, L', o, _, rfl, rfl, h3, k3, dj⟩
  · rcases List.mem_append.mp hb with h | h
    · exact .inl (by rw [h1]; exact List.mem_append_left _ h)
    · rcases k1 b h with h | h
      · exact .inl (by rw [h1]; exact List.mem_append_right _ h)
      · exact .inr h
  · rw [h1] at nd
    obtain ⟨n1, n2, n3⟩ := List.nodup_append.mp nd
    exact List.nodup_append.mpr ⟨n1, k2 n2, fun a ha b hb z => dj a ha (by rw [z]; exact hb)⟩⟩
section
variable {Γ Γ' S ρ : Type} [EnvR Γ] [EnvR Γ'] [Md S] {β κ : Type} [Rep β] [Rep κ] [KeyOf κ]
variable {X : Cx} {R : RR ρ} {e a b c : Expr} {pos : Pos} {i : Nat}
/-- x = {k: v} -/
def snewD (p : PutD i Γ β Γ') (g : Γ → Option κ) (f : Γ → Option β) : Γ → Option (Fl Γ' S ρ) := fun γ => (g γ).bind fun k => (f γ).map fun v => .nx (p.put γ [(KeyOf.key k, v)])
theorem vs_newD (pt : PutD i Γ β Γ') {x : Str} {pos' dpos : Pos} {g : Γ → Option κ} {f : Γ → Option β} (hN : X.N.Nodup) (h1 : VE X a g) (h2 : VE X b f) (hi : X.N[i]? = some x := by rfl) (hx : Loc X.env.scope x := by first | exact Or.inl rfl | exact Or.inr rfl) (ho : Md.okI S i = true := by rfl)
    (hs : swapsWith (.Dict [some a] [b] dpos) (some (.Name x pos')) pos.line X.env = pure false := by rfl) (hf : X.fn x = true ∨ X.env.scope.names.lookup x = some .local := by first | exact .inl rfl | exact .inr rfl) : VS X S R (.Assign [.Name x pos'] (.Dict [some a] [b] dpos) pos) (snewD (S := S) pt g f) :=
  PS.le (ps_set hN hi hx (pe_disp (pps_cons h1 h2 pps_nil) rfl rfl (by simp) (show 1 ≤ 15 by decide)) hs hf) fun D σ H ⟨F, G, L, γ, p, r, wd, nd, he, ha, ea, k⟩ => by
    unfold snewD at ea
    cases e1 : g γ with
    | none => rw [e1] at ea; cases ea
    | some kk =>
      rw [e1] at ea
      cases e2 : f γ with
      | none => simp only [Option.bind_some] at ea; rw [e2] at ea; cases ea
      | some y =>
        simp only [Option.bind_some] at ea
        rw [e2] at ea
        cases ea
        intro q hq
        have fr := wd.fresh hq
        have nq : q ∉ L := fun z => EnvR.there he q z fr.2
        have w0 := wd.own (o := HO.dK []) hq
        have he0 : er X.K G (upd F q (.dK [])) L σ γ := EnvR.keep (fun b hb => upd_ne (fun z => nq (by rw [← z]; exact hb))) he
        refine ⟨_, G, L, γ, kk, w0, he0, e1, fun v G2 H2 x2 w2 r2 => ⟨_, G2, L, γ, y, w2, EnvR.mono x2 he0, e2, fun u G3 H3 x3 w3 r3 => ?_⟩⟩
        refine ⟨w3.f _ _ upd_same, [(KeyOf.key kk, u)], by rw [KeyOf.of r2]; rfl, show 1 ≤ 15 by decide, ?_⟩
        have w4 := w3.set (p := q) (u := .dK (mergeK [] [(KeyOf.key kk, u)])) upd_same
        rw [upd_upd] at w4
        obtain ⟨L', l1, l2, l3⟩ := pt.ok (F := upd F q (.dK (mergeK [] [(KeyOf.key kk, u)]))) (xs := [(KeyOf.key kk, y)]) (EnvR.keep (fun b hb => upd_ne (fun z => nq (by rw [← z]; exact hb))) (EnvR.mono (x2.trans x3) he)) nq upd_same (.cons ⟨rfl, r3⟩ .nil)
        exact k _ L' _ G3 _ (x2.trans x3) w4 (l2 nd) (off_new fr.2) (fun b hb => (l1 b hb).imp id fun z => by rw [z]; exact fr.2) l3 (Md.keep ho ha)
/-- d[k] = v, d of one's own -/
def sdput (o : OwnD i Γ β) (g : Γ → Option κ) (f : Γ → Option β) : Γ → Option (Fl Γ S ρ) := fun γ => (f γ).bind fun v => (g γ).bind fun k => if (o.get γ).length < 100000 then some (.nx (o.set γ (putB (o.get γ) (KeyOf.key k) v))) else none
theorem vs_dput (o : OwnD i Γ β) {x : Str} {p1 p2 : Pos} {g : Γ → Option κ} {f : Γ → Option β} (hu : X.A.units + 1 < cLine) (hk : VE X a g) (hv : VE X e f) (hN : X.N[i]? = some x := by rfl) (hvs : Vis X.env.scope x := by first | exact Or.inl rfl | exact Or.inr (Or.inl rfl) | exact Or.inr (Or.inr rfl)) (hd : (x == ("__debug__" : Str)) = false := by decide)
    (hcd : (x == ("__classdict__" : Str)) = false := by decide) (hs : swapsWith e (some (.Subscript (.Name x p1) a p2)) pos.line X.env = pure false := by rfl) : VS X S R (.Assign [.Subscript (.Name x p1) a p2] e pos) (sdput (S := S) o g f) :=
  PS.le (ps_dput hu (pe_var hN hvs hd hcd) hk hv hs) fun D σ H ⟨F, G, L, γ, p, r, wd, nd, he, ha, ea, k⟩ => by
    unfold sdput at ea
    cases e1 : f γ with
    | none => rw [e1] at ea; cases ea
    | some v =>
      rw [e1] at ea
      simp only [Option.bind_some] at ea
      cases e2 : g γ with
      | none => rw [e2] at ea; cases ea
      | some n =>
        rw [e2] at ea
        simp only [Option.bind_some] at ea
        split at ea
        case isFalse => cases ea
        rename_i hlen
        cases ea
        refine ⟨F, G, L, γ, v, wd, he, e1, fun vv G2 H2 x2 w2 r2 => ?_⟩
        obtain ⟨q, vs, k1, k2, k3, k4, k5⟩ := o.ok (EnvR.mono x2 he)
        refine ⟨.ref q, k1, F, G2, L, γ, n, w2, EnvR.mono x2 he, e2, fun vi G3 H3 x3 w3 r3 => ?_⟩
        refine ⟨q, _, rfl, .inl ⟨vs, KeyOf.key n, w3.f _ _ k3, KeyOf.of r3, by rw [← paired_len k4]; exact Nat.lt_of_lt_of_le hlen line_ge, rfl⟩, ?_⟩
        exact k σ L _ G3 _ (x2.trans x3) (w3.set k3) nd (fun b u hb e => by rw [upd_ne (fun z => hb (by rw [z]; exact k2))]; exact e) Sub.refl (k5 x3 (rk_put (Rep.mono x3 r2) (rk_mono x3 k4))) ha
/-- list(d), d of one's own -/
def keysOf {β κ : Type} [Rep κ] [KeyOf κ] : List (Key × β) → Option (List κ)
  | [] => some []
  | x :: d => (KeyOf.ofK x.1).bind fun k => (keysOf d).map (k :: ·)
theorem keys_rep {K : PySem.W.Frag} {G : Hp} : ∀ {d : List (Key × β)} {kvs : List (Key × V)} {ks : List κ}, PySem.Paired (RK K G) d kvs → keysOf d = some ks → PySem.Paired (rep K G) ks (kvs.map fun kv => kV kv.1)
  | _, _, _, .nil, h => by
    cases h
    exact .nil
  | x :: d, y :: kvs, ks, .cons r t, h => by
    unfold keysOf at h
    cases e1 : (KeyOf.ofK x.1 : Option κ) with
    | none => rw [e1] at h; cases h
    | some k =>
      rw [e1] at h
      simp only [Option.bind_some] at h
      cases e2 : (keysOf d : Option (List κ)) with
      | none => rw [e2] at h; cases h
      | some ks' =>
        rw [e2] at h
        cases h
        rw [List.map_cons]
        refine .cons ?_ (keys_rep t e2)
        have := KeyOf.back (K := K) (G := G) e1
        rw [r.1] at this
        exact this
def fkeys (κ : Type) [Rep κ] [KeyOf κ] (o : OwnD i Γ β) : Γ → Option (List κ) := fun γ => keysOf (o.get γ)
theorem vf_keys (κ : Type) [Rep κ] [KeyOf κ] (o : OwnD i Γ β) {x : Str} {p1 p2 : Pos} (hc : X.calm = true) (hm : X.mg "list" = none) (hN : X.N[i]? = some x := by rfl) (hvs : Vis X.env.scope x := by first | exact Or.inl rfl | exact Or.inr (Or.inl rfl) | exact Or.inr (Or.inr rfl)) (hd : (x == ("__debug__" : Str)) = false := by decide)
    (hcd : (x == ("__classdict__" : Str)) = false := by decide) (hg : Gl X "list" := by rfl) (hb : bootBuiltins "list" = some (.type "list") := by decide +kernel) (he : starEach [.Name x p1] X.env = (false, eval (.Name x p1) X.env) :: starEach [] X.env := by rfl) (hpl : (backTo pos (starEach [] X.env)).any (·.1) = false := by rfl) :
    VF X (.Call (.Name "list" p2) [.Name x p1] [] pos) (fkeys κ o) := PE.le (pe_callTy (call_listD hc) hg hm hb (pa_cons (pe_var hN hvs hd hcd) pa_nil he) (he := he) (hpl := hpl)) fun σ H Q ⟨F, G, L, γ, z, w, hh, ea, q⟩ => by
  obtain ⟨p, vs, k1, k2, k3, k4, k5⟩ := o.ok hh
  refine ⟨.ref p, k1, p, vs, rfl, .inl (w.f _ _ k3), fun l hl => ?_⟩
  obtain ⟨w2, r2⟩ := rf_new w hl (keys_rep k4 ea)
  exact q _ _ _ (Ex.refl G) w2 r2
end
end Vx
namespace Vx
open Rep (rep)
open EnvR (er)
open PySem PySem.Spec PyProof.Rows L2
section
variable {Γ : Type} [EnvR Γ] {α β δ : Type} {X : Cx} {a b e : Expr} {p p2 q pos : Pos}
/-- a[i] -/
theorem vo_ix {r : L2.R2} {R1 : RR α} {R2 : RR β} {R3 : RR δ} {φ : α → β → Option δ} {f : Γ → Option α} {g : Γ → Option β} (hi : IxR X r) (o : Op2 r R1 R2 R3 φ) (mo : RMono R1) (ha : VO X a R1 f) (hb : VO X b R2 g) (hs : NoSl b := by intro _ _; rfl) : VO X (.Subscript a b pos) R3 (f2 φ f g) :=
  PE.le (pe_ix hi ha hb hs) fun σ H Q h => tev2 o mo h
theorem mo_ix {r : L2.R2} {R1 : RR α} {R2 : RR β} {R3 : RR δ} {φ : α → β → Option δ} {f : Γ → Option (α × Γ)} {g : Γ → Option (β × Γ)} (hi : IxR X r) (o : Op2 r R1 R2 R3 φ) (mo : MMono R1) (ha : MO X a R1 f) (hb : MO X b R2 g) (hs : NoSl b := by intro _ _; rfl) : MO X (.Subscript a b pos) R3 (m2 φ f g) :=
  PE.le (pe_ix hi ha hb hs) fun σ H Q h => tem2 o mo h
/-- sorted(set(..)) -/
def ss (xs : List Str) : Option (List Str) := if xs.length ≤ 4000 then some (srt (ded [] xs)) else none
theorem vf_ssL {f : Γ → Option (List Str)} (hc : X.calm = true) (hu : X.A.units + 64 < cLine) (hm : X.mg "sorted" = none) (hm2 : X.mg "set" = none) (ha : VL X a f) (hg : Gl X "sorted" := by rfl) (hg2 : Gl X "set" := by rfl) (na : starEach [a] X.env = (false, eval a X.env) :: starEach [] X.env := by rfl) :
    VF X (.Call (.Name "sorted" p) [.Call (.Name "set" p2) [a] [] q] [] pos) (f1 ss f) := PE.le (pe_sortSet hc hu hm hm2 ha hg hg2 na) fun σ H Q ⟨F, G, L, γ, z, w, he, ea, k⟩ => by
  unfold f1 at ea
  cases e1 : f γ with
  | none => rw [e1] at ea; cases ea
  | some xs =>
    rw [e1] at ea
    simp only [Option.bind_some, ss] at ea
    split at ea
    · rename_i hl
      cases ea
      refine ⟨F, G, L, γ, xs, w, he, e1, fun v G2 H2 x2 w2 r2 => ?_⟩
      obtain ⟨l, vs, h1, h2, h3⟩ := rl_at w2 r2
      rw [strs_of h3] at h2
      exact ⟨xs, .inl ⟨l, h1, .inl (.inl h2)⟩, hl, fun n hn => let ⟨w3, r3⟩ := rf_new w2 hn (of_strs (K := X.K) (G := G2)); k _ _ _ x2 w3 r3⟩
    · cases ea
theorem vf_ssS {f : Γ → Option Str} (hc : X.calm = true) (hu : X.A.units + 64 < cLine) (hm : X.mg "sorted" = none) (hm2 : X.mg "set" = none) (ha : VE X a f) (hg : Gl X "sorted" := by rfl) (hg2 : Gl X "set" := by rfl) (na : starEach [a] X.env = (false, eval a X.env) :: starEach [] X.env := by rfl) :
    VF X (.Call (.Name "sorted" p) [.Call (.Name "set" p2) [a] [] q] [] pos) (f1 (fun t => ss (signs t)) f) := PE.le (pe_sortSet hc hu hm hm2 ha hg hg2 na) fun σ H Q ⟨F, G, L, γ, z, w, he, ea, k⟩ => by
  unfold f1 at ea
  cases e1 : f γ with
  | none => rw [e1] at ea; cases ea
  | some xs =>
    rw [e1] at ea
    simp only [Option.bind_some, ss] at ea
    split at ea
    · rename_i hl
      cases ea
      exact ⟨F, G, L, γ, xs, w, he, e1, fun v G2 H2 x2 w2 r2 => ⟨signs xs, .inr (.inr ⟨xs, r2, rfl⟩), hl, fun n hn => let ⟨w3, r3⟩ := rf_new w2 hn (of_strs (K := X.K) (G := G2)); k _ _ _ x2 w3 r3⟩⟩
    · cases ea
/-- a fresh list, drawn, kept as it is -/
theorem mo_keep [Rep α] {f : Γ → Option (List α × Γ)} (h : MO X e (RF X.K) f) : ME X e f := PE.le h fun σ H Q ⟨F, G, L, γ, a, γ', w, he, ea, q⟩ =>
  ⟨F, G, L, γ, a, γ', w, he, ea, fun v F2 G2 H2 e2 w2 o2 h2 ⟨p, vs, h1, hf, hg, hh, hr⟩ => by
    have ex : Ex G2 (upd G2 p (.lst vs)) := Ex.upd hg
    refine q v F2 (upd G2 p (.lst vs)) H2 (e2.trans ex) ⟨fun a o z => ?_, w2.f, fun a o z => ?_⟩ o2 (EnvR.mono ex h2) ⟨p, vs, h1, upd_same, Paired.mono (fun _ _ r => Rep.mono ex r) hr⟩
    · by_cases hap : a = p
      · subst hap
        rw [upd_same] at z
        rw [← z]
        exact hh
      · rw [upd_ne hap] at z
        exact w2.g a o z
    · have hap : a ≠ p := fun y => by
        rw [y, hf] at z
        cases z
      rw [upd_ne hap]
      exact w2.d a o z⟩
def srtL (a : List Str × Unit) : Option (List Str) := if a.1.length ≤ 100000 then some (srt a.1) else none
abbrev rSrt (K : PySem.W.Frag) : List V → Hp → VK → Prop := fun vs H Q => ∃ (b : Addr) (xs : List Str), vs = [.ref b] ∧ SqL K H b (xs.map V.str) ∧ xs.length ≤ 100000 ∧ ∀ p, H p = none → Q (.ref p) (upd H p (.lst ((srt xs).map V.str)))
theorem o_srtL {K : PySem.W.Frag} : OpA (rSrt K) K (RF K) srtL := fun F G H a y vs Q w r e k => by
  obtain ⟨v, h1, p, us, h2, h3, h4⟩ := rl1 r
  unfold srtL at e
  split at e
  · rename_i hl
    cases e
    subst h2
    rw [strs_of h4] at h3
    exact ⟨p, a.1, h1, .inl (.inl (w.g _ _ h3)), hl, fun l hl => let ⟨w2, r2⟩ := rf_new w hl (of_strs (K := K) (G := G)); k _ _ _ (Ex.refl G) w2 r2⟩
  · cases e
end
section
variable {Γ Γ' S ρ : Type} [EnvR Γ] [EnvR Γ'] [Md S] {X : Cx} {R : RR ρ} {sts : List Stmt}
theorem vss_never : VSs X S R sts (snever (Γ := Γ) (Γ' := Γ') (S := S)) := PSs.le (pss_never (X := X)) fun D σ H ⟨F, G, L, γ, p, r, wd, nd, he, ha, ea, k⟩ => by cases ea
end
end Vx
namespace Vx
open Rep (rep)
open EnvR (er)
open PySem PySem.Spec PyProof.Rows L2
/-- a def that stands at the top under its name -/
def Tf (K : PySem.W.Frag) (mg : Str → Option Value) (x : Str) (st : Stmt) (ps : List Str) : Prop := ∃ f fd, Fun K x x st f fd ∧ mg x = some (.ref f) ∧ Binds K fd ps []
/-- .. and keeps its promise -/
def Df (P : Program) (w : World) (K : PySem.W.Frag) (mg : Str → Option Value) (base : Heap) (x : Str) (st : Stmt) (k : Nat) (ps : List Str) (sp : Sp) : Prop :=
  ∃ f fd, Fun K x x st f fd ∧ mg x = some (.ref f) ∧ Binds K fd ps [] ∧ GnOk P w K mg base k f fd ps sp
section
variable {P : Program} {w : World} {K : PySem.W.Frag} {mg : Str → Option Value} {base : Heap} {x : Str} {st : Stmt} {N ps : List Str} {k n : Nat} {A ρ α Γ Γ' : Type} [RepL A] [EnvR Γ] [EnvR Γ'] [Rep ρ] [Rep α]
abbrev BodyD (P : Program) (w : World) (K : PySem.W.Frag) (mg : Str → Option Value) (base : Heap) (N : List Str) (x : Str) (st : Stmt) (k : Nat) (C : Cx → Prop) : Prop := BodyOk P w K mg base N x st k C
theorem df_F (T : Tf K mg x st ps) (S : FnScope N ps (defScope st)) (I : Ini A Γ n) {b : Γ → Option (Fl Γ' Unit ρ)} (body : BodyD P w K mg base N x st k fun X => VSs X Unit (RE K) (defBody st) b) (hn : N.length = RepL.n A + n := by rfl) (hp : RepL.n A = ps.length := by rfl) :
    Df P w K mg base x st (k + 1) ps (spF K fun a => runF b (I.ini a)) := by
  obtain ⟨f, fd, F, hm, hb⟩ := T
  exact ⟨f, fd, F, hm, hb, ok_F F S I hn hp body⟩
theorem df_U (T : Tf K mg x st ps) (S : FnScope N ps (defScope st)) (I : Ini A Γ n) {b : Γ → Option (Fl Γ' Unit Unit)} (body : BodyD P w K mg base N x st k fun X => VSs X Unit (RE K) (defBody st) b) (hn : N.length = RepL.n A + n := by rfl) (hp : RepL.n A = ps.length := by rfl) :
    Df P w K mg base x st (k + 1) ps (spF K fun a => runU b (I.ini a)) := by
  obtain ⟨f, fd, F, hm, hb⟩ := T
  exact ⟨f, fd, F, hm, hb, ok_U F S I hn hp body⟩
theorem df_N (T : Tf K mg x st ps) (S : FnScope N ps (defScope st)) (I : Ini A Γ n) {b : Γ → Option (Fl Γ' Unit (List α))} (body : BodyD P w K mg base N x st k fun X => VSs X Unit (RF K) (defBody st) b) (hn : N.length = RepL.n A + n := by rfl) (hp : RepL.n A = ps.length := by rfl) :
    Df P w K mg base x st (k + 1) ps (spN K fun a => runF b (I.ini a)) := by
  obtain ⟨f, fd, F, hm, hb⟩ := T
  exact ⟨f, fd, F, hm, hb, ok_N F S I hn hp body⟩
theorem df_M (T : Tf K mg x st ps) (S : FnScope N ps (defScope st)) (I : Ini A Γ n) {b : OL Int × Γ → Option (Fl Γ' (List Int) ρ)} (body : BodyD P w K mg base N x st k fun X => VSs X (List Int) (RE K) (defBody st) b) (hn : N.length = RepL.n A + 1 + n := by rfl) (hp : RepL.n A + 1 = ps.length := by rfl) :
    Df P w K mg base x st (k + 1) ps (spM K fun s a => runM b (im I s a)) := by
  obtain ⟨f, fd, F, hm, hb⟩ := T
  exact ⟨f, fd, F, hm, hb, ok_M F S I hn hp body⟩
end
theorem rm {k j : Nat} {A : Around} (r : Room k A) (h : j ≤ k := by decide) : Room j A := r.mono h
theorem un60 {k : Nat} {A : Around} (r : Room k A) : A.units + 60 < cLine := by
  have := r.un
  omega
theorem un64 {k : Nat} {A : Around} (r : Room k A) : A.units + 64 < cLine := by
  have := r.un
  omega
theorem un1 {k : Nat} {A : Around} (r : Room k A) : A.units + 1 < cLine := by
  have := r.un
  omega
/-- keywords brought in order, by the def's own head -/
def KbF (x : Str) (st : Stmt) (ps ks : List Str) (n1 : Nat) (π : List Nat) : Prop := ∀ (kV doc pm : Value) (an : Option Addr) (cdv ct : Value) (us ws : List Value), us.length = n1 → ws.length = ks.length →
  bindArgs (PySem.W.fnOf x x (defArgs st) (defBody st) (defScope st) .none kV doc pm an cdv ct) ⟨us, ks.zip ws⟩ = pure (ps.zip (pickU π (us ++ ws)))
theorem kb_of {K : PySem.W.Frag} {x : Str} {st : Stmt} {f : Addr} {fd : FuncData} {ps ks : List Str} {n1 : Nat} {π : List Nat} (F : Fun K x x st f fd) (h : KbF x st ps ks n1 π) : KB fd ps ks n1 π := by
  obtain ⟨oc, od, kV, doc, pm, an, cdv, ct, osl, rfl, lk, hcd⟩ := F.ex
  exact fun us ws h1 h2 => h kV doc pm an cdv ct us ws h1 h2
section
variable {Γ : Type} [EnvR Γ] {X : Cx} {A A1 A2 ρ α : Type} [RepL A] [RepL A1] [RepL A2] [Rep ρ] [Rep α] {k : Nat} {st : Stmt} {psn ks : List Str} {x : Str} {pp pos : Pos} {e : Expr} {es : List Expr} {kws : List Keyword} {n1 : Nat} {π : List Nat}
theorem vd_call {m : A → Option ρ} {g : Γ → Option A} (D : Df X.prog X.w X.K X.mg X.base x st k psn (spF X.K m)) (hgd : X.A.guards = some []) (hr : Room k X.A) (ha : VA X (e :: es) g) (hg : Gl X x := by rfl)
    (hdb : (x == ("__debug__" : Str)) = false := by decide) (he : starEach (e :: es) X.env = (false, eval e X.env) :: starEach es X.env := by rfl) (hpl : (backTo pos (starEach es X.env)).any (·.1) = false := by rfl) : VE X (.Call (.Name x pp) (e :: es) [] pos) (f1 m g) := by
  obtain ⟨f, fd, F, hm, hb, G⟩ := D
  exact vg_call G hgd hr hm F.kp hb ha hg hdb he hpl
theorem vd_callN {m : A → Option (List α)} {g : Γ → Option A} (D : Df X.prog X.w X.K X.mg X.base x st k psn (spN X.K m)) (hgd : X.A.guards = some []) (hr : Room k X.A) (ha : VA X (e :: es) g) (hg : Gl X x := by rfl)
    (hdb : (x == ("__debug__" : Str)) = false := by decide) (he : starEach (e :: es) X.env = (false, eval e X.env) :: starEach es X.env := by rfl) (hpl : (backTo pos (starEach es X.env)).any (·.1) = false := by rfl) : VF X (.Call (.Name x pp) (e :: es) [] pos) (f1 m g) := by
  obtain ⟨f, fd, F, hm, hb, G⟩ := D
  exact vf_gcall G hgd hr hm F.kp hb ha hg hdb he hpl
theorem md_call {m : A → Option ρ} {g : Γ → Option (A × Γ)} (D : Df X.prog X.w X.K X.mg X.base x st k psn (spF X.K m)) (hgd : X.A.guards = some []) (hr : Room k X.A) (ha : MA X (e :: es) g) (hg : Gl X x := by rfl)
    (hdb : (x == ("__debug__" : Str)) = false := by decide) (he : starEach (e :: es) X.env = (false, eval e X.env) :: starEach es X.env := by rfl) (hpl : (backTo pos (starEach es X.env)).any (·.1) = false := by rfl) : ME X (.Call (.Name x pp) (e :: es) [] pos) (m1 m g) := by
  obtain ⟨f, fd, F, hm, hb, G⟩ := D
  exact mg_call G hgd hr hm F.kp hb ha hg hdb he hpl
theorem vd_callK0 {m : A → Option ρ} {g2 : Γ → Option A2} (D : Df X.prog X.w X.K X.mg X.base x st k psn (spF X.K m)) (kA : Unit → A2 → A) (hkA : ∀ {K : PySem.W.Frag} {G : Hp} {b : A2} {zs : List V}, RepL.rl K G b zs → RepL.rl K G (kA () b) (pickV π zs))
    (hgd : X.A.guards = some []) (hr : Room k X.A) (hb : KbF x st psn ks 0 π) (hkw : VK' X kws g2) (hn2 : RepL.n A2 = ks.length := by rfl) (hg : Gl X x := by rfl)
    (hall : (backToKw pos (keywordEach kws X.env)).all (·.1.isSome) = true := by rfl) (hks : (backToKw pos (keywordEach kws X.env)).filterMap (·.1) = ks := by rfl)
    (hdb : (x == ("__debug__" : Str)) = false := by decide) (hpl : ((backTo pos (starEach [] X.env)).any (·.1) || (backToKw pos (keywordEach kws X.env)).any (·.1.isNone)) = false := by rfl) :
    VE X (.Call (.Name x pp) [] kws pos) (f1 m (fkw kA fnil g2)) := by
  obtain ⟨f, fd, F, hm, _, G⟩ := D
  exact vg_callK0 kA hkA G hgd hr hm F.kp (kb_of F hb) hkw hn2 hg hall hks hdb hpl
theorem md_draw {m : List Int → A → Option (ρ × List Int)} {g : OL Int × Γ → Option (A × (OL Int × Γ))} {y : Str} {py : Pos} (D : Df X.prog X.w X.K X.mg X.base x st k psn (spM X.K m)) (hgd : X.A.guards = some []) (hr : Room k X.A) (hy : PE X (.Name y py) (tVar 0)) (ha : MA X es g) (hg : Gl X x := by rfl)
    (hdb : (x == ("__debug__" : Str)) = false := by decide) (he : starEach ((.Name y py) :: es) X.env = (false, eval (.Name y py) X.env) :: starEach es X.env := by rfl) (hpl : (backTo pos (starEach es X.env)).any (·.1) = false := by rfl) : ME X (.Call (.Name x pp) (.Name y py :: es) [] pos) (mdr m g) := by
  obtain ⟨f, fd, F, hm, hb, G⟩ := D
  exact mg_draw G hgd hr hm F.kp hb hy ha hg hdb he hpl
theorem ve_gint {n : Int} (h : ∃ t, X.mg x = some (.int n t)) (hg : Gl X x := by rfl) (hd : (x == ("__debug__" : Str)) = false := by decide) : VE X (.Name x pos) (fc (Γ := Γ) n) := by
  obtain ⟨t, h⟩ := h
  exact ve_glob hg h (v := .int n) ⟨t, rfl⟩ (fun _ => rfl) hd
end
end Vx
/-! the rules that choose slots, said so that what they speak of is known before the slots are read -/
namespace Vx
open Rep (rep)
open EnvR (er)
open PySem PySem.Spec PyProof.Rows L2
section
variable {Γ : Type} [EnvR Γ] {α β τ : Type} [Rep τ] [Rep α] {i : Nat} {Γe : Type} [EnvR Γe]
variable {X : Cx} {elt iter : Expr} {ifs : List Expr} {scope : Scope} {pos tpos : Pos} {x : Str}
theorem mf_lc_ (c : PB i Γ τ Γe) {g : Γ → Option (List τ × Γ)} {t : Γe → Option (Bool × Γe)} {e : Γe → Option (α × Γe)} {fr : Γ → Option (List α × Γ)} (efr : mlc c.p c.b g t e = fr) (hc : X.calm = true) (hN : X.N.Nodup) (hi : MI X (.Name x tpos) iter g) (ok : blkC X.N X.env.scope scope [(x, i)] = true) (hg : ∀ (s : Shared) (H : Hp) (C : Addr) (cl : List (Str × Addr)) (fp : List Addr), PG (X.blk s H scope (compEnvC scope cl C X.env) fp) (.Name x tpos) (gName i)) (ht : ∀ (s : Shared) (H : Hp) (C : Addr) (cl : List (Str × Addr)) (fp : List Addr), MTs (X.blk s H scope (compEnvC scope cl C X.env) fp) ifs t) (he : ∀ (s : Shared) (H : Hp) (C : Addr) (cl : List (Str × Addr)) (fp : List Addr), ME (X.blk s H scope (compEnvC scope cl C X.env) fp) elt e) (hs : ∀ x, foldedSetIterable iter X.env x = pure x := by intro _; rfl) : MO X (.ListComp elt [⟨.Name x tpos, iter, ifs, 0⟩] scope pos) (RF X.K) fr := by
  subst efr
  exact mf_lc c hc hN hi ok hg ht he hs
end
section
variable {Γ : Type} [EnvR Γ] {α β τ : Type} [Rep τ] [Rep α] {i : Nat} {Γe : Type} [EnvR Γe]
variable {X : Cx} {elt iter : Expr} {ifs : List Expr} {scope : Scope} {pos tpos : Pos} {x : Str}
theorem vf_lc_ (p : Put i Γ τ Γe) {g : Γ → Option (List τ)} {t : Γe → Option Bool} {e : Γe → Option α} {fr : Γ → Option (List α)} (efr : flc p g t e = fr) (hc : X.calm = true) (hN : X.N.Nodup) (hi : VI X (.Name x tpos) iter g) (ok : blkC X.N X.env.scope scope [(x, i)] = true) (hg : ∀ (s : Shared) (H : Hp) (C : Addr) (cl : List (Str × Addr)) (fp : List Addr), PG (X.blk s H scope (compEnvC scope cl C X.env) fp) (.Name x tpos) (gName i)) (ht : ∀ (s : Shared) (H : Hp) (C : Addr) (cl : List (Str × Addr)) (fp : List Addr), VTs (X.blk s H scope (compEnvC scope cl C X.env) fp) ifs t) (he : ∀ (s : Shared) (H : Hp) (C : Addr) (cl : List (Str × Addr)) (fp : List Addr), VE (X.blk s H scope (compEnvC scope cl C X.env) fp) elt e) (hs : ∀ x, foldedSetIterable iter X.env x = pure x := by intro _; rfl) : VF X (.ListComp elt [⟨.Name x tpos, iter, ifs, 0⟩] scope pos) fr := by
  subst efr
  exact vf_lc p hc hN hi ok hg ht he hs
end
section
variable {Γ Γ' Γ'' S ρ : Type} [EnvR Γ] [EnvR Γ'] [EnvR Γ''] [Md S] {α β τ : Type}
variable {X : Cx} {R : RR ρ} {e a b c : Expr} {pos : Pos} {st : Stmt} {sts : List Stmt}
theorem vs_set_ {i : Nat} [Rep α] (pt : Put i Γ α Γ') {x : Str} {pos' : Pos} {f : Γ → Option α} {fr : Γ → Option (Fl Γ' S ρ)} (efr : sset (S := S) pt f = fr) (hN : X.N.Nodup) (h : VE X e f) (hi : X.N[i]? = some x := by rfl) (hx : Loc X.env.scope x := by first | exact Or.inl rfl | exact Or.inr rfl) (ho : Md.okI S i = true := by rfl) (hs : swapsWith e (some (.Name x pos')) pos.line X.env = pure false := by rfl) (hf : X.fn x = true ∨ X.env.scope.names.lookup x = some .local := by first | exact .inl rfl | exact .inr rfl) : VS X S R (.Assign [.Name x pos'] e pos) fr := by
  subst efr
  exact vs_set pt hN h hi hx ho hs hf
end
section
variable {Γ Γ' Γ'' S ρ : Type} [EnvR Γ] [EnvR Γ'] [EnvR Γ''] [Md S] {α β τ : Type}
variable {X : Cx} {R : RR ρ} {e a b c : Expr} {pos : Pos} {st : Stmt} {sts : List Stmt}
theorem vs_setM_ {i : Nat} [Rep α] (pt : Put i Γ α Γ') {x : Str} {pos' : Pos} {f : Γ → Option (α × Γ)} {fr : Γ → Option (Fl Γ' S ρ)} (efr : ssetm (S := S) pt f = fr) (hN : X.N.Nodup) (h : ME X e f) (hi : X.N[i]? = some x := by rfl) (hx : Loc X.env.scope x := by first | exact Or.inl rfl | exact Or.inr rfl) (ho : Md.okI S i = true := by rfl) (hs : swapsWith e (some (.Name x pos')) pos.line X.env = pure false := by rfl) (hf : X.fn x = true ∨ X.env.scope.names.lookup x = some .local := by first | exact .inl rfl | exact .inr rfl) : VS X S R (.Assign [.Name x pos'] e pos) fr := by
  subst efr
  exact vs_setM pt hN h hi hx ho hs hf
end
section
variable {Γ Γ' Γ'' Γd S ρ : Type} [EnvR Γ] [EnvR Γ'] [EnvR Γ''] [EnvR Γd] [Md S] {α β τ : Type} [Rep α] [Rep τ]
variable {X : Cx} {R : RR ρ} {e a b c : Expr} {pos : Pos} {st : Stmt} {sts : List Stmt} {i : Nat}
theorem vs_new_ (pt : PutO i Γ α Γ') {x : Str} {pos' : Pos} {f : Γ → Option (List α)} {fr : Γ → Option (Fl Γ' S ρ)} (efr : snew (S := S) pt f = fr) (hN : X.N.Nodup) (h : VF X e f) (hi : X.N[i]? = some x := by rfl) (hx : Loc X.env.scope x := by first | exact Or.inl rfl | exact Or.inr rfl) (ho : Md.okI S i = true := by rfl) (hs : swapsWith e (some (.Name x pos')) pos.line X.env = pure false := by rfl) (hf : X.fn x = true ∨ X.env.scope.names.lookup x = some .local := by first | exact .inl rfl | exact .inr rfl) : VS X S R (.Assign [.Name x pos'] e pos) fr := by
  subst efr
  exact vs_new pt hN h hi hx ho hs hf
end
section
variable {Γ Γ' Γ'' Γd S ρ : Type} [EnvR Γ] [EnvR Γ'] [EnvR Γ''] [EnvR Γd] [Md S] {α β τ : Type} [Rep α] [Rep τ]
variable {X : Cx} {R : RR ρ} {e a b c : Expr} {pos : Pos} {st : Stmt} {sts : List Stmt} {i : Nat}
theorem vs_app_ (o : Own i Γ α Γd) {f : Γ → Option (α × Γ)} {x : Str} {p1 p2 p3 : Pos} {fr : Γ → Option (Fl Γ S ρ)} (efr : sapp (S := S) o f = fr) (h : ME X e f) (hN : X.N[i]? = some x := by rfl) (hv : Vis X.env.scope x := by first | exact Or.inl rfl | exact Or.inr (Or.inl rfl) | exact Or.inr (Or.inr rfl)) (hd : (x == ("__debug__" : Str)) = false := by decide) (hcd : (x == ("__classdict__" : Str)) = false := by decide) (hpe : ∀ t, PA X [e] t → PE X (.Call (.Attribute (.Name x p1) "append" p2) [e] [] p3) (tBM X.K "list" rAppend (tVar i) t)) (hs : swapsWith (.Call (.Attribute (.Name x p1) "append" p2) [e] [] p3) none pos.line X.env = pure false := by rfl) (he : starEach [e] X.env = (false, eval e X.env) :: starEach [] X.env := by rfl) : VS X S R (.Expr (.Call (.Attribute (.Name x p1) "append" p2) [e] [] p3) pos) fr := by
  subst efr
  exact vs_app o h hN hv hd hcd hpe hs he
end
section
variable {Γ Γ1 Γ2 Γd S ρ : Type} [EnvR Γ] [EnvR Γ1] [EnvR Γ2] [EnvR Γd] [Md S] {α β τ : Type} [Rep α] [Rep β]
variable {X : Cx} {R : RR ρ} {e a b c : Expr} {pos : Pos} {i j : Nat}
theorem vs_par_ (p1 : Put i Γ α Γ1) (p2 : Put j Γ1 β Γ2) {x y : Str} {px py pt : Pos} {kt k2 pt2} {f : Γ → Option ((α × β × Unit) × Γ)} {fr : Γ → Option (Fl Γ2 S ρ)} (efr : spar (S := S) p1 p2 f = fr) (hc : X.calm = true) (hN : X.N.Nodup) (h : MA X [a, b] f) (hij : i ≠ j := by decide) (hi : X.N[i]? = some x := by rfl) (hj : X.N[j]? = some y := by rfl) (hx : X.env.scope.names.lookup x = some .local := by rfl) (hy : X.env.scope.names.lookup y = some .local := by rfl) (hw : swappedStores [.Tuple [.Name x px, .Name y py] kt pt] (.Tuple [a, b] k2 pt2) X.env = pure (some [x, y]) := by rfl) (hs : swapsWithSole [.Tuple [.Name x px, .Name y py] kt pt] (.Tuple [a, b] k2 pt2) pos.line X.env = pure false := by rfl) (ho : Md.okI S i = true := by rfl) (ho' : Md.okI S j = true := by rfl) : VS X S R (.Assign [.Tuple [.Name x px, .Name y py] kt pt] (.Tuple [a, b] k2 pt2) pos) fr := by
  subst efr
  exact vs_par p1 p2 hc hN h hij hi hj hx hy hw hs ho ho'
end
section
variable {Γ Γ1 Γ2 Γd S ρ : Type} [EnvR Γ] [EnvR Γ1] [EnvR Γ2] [EnvR Γd] [Md S] {α β τ : Type} [Rep α] [Rep β]
variable {X : Cx} {R : RR ρ} {e a b c : Expr} {pos : Pos} {i j : Nat}
theorem vs_set1_ (o : Own i Γ α Γd) {f : Γ → Option α} {g : Γ → Option Int} {x : Str} {p1 p2 : Pos} {fr : Γ → Option (Fl Γ S ρ)} (efr : sset1 (S := S) o g f = fr) (hv : VE X e f) (hg : VE X a g) (hN : X.N[i]? = some x := by rfl) (hvs : Vis X.env.scope x := by first | exact Or.inl rfl | exact Or.inr (Or.inl rfl) | exact Or.inr (Or.inr rfl)) (hd : (x == ("__debug__" : Str)) = false := by decide) (hcd : (x == ("__classdict__" : Str)) = false := by decide) (hs : swapsWithSole [.Subscript (.Name x p1) a p2] e pos.line X.env = pure false := by rfl) (hw : swappedStores [.Subscript (.Name x p1) a p2] e X.env = pure none := by rfl) (h1 : (assignEach [.Subscript (.Name x p1) a p2] X.env).map (·.2) = [assign (.Subscript (.Name x p1) a p2) X.env] := by rfl) (hasg : ∀ v, assign (.Subscript (.Name x p1) a p2) X.env v = (do
      let ov ← holding [v] (eval (.Name x p1) X.env)
      let iv ← holding [v, ov] (eval a X.env)
      standAt p2
      holding [v, ov, iv] (setItem ov iv v)
      release [v, ov, iv] []) := by intro _; rfl) : VS X S R (.Assign [.Subscript (.Name x p1) a p2] e pos) fr := by
  subst efr
  exact vs_set1 o hv hg hN hvs hd hcd hs hw h1 hasg
end
section
variable {Γ Γ1 Γ2 Γd S ρ : Type} [EnvR Γ] [EnvR Γ1] [EnvR Γ2] [EnvR Γd] [Md S] {α β τ : Type} [Rep α] [Rep β]
variable {X : Cx} {R : RR ρ} {e a b c : Expr} {pos : Pos} {i j : Nat}
theorem vs_dm_ (o : Own i Γ Int Γd) (pt : Put j Γ Int Γ1) {n : Int} {f : Γ → Option (Int × Int × Unit)} {x y : Str} {p1 p2 p3 p4 p5 p6 p7 : Pos} {kt jc} {fr : Γ → Option (Fl Γ1 S ρ)} (efr : sdm (S := S) o pt n f = fr) (hc : X.calm = true) (hNd : X.N.Nodup) (ha : VA X [a, b] f) (hm : X.mg "divmod" = none) (hg : Gl X "divmod" := by rfl) (hb : bootBuiltins "divmod" = some (.builtin "divmod") := by decide +kernel) (hN : X.N[i]? = some x := by rfl) (hvs : Vis X.env.scope x := by first | exact Or.inl rfl | exact Or.inr (Or.inl rfl) | exact Or.inr (Or.inr rfl)) (hd : (x == ("__debug__" : Str)) = false := by decide) (hcd : (x == ("__classdict__" : Str)) = false := by decide) (hj : X.N[j]? = some y := by rfl) (hy : Loc X.env.scope y := by first | exact Or.inl rfl | exact Or.inr rfl) (hf : X.fn y = true ∨ X.env.scope.names.lookup y = some .local := by first | exact .inl rfl | exact .inr rfl) (ho : Md.okI S j = true := by rfl) (he : starEach [a, b] X.env = (false, eval a X.env) :: starEach [b] X.env := by rfl) (hpl : (backTo p7 (starEach [b] X.env)).any (·.1) = false := by rfl) (hasg : ∀ v, assign (.Subscript (.Name x p1) (.Constant (.int n) jc p2) p3) X.env v = (do
      let ov ← holding [v] (eval (.Name x p1) X.env)
      let iv ← holding [v, ov] (eval (.Constant (.int n) jc p2) X.env)
      standAt p3
      holding [v, ov, iv] (setItem ov iv v)
      release [v, ov, iv] []) := by intro _; rfl) (hs1 : (assignEach [.Subscript (.Name x p1) (.Constant (.int n) jc p2) p3, .Name y p4] X.env).map (·.2) = assign (.Subscript (.Name x p1) (.Constant (.int n) jc p2) p3) X.env :: (assignEach [.Name y p4] X.env).map (·.2) := by rfl) (hs2 : (assignEach [.Name y p4] X.env).map (·.2) = assign (.Name y p4) X.env :: (assignEach [] X.env).map (·.2) := by rfl) (hln : (assignEach [.Subscript (.Name x p1) (.Constant (.int n) jc p2) p3, .Name y p4] X.env).length = 2 := by rfl) (hst : (assignEach [.Subscript (.Name x p1) (.Constant (.int n) jc p2) p3, .Name y p4] X.env).findIdx? (·.1) = none := by rfl) (hs : swapsWithSole [.Tuple [.Subscript (.Name x p1) (.Constant (.int n) jc p2) p3, .Name y p4] kt p5] (.Call (.Name "divmod" p6) [a, b] [] p7) pos.line X.env = pure false := by rfl) (hw : swappedStores [.Tuple [.Subscript (.Name x p1) (.Constant (.int n) jc p2) p3, .Name y p4] kt p5] (.Call (.Name "divmod" p6) [a, b] [] p7) X.env = pure none := by rfl) (h1 : (assignEach [.Tuple [.Subscript (.Name x p1) (.Constant (.int n) jc p2) p3, .Name y p4] kt p5] X.env).map (·.2) = [assign (.Tuple [.Subscript (.Name x p1) (.Constant (.int n) jc p2) p3, .Name y p4] kt p5) X.env] := by rfl) : VS X S R (.Assign [.Tuple [.Subscript (.Name x p1) (.Constant (.int n) jc p2) p3, .Name y p4] kt p5] (.Call (.Name "divmod" p6) [a, b] [] p7) pos) fr := by
  subst efr
  exact vs_dm o pt hc hNd ha hm hg hb hN hvs hd hcd hj hy hf ho he hpl hasg hs1 hs2 hln hst hs hw h1
end
section
variable {Γ : Type} [EnvR Γ] {β κ τ : Type} [Rep β] [Rep κ] [KeyOf κ] [Rep τ] {X : Cx} {a b : Expr} {pos : Pos} {i j : Nat}
variable {Γ1 Γ2 : Type} [EnvR Γ1] [EnvR Γ2] {α1 α2 : Type} [Rep α1] [Rep α2]
variable {kx vx iter : Expr} {scope : Scope} {tpos px py : Pos} {x y : Str} {k0 : Nat}
theorem ve_dc_ (p1 : Put i Γ α1 Γ1) (p2 : Put j Γ1 α2 Γ2) {g : Γ → Option (List (T2 α1 α2))} {kf : Γ2 → Option κ} {vf : Γ2 → Option β} {fr : Γ → Option (Dct β)} (efr : fdc p1 p2 g kf vf = fr) (hc : X.calm = true) (hN : X.N.Nodup) (hi : VI X (.Tuple [.Name x px, .Name y py] k0 tpos) iter g) (ok : blkC X.N X.env.scope scope [(x, i), (y, j)] = true) (hg : ∀ (s : Shared) (H : Hp) (C : Addr) (cl : List (Str × Addr)) (fp : List Addr), PG (X.blk s H scope (compEnvC scope cl C X.env) fp) (.Tuple [.Name x px, .Name y py] k0 tpos) (gPair X.K i j)) (hk : ∀ (s : Shared) (H : Hp) (C : Addr) (cl : List (Str × Addr)) (fp : List Addr), VE (X.blk s H scope (compEnvC scope cl C X.env) fp) kx kf) (hv : ∀ (s : Shared) (H : Hp) (C : Addr) (cl : List (Str × Addr)) (fp : List Addr), VE (X.blk s H scope (compEnvC scope cl C X.env) fp) vx vf) (hij : i ≠ j := by decide) (hs : ∀ x, foldedSetIterable iter X.env x = pure x := by intro _; rfl) : VE X (.DictComp kx vx [⟨.Tuple [.Name x px, .Name y py] k0 tpos, iter, [], 0⟩] scope pos) fr := by
  subst efr
  exact ve_dc p1 p2 hc hN hi ok hg hk hv hij hs
end
section
variable {Γ Γ' S ρ : Type} [EnvR Γ] [EnvR Γ'] [Md S] {β κ : Type} [Rep β] [Rep κ] [KeyOf κ]
variable {X : Cx} {R : RR ρ} {e a b c : Expr} {pos : Pos} {i : Nat}
theorem vs_newD_ (pt : PutD i Γ β Γ') {x : Str} {pos' dpos : Pos} {g : Γ → Option κ} {f : Γ → Option β} {fr : Γ → Option (Fl Γ' S ρ)} (efr : snewD (S := S) pt g f = fr) (hN : X.N.Nodup) (h1 : VE X a g) (h2 : VE X b f) (hi : X.N[i]? = some x := by rfl) (hx : Loc X.env.scope x := by first | exact Or.inl rfl | exact Or.inr rfl) (ho : Md.okI S i = true := by rfl) (hs : swapsWith (.Dict [some a] [b] dpos) (some (.Name x pos')) pos.line X.env = pure false := by rfl) (hf : X.fn x = true ∨ X.env.scope.names.lookup x = some .local := by first | exact .inl rfl | exact .inr rfl) : VS X S R (.Assign [.Name x pos'] (.Dict [some a] [b] dpos) pos) fr := by
  subst efr
  exact vs_newD pt hN h1 h2 hi hx ho hs hf
end
section
variable {Γ Γ' S ρ : Type} [EnvR Γ] [EnvR Γ'] [Md S] {β κ : Type} [Rep β] [Rep κ] [KeyOf κ]
variable {X : Cx} {R : RR ρ} {e a b c : Expr} {pos : Pos} {i : Nat}
theorem vs_dput_ (o : OwnD i Γ β) {x : Str} {p1 p2 : Pos} {g : Γ → Option κ} {f : Γ → Option β} {fr : Γ → Option (Fl Γ S ρ)} (efr : sdput (S := S) o g f = fr) (hu : X.A.units + 1 < cLine) (hk : VE X a g) (hv : VE X e f) (hN : X.N[i]? = some x := by rfl) (hvs : Vis X.env.scope x := by first | exact Or.inl rfl | exact Or.inr (Or.inl rfl) | exact Or.inr (Or.inr rfl)) (hd : (x == ("__debug__" : Str)) = false := by decide) (hcd : (x == ("__classdict__" : Str)) = false := by decide) (hs : swapsWith e (some (.Subscript (.Name x p1) a p2)) pos.line X.env = pure false := by rfl) : VS X S R (.Assign [.Subscript (.Name x p1) a p2] e pos) fr := by
  subst efr
  exact vs_dput o hu hk hv hN hvs hd hcd hs
end
section
variable {Γ Γ' S ρ : Type} [EnvR Γ] [EnvR Γ'] [Md S] {β κ : Type} [Rep β] [Rep κ] [KeyOf κ]
variable {X : Cx} {R : RR ρ} {e a b c : Expr} {pos : Pos} {i : Nat}
theorem vf_keys_ (κ : Type) [Rep κ] [KeyOf κ] (o : OwnD i Γ β) {x : Str} {p1 p2 : Pos} {fr : Γ → Option (List κ)} (efr : fkeys κ o = fr) (hc : X.calm = true) (hm : X.mg "list" = none) (hN : X.N[i]? = some x := by rfl) (hvs : Vis X.env.scope x := by first | exact Or.inl rfl | exact Or.inr (Or.inl rfl) | exact Or.inr (Or.inr rfl)) (hd : (x == ("__debug__" : Str)) = false := by decide) (hcd : (x == ("__classdict__" : Str)) = false := by decide) (hg : Gl X "list" := by rfl) (hb : bootBuiltins "list" = some (.type "list") := by decide +kernel) (he : starEach [.Name x p1] X.env = (false, eval (.Name x p1) X.env) :: starEach [] X.env := by rfl) (hpl : (backTo pos (starEach [] X.env)).any (·.1) = false := by rfl) : VF X (.Call (.Name "list" p2) [.Name x p1] [] pos) fr := by
  subst efr
  exact vf_keys κ o hc hm hN hvs hd hcd hg hb he hpl
end
section
variable {Γ Γh Γe S ρ τ : Type} [EnvR Γ] [EnvR Γh] [EnvR Γe] [Md S] [Rep τ] {X : Cx} {R : RR ρ} {target iter : Expr} {body : List Stmt} {pos : Pos} {i : Nat}
theorem vs_forn (w : Wk Γ Γh) (p : Put i Γh τ Γe) {g : Γ → Option (List τ)} {f : Γe → Option (Fl Γh S ρ)} {fr : Γ → Option (Fl Γh S ρ)} (efr : sfor (S := S) w p.put g f = fr) (hp : PassesOwn (model X.prog X.w) X.A X.env X.xe) (hc : X.calm = true) (hi : VI X target iter g) (hg : PG X target (gName i)) (hb : VSs X S R body f)
    (ho : Md.okI S i = true := by rfl) (hs : ∀ x, foldedSetIterable iter X.env x = pure x := by intro _; rfl) : VS X S R (.For target iter body [] pos) fr := by
  subst efr
  exact vs_for w (tgName p ho) hp hc hi hg hb hs
theorem vs_fornM (w : Wk Γ Γh) (p : Put i Γh τ Γe) {g : Γ → Option (List τ × Γ)} {f : Γe → Option (Fl Γh S ρ)} {fr : Γ → Option (Fl Γh S ρ)} (efr : sform (S := S) w p.put g f = fr) (hp : PassesOwn (model X.prog X.w) X.A X.env X.xe) (hc : X.calm = true) (hi : MI X target iter g) (hg : PG X target (gName i)) (hb : VSs X S R body f)
    (ho : Md.okI S i = true := by rfl) (hs : ∀ x, foldedSetIterable iter X.env x = pure x := by intro _; rfl) : VS X S R (.For target iter body [] pos) fr := by
  subst efr
  exact vs_forM w (tgName p ho) hp hc hi hg hb hs
end
section
variable {Γ Γh Γ1 Γe S ρ α β : Type} [EnvR Γ] [EnvR Γh] [EnvR Γ1] [EnvR Γe] [Md S] [Rep α] [Rep β] {X : Cx} {R : RR ρ} {target iter : Expr} {body : List Stmt} {pos : Pos} {i j : Nat}
theorem vs_forp (w : Wk Γ Γh) (p1 : Put i Γh α Γ1) (p2 : Put j Γ1 β Γe) {g : Γ → Option (List (T2 α β))} {f : Γe → Option (Fl Γh S ρ)} {fr : Γ → Option (Fl Γh S ρ)} (efr : sfor (S := S) w (fun γ t => p2.put (p1.put γ t.a) t.b) g f = fr) (hp : PassesOwn (model X.prog X.w) X.A X.env X.xe) (hc : X.calm = true) (hi : VI X target iter g) (hg : PG X target (gPair X.K i j)) (hb : VSs X S R body f)
    (ho : Md.okI S i = true := by rfl) (ho' : Md.okI S j = true := by rfl) (hs : ∀ x, foldedSetIterable iter X.env x = pure x := by intro _; rfl) : VS X S R (.For target iter body [] pos) fr := by
  subst efr
  exact vs_for w (tgPair p1 p2 ho ho') hp hc hi hg hb hs
end
end Vx
namespace Vx
open Rep (rep)
open EnvR (er)
open PySem PySem.Spec PyProof.Rows L2
end Vx
namespace Vx
open Rep (rep)
open EnvR (er)
open PySem PySem.Spec PyProof.Rows L2
section
variable {P : Program} {w : World} {K : PySem.W.Frag} {mg mB : Str → Option Value} {k : Nat} {fl pa : Addr} {fd : FuncData} {x : Str} {s0 : Shared} {us : List Value} {zs : List Int} {m : Scr × Unit → Option Bool}
/-- the script's cell is all that is followed -/
theorem end_core (kin : K.In s0.heap) (n1 : s0.heap.Ns mainGlobals mg) (n2 : s0.heap.Ns builtinsNs mB) (n3 : ∀ y : Str, y ≠ "__name__" → mB y = bootBuiltins y) (n4 : s0.heap.NoLimit) (n5 : s0.gens = #[])
    (cell : s0.heap.get? pa = some { cls := .type "list", data := .seq us.toArray }) (room : Room k callerA) (Fn : ∀ b : Heap, K.In b → b.Ns mainGlobals mg → GnOk P w K mg b k fl fd [x] (spF K m))
    (bnd : ∀ (s : Shared) (u : Value), BindsTo s fd ⟨[u], []⟩ [(x, u)]) (ans : m (⟨zs⟩, ()) = some true) {T : Hp} (t1 : Only T) (t2 : SqL K T pa (zs.map V.int)) (t3 : HOk P w T s0.heap) (t4 : ∀ b, T b ≠ none → b = pa) (t5 : T pa ≠ none → K.lookup pa = none) :
    codeAny (model P w) callerA (.call (.ref fl) ⟨[.ref pa], []⟩) (fun r s' => r = .ok (.ret (.bool true)) ∧ OldK s0.heap s'.heap ∧ s'.os = s0.os ∧ AllBare s'.gens) s0 := by
  have only : ∀ {b : Addr}, T b ≠ none → b = pa := fun {b} => t4 b
  have free : ∀ {b : Addr} {o : Obj} {es : Array DictEntry} {ep : Nat}, s0.heap.get? b = some o → o.data = .dict es ep → T b = none := by
    intro b o es ep e d
    by_cases q : T b = none
    · exact q
    · have z := only q
      subst z
      rw [cell] at e
      cases e
      have d' : Data.seq us.toArray _ = Data.dict es ep := d
      cases d'
  have names : ∀ {b : Addr} {g : Str → Option Value}, s0.heap.Ns b g → (hidT s0.heap T).Ns b g := by
    intro b g ⟨o, es, ep, e, d, r⟩
    exact ⟨o, es, ep, hidT_get e (free e d), d, r⟩
  have kinT : K.In (hidT s0.heap T) := by
    intro b o e
    refine hidT_get (kin b o e) ?_
    by_cases q : T b = none
    · exact q
    · have z := only q
      subst z
      rw [t5 q] at e
      cases e
  have lim : (hidT s0.heap T).NoLimit := by
    obtain ⟨c, h1, h2⟩ := n4
    exact ⟨c, names h1, h2⟩
  have md : Mod K mg (hidT s0.heap T) := ⟨kinT, names n1, ⟨mB, names n2, n3⟩, lim⟩
  have ev : Env0 P w K mg (hidT s0.heap T) callerA [] s0 T := by
    refine ⟨rfl, md, fun b o e => of_hidT e, Nat.le_of_eq (hidT_size _ _), trivial, fun b hb => ?_, t3, .of_eq n5⟩
    exact absurd (show b ∈ ([] : List Addr) from hb) (by simp)
  have ask : spF K m [.ref pa] T (fun v _ => v = .bl true) E0 := by
    refine ⟨fun _ => none, T, (⟨zs⟩, ()), true, ⟨Ex.refl T, (fun a o h => by cases (show (none : Option HO) = some o from h)), (fun a o h => by cases (show (none : Option HO) = some o from h))⟩, ⟨.ref pa, [], rfl, ⟨pa, rfl, t2⟩, rfl⟩, ans, ?_⟩
    intro v G2 H2 _ _ r
    exact r
  have go := (Fn _ kinT (names n1)).run callerA [] s0 T ⟨[.ref pa], []⟩ [.ref pa] [.ref pa] _ rfl room ev (bnd s0 (.ref pa)) (.cons rfl .nil) ask
  refine codeAny_mono go ?_
  intro r s' h
  cases r with
  | error e => exact (show False from h).elim
  | ok f =>
    cases f with
    | next => exact (show False from h).elim
    | brk => exact (show False from h).elim
    | cont => exact (show False from h).elim
    | ret u =>
      obtain ⟨v, T', h1, h2, un, hok', h3, h4⟩ := h
      have e4 : v = .bl true := h4
      subst e4
      have e5 : u = Value.bool true := h3
      subst e5
      refine ⟨rfl, OldK.of_keep ?_, h1, h2⟩
      intro b o e
      by_cases q : T b = none
      · exact un.keep b o e q (by intro z; exact absurd (show b ∈ ([] : List Addr) from z) (by simp)) (by simp)
      · rcases t1 b with z | ⟨ob, xs, z⟩
        · exact absurd z q
        · have e1 := (t3 b _ z).1
          have e2 := (hok' b _ (un.frzs b ob _ z)).1
          rw [e] at e1
          cases e1
          exact e2
theorem end_call (kin : K.In s0.heap) (n1 : s0.heap.Ns mainGlobals mg) (n2 : s0.heap.Ns builtinsNs mB) (n3 : ∀ y : Str, y ≠ "__name__" → mB y = bootBuiltins y) (n4 : s0.heap.NoLimit) (n5 : s0.gens = #[])
    (cell : s0.heap.get? pa = some { cls := .type "list", data := .seq us.toArray }) (hints : IntsAre us zs) (few : zs.length ≤ sizeLine) (room : Room k callerA) (Fn : ∀ b : Heap, K.In b → b.Ns mainGlobals mg → GnOk P w K mg b k fl fd [x] (spF K m))
    (bnd : ∀ (s : Shared) (u : Value), BindsTo s fd ⟨[u], []⟩ [(x, u)]) (ans : m (⟨zs⟩, ()) = some true) :
    codeAny (model P w) callerA (.call (.ref fl) ⟨[.ref pa], []⟩) (fun r s' => r = .ok (.ret (.bool true)) ∧ OldK s0.heap s'.heap ∧ s'.os = s0.os ∧ AllBare s'.gens) s0 := by
  have rel := vals_ints hints
  have len := hints.length
  cases at_ : K.lookup pa with
  | some o =>
    have e := kin pa o at_
    rw [cell] at e
    cases e
    refine end_core (T := fun _ => none) kin n1 n2 n3 n4 n5 cell room Fn bnd ans (fun _ => .inl rfl) (.inr ⟨_, us.toArray, _, at_, rfl, rfl, rfl, ?_, by simpa using rel⟩) (fun b u z => by cases (show (none : Option HO) = some u from z)) (fun b z => absurd rfl z) (fun z => absurd rfl z)
    rw [List.size_toArray, len]
    exact few
  | none =>
    let T : Hp := fun b => if b = pa then some (.frz { cls := .type "list", data := .seq us.toArray } (.lst (zs.map V.int))) else none
    have Ty : T pa = some (.frz { cls := .type "list", data := .seq us.toArray } (.lst (zs.map V.int))) := if_pos rfl
    have Tn : ∀ b, b ≠ pa → T b = none := fun b hb => if_neg hb
    refine end_core (T := T) kin n1 n2 n3 n4 n5 cell room Fn bnd ans (fun b => ?_) (.inl (.inr ⟨_, Ty⟩)) (fun b u z => ?_) (fun b z => ?_) (fun _ => at_)
    · by_cases hb : b = pa
      · subst hb
        exact .inr ⟨_, _, Ty⟩
      · exact .inl (Tn b hb)
    · by_cases hb : b = pa
      · subst hb
        rw [Ty] at z
        cases z
        exact ⟨cell, by rw [List.length_map]; exact few, us, _, rel, cell⟩
      · rw [Tn b hb] at z
        cases z
    · by_cases hb : b = pa
      · exact hb
      · exact absurd (Tn b hb) z
end
/-- the law by its mirror -/
theorem vwalk {l : PySem.W.OpenLaw} {n k : Nat} {q : Program} {loose : List Str} {XP : (Str → Option Value) → Heap → Prop} {YP : World → Heap → Prop} {d : DefRec} {K : Params → PySem.W.Frag} {x : Str} {m : Scr × Unit → Option Bool}
    (h1 : l.most = some n) (h2 : n ≤ sizeLine) (h3 : d.params.defaults = []) (room : Room k callerA) (hY : ∀ (w : World) (h : Heap), YP w h → (K w.params).In h)
    (F : ∀ (w : World) (mg : Str → Option Value) (fa : Addr) (h : Heap), (K w.params).In h → h.Ns mainGlobals mg → mg d.name = some (.ref fa) → ∃ fd : FuncData, (∀ (s : Shared) (u : Value), BindsTo s fd ⟨[u], []⟩ [(x, u)]) ∧
      ∀ b : Heap, (K w.params).In b → b.Ns mainGlobals mg → GnOk l.prog w (K w.params) mg b k fa fd [x] (spF (K w.params) m))
    (ans : ∀ zs : List Int, zs.length ≤ n → m (⟨zs⟩, ()) = some true) : PySem.W.WalkO q loose XP YP l.row.toRowW d [] (fun f vs => PySem.call f vs) := by
  refine Att.attach_call h1 h3 ?_
  intro w s₀ s₁ mg mb fa o pm cd doc a vs ns G Y ho hd hcd hmg hobj hints hlen hg
  have kin := hY w _ Y
  obtain ⟨fd, hb, hF⟩ := F w mg fa _ kin G.T.g hmg
  exact end_call kin G.T.g G.T.b G.T.builtins G.T.nolimit hg hobj hints (Nat.le_trans hlen h2) room hF hb (ans ns hlen)
end Vx
/-! objects: made, asked by a property, by a method; the defs beneath keep their promise where no repr is under way -/
namespace Vx
open Rep (rep)
open EnvR (er)
open PySem PySem.Spec PyProof.Rows L2
section
variable {X : Cx} {k : Nat} {f g C q : Addr} {fd : FuncData} {ps : List Str} {sp : Sp} {x m : Str} {p pos apos : Pos} {e o : Expr} {es : List Expr} {t : TA} {ta : TE}
theorem ge_make (M : Mk X.K C f) (F : GnOk X.prog X.w X.K X.mg X.base k f fd ps sp) (hgd : X.A.guards = some []) (hr : Room (k + 1) X.A) (hm : X.mg x = some (.ref C)) (hb : Binds X.K fd ps []) (ha : PA X (e :: es) t) (hg : Gl X x := by rfl)
    (hdb : (x == ("__debug__" : Str)) = false := by decide) (he : starEach (e :: es) X.env = (false, eval e X.env) :: starEach es X.env := by rfl) (hpl : (backTo pos (starEach es X.env)).any (·.1) = false := by rfl) :
    PE X (.Call (.Name x p) (e :: es) [] pos) (fun σ H Q => t σ H fun vs H1 => ∀ y dx, H1 y = none → H1 dx = none → dx ≠ y → sp (.ref y :: vs) (upd (upd H1 dx (.own y)) y (.ins C dx [])) (fun v H2 => v = .non ∧ Q (.ref y) H2) E0) := by
  constructor
  intro pins s σ H Q I h
  apply wpAny_Call_Name_kw
  apply ld_glob I hg hm (hd := hdb)
  refine PySem.W.callWith_K (h₀ := X.base) I.ok.mod.kin M.kp (thn (ha.run pos pins s σ H _ I h) ?_) he hpl
  intro us s1 ⟨vs, H1, I1, r, h1⟩
  constructor
  · exact I1.kIn
  have want := h1 (s1.heap.objs.size + 1) s1.heap.objs.size (I1.hok.fresh (Nat.le_succ _)) (I1.hok.fresh (Nat.le_refl _)) (Nat.ne_of_lt (Nat.lt_succ_self _))
  have I2 := Inv.made (C := C) I1
  have r2 : Vals (V.ref (s1.heap.objs.size + 1) :: vs) (Value.ref (s1.heap.objs.size + 1) :: us) := .cons rfl r
  have hl : (Value.ref (s1.heap.objs.size + 1) :: us).length = ps.length := by
    rw [← r2.length]
    exact F.len _ _ _ _ want
  have bt := hb _ (Value.ref (s1.heap.objs.size + 1) :: us) I2.kIn (by rw [List.append_nil]; exact hl)
  rw [List.append_nil] at bt
  apply wpAny_call
  refine make_map (f := f) I1.kIn M.makes M.init (beq_iff_eq.mp M.fn) (codeAny_mono (F.run _ X.stack _ _ ⟨Value.ref (s1.heap.objs.size + 1) :: us, []⟩ _ _ _ hgd (hr.make C us []) (I2.env0.make C us []) bt r2 want) ?_)
  intro r s' z
  cases r with
  | error _ => exact (show False from z).elim
  | ok fl =>
    cases fl with
    | ret u =>
      obtain ⟨v, H', I3, rv, ev, q3⟩ := I2.after z
      subst ev
      exact ⟨rv, V.ref (s1.heap.objs.size + 1), H', I3, rfl, q3⟩
    | next => exact (show False from z).elim
    | brk => exact (show False from z).elim
    | cont => exact (show False from z).elim
theorem ge_prop (he : PE X e ta) (c : Cls X.K C) (hp : PropOf X.K C m q g) (F : GnOk X.prog X.w X.K X.mg X.base k g fd ps sp) (hgd : X.A.guards = some []) (hr : Room (k + 1) X.A) (hb : Binds X.K fd ps []) (hab : attributeBase e m X.env (eval e X.env) = eval e X.env := by rfl) :
    PE X (.Attribute e m pos) (fun σ H Q => ta σ H fun v H1 => ∃ a dx fs, v = .ref a ∧ H1 a = some (.ins C dx fs) ∧ sp [.ref a] H1 Q E0) := by
  constructor
  intro pins s σ H Q I h
  refine attr_of hab (thn (he.run pins s σ H _ I h) ?_)
  intro u s1 ⟨v, H1, I0, rx, a, dx, fs, ex, ea, want⟩
  subst ex
  have eu : u = Value.ref a := rx
  subst eu
  obtain ⟨mA, O, _⟩ := ins_get I0.hok ea
  obtain ⟨od, J, _⟩ := O.look
  obtain ⟨rest, hrec⟩ := hp.rec_
  have I1 := I0.tok (s1.toks + 1)
  have hl : [Value.ref a].length = ps.length := by
    have := F.len _ _ _ _ want
    exact this
  have hc : (PySem.W.clsIn X.K C).isSome = true := by
    obtain ⟨cd, hc, _⟩ := PySem.W.any_some c.hd
    rw [hc]
    rfl
  have bt := hb { s1 with toks := s1.toks + 1 } [.ref a] I1.kIn (by rw [List.append_nil]; exact hl)
  rw [List.append_nil] at bt
  refine PySem.W.get_bind I0.kIn J (PySem.W.plainGet_of (c.get m)).1 (PySem.W.findObj_data hc hp.at_ hp.get hp.tak) (PySem.W.plainGet_of (c.get m)).2 (wpAny_call (PySem.W.prop_get (s := { s1 with toks := s1.toks + 1 }) I0.kIn hrec ?_))
  refine codeAny_mono (F.run X.A.in1 X.stack { s1 with toks := s1.toks + 1 } H1 ⟨[.ref a], []⟩ [.ref a] [.ref a] _ hgd hr.in1 I1.env0.in1 bt (.cons rfl .nil) want) ?_
  intro r s' z
  cases r with
  | error _ => exact (show False from z).elim
  | ok fl =>
    cases fl with
    | ret u =>
      obtain ⟨w', H', I3, rv, q3⟩ := I1.after z
      show wpAny _ _ (handedOut u) _ _ _
      rw [PySem.W.handedOut_of (handed_of rv)]
      exact wpAny_pure ⟨w', H', I3, rv, q3⟩
    | next => exact (show False from z).elim
    | brk => exact (show False from z).elim
    | cont => exact (show False from z).elim
theorem ge_meth {pl : Sem Bool} (he : PE X o ta) (c : Cls X.K C) (hm : Meth X.K C m f) (F : GnOk X.prog X.w X.K X.mg X.base k f fd ps sp) (hgd : X.A.guards = some []) (hr : Room k X.A) (hb : Binds X.K fd ps []) (ha : PA X (e :: es) t)
    (hst : starEach (e :: es) X.env = (false, eval e X.env) :: starEach es X.env := by rfl) (hpl : (backTo pos (starEach es X.env)).any (·.1) = false := by rfl)
    (ht : eval (.Call (.Attribute o m apos) (e :: es) [] pos) X.env = (do
      let ov ← eval o X.env
      standAt apos.atName
      let (fn, first) ← holding [ov] (getMethod ov m pl)
      callWith pos fn first (backTo pos (starEach (e :: es) X.env)) (backToKw pos (keywordEach [] X.env))) := by rfl) :
    PE X (.Call (.Attribute o m apos) (e :: es) [] pos) (fun σ H Q => ta σ H fun v H1 => ∃ a dx fs, v = .ref a ∧ H1 a = some (.ins C dx fs) ∧ fs.lookup m = none ∧ t σ H1 fun vs H2 => sp (.ref a :: vs) H2 Q E0) := by
  constructor
  intro pins s σ H Q I h
  refine PySem.W.methodCall_KW (pl := pl) (thn (he.run pins s σ H _ I h) ?_) ht
  intro u s1 ⟨v, H1, I1, rx, a, dx, fs, ex, ea, l, h1⟩
  subst ex
  have eu : u = Value.ref a := rx
  subst eu
  refine getmeth_ok I1 ea c hm l ?_
  refine PySem.W.callWith_K (first := [.ref a]) (h₀ := X.base) I.ok.mod.kin hm.kp (thn (ha.run pos pins s1 σ H1 _ I1 h1) ?_) hst hpl
  intro us s2 ⟨vs, H2, I2, r, want⟩
  constructor
  · exact I2.kIn
  have r2 : Vals (V.ref a :: vs) (Value.ref a :: us) := .cons rfl r
  have hl : (Value.ref a :: us).length = ps.length := by
    rw [← r2.length]
    exact F.len _ _ _ _ want
  have bt := hb s2 (Value.ref a :: us) I2.kIn (by rw [List.append_nil]; exact hl)
  rw [List.append_nil] at bt
  apply wpAny_call
  apply codeAny_mono (g_run F hgd hr bt I2 r2 want)
  intro r s' z
  cases r with
  | error _ => exact z.elim
  | ok fl => cases fl <;> first | exact z | exact z.elim
end
end Vx
/-! closers, as they stand in the heap -/
namespace Vx
open Rep (rep)
open EnvR (er)
open PySem PySem.Spec PyProof.Rows L2
structure Clo where
  things : Str
  closed : Tup Str
  around : List (Key × Str)
def ClsAt (K : PySem.W.Frag) (C : Addr) : Prop := PySem.W.nsIn K mainGlobals "Closer" = some (some (.ref C))
theorem ClsAt.one {K : PySem.W.Frag} {C C' : Addr} (h : ClsAt K C) (k : ClsAt K C') : C = C' := by
  unfold ClsAt at h k
  rw [h] at k
  cases k
  rfl
/-- the fields, as __init__ lays them -/
def cfl (a b c : V) : List (Str × V) := putF "_around" c (putF "_closed" b (putF "_things" a []))
theorem cf_ne1 : ¬ (("_things" : Str) = "_closed") := by decide +kernel
theorem cf_ne2 : ¬ (("_things" : Str) = "_around") := by decide +kernel
theorem cfl_t (a b c : V) : (cfl a b c).lookup ("_things" : Str) = some a := by
  unfold cfl
  rw [lookup_putF, if_neg cf_ne2, lookup_putF, if_neg cf_ne1, lookup_putF, if_pos rfl]
theorem cfl_a (a b c : V) : (cfl a b c).lookup ("_around" : Str) = some c := by
  unfold cfl
  rw [lookup_putF, if_pos rfl]
theorem cfl_no (a b c : V) {m : Str} (h1 : ¬ m = "_things") (h2 : ¬ m = "_closed") (h3 : ¬ m = "_around") : (cfl a b c).lookup m = none := by
  unfold cfl
  rw [lookup_putF, if_neg h3, lookup_putF, if_neg h2, lookup_putF, if_neg h1]
  rfl
instance : Rep Clo := ⟨fun K G c v => ∃ p C dx vc va, v = .ref p ∧ ClsAt K C ∧ G p = some (.ins C dx (cfl (.str c.things) vc va)) ∧ Rep.rep K G c.closed vc ∧ Rep.rep K G (⟨c.around⟩ : Dct Str) va,
  fun e ⟨p, C, dx, vc, va, h1, h2, h3, h4, h5⟩ => ⟨p, C, dx, vc, va, h1, h2, e _ _ h3, Rep.mono e h4, Rep.mono e h5⟩⟩
section
variable {Γ : Type} [EnvR Γ] {X : Cx} {e : Expr} {pos : Pos} {C : Addr}
theorem ve_fT {f : Γ → Option Clo} (h : VE X e f) (at_ : ClsAt X.K C) (c : Cls X.K C) (n : NoAttr X.K C "_things") (hb : attributeBase e "_things" X.env (eval e X.env) = eval e X.env := by rfl) : VE X (.Attribute e "_things" pos) (f1 (fun c => some c.things) f) :=
  PE.le (pe_fld h hb) fun σ H Q ⟨F, G, L, γ, z, w, he, ea, q⟩ => by
    unfold f1 at ea
    cases e1 : f γ with
    | none => rw [e1] at ea; cases ea
    | some y =>
      rw [e1] at ea
      cases ea
      refine ⟨F, G, L, γ, y, w, he, e1, fun v G2 H2 x2 w2 ⟨p, C', dx, vc, va, h1, h2, h3, h4, h5⟩ => ?_⟩
      have := at_.one h2
      subst this
      exact ⟨p, C, dx, _, _, h1, w2.g _ _ h3, c, n, cfl_t _ _ _, q _ G2 H2 x2 w2 rfl⟩
theorem ve_fA {f : Γ → Option Clo} (h : VE X e f) (at_ : ClsAt X.K C) (c : Cls X.K C) (n : NoAttr X.K C "_around") (hb : attributeBase e "_around" X.env (eval e X.env) = eval e X.env := by rfl) : VE X (.Attribute e "_around" pos) (f1 (fun c => some (⟨c.around⟩ : Dct Str)) f) :=
  PE.le (pe_fld h hb) fun σ H Q ⟨F, G, L, γ, z, w, he, ea, q⟩ => by
    unfold f1 at ea
    cases e1 : f γ with
    | none => rw [e1] at ea; cases ea
    | some y =>
      rw [e1] at ea
      cases ea
      refine ⟨F, G, L, γ, y, w, he, e1, fun v G2 H2 x2 w2 ⟨p, C', dx, vc, va, h1, h2, h3, h4, h5⟩ => ?_⟩
      have := at_.one h2
      subst this
      exact ⟨p, C, dx, _, _, h1, w2.g _ _ h3, c, n, cfl_a _ _ _, q _ G2 H2 x2 w2 h5⟩
variable {ρ A : Type} [Rep ρ] [RepL A] {k : Nat} {g pq fm : Addr} {fd : FuncData} {ps : List Str} {m : Str}
/-- a property, by its mirror -/
theorem ve_prop {f : Γ → Option Clo} {mi : Clo × Unit → Option ρ} (h : VE X e f) (at_ : ClsAt X.K C) (c : Cls X.K C) (hp : PropOf X.K C m pq g) (F : GnOk X.prog X.w X.K X.mg X.base k g fd ps (spF X.K mi)) (hgd : X.A.guards = some []) (hr : Room (k + 1) X.A) (hb : Binds X.K fd ps [])
    (hab : attributeBase e m X.env (eval e X.env) = eval e X.env := by rfl) : VE X (.Attribute e m pos) (f1 (fun c => mi (c, ())) f) :=
  PE.le (ge_prop h c hp F hgd hr hb hab) fun σ H Q ⟨F, G, L, γ, z, w, he, ea, q⟩ => by
    unfold f1 at ea
    cases e1 : f γ with
    | none => rw [e1] at ea; cases ea
    | some y =>
      rw [e1] at ea
      refine ⟨F, G, L, γ, y, w, he, e1, fun v G2 H2 x2 w2 r2 => ?_⟩
      obtain ⟨p, C', dx, vc, va, h1, h2, h3, h4, h5⟩ := id r2
      have := at_.one h2
      subst this
      subst h1
      exact ⟨p, dx, _, rfl, w2.g _ _ h3, F, G2, (y, ()), z, w2, ⟨_, [], rfl, r2, rfl⟩, ea, fun v G3 H3 x3 w3 r3 => q v G3 H3 (x2.trans x3) w3 r3⟩
/-- a method, by its mirror -/
theorem ve_meth {o e : Expr} {es : List Expr} {apos : Pos} {pl : Sem Bool} {f : Γ → Option Clo} {ga : Γ → Option A} {mi : Clo × A → Option ρ} (h : VE X o f) (at_ : ClsAt X.K C) (c : Cls X.K C) (hm : Meth X.K C m fm) (F : GnOk X.prog X.w X.K X.mg X.base k fm fd ps (spF X.K mi)) (hgd : X.A.guards = some []) (hr : Room k X.A) (hb : Binds X.K fd ps []) (ha : VA X (e :: es) ga)
    (n1 : ¬ m = "_things") (n2 : ¬ m = "_closed") (n3 : ¬ m = "_around")
    (hst : starEach (e :: es) X.env = (false, eval e X.env) :: starEach es X.env := by rfl) (hpl : (backTo pos (starEach es X.env)).any (·.1) = false := by rfl)
    (ht : eval (.Call (.Attribute o m apos) (e :: es) [] pos) X.env = (do
      let ov ← eval o X.env
      standAt apos.atName
      let (fn, first) ← holding [ov] (getMethod ov m pl)
      callWith pos fn first (backTo pos (starEach (e :: es) X.env)) (backToKw pos (keywordEach [] X.env))) := by rfl) : VE X (.Call (.Attribute o m apos) (e :: es) [] pos) (f1 mi (fcons f ga)) :=
  PE.le (ge_meth h c hm F hgd hr hb ha hst hpl ht) fun σ H Q ⟨F, G, L, γ, z, w, he, ea, q⟩ => by
    unfold f1 fcons at ea
    cases e1 : f γ with
    | none => rw [e1] at ea; cases ea
    | some y =>
      rw [e1] at ea
      simp only [Option.bind_some] at ea
      cases e2 : ga γ with
      | none => rw [e2] at ea; cases ea
      | some a =>
        rw [e2] at ea
        simp only [Option.bind_some] at ea
        refine ⟨F, G, L, γ, y, w, he, e1, fun v G2 H2 x2 w2 r2 => ?_⟩
        obtain ⟨p, C', dx, vc, va, h1, h2, h3, h4, h5⟩ := id r2
        have := at_.one h2
        subst this
        subst h1
        refine ⟨p, dx, _, rfl, w2.g _ _ h3, cfl_no _ _ _ n1 n2 n3, F, G2, L, γ, a, w2, EnvR.mono x2 he, e2, fun vs G3 H3 x3 w3 r3 => ?_⟩
        exact ⟨F, G3, (y, a), z, w3, ⟨_, vs, rfl, Rep.mono x3 r2, r3⟩, ea, fun v G4 H4 x4 w4 r4 => q v G4 H4 ((x2.trans x3).trans x4) w4 r4⟩
end
end Vx
/-! closers in the making -/
namespace Vx
open Rep (rep)
open EnvR (er)
open PySem PySem.Spec PyProof.Rows L2
/-- the object that __init__ is handed, its fields as far as they are set -/
structure OI0 where
  p : Addr
structure OI1 where
  p : Addr
  things : Str
structure OI2 where
  p : Addr
  things : Str
  closed : Tup Str
structure OI3 where
  p : Addr
  c : Clo
theorem in_one {L : List Addr} {p q : Addr} (h : L = [p]) (hq : q ∈ L) : q = p := by
  rw [h] at hq
  exact List.mem_singleton.mp hq
instance : Slot OI0 := ⟨fun K G F L o t => ∃ C dx, L = [t.p] ∧ o = some (.ref t.p) ∧ ClsAt K C ∧ F t.p = some (.ins C dx []), fun _ h => h, fun {K G F F' L o t} k ⟨C, dx, h1, h2, h3, h4⟩ => ⟨C, dx, h1, h2, h3, by rw [k t.p (by rw [h1]; exact List.mem_singleton.mpr rfl)]; exact h4⟩, fun ⟨C, dx, h1, h2, h3, h4⟩ q hq => by
  rw [in_one h1 hq, h4]
  exact fun z => by cases z⟩
instance : Slot OI1 := ⟨fun K G F L o t => ∃ C dx, L = [t.p] ∧ o = some (.ref t.p) ∧ ClsAt K C ∧ F t.p = some (.ins C dx (putF "_things" (.str t.things) [])), fun _ h => h, fun {K G F F' L o t} k ⟨C, dx, h1, h2, h3, h4⟩ => ⟨C, dx, h1, h2, h3, by rw [k t.p (by rw [h1]; exact List.mem_singleton.mpr rfl)]; exact h4⟩, fun ⟨C, dx, h1, h2, h3, h4⟩ q hq => by
  rw [in_one h1 hq, h4]
  exact fun z => by cases z⟩
instance : Slot OI2 := ⟨fun K G F L o t => ∃ C dx vc, L = [t.p] ∧ o = some (.ref t.p) ∧ ClsAt K C ∧ F t.p = some (.ins C dx (putF "_closed" vc (putF "_things" (.str t.things) []))) ∧ Rep.rep K G t.closed vc, fun e ⟨C, dx, vc, h1, h2, h3, h4, h5⟩ => ⟨C, dx, vc, h1, h2, h3, h4, Rep.mono e h5⟩,
  fun {K G F F' L o t} k ⟨C, dx, vc, h1, h2, h3, h4, h5⟩ => ⟨C, dx, vc, h1, h2, h3, by rw [k t.p (by rw [h1]; exact List.mem_singleton.mpr rfl)]; exact h4, h5⟩, fun ⟨C, dx, vc, h1, h2, h3, h4, h5⟩ q hq => by
  rw [in_one h1 hq, h4]
  exact fun z => by cases z⟩
instance : Slot OI3 := ⟨fun K G F L o t => ∃ C dx vc va, L = [t.p] ∧ o = some (.ref t.p) ∧ ClsAt K C ∧ F t.p = some (.ins C dx (cfl (.str t.c.things) vc va)) ∧ Rep.rep K G t.c.closed vc ∧ Rep.rep K G (⟨t.c.around⟩ : Dct Str) va, fun e ⟨C, dx, vc, va, h1, h2, h3, h4, h5, h6⟩ => ⟨C, dx, vc, va, h1, h2, h3, h4, Rep.mono e h5, Rep.mono e h6⟩,
  fun {K G F F' L o t} k ⟨C, dx, vc, va, h1, h2, h3, h4, h5, h6⟩ => ⟨C, dx, vc, va, h1, h2, h3, by rw [k t.p (by rw [h1]; exact List.mem_singleton.mpr rfl)]; exact h4, h5, h6⟩, fun ⟨C, dx, vc, va, h1, h2, h3, h4, h5, h6⟩ q hq => by
  rw [in_one h1 hq, h4]
  exact fun z => by cases z⟩
/-- what __init__ promises -/
def spI {A : Type} [RepL A] (K : PySem.W.Frag) (m : A → Option Clo) : Sp := fun vs H Q _ => ∃ F G y vs' C dx a r, vs = .ref y :: vs' ∧ W F G H ∧ ClsAt K C ∧ F y = some (.ins C dx []) ∧ RepL.rl K G a vs' ∧ m a = some r ∧
  ∀ dx2 vc va F2 G2 H2, Ex G G2 → W F2 G2 H2 → F2 y = some (.ins C dx2 (cfl (.str r.things) vc va)) → Rep.rep K G2 r.closed vc → Rep.rep K G2 (⟨r.around⟩ : Dct Str) va → (∀ b o, b ≠ y → F b = some o → F2 b = some o) → Q .non H2
section
variable {X : Cx} {A Γ : Type} [RepL A] [EnvR Γ] {k : Nat} {f C : Addr} {fd : FuncData} {ps : List Str} {x : Str} {p pos : Pos} {e : Expr} {es : List Expr}
/-- Closer(..), by the mirror of __init__ -/
theorem ve_make {m : A → Option Clo} {g : Γ → Option A} (M : Mk X.K C f) (at_ : ClsAt X.K C) (F : GnOk X.prog X.w X.K X.mg X.base k f fd ps (spI X.K m)) (hgd : X.A.guards = some []) (hr : Room (k + 1) X.A) (hm : X.mg x = some (.ref C)) (hb : Binds X.K fd ps []) (ha : VA X (e :: es) g) (hg : Gl X x := by rfl)
    (hdb : (x == ("__debug__" : Str)) = false := by decide) (he : starEach (e :: es) X.env = (false, eval e X.env) :: starEach es X.env := by rfl) (hpl : (backTo pos (starEach es X.env)).any (·.1) = false := by rfl) : VE X (.Call (.Name x p) (e :: es) [] pos) (f1 m g) :=
  PE.le (ge_make M F hgd hr hm hb ha hg hdb he hpl) fun σ H Q ⟨F, G, L, γ, z, w, hh, ea, q⟩ => by
    unfold f1 at ea
    cases e1 : g γ with
    | none => rw [e1] at ea; cases ea
    | some a =>
      rw [e1] at ea
      refine ⟨F, G, L, γ, a, w, hh, e1, fun vs G2 H2 x2 w2 r2 y dx hy hd hne => ?_⟩
      have fy := w2.fresh hy
      have fdx := w2.fresh hd
      have w3 : W F G2 (upd H2 dx (.own y)) := ⟨w2.g.trans (Ex.upd hd), w2.f.trans (Ex.upd hd), w2.d⟩
      have hy3 : (upd H2 dx (.own y)) y = none := by rw [upd_ne (Ne.symm hne)]; exact hy
      have w4 := w3.own (o := HO.ins C dx []) hy3
      refine ⟨upd F y (.ins C dx []), G2, y, vs, C, dx, a, z, rfl, w4, at_, upd_same, r2, ea, fun dx2 vc va F5 G5 H5 x5 w5 h5 hc hv off => ⟨rfl, ?_⟩⟩
      have gy : G5 y = none := w5.d y _ h5
      have ex := Ex.upd (o := HO.ins C dx2 (cfl (.str z.things) vc va)) gy
      have w6 : W F (upd G5 y (.ins C dx2 (cfl (.str z.things) vc va))) H5 := (w5.free h5).less fun b o u => by
        have hby : b ≠ y := fun q => by
          rw [q, fy.2] at u
          cases u
        rw [del_ne hby]
        exact off b o hby (by rw [upd_ne hby]; exact u)
      exact q _ _ _ ((x2.trans x5).trans ex) w6 ⟨y, C, dx2, vc, va, rfl, at_, upd_same, Rep.mono ex hc, Rep.mono ex hv⟩
end
end Vx
/-! __init__ of closers: its three stores, its promise -/
namespace Vx
open Rep (rep)
open EnvR (er)
open PySem PySem.Spec PyProof.Rows L2
theorem putF_len (f : Str) (v : V) : ∀ fs : List (Str × V), (putF f v fs).length ≤ fs.length + 1
  | [] => Nat.le_refl _
  | (g, x) :: r => by
    unfold putF
    split
    · exact Nat.le_succ _
    · exact Nat.succ_le_succ (putF_len f v r)
section
variable {Γ Γ' ρ : Type} [EnvR Γ] [EnvR Γ'] {X : Cx} {R : RR ρ} {value : Expr} {pos p1 p2 : Pos} {C : Addr} {x : Str}
/-- self._things = e -/
def sf1 (f : OI0 × Γ → Option Str) : OI0 × Γ → Option (Fl (OI1 × Γ) Unit ρ) := fun γ => (f γ).map fun v => .nx ((⟨γ.1.p, v⟩ : OI1), γ.2)
theorem vs_f1 {f : OI0 × Γ → Option Str} {fr : OI0 × Γ → Option (Fl (OI1 × Γ) Unit ρ)} (efr : sf1 f = fr) (at_ : ClsAt X.K C) (c : Cls X.K C) (n : NoAttr X.K C "_things") (hv : VE X value f) (hN : X.N[0]? = some x := by rfl) (hvs : Vis X.env.scope x := by first | exact Or.inl rfl | exact Or.inr (Or.inl rfl) | exact Or.inr (Or.inr rfl)) (hd : (x == ("__debug__" : Str)) = false := by decide)
    (hcd : (x == ("__classdict__" : Str)) = false := by decide) (hs : swapsWith value (some (.Attribute (.Name x p1) "_things" p2)) pos.line X.env = pure false := by rfl) : VS X Unit R (.Assign [.Attribute (.Name x p1) "_things" p2] value pos) fr := by
  subst efr
  exact PS.le (ps_fld (pe_var hN hvs hd hcd) hv hs) fun D σ H ⟨F, G, L, γ, p, r, wd, nd, he, ha, ea, k⟩ => by
    unfold sf1 at ea
    cases e1 : f γ with
    | none => rw [e1] at ea; cases ea
    | some y =>
      rw [e1] at ea
      cases ea
      refine ⟨F, G, L, γ, y, wd, he, e1, fun v G2 H2 x2 w2 r2 => ?_⟩
      obtain ⟨L1, L2, o, σ', hL, hσ, ⟨C', dx, h1, h2, h3, h4⟩, h5, h6⟩ := EnvR.mono x2 he
      have := at_.one h3
      subst this
      have hp : γ.1.p ∉ L2 := h6 _ (by rw [h1]; exact List.mem_singleton.mpr rfl)
      refine ⟨.ref γ.1.p, by rw [hσ, h2]; rfl, γ.1.p, C, dx, _, rfl, w2.f _ _ h4, c, n, show 0 < 1000 by decide, ?_⟩
      refine k σ L _ G2 _ x2 (w2.set h4) nd (fun b u hb e => by rw [upd_ne (fun z => hb (by rw [z, hL, h1]; exact List.mem_append_left _ (List.mem_singleton.mpr rfl)))]; exact e) Sub.refl ?_ ha
      exact ⟨L1, L2, o, σ', hL, hσ, ⟨C, dx, h1, h2, h3, by cases r2; exact upd_same⟩, EnvR.keep (fun b hb => upd_ne (fun z => hp (by rw [← z]; exact hb))) h5, h6⟩
/-- self._closed = e -/
def sf2 (f : OI1 × Γ → Option (Tup Str)) : OI1 × Γ → Option (Fl (OI2 × Γ) Unit ρ) := fun γ => (f γ).map fun v => .nx ((⟨γ.1.p, γ.1.things, v⟩ : OI2), γ.2)
theorem vs_f2 {f : OI1 × Γ → Option (Tup Str)} {fr : OI1 × Γ → Option (Fl (OI2 × Γ) Unit ρ)} (efr : sf2 f = fr) (at_ : ClsAt X.K C) (c : Cls X.K C) (n : NoAttr X.K C "_closed") (hv : VE X value f) (hN : X.N[0]? = some x := by rfl) (hvs : Vis X.env.scope x := by first | exact Or.inl rfl | exact Or.inr (Or.inl rfl) | exact Or.inr (Or.inr rfl)) (hd : (x == ("__debug__" : Str)) = false := by decide)
    (hcd : (x == ("__classdict__" : Str)) = false := by decide) (hs : swapsWith value (some (.Attribute (.Name x p1) "_closed" p2)) pos.line X.env = pure false := by rfl) : VS X Unit R (.Assign [.Attribute (.Name x p1) "_closed" p2] value pos) fr := by
  subst efr
  exact PS.le (ps_fld (pe_var hN hvs hd hcd) hv hs) fun D σ H ⟨F, G, L, γ, p, r, wd, nd, he, ha, ea, k⟩ => by
    unfold sf2 at ea
    cases e1 : f γ with
    | none => rw [e1] at ea; cases ea
    | some y =>
      rw [e1] at ea
      cases ea
      refine ⟨F, G, L, γ, y, wd, he, e1, fun v G2 H2 x2 w2 r2 => ?_⟩
      obtain ⟨L1, L2, o, σ', hL, hσ, ⟨C', dx, h1, h2, h3, h4⟩, h5, h6⟩ := EnvR.mono x2 he
      have := at_.one h3
      subst this
      have hp : γ.1.p ∉ L2 := h6 _ (by rw [h1]; exact List.mem_singleton.mpr rfl)
      refine ⟨.ref γ.1.p, by rw [hσ, h2]; rfl, γ.1.p, C, dx, _, rfl, w2.f _ _ h4, c, n, show 1 < 1000 by decide, ?_⟩
      refine k σ L _ G2 _ x2 (w2.set h4) nd (fun b u hb e => by rw [upd_ne (fun z => hb (by rw [z, hL, h1]; exact List.mem_append_left _ (List.mem_singleton.mpr rfl)))]; exact e) Sub.refl ?_ ha
      exact ⟨L1, L2, o, σ', hL, hσ, ⟨C, dx, v, h1, h2, h3, upd_same, r2⟩, EnvR.keep (fun b hb => upd_ne (fun z => hp (by rw [← z]; exact hb))) h5, h6⟩
/-- self._around = e -/
def sf3 (f : OI2 × Γ → Option (Dct Str)) : OI2 × Γ → Option (Fl (OI3 × Γ) Unit ρ) := fun γ => (f γ).map fun v => .nx ((⟨γ.1.p, ⟨γ.1.things, γ.1.closed, v.l⟩⟩ : OI3), γ.2)
theorem vs_f3 {f : OI2 × Γ → Option (Dct Str)} {fr : OI2 × Γ → Option (Fl (OI3 × Γ) Unit ρ)} (efr : sf3 f = fr) (at_ : ClsAt X.K C) (c : Cls X.K C) (n : NoAttr X.K C "_around") (hv : VE X value f) (hN : X.N[0]? = some x := by rfl) (hvs : Vis X.env.scope x := by first | exact Or.inl rfl | exact Or.inr (Or.inl rfl) | exact Or.inr (Or.inr rfl)) (hd : (x == ("__debug__" : Str)) = false := by decide)
    (hcd : (x == ("__classdict__" : Str)) = false := by decide) (hs : swapsWith value (some (.Attribute (.Name x p1) "_around" p2)) pos.line X.env = pure false := by rfl) : VS X Unit R (.Assign [.Attribute (.Name x p1) "_around" p2] value pos) fr := by
  subst efr
  exact PS.le (ps_fld (pe_var hN hvs hd hcd) hv hs) fun D σ H ⟨F, G, L, γ, p, r, wd, nd, he, ha, ea, k⟩ => by
    unfold sf3 at ea
    cases e1 : f γ with
    | none => rw [e1] at ea; cases ea
    | some y =>
      rw [e1] at ea
      cases ea
      refine ⟨F, G, L, γ, y, wd, he, e1, fun v G2 H2 x2 w2 r2 => ?_⟩
      obtain ⟨L1, L2, o, σ', hL, hσ, ⟨C', dx, vc, h1, h2, h3, h4, hc⟩, h5, h6⟩ := EnvR.mono x2 he
      have := at_.one h3
      subst this
      have hp : γ.1.p ∉ L2 := h6 _ (by rw [h1]; exact List.mem_singleton.mpr rfl)
      refine ⟨.ref γ.1.p, by rw [hσ, h2]; rfl, γ.1.p, C, dx, _, rfl, w2.f _ _ h4, c, n, Nat.lt_of_le_of_lt (putF_len _ _ _) (Nat.lt_of_le_of_lt (Nat.succ_le_succ (putF_len _ _ _)) (show 2 < 1000 by decide)), ?_⟩
      refine k σ L _ G2 _ x2 (w2.set h4) nd (fun b u hb e => by rw [upd_ne (fun z => hb (by rw [z, hL, h1]; exact List.mem_append_left _ (List.mem_singleton.mpr rfl)))]; exact e) Sub.refl ?_ ha
      exact ⟨L1, L2, o, σ', hL, hσ, ⟨C, dx, vc, v, h1, h2, h3, upd_same, hc, r2⟩, EnvR.keep (fun b hb => upd_ne (fun z => hp (by rw [← z]; exact hb))) h5, h6⟩
end
section
variable {P : Program} {w : World} {K : PySem.W.Frag} {mg : Str → Option Value} {base : Heap} {x qual : Str} {st : Stmt} {f : Addr} {fd : FuncData} {N ps : List Str} {k n : Nat} {A Γ Γ' : Type} [RepL A] [EnvR Γ] [EnvR Γ']
def runI (b : OI0 × Γ → Option (Fl (OI3 × Γ') Unit Unit)) (γ : Γ) : Option Clo := (b (⟨(0 : Nat)⟩, γ)).bind fun r => match r with
  | .nx γ' => some γ'.1.c
  | .rt _ _ => none
/-- the address is of no matter -/
def Blind (b : OI0 × Γ → Option (Fl (OI3 × Γ') Unit Unit)) : Prop := ∀ (γ : Γ) (c : Clo) (q : Addr) (γ' : Γ'), b (⟨(0 : Nat)⟩, γ) = some (.nx (⟨q, c⟩, γ')) → ∀ p : Addr, ∃ δ, b (⟨p⟩, γ) = some (.nx (⟨p, c⟩, δ))
theorem ok_I (F : Fun K x qual st f fd) (S : FnScope N ps (defScope st)) (I : Ini A Γ n) {b : OI0 × Γ → Option (Fl (OI3 × Γ') Unit Unit)} (hb : Blind b) (hn : N.length = RepL.n A + 1 + n) (hp : RepL.n A + 1 = ps.length)
    (body : BodyOk P w K mg base N qual st k fun X => VSs X Unit (RE K) (defBody st) b) : GnOk P w K mg base (k + 1) f fd ps (spI K fun a => runI b (I.ini a)) := by
  apply gn_of F S
  · intro vs H Q E ⟨F, G, y, vs', C, dx, a, r, h0, h1, h2, h3, h4, h5⟩
    rw [← hp, h0, List.length_cons, RepL.len h4]
  · intro cdv A' outer s H vs Q hg hr ⟨F, G, y, vs', C, dx, a, r, h0, h1, h2, h3, h4, h5, h6⟩
    refine ⟨_, body cdv A' outer s H f hg hr, ?_⟩
    have e0 : L2.start N vs = some (.ref y) :: (vs'.map some ++ List.replicate n none) := by
      unfold L2.start
      rw [h0, hn, List.length_cons, RepL.len h4, Nat.add_sub_cancel_left]
      rfl
    rw [e0]
    have h5 : runI b (I.ini a) = some r := h5
    unfold runI at h5
    cases e : b (⟨(0 : Nat)⟩, I.ini a) with
    | none => rw [e] at h5; cases h5
    | some fr =>
      rw [e] at h5
      cases fr with
      | rt z u => cases h5
      | nx γ' =>
        cases h5
        obtain ⟨⟨q, c⟩, γ2⟩ := γ'
        obtain ⟨δ, e2⟩ := hb _ c q γ2 e y
        refine ⟨F, G, [y], (⟨y⟩, I.ini a), 0, .nx (⟨y, c⟩, δ), h1, (by simp), ⟨[y], [], _, _, rfl, rfl, ⟨C, dx, rfl, rfl, h2, h3⟩, I.ok h4, fun _ _ h => by cases h⟩, trivial, e2, ?_⟩
        intro σ' L2 F2 G2 H2 x2 w2 n2 o2 s2 er2 at2
        obtain ⟨M1, M2, o, σ2, hL, hσ, ⟨C', dx', vc, va, g1, g2, g3, g4, g5, g6⟩, g7, g8⟩ := er2
        have := h2.one g3
        subst this
        exact h6 dx' vc va F2 G2 H2 x2 w2 g4 g5 g6 fun b u hby e => o2 b u (fun z => hby (List.mem_singleton.mp z)) e
end
end Vx
namespace Vx
open Rep (rep)
open EnvR (er)
open PySem PySem.Spec PyProof.Rows L2
section
variable {Γ Γ1 Γ2 S ρ : Type} [EnvR Γ] [EnvR Γ1] [EnvR Γ2] [Md S] {α β : Type} [Rep α] [Rep β] {X : Cx} {R : RR ρ} {e : Expr} {pos : Pos} {i j : Nat}
/-- x, y = a pair -/
def sunp (p1 : Put i Γ α Γ1) (p2 : Put j Γ1 β Γ2) (f : Γ → Option (T2 α β)) : Γ → Option (Fl Γ2 S ρ) := fun γ => (f γ).map fun t => .nx (p2.put (p1.put γ t.a) t.b)
theorem vs_unp (p1 : Put i Γ α Γ1) (p2 : Put j Γ1 β Γ2) {x y : Str} {px py pt : Pos} {kt : Nat} {f : Γ → Option (T2 α β)} {fr : Γ → Option (Fl Γ2 S ρ)} (efr : sunp (S := S) p1 p2 f = fr) (hc : X.calm = true) (hN : X.N.Nodup) (h : VE X e f) (hi : X.N[i]? = some x := by rfl) (hj : X.N[j]? = some y := by rfl)
    (hx : Loc X.env.scope x := by first | exact Or.inl rfl | exact Or.inr rfl) (hy : Loc X.env.scope y := by first | exact Or.inl rfl | exact Or.inr rfl) (hfx : X.fn x = true ∨ X.env.scope.names.lookup x = some .local := by first | exact .inl rfl | exact .inr rfl) (hfy : X.fn y = true ∨ X.env.scope.names.lookup y = some .local := by first | exact .inl rfl | exact .inr rfl)
    (h2 : (assignEach [.Name x px, .Name y py] X.env).map (·.2) = assign (.Name x px) X.env :: (assignEach [.Name y py] X.env).map (·.2) := by rfl) (h3 : (assignEach [.Name y py] X.env).map (·.2) = assign (.Name y py) X.env :: (assignEach [] X.env).map (·.2) := by rfl)
    (hln : (assignEach [.Name x px, .Name y py] X.env).length = 2 := by rfl) (hst : (assignEach [.Name x px, .Name y py] X.env).findIdx? (·.1) = none := by rfl)
    (hs : swapsWithSole [.Tuple [.Name x px, .Name y py] kt pt] e pos.line X.env = pure false := by rfl) (hw : swappedStores [.Tuple [.Name x px, .Name y py] kt pt] e X.env = pure none := by rfl)
    (h1 : (assignEach [.Tuple [.Name x px, .Name y py] kt pt] X.env).map (·.2) = [assign (.Tuple [.Name x px, .Name y py] kt pt) X.env] := by rfl) (ho : Md.okI S i = true := by rfl) (ho' : Md.okI S j = true := by rfl) : VS X S R (.Assign [.Tuple [.Name x px, .Name y py] kt pt] e pos) fr := by
  subst efr
  exact PS.le (ps_asg h (pg_tup (n := 2) hc (pgs_cons (pg_name hN hi hx hfx) (pgs_cons (pg_name hN hj hy hfy) pgs_nil h3) h2) hln hst) hs hw h1) fun D σ H ⟨F, G, L, γ, p, r, wd, nd, he, ha, ea, k⟩ => by
    unfold sunp at ea
    cases e1 : f γ with
    | none => rw [e1] at ea; cases ea
    | some t =>
      rw [e1] at ea
      cases ea
      refine ⟨F, G, L, γ, t, wd, he, e1, fun v G2 H2 x2 w2 ⟨q, va, vb, g1, g2, g3, g4⟩ => ?_⟩
      refine ⟨q, _, g1, .inl (.inl (w2.g _ _ g2)), rfl, va, [vb], rfl, vb, [], rfl, rfl, ?_⟩
      exact k _ L F G2 H2 x2 w2 nd Off.refl Sub.refl (p2.ok (p1.ok (EnvR.mono x2 he) g3) g4) (Md.keep ho' (Md.keep ho ha))
/-- x += e, whole numbers -/
def saug (g : Get i Γ Int) (pt : Put i Γ Int Γ1) (f : Γ → Option Int) : Γ → Option (Fl Γ1 S ρ) := fun γ => (f γ).map fun n => .nx (pt.put γ (g.get γ + n))
theorem vs_aug (g : Get i Γ Int) (pt : Put i Γ Int Γ1) {x : Str} {p1 : Pos} {f : Γ → Option Int} {fr : Γ → Option (Fl Γ1 S ρ)} (efr : saug (S := S) g pt f = fr) (hN : X.N.Nodup) (h : VE X e f) (hi : X.N[i]? = some x := by rfl) (hx : Loc X.env.scope x := by first | exact Or.inl rfl | exact Or.inr rfl)
    (hf : X.fn x = true ∨ X.env.scope.names.lookup x = some .local := by first | exact .inl rfl | exact .inr rfl) (ho : Md.okI S i = true := by rfl) : VS X S R (.AugAssign (.Name x p1) .Add e pos) fr := by
  subst efr
  exact PS.le (ps_aug hN hi hx h ip_add hf) fun D σ H ⟨F, G, L, γ, p, r, wd, nd, he, ha, ea, k⟩ => by
    unfold saug at ea
    cases e1 : f γ with
    | none => rw [e1] at ea; cases ea
    | some n =>
      rw [e1] at ea
      cases ea
      obtain ⟨v, hv, rv⟩ := g.ok he
      cases rv
      refine ⟨_, hv, F, G, L, γ, n, wd, he, e1, fun u G2 H2 x2 w2 r2 => ?_⟩
      cases r2
      exact ⟨_, _, rfl, rfl, k _ L F G2 H2 x2 w2 nd Off.refl Sub.refl (pt.ok (EnvR.mono x2 he) rfl) (Md.keep ho ha)⟩
end
end Vx
/-! sorted(a tuple of texts, key=len) -/
namespace Vx
open Rep (rep)
open EnvR (er)
open PySem PySem.Spec PyProof.Rows L2
section
variable {prog : Program} {w : World} {A : Around} {E : Value → Shared → Prop} {s : Shared}
/-- sorted(a tuple, key=f): its items collected, a new list of them sorted -/
theorem sorted_tupK {β : Type} {vs : List Value} {bs : List β} {R : Value → β → Prop} {l : Addr} {f : Value} {kw : List (Str × Value)} {b : Bool} {Q : Value → Shared → Prop} (k : β → PyData) (tup : s.heap.IsTuple l vs.toArray) (e : PySem.W.EachIs R vs bs) (alike : PySem.W.AllAlike (bs.map k)) (can : PySem.W.Sortable (bs.map k)) (few : bs.length ≤ sizeLine)
    (deep : ∀ x, x ∈ bs → A.units + 2 + (k x).depth < cLine) (ok1 : argsOk "sorted" ⟨[.ref l], kw⟩) (ok2 : ∀ x, argsOk "list.sort" ⟨[.ref x], kw⟩) (tree : ∀ x, Builtin.«list.sort» ⟨[.ref x], kw⟩ = ksk_tree x f b)
    (key : ∀ (v : Value) (x : β), R v x → x ∈ bs → ∀ (h : Heap) (tk : Nat), wpAny (model prog w) A.in1.in1 (call f [v]) (PySem.W.KeyPure (k x) { s with heap := h, toks := tk }) (fun _ _ => False) { s with heap := h, toks := tk })
    (done : ∀ p out c h' tk, s.heap.get? p = none → (∀ b o, s.heap.get? b = some o → h'.get? b = some o) → h'.get? p = some (seqObj "list" (List.toArray out) c) → PySem.W.EachIs R out (bs.mergeSort (PySem.W.dataLe b k)) → Q (.ref p) { s with heap := h', toks := tk }) :
    wpAny (model prog w) A (call (.builtin "sorted") [.ref l] kw) Q E s := by
  have many : vs.length ≤ sizeLine := e.length ▸ few
  obtain ⟨o, ho, cls, n, dat⟩ := tup
  apply PyProof.Rows.call_function_entry_kw kind_sorted plain_sorted entry_sorted ok1
  unfold Builtin.«sorted»
  apply wpAny_bind (m := checkCount "sorted" 1 1 _)
  apply wpAny_pure
  apply wpAny_bind
  refine PySem.wpAny_collect_seq l (Or.inr rfl) ho cls dat (fun h1 old1 => ?_) (by simpa using many)
  apply wpAny_bind
  refine wpAny_newList ?_ (by simpa using many)
  apply wpAny_bind
  apply wpAny_holding
  have here : (h1.push (seqObj "list" vs.toArray 0)).get? h1.objs.size = some (seqObj "list" vs.toArray 0) := Heap.get?_push_size _ rfl
  have low : s.heap.get? h1.objs.size = none := by
    cases z : s.heap.get? h1.objs.size with
    | none => rfl
    | some u => exact absurd (Heap.lt_size (old1 _ u z)) (Nat.lt_irrefl _)
  refine PySem.W.list_sort_key_data (s := { s with heap := h1.push (seqObj "list" vs.toArray 0) }) k (by simpa using here) e alike can few (fun x hx => by have := deep x hx; show A.units + 1 + 1 + _ < cLine; omega) (ok2 _) (tree _) (fun v x r hx h tk _ => key v x r hx h tk) fun out c h' tk kept at' _ each => ?_
  apply wpAny_pure
  refine ⟨_, rfl, done h1.objs.size out c h' tk low (fun a u e2 => ?_) at' each⟩
  have e3 := old1 a u e2
  exact kept a u (Nat.ne_of_lt (Heap.lt_size e3)) (Heap.get?_push_of_some _ e3)
end
/-- by length -/
def leL (a b : Str) : Bool := decide ((a.length : Int) ≤ (b.length : Int))
def srtK (xs : List Str) : List Str := xs.mergeSort leL
section
variable {X : Cx} {e : Expr} {ta : TE} {p p2 kp pos : Pos}
def tSortK (K : PySem.W.Frag) (te : TE) : TE := fun σ H Q => te σ H fun x H1 => ∃ (l : Addr) (xs : List Str), x = .ref l ∧ SqT K H1 l (xs.map V.str) ∧ xs.length ≤ 100000 ∧ (∀ s ∈ xs, s.length ≤ 100000) ∧ ∀ p, H1 p = none → Q (.ref p) (upd H1 p (.lst ((srtK xs).map V.str)))
theorem pe_sortK (hu : X.A.units + 64 < cLine) (hm : X.mg "sorted" = none) (hm2 : X.mg "len" = none) (ha : PE X e ta) (hg : Gl X "sorted" := by rfl) (hg2 : Gl X "len" := by rfl)
    (he : backTo pos (starEach [e] X.env) = (false, eval e X.env) :: backTo pos (starEach [] X.env) := by rfl) (na : starEach [e] X.env = (false, eval e X.env) :: starEach [] X.env := by rfl) (hpl : (backTo pos (starEach [e] X.env)).any (·.1) = false := by rfl) :
    PE X (.Call (.Name "sorted" p) [e] [⟨some "key", .Name "len" p2, kp⟩] pos) (tSortK X.K ta) := by
  constructor
  intro pins s σ H Q I h
  refine wpAny_Call_Name_kw (ld_blt I hg hm boot_sorted ?_)
  refine PyProof.Rows.callWith_kw ?_ he hpl rfl rfl
  refine PyProof.Rows.args_cons (thn (ha.run pins s σ H _ I h) ?_) na
  intro v s1 ⟨x, H1, I1, r1, l, xs, hx, hq, hz, hzz, k⟩
  subst hx
  cases r1
  apply PyProof.Rows.args_nil
  show wpAny _ _ (evalAll [do let v ← eval (.Name "len" p2) X.env; standAt pos; pure v]) _ _ s1
  refine wpAny_evalAll_cons (wpAny_bind (ld_blt I1 hg2 hm2 boot_len (wpAny_bind (wpAny_standAt (wpAny_pure ?_)))))
  refine wpAny_evalAll_nil ?_
  show wpAny (model X.prog X.w) X.A (call (.builtin "sorted") [.ref l] [(Str.ofString "key", .builtin "len")]) _ _ s1
  obtain ⟨its, rv, pl, hz2⟩ := I1.tuple hq
  have es := each_strs rv.strs
  have hL : xs.length ≤ sizeLine := Nat.le_trans hz (by decide)
  refine sorted_tupK (b := false) (fun s : Str => PyData.int s.length) pl es (PySem.W.AllAlike.of fun _ _ => rfl) (PySem.W.Sortable.others fun b => ⟨nofun, nofun⟩) hL (fun _ _ => (by show X.A.units + 2 + 0 < cLine; omega)) (ksk_s1 _ _) (fun _ => ksk_l1 _ _) (fun _ => ksk_t4 _ _) ?_ ?_
  · rintro v x ⟨t, rfl⟩ hx h tk
    have := hzz x hx
    have l63 := line63
    exact PySem.P.len_str (by omega) ⟨h, _, rfl, fun _ _ e => e, Reads.int ..⟩
  · intro p out c h' tk low old at' each
    rw [PySem.W.dataLe_int] at each
    have texts := strs_each each
    have free : H1 p = none := I1.hok.gone low
    have fits : ((srtK xs).map V.str).length ≤ sizeLine := by simpa [srtK] using hL
    exact ⟨.ref p, _, I1.laidN (t' := tk) (o := .lst ((srtK xs).map V.str)) old low free ⟨fits, out, c, vals_of_strs texts, at'⟩, rfl, k p free⟩
end
section
variable {Γ : Type} [EnvR Γ] {X : Cx} {e : Expr} {p p2 kp pos : Pos}
def sortK (t : Tup Str) : Option (List Str) := if t.l.length ≤ 100000 ∧ (∀ s ∈ t.l, s.length ≤ 100000) then some (srtK t.l) else none
theorem strs_rep {K : PySem.W.Frag} {G : Hp} : ∀ {xs : List Str} {vs : List V}, PySem.Paired (rep K G) xs vs → vs = xs.map V.str
  | _, _, .nil => rfl
  | _, _, .cons r t => by
    rw [strs_rep t]
    cases r
    rfl
theorem rep_strs {K : PySem.W.Frag} {G : Hp} : ∀ {xs : List Str}, PySem.Paired (rep K G) xs (xs.map V.str)
  | [] => .nil
  | _ :: _ => .cons rfl rep_strs
theorem vf_sortK {f : Γ → Option (Tup Str)} (hu : X.A.units + 64 < cLine) (hm : X.mg "sorted" = none) (hm2 : X.mg "len" = none) (ha : VE X e f) (hg : Gl X "sorted" := by rfl) (hg2 : Gl X "len" := by rfl)
    (he : backTo pos (starEach [e] X.env) = (false, eval e X.env) :: backTo pos (starEach [] X.env) := by rfl) (na : starEach [e] X.env = (false, eval e X.env) :: starEach [] X.env := by rfl) (hpl : (backTo pos (starEach [e] X.env)).any (·.1) = false := by rfl) :
    VF X (.Call (.Name "sorted" p) [e] [⟨some "key", .Name "len" p2, kp⟩] pos) (f1 sortK f) := PE.le (pe_sortK hu hm hm2 ha hg hg2 he na hpl) fun σ H Q ⟨F, G, L, γ, a, w, hE, ea, q⟩ => by
  unfold f1 at ea
  cases e1 : f γ with
  | none => rw [e1] at ea; cases ea
  | some t =>
    rw [e1] at ea
    replace ea : sortK t = some a := ea
    unfold sortK at ea
    split at ea
    case isFalse => cases ea
    rename_i hz
    cases ea
    refine ⟨F, G, L, γ, t, w, hE, e1, fun v G2 H2 x2 w2 ⟨p, vs, h1, h2, h3⟩ => ?_⟩
    have ev := strs_rep h3
    subst ev
    refine ⟨p, t.l, h1, .inl (.inl (w2.g _ _ h2)), hz.1, hz.2, fun p' hp' => ?_⟩
    obtain ⟨w3, r3⟩ := rf_new w2 hp' (rep_strs (K := X.K) (G := G2) (xs := srtK t.l))
    exact q _ G2 _ x2 w3 r3
end
end Vx
/-! the class Closer: its facts, its defs by their mirrors -/
namespace Vx
open Rep (rep)
open EnvR (er)
open PySem PySem.Spec PyProof.Rows L2
def TmF (K : PySem.W.Frag) : Prop := ∃ C, ClsAt K C ∧ Cls K C ∧ NoAttr K C "_things" ∧ NoAttr K C "_closed" ∧ NoAttr K C "_around"
def TmM (K : PySem.W.Frag) (m qual : Str) (st : Stmt) (ps : List Str) : Prop := ∃ C f fd, ClsAt K C ∧ Cls K C ∧ Meth K C m f ∧ Fun K m qual st f fd ∧ Binds K fd ps []
def TmP (K : PySem.W.Frag) (m qual : Str) (st : Stmt) (ps : List Str) : Prop := ∃ C p g fd, ClsAt K C ∧ Cls K C ∧ PropOf K C m p g ∧ Fun K m qual st g fd ∧ Binds K fd ps []
def TmI (K : PySem.W.Frag) (mg : Str → Option Value) (qual : Str) (st : Stmt) (ps : List Str) : Prop := ∃ C f fd, ClsAt K C ∧ Mk K C f ∧ mg "Closer" = some (.ref C) ∧ Fun K "__init__" qual st f fd ∧ Binds K fd ps []
def TmIs (K : PySem.W.Frag) (mg : Str → Option Value) : Prop := ∃ C, ClsAt K C ∧ C8.InsC K C ∧ mg "Closer" = some (.ref C)
def DfMt (P : Program) (w : World) (K : PySem.W.Frag) (mg : Str → Option Value) (base : Heap) (m : Str) (k : Nat) (ps : List Str) (sp : Sp) : Prop := ∃ C f fd, ClsAt K C ∧ Cls K C ∧ Meth K C m f ∧ Binds K fd ps [] ∧ GnOk P w K mg base k f fd ps sp
def DfP (P : Program) (w : World) (K : PySem.W.Frag) (mg : Str → Option Value) (base : Heap) (m : Str) (k : Nat) (ps : List Str) (sp : Sp) : Prop := ∃ C p g fd, ClsAt K C ∧ Cls K C ∧ PropOf K C m p g ∧ Binds K fd ps [] ∧ GnOk P w K mg base k g fd ps sp
def DfI (P : Program) (w : World) (K : PySem.W.Frag) (mg : Str → Option Value) (base : Heap) (k : Nat) (ps : List Str) (sp : Sp) : Prop := ∃ C f fd, ClsAt K C ∧ Mk K C f ∧ mg "Closer" = some (.ref C) ∧ Binds K fd ps [] ∧ GnOk P w K mg base k f fd ps sp
section
variable {P : Program} {w : World} {K : PySem.W.Frag} {mg : Str → Option Value} {base : Heap} {m qual : Str} {st : Stmt} {N ps : List Str} {k n : Nat} {A ρ Γ Γ' : Type} [RepL A] [EnvR Γ] [EnvR Γ'] [Rep ρ]
theorem df_Mt (T : TmM K m qual st ps) (S : FnScope N ps (defScope st)) (I : Ini A Γ n) {b : Γ → Option (Fl Γ' Unit ρ)} (body : BodyOk P w K mg base N qual st k fun X => VSs X Unit (RE K) (defBody st) b) (hn : N.length = RepL.n A + n := by rfl) (hp : RepL.n A = ps.length := by rfl) :
    DfMt P w K mg base m (k + 1) ps (spF K fun a => runF b (I.ini a)) := by
  obtain ⟨C, f, fd, h1, h2, h3, F, hb⟩ := T
  exact ⟨C, f, fd, h1, h2, h3, hb, ok_F F S I hn hp body⟩
theorem df_P (T : TmP K m qual st ps) (S : FnScope N ps (defScope st)) (I : Ini A Γ n) {b : Γ → Option (Fl Γ' Unit ρ)} (body : BodyOk P w K mg base N qual st k fun X => VSs X Unit (RE K) (defBody st) b) (hn : N.length = RepL.n A + n := by rfl) (hp : RepL.n A = ps.length := by rfl) :
    DfP P w K mg base m (k + 1) ps (spF K fun a => runF b (I.ini a)) := by
  obtain ⟨C, p, g, fd, h1, h2, h3, F, hb⟩ := T
  exact ⟨C, p, g, fd, h1, h2, h3, hb, ok_F F S I hn hp body⟩
theorem df_I (T : TmI K mg qual st ps) (S : FnScope N ps (defScope st)) (I : Ini A Γ n) {b : OI0 × Γ → Option (Fl (OI3 × Γ') Unit Unit)} (hb : Blind b) (body : BodyOk P w K mg base N qual st k fun X => VSs X Unit (RE K) (defBody st) b) (hn : N.length = RepL.n A + 1 + n := by rfl) (hp : RepL.n A + 1 = ps.length := by rfl) :
    DfI P w K mg base (k + 1) ps (spI K fun a => runI b (I.ini a)) := by
  obtain ⟨C, f, fd, h1, h2, h3, F, hbi⟩ := T
  exact ⟨C, f, fd, h1, h2, h3, hbi, ok_I F S I hb hn hp body⟩
end
section
variable {Γ : Type} [EnvR Γ] {X : Cx} {A ρ : Type} [RepL A] [Rep ρ] {k : Nat} {psn : List Str} {m : Str} {p pp pos apos : Pos} {e o : Expr} {es : List Expr}
theorem vd_prop {mi : Clo × Unit → Option ρ} {f : Γ → Option Clo} (D : DfP X.prog X.w X.K X.mg X.base m k psn (spF X.K mi)) (hgd : X.A.guards = some []) (hr : Room (k + 1) X.A) (h : VE X e f) (hab : attributeBase e m X.env (eval e X.env) = eval e X.env := by rfl) : VE X (.Attribute e m pos) (f1 (fun c => mi (c, ())) f) := by
  obtain ⟨C, q, g, fd, h1, h2, h3, hb, G⟩ := D
  exact ve_prop h h1 h2 h3 G hgd hr hb hab
theorem vd_meth {pl : Sem Bool} {mi : Clo × A → Option ρ} {f : Γ → Option Clo} {ga : Γ → Option A} (D : DfMt X.prog X.w X.K X.mg X.base m k psn (spF X.K mi)) (hgd : X.A.guards = some []) (hr : Room k X.A) (h : VE X o f) (ha : VA X (e :: es) ga) (n1 : ¬ m = "_things" := by decide +kernel) (n2 : ¬ m = "_closed" := by decide +kernel) (n3 : ¬ m = "_around" := by decide +kernel)
    (hst : starEach (e :: es) X.env = (false, eval e X.env) :: starEach es X.env := by rfl) (hpl : (backTo pos (starEach es X.env)).any (·.1) = false := by rfl)
    (ht : eval (.Call (.Attribute o m apos) (e :: es) [] pos) X.env = (do
      let ov ← eval o X.env
      standAt apos.atName
      let (fn, first) ← holding [ov] (getMethod ov m pl)
      callWith pos fn first (backTo pos (starEach (e :: es) X.env)) (backToKw pos (keywordEach [] X.env))) := by rfl) : VE X (.Call (.Attribute o m apos) (e :: es) [] pos) (f1 mi (fcons f ga)) := by
  obtain ⟨C, g, fd, h1, h2, h3, hb, G⟩ := D
  exact ve_meth h h1 h2 h3 G hgd hr hb ha n1 n2 n3 hst hpl ht
theorem vd_make {mi : A → Option Clo} {g : Γ → Option A} (D : DfI X.prog X.w X.K X.mg X.base k psn (spI X.K mi)) (hgd : X.A.guards = some []) (hr : Room (k + 1) X.A) (ha : VA X (e :: es) g) (hg : Gl X "Closer" := by rfl)
    (he : starEach (e :: es) X.env = (false, eval e X.env) :: starEach es X.env := by rfl) (hpl : (backTo pos (starEach es X.env)).any (·.1) = false := by rfl) : VE X (.Call (.Name "Closer" p) (e :: es) [] pos) (f1 mi g) := by
  obtain ⟨C, f, fd, h1, h2, h3, hb, G⟩ := D
  exact ve_make h2 h1 G hgd hr h3 hb ha hg (by decide) he hpl
theorem vd_fT {f : Γ → Option Clo} (T : TmF X.K) (h : VE X e f) (hb : attributeBase e "_things" X.env (eval e X.env) = eval e X.env := by rfl) : VE X (.Attribute e "_things" pos) (f1 (fun c => some c.things) f) := by
  obtain ⟨C, h1, h2, n1, n2, n3⟩ := T
  exact ve_fT h h1 h2 n1 hb
theorem vd_fA {f : Γ → Option Clo} (T : TmF X.K) (h : VE X e f) (hb : attributeBase e "_around" X.env (eval e X.env) = eval e X.env := by rfl) : VE X (.Attribute e "_around" pos) (f1 (fun c => some (⟨c.around⟩ : Dct Str)) f) := by
  obtain ⟨C, h1, h2, n1, n2, n3⟩ := T
  exact ve_fA h h1 h2 n3 hb
/-- isinstance(c, Closer) -/
theorem ve_isClo {f : Γ → Option Clo} (T : TmIs X.K X.mg) (h : VE X e f) (hm : X.mg "isinstance" = none) (hg : Gl X "isinstance" := by rfl) (hg2 : Gl X "Closer" := by rfl) (he : starEach [e, .Name "Closer" pp] X.env = (false, eval e X.env) :: starEach [.Name "Closer" pp] X.env := by rfl) (he2 : starEach [.Name "Closer" pp] X.env = (false, eval (.Name "Closer" pp) X.env) :: starEach [] X.env := by rfl)
    (hpl : (backTo pos (starEach [.Name "Closer" pp] X.env)).any (·.1) = false := by rfl) : VE X (.Call (.Name "isinstance" p) [e, .Name "Closer" pp] [] pos) (f1 (fun _ => some true) f) := by
  obtain ⟨C, h1, h2, h3⟩ := T
  exact PE.le (pe_callB (C8.call_isC h2) hg hm (by decide +kernel) (pa_cons h (pa_cons (pe_glob hg2 h3 (v := .ref C) rfl) pa_nil he2) he) (he := he) (hpl := hpl)) fun σ H Q ⟨F, G, L, γ, z, w, hh, ea, q⟩ => by
    unfold f1 at ea
    cases e1 : f γ with
    | none => rw [e1] at ea; cases ea
    | some x =>
      rw [e1] at ea
      cases ea
      refine ⟨F, G, L, γ, x, w, hh, e1, fun v G2 H2 x2 w2 ⟨p, C', dx, vc, va, g1, g2, g3, g4, g5⟩ => ?_⟩
      have := h1.one g2
      subst this
      subst g1
      exact ⟨p, dx, _, rfl, w2.g _ _ g3, q _ G2 H2 x2 w2 rfl⟩
end
end Vx
/-! more rules: what stands for something or None, pairs, lists made of texts, of dicts, pop, tuples put together, while, dicts by one name -/
namespace Vx
open Rep (rep)
open EnvR (er)
open PySem PySem.Spec PyProof.Rows L2
section
variable {Γ Γ' Γd Γe S ρ : Type} [EnvR Γ] [EnvR Γ'] [EnvR Γd] [EnvR Γe] [Md S] {α β τ δ : Type} [Rep α] [Rep β] [Rep τ] [Rep δ] {X : Cx} {K : PySem.W.Frag} {R : RR ρ} {a b e o : Expr} {p p2 pos apos : Pos} {i j : Nat}
/-- what is not None -/
theorem VE.unw {f : Γ → Option (Option α)} (h : VE X e f) : VE X e (f1 (fun x => x) f) := PE.le h fun σ H Q ⟨F, G, L, γ, a, w, he, ea, q⟩ => by
  unfold f1 at ea
  cases e1 : f γ with
  | none => rw [e1] at ea; cases ea
  | some x =>
    rw [e1] at ea
    exact ⟨F, G, L, γ, x, w, he, e1, fun v G2 H2 e2 w2 r => q v G2 H2 e2 w2 (by cases ea; exact r)⟩
/-! pairs -/
def ix1 (t : T2 α β) (i : Int) : Option β := if i = 1 then some t.b else none
theorem o_ix1 : Op2 (rIxT K) (RE K (α := T2 α β)) (RE K) (RE K) ix1 := fun F G H x y z vx vy Q w rx ry e k => by
  obtain ⟨p, va, vb, h1, h2, h3, h4⟩ := rx
  cases ry
  unfold ix1 at e
  split at e
  case isFalse => cases e
  rename_i h0
  subst h0
  cases e
  exact ⟨p, [va, vb], 1, vb, h1, rfl, .inl (.inl (w.g _ _ h2)), rfl, k _ G H (Ex.refl G) w h4⟩
/-! list(a text) -/
theorem signs_at {x : Str} : ∀ {us : Array Value}, ItemsOf (SignAt x) us x.cps.size → Vals ((signs x).map V.str) us.toList := by
  intro us h
  have hl : us.toList.length = x.cps.toList.length := by rw [Array.length_toList, Array.length_toList]; exact h.1
  have key : ∀ (cs : List Nat) (vs : List Value) (k : Nat), vs.length = cs.length → (∀ (i : Nat) (v : Value), vs[i]? = some v → ∃ (c : Nat) (t : Tok), cs[i]? = some c ∧ v = Value.str ⟨#[c]⟩ t) → Vals ((cs.map fun c => (⟨#[c]⟩ : Str)).map V.str) vs := by
    intro cs
    induction cs with
    | nil =>
      intro vs k e _
      cases vs with
      | nil => exact .nil
      | cons _ _ => cases e
    | cons c cs ih =>
      intro vs k e hv
      cases vs with
      | nil => cases e
      | cons v vs =>
        obtain ⟨c', t, h1, h2⟩ := hv 0 v rfl
        cases h1
        exact .cons ⟨t, h2⟩ (ih vs k (Nat.succ.inj e) fun i v h => hv (i + 1) v h)
  refine key x.cps.toList us.toList 0 hl fun i v hv => ?_
  have := h.2 i v (by rw [← Array.getElem?_toList]; exact hv)
  obtain ⟨c, t, h1, h2⟩ := this
  exact ⟨c, t, by rw [Array.getElem?_toList]; exact h1, h2⟩
def listS (a : Str × Unit) : Option (List Str) := if a.1.cps.size ≤ 100000 then some (signs a.1) else none
abbrev rLstS : List V → Hp → VK → Prop := fun xs H Q => ∃ z : Str, xs = [.str z] ∧ z.cps.size ≤ 100000 ∧ ∀ l, H l = none → Q (.ref l) (upd H l (.lst ((signs z).map V.str)))
theorem call_listS (hc : X.calm = true) : CallR X (.type "list") rLstS := by
  intro pins s σ H xs us Q I r ⟨z, hx, hz, k⟩
  subst hx
  obtain ⟨u, rfl, t, rfl⟩ := vals1 r
  have hZ : z.cps.size ≤ sizeLine := Nat.le_trans hz (by decide)
  refine call_list_str (I.ok.hd hc) z t (fun h' tk acc c' hk hD hacc => ?_) hZ
  have lz : ((signs z).map V.str).length ≤ sizeLine := by
    simp only [List.length_map, signs, Array.length_toList]
    exact hZ
  exact ⟨.ref s.heap.objs.size, upd H s.heap.objs.size (.lst ((signs z).map V.str)), I.laid (t' := tk) hk (Nat.le_refl _) (show ObjOk X.prog X.w _ _ _ (.lst ((signs z).map V.str)) from ⟨lz, acc.toList, c', signs_at hacc, by rw [Array.toArray_toList]; exact hD⟩), rfl, k _ (I.hok.fresh (Nat.le_refl _))⟩
theorem o_listS : OpA rLstS K (RF K) listS := fun F G H a y vs Q w r e k => by
  obtain ⟨v, h1, h2⟩ := rl1 r
  cases h2
  unfold listS at e
  split at e
  case isFalse => cases e
  rename_i hz
  cases e
  refine ⟨a.1, h1, hz, fun l hl => ?_⟩
  obtain ⟨w3, r3⟩ := rf_new w hl (rep_strs (K := K) (G := G) (xs := signs a.1))
  exact k _ G _ (Ex.refl G) w3 r3
/-! sorted(a dict of texts) -/
/-! xs.pop(i) of one's own -/
theorem paired_erase {α β : Type} {R : α → β → Prop} : ∀ {xs : List α} {ys : List β} (j : Nat), PySem.Paired R xs ys → PySem.Paired R (xs.eraseIdx j) (ys.eraseIdx j)
  | _, _, _, .nil => .nil
  | _, _, 0, .cons r t => t
  | _, _, j + 1, .cons r t => .cons r (paired_erase j t)
def mpop (o : Own i Γ α Γd) (f : Γ → Option (Int × Γ)) : Γ → Option (α × Γ) := fun γ => (f γ).bind fun (k, γ') => if 0 ≤ k ∧ k ≤ 1000000 then ((o.get γ')[k.toNat]?).map fun y => (y, o.set γ' ((o.get γ').eraseIdx k.toNat)) else none
theorem me_pop (o : Own i Γ α Γd) {f : Γ → Option (Int × Γ)} {x : Str} {p1 p2 p3 : Pos} {fr : Γ → Option (α × Γ)} (efr : mpop o f = fr) (h : ME X e f) (hN : X.N[i]? = some x := by rfl) (hv : Vis X.env.scope x := by first | exact Or.inl rfl | exact Or.inr (Or.inl rfl) | exact Or.inr (Or.inr rfl)) (hd : (x == ("__debug__" : Str)) = false := by decide)
    (hcd : (x == ("__classdict__" : Str)) = false := by decide) (hpe : ∀ t, PA X [e] t → PE X (.Call (.Attribute (.Name x p1) "pop" p2) [e] [] p3) (tBM X.K "list" rPopAt (tVar i) t))
    (he : starEach [e] X.env = (false, eval e X.env) :: starEach [] X.env := by rfl) : ME X (.Call (.Attribute (.Name x p1) "pop" p2) [e] [] p3) fr := by
  subst efr
  exact PE.le (hpe _ (pa_cons h pa_nil he)) fun σ H Q ⟨F, G, L, γ, y, γ2, w, hE, ea, q⟩ => by
    unfold mpop at ea
    cases e1 : f γ with
    | none => rw [e1] at ea; cases ea
    | some kk =>
      obtain ⟨k, γ'⟩ := kk
      rw [e1] at ea
      replace ea : (if 0 ≤ k ∧ k ≤ 1000000 then ((o.get γ')[k.toNat]?).map fun y => (y, o.set γ' ((o.get γ').eraseIdx k.toNat)) else none) = some (y, γ2) := ea
      split at ea
      case isFalse => cases ea
      rename_i hk
      cases e2 : (o.get γ')[k.toNat]? with
      | none => rw [e2] at ea; cases ea
      | some z =>
        rw [e2] at ea
        cases ea
        obtain ⟨qa, vs, k1, k2, k3, k4, k5, _⟩ := o.ok hE
        refine ⟨.ref qa, k1, tyV_list (w.f _ _ k3), F, G, L, γ, k, γ', w, hE, e1, fun v F2 G2 H2 x2 w2 of er2 r2 => ?_⟩
        obtain ⟨qb, vs', j1, j2, j3, j4, j5, _⟩ := o.ok er2
        rw [k1] at j1
        cases j1
        cases r2
        obtain ⟨u, hu, ru⟩ := paired_get j4 e2
        have hlt : k.toNat < vs'.length := (List.getElem?_eq_some_iff.mp hu).1
        refine ⟨qa, vs', k, k.toNat, u, rfl, rfl, w2.f _ _ j3, by omega, by omega, ?_, hu, ?_⟩
        · exact PySem.seqIndex_of hk.1 (by omega)
        · exact q u _ G2 _ x2 (w2.set j3) (fun b hb => by rw [upd_ne (fun z => hb (by rw [z]; exact j2))]; exact of b hb) (j5 (Ex.refl _) (paired_erase _ j4)) ru
/-! tuples put together, cut -/
theorem tup_new {F G H : Hp} {xs : List α} {p : Addr} {vs : List V} (w : W F G H) (hp : H p = none) (r : PySem.Paired (rep K G) xs vs) : ∃ G2, Ex G G2 ∧ W F G2 (upd H p (.tup vs)) ∧ rep K G2 (⟨xs⟩ : Tup α) (.ref p) :=
  ⟨upd G p (.tup vs), Ex.upd (w.fresh hp).1, w.new hp, p, vs, rfl, upd_same, Paired.mono (fun _ _ r => Rep.mono (Ex.upd (w.fresh hp).1) r) r⟩
def cutT {α : Type} (lo hi : Option Int) (x : Tup α) : Option (Tup α) := some ⟨cutA lo hi x.l⟩
theorem paired_drop {α β : Type} {R : α → β → Prop} : ∀ {xs : List α} {ys : List β} (j : Nat), PySem.Paired R xs ys → PySem.Paired R (xs.drop j) (ys.drop j)
  | _, _, 0, h => h
  | _, _, _ + 1, .nil => .nil
  | _, _, j + 1, .cons r t => paired_drop j t
theorem paired_take {α β : Type} {R : α → β → Prop} : ∀ {xs : List α} {ys : List β} (j : Nat), PySem.Paired R xs ys → PySem.Paired R (xs.take j) (ys.take j)
  | _, _, 0, h => by
    rw [List.take_zero, List.take_zero]
    exact .nil
  | _, _, _ + 1, .nil => .nil
  | _, _, j + 1, .cons r t => .cons r (paired_take j t)
theorem paired_cut {R : α → V → Prop} {xs : List α} {vs : List V} {lo hi : Option Int} (h : PySem.Paired R xs vs) : PySem.Paired R (cutA lo hi xs) (cutV vs lo hi) := by
  unfold cutA cutV
  rw [paired_len h]
  exact paired_take _ (paired_drop _ h)
theorem sIx_full {α : Type} {xs : List α} {lo hi : Option Int} (h : HT.sIx xs.length 0 lo = 0 ∧ HT.sIx xs.length xs.length hi = xs.length) : cutA lo hi xs = xs := by
  unfold cutA
  rw [h.1, h.2]
  simp
theorem ve_cutTo {f : Γ → Option (Tup α)} {g : Γ → Option Int} (ha : VE X a f) (hb : VE X b g) : VE X (.Subscript a (.Slice none (some b) none p2) pos) (f2 (fun z i => cutT none (some i) z) f g) :=
  PE.le (pe_slice sl_tupA ha po_none (po_some hb)) fun σ H Q ⟨F, G, L, γ, z, w, he, ea, q⟩ => by
    obtain ⟨x, y, e1, e2, e3⟩ := f2_some ea
    cases e3
    refine ⟨F, G, L, γ, x, w, he, e1, fun v G2 H2 x2 w2 r2 => ⟨F, G2, L, γ, y, w2, EnvR.mono x2 he, e2, fun u G3 H3 x3 w3 r3 => ?_⟩⟩
    obtain ⟨p, vs, h1, h2, h3⟩ := Rep.mono x3 r2
    have l1 := paired_len h3
    refine ⟨y, r3, p, vs, h1, .inl (.inl (w3.g _ _ h2)), fun e => ?_, fun _ p2 hp => ?_⟩
    · rw [← l1] at e
      exact q _ G3 H3 (x2.trans x3) w3 ⟨p, vs, rfl, h2, by show PySem.Paired _ (cutA none (some y) x.l) vs; rw [sIx_full e]; exact h3⟩
    · obtain ⟨G4, x4, w4, r4⟩ := tup_new w3 hp (paired_cut (lo := none) (hi := some y) h3)
      exact q _ G4 _ ((x2.trans x3).trans x4) w4 r4
/-! while -/
theorem vs_while_ {Γh : Type} [EnvR Γh] (w : Wk Γ Γh) (n : Nat) {body : List Stmt} {cf : Γh → Option Bool} {f : Γh → Option (Fl Γh S ρ)} {fr : Γ → Option (Fl Γh S ρ)} (efr : swhl (S := S) w n cf f = fr) (hp : PassesOwn (model X.prog X.w) X.A X.env X.xe) {c : Expr} (hc : VT X c cf) (hb : VSs X S R body f) : VS X S R (.While c body [] pos) fr := by
  subst efr
  exact vs_while w n hp hc hb
end
section
variable {Γ Γ1 : Type} [EnvR Γ] [EnvR Γ1] {α1 β κ : Type} [Rep α1] [Rep β] [Rep κ] [KeyOf κ] {X : Cx} {i : Nat} {pos : Pos}
def fdc1 (p1 : Put i Γ α1 Γ1) (g : Γ → Option (List α1)) (kf : Γ1 → Option κ) (vf : Γ1 → Option β) : Γ → Option (Dct β) := fun γ => (g γ).bind fun xs => if xs.length ≤ 100000 then
  (dcGo (fun x => kf (p1.put γ x)) (fun x => vf (p1.put γ x)) xs []).map fun d => ⟨d⟩ else none
theorem tdc1 {K : PySem.W.Frag} {p1 : Put i Γ α1 Γ1} {g : Γ → Option (List α1)} {t : Γ1 → Option Bool} {kf : Γ1 → Option κ} {vf : Γ1 → Option β} {σ : L2.St} {H : Hp} {Q : VK} (h : tev K (RE K) (fdc1 p1 g kf vf) σ H Q) :
    tDc (tiv K g) (gName i) (tet K (fyes (Γ := Γ1))) (tev K (RE K) kf) (tev K (RE K) vf) [i] σ H Q := by
  obtain ⟨F, G, L, γ, zs, w, he, ea, q⟩ := h
  unfold fdc1 at ea
  cases e0 : g γ with
  | none => rw [e0] at ea; cases ea
  | some xs =>
  rw [e0] at ea
  simp only [Option.bind_some] at ea
  split at ea
  case isFalse => cases ea
  rename_i hlen
  cases e9 : dcGo (fun x => kf (p1.put γ x)) (fun x => vf (p1.put γ x)) xs [] with
  | none => rw [e9] at ea; cases ea
  | some dz =>
  rw [e9] at ea
  cases ea
  refine ⟨F, G, L, γ, xs, w, he, e0, fun J G1 H1 x1 w1 wl D hD => ?_⟩
  have fd := w1.fresh hD
  have nD : ∀ q ∈ L, q ≠ D := fun q hq z => EnvR.there he q hq (by rw [z]; exact fd.2)
  refine ⟨fun n m H' => m = xs.length - n ∧ n ≤ xs.length ∧ ∃ G2 acc d, Ex G1 G2 ∧ W (upd F D (.dK acc)) G2 H' ∧ PySem.Paired (RK K G2) d acc ∧ d.length ≤ n ∧
      dcGo (fun x => kf (p1.put γ x)) (fun x => vf (p1.put γ x)) (xs.drop n) d = some dz, ⟨xs.length, by simp, Nat.zero_le _, G1, [], [], Ex.refl _, w1.own hD, .nil, Nat.zero_le _, e9⟩, ?_⟩
  rintro n m H' ⟨rfl, hj, G2, acc, d, x2, w2, r2, hacc, go⟩
  by_cases hlt : n < xs.length
  · obtain ⟨x, hx⟩ : ∃ x, xs[n]? = some x := ⟨xs[n], List.getElem?_eq_getElem hlt⟩
    obtain ⟨hgo, hyl⟩ := (wl (upd F D (.dK acc)) G2 H' x2 w2 n).1 x hx
    have hdrop : xs.drop n = x :: xs.drop (n + 1) := by
      rw [List.drop_eq_getElem_cons hlt]
      have : xs[n] = x := Option.some.inj ((List.getElem?_eq_getElem hlt).symm.trans hx)
      rw [this]
    rw [hdrop] at go
    unfold dcGo at go
    refine .inr ⟨hgo, fun H3 => ∃ G2 acc d, Ex G1 G2 ∧ W (upd F D (.dK acc)) G2 H3 ∧ PySem.Paired (RK K G2) d acc ∧ d.length ≤ n + 1 ∧
      dcGo (fun x => kf (p1.put γ x)) (fun x => vf (p1.put γ x)) (xs.drop (n + 1)) d = some dz, fun H3 z => ⟨xs.length - (n + 1), by omega, rfl, hlt, z⟩, fun xv H3 hy => ?_⟩
    obtain ⟨G3, x3, w3, h3⟩ := hyl xv H3 hy
    refine ⟨show ((σ.set i none).set i (some xv)).set i none = σ.set i none by rw [List.set_set, List.set_set], ?_⟩
    have ew : (wipe σ [i]).set i (some xv) = σ.set i (some xv) := show (σ.set i none).set i (some xv) = _ from by rw [List.set_set]
    rw [ew]
    have er3 : er K G3 (upd F D (.dK acc)) L (σ.set i (some xv)) (p1.put γ x) := p1.ok (EnvR.keep (fun q hq => upd_ne (nD q hq)) (EnvR.mono ((x1.trans x2).trans x3) he)) h3
    refine ⟨_, G3, L, _, true, w3, er3, rfl, fun G4 H4 x4 w4 => ?_⟩
    show (if true = true then _ else _)
    rw [if_pos rfl]
    cases e5 : kf (p1.put γ x) with
    | none =>
      rw [e5] at go
      cases go
    | some kk =>
      rw [e5] at go
      simp only [Option.bind_some] at go
      cases e6 : vf (p1.put γ x) with
      | none =>
        rw [e6] at go
        cases go
      | some vv =>
        rw [e6] at go
        simp only [Option.bind_some] at go
        refine ⟨_, G4, L, _, kk, w4, EnvR.mono x4 er3, e5, fun yk G5 H5 x5 w5 rk => ⟨_, G5, L, _, vv, w5, EnvR.mono (x4.trans x5) er3, e6, fun yv G6 H6 x6 w6 rv => ?_⟩⟩
        have r6 := rk_mono (((x3.trans x4).trans x5).trans x6) r2
        refine ⟨acc, KeyOf.key kk, KeyOf.of rk, w6.f _ _ upd_same, ?_, G6, putK acc (KeyOf.key kk) yv, putB d (KeyOf.key kk) vv, (((x2.trans x3).trans x4).trans x5).trans x6, ?_, rk_put rv r6, Nat.le_trans (putB_len (β := β) d _ _) (Nat.succ_le_succ hacc), go⟩
        · rw [← paired_len r6]
          exact Nat.lt_of_lt_of_le (Nat.lt_of_le_of_lt hacc (Nat.lt_of_lt_of_le hlt hlen)) line_ge
        · have := w6.set (u := .dK (putK acc (KeyOf.key kk) yv)) upd_same
          rw [upd_upd] at this
          exact this
  · have hj' : n = xs.length := by omega
    subst hj'
    rw [List.drop_length] at go
    unfold dcGo at go
    cases go
    refine .inl ⟨(wl (upd F D (.dK acc)) G2 H' x2 w2 xs.length).2 (Nat.le_refl _), ?_⟩
    have gD : G2 D = none := w2.d D _ upd_same
    have ex := Ex.upd (o := HO.dK acc) gD
    have w5 : W F (upd G2 D (.dK acc)) H' := by
      have := w2.free (p := D) upd_same
      refine this.less fun a o z => ?_
      have ha : a ≠ D := fun y => by
        rw [y, fd.2] at z
        cases z
      rw [del_ne ha, upd_ne ha]
      exact z
    exact q _ _ H' ((x1.trans x2).trans ex) w5 ⟨D, acc, rfl, upd_same, rk_mono ex r2⟩
variable {kx vx iter : Expr} {scope : Scope} {tpos : Pos} {x : Str}
/-- {k: v for x in iter} -/
theorem ve_dc1 (p1 : Put i Γ α1 Γ1) {g : Γ → Option (List α1)} {kf : Γ1 → Option κ} {vf : Γ1 → Option β} {fr : Γ → Option (Dct β)} (efr : fdc1 p1 g kf vf = fr) (hc : X.calm = true) (hN : X.N.Nodup) (hi : VI X (.Name x tpos) iter g) (ok : blkC X.N X.env.scope scope [(x, i)] = true)
    (hg : ∀ (s : Shared) (H : Hp) (C : Addr) (cl : List (Str × Addr)) (fp : List Addr), PG (X.blk s H scope (compEnvC scope cl C X.env) fp) (.Name x tpos) (gName i))
    (hk : ∀ (s : Shared) (H : Hp) (C : Addr) (cl : List (Str × Addr)) (fp : List Addr), VE (X.blk s H scope (compEnvC scope cl C X.env) fp) kx kf)
    (hv : ∀ (s : Shared) (H : Hp) (C : Addr) (cl : List (Str × Addr)) (fp : List Addr), VE (X.blk s H scope (compEnvC scope cl C X.env) fp) vx vf) (hs : ∀ x, foldedSetIterable iter X.env x = pure x := by intro _; rfl) :
    VE X (.DictComp kx vx [⟨.Name x tpos, iter, [], 0⟩] scope pos) fr := by
  subst efr
  exact PE.le (pe_dc (own := [(x, i)]) (g := gName i) (tt := tet X.K (fyes (Γ := Γ1))) hc hN hi (blkOk_by ok) hg (fun _ _ _ _ _ => vts_nil) hk hv hs) fun σ H Q h => tdc1 (t := fyes) h
end
end Vx
/-! lists of one's own as arguments; two lists at once; joins with a draw -/
namespace Vx
open Rep (rep)
open EnvR (er)
open PySem PySem.Spec PyProof.Rows L2
section
variable {Γ Γ1 Γ2 Γd S ρ : Type} [EnvR Γ] [EnvR Γ1] [EnvR Γ2] [EnvR Γd] [Md S] {α β : Type} [Rep α] [Rep β] {X : Cx} {K : PySem.W.Frag} {R : RR ρ} {a b e o : Expr} {p1 p2 pos apos : Pos} {i j : Nat} {x : Str}
/-- tuple(xs), xs of one's own -/
theorem ve_tupO (o : Own i Γ α Γd) {fr : Γ → Option (Tup α)} (efr : (fun γ => some (⟨o.get γ⟩ : Tup α)) = fr) (hm : X.mg "tuple" = none) (hN : X.N[i]? = some x := by rfl) (hv : Vis X.env.scope x := by first | exact Or.inl rfl | exact Or.inr (Or.inl rfl) | exact Or.inr (Or.inr rfl)) (hd : (x == ("__debug__" : Str)) = false := by decide)
    (hcd : (x == ("__classdict__" : Str)) = false := by decide) (hg : Gl X "tuple" := by rfl) (he : starEach [.Name x p1] X.env = (false, eval (.Name x p1) X.env) :: starEach [] X.env := by rfl) (hpl : (backTo pos (starEach [] X.env)).any (·.1) = false := by rfl) : VE X (.Call (.Name "tuple" p2) [.Name x p1] [] pos) fr := by
  subst efr
  exact PE.le (pe_callTy call_tuple_of hg hm (by decide +kernel) (pa_cons (pe_var hN hv hd hcd) pa_nil he) (he := he) (hpl := hpl)) fun σ H Q ⟨F, G, L, γ, z, w, hh, ea, q⟩ => by
    cases ea
    obtain ⟨qa, vs, k1, k2, k3, k4, _⟩ := o.ok hh
    refine ⟨.ref qa, k1, qa, vs, rfl, .inl ⟨SqL.of (w.f _ _ k3), fun l hl => ?_⟩⟩
    obtain ⟨G2, x2, w2, r2⟩ := tup_new w hl k4
    exact q _ G2 _ x2 w2 r2
theorem ve_lenO (o : Own i Γ α Γd) {fr : Γ → Option Int} (efr : (fun γ => some ((o.get γ).length : Int)) = fr) (hm : X.mg "len" = none) (hN : X.N[i]? = some x := by rfl) (hv : Vis X.env.scope x := by first | exact Or.inl rfl | exact Or.inr (Or.inl rfl) | exact Or.inr (Or.inr rfl)) (hd : (x == ("__debug__" : Str)) = false := by decide)
    (hcd : (x == ("__classdict__" : Str)) = false := by decide) (hg : Gl X "len" := by rfl) (he : starEach [.Name x p1] X.env = (false, eval (.Name x p1) X.env) :: starEach [] X.env := by rfl) (hpl : (backTo pos (starEach [] X.env)).any (·.1) = false := by rfl) : VE X (.Call (.Name "len" p2) [.Name x p1] [] pos) fr := by
  subst efr
  exact PE.le (pe_callB call_len_seq hg hm (by decide +kernel) (pa_cons (pe_var hN hv hd hcd) pa_nil he) (he := he) (hpl := hpl)) fun σ H Q ⟨F, G, L, γ, z, w, hh, ea, q⟩ => by
    cases ea
    obtain ⟨qa, vs, k1, k2, k3, k4, _⟩ := o.ok hh
    exact ⟨.ref qa, k1, qa, vs, rfl, .inl (SqL.of (w.f _ _ k3)), q _ G H (Ex.refl G) w (by rw [paired_len k4]; rfl)⟩
/-- sorted(xs), texts of one's own -/
theorem vf_srtO (o : Own i Γ Str Γd) {fr : Γ → Option (List Str)} (efr : (fun γ => if (o.get γ).length ≤ 100000 then some (srt (o.get γ)) else none) = fr) (hu : X.A.units + 64 < cLine) (hm : X.mg "sorted" = none) (hN : X.N[i]? = some x := by rfl) (hv : Vis X.env.scope x := by first | exact Or.inl rfl | exact Or.inr (Or.inl rfl) | exact Or.inr (Or.inr rfl)) (hd : (x == ("__debug__" : Str)) = false := by decide)
    (hcd : (x == ("__classdict__" : Str)) = false := by decide) (hg : Gl X "sorted" := by rfl) (he : starEach [.Name x p1] X.env = (false, eval (.Name x p1) X.env) :: starEach [] X.env := by rfl) (hpl : (backTo pos (starEach [] X.env)).any (·.1) = false := by rfl) : VF X (.Call (.Name "sorted" p2) [.Name x p1] [] pos) fr := by
  subst efr
  exact PE.le (pe_callB (cr_srt hu) hg hm (by decide +kernel) (pa_cons (pe_var hN hv hd hcd) pa_nil he) (he := he) (hpl := hpl)) fun σ H Q ⟨F, G, L, γ, z, w, hh, ea, q⟩ => by
    replace ea : (if (o.get γ).length ≤ 100000 then some (srt (o.get γ)) else none) = some z := ea
    split at ea
    case isFalse => cases ea
    rename_i hl
    cases ea
    obtain ⟨qa, vs, k1, k2, k3, k4, _⟩ := o.ok hh
    have ev := strs_rep k4
    subst ev
    refine ⟨.ref qa, k1, qa, o.get γ, rfl, SqL.of (w.f _ _ k3), hl, fun p hp => ?_⟩
    obtain ⟨w3, r3⟩ := rf_new w hp (rep_strs (K := X.K) (G := G) (xs := srt (o.get γ)))
    exact q _ G _ (Ex.refl G) w3 r3
/-- ''.join(..) with a draw -/
theorem me_join {f : Γ → Option (Str × Γ)} {g : Γ → Option (List Str × Γ)} (ho : ME X o f) (he : ME X e g) (hs : starEach [e] X.env = [(false, eval e X.env)] := by rfl) (hbase : attributeBase o "join" X.env (eval o X.env) = eval o X.env := by rfl) (hline : (apos.endLine == pos.line) = true := by rfl) :
    ME X (.Call (.Attribute o "join" apos) [e] [] pos) (m2 jn f g) := PE.le (pe_join ho he hs hbase hline) fun σ H Q ⟨F, G, L, γ, z, γ', w, hh, ea, q⟩ => by
  obtain ⟨x, γ1, y, e1, e2, e3⟩ := m2_some ea
  unfold jn at e3
  split at e3
  · rename_i hl
    cases e3
    refine ⟨F, G, L, γ, x, γ1, w, hh, e1, fun v F2 G2 H2 x2 w2 o2 h2 r2 => ⟨⟨x, r2⟩, F2, G2, L, γ1, y, γ', w2, h2, e2, fun u F3 G3 H3 x3 w3 o3 h3 r3 => ?_⟩⟩
    obtain ⟨p, vs, g1, g2, g3⟩ := r3
    rw [strs_of g3] at g2
    exact ⟨x, p, y, r2, by rw [g1], .inl (.inl (.inl (w3.g _ _ g2))), by omega, q _ F3 _ _ (x2.trans x3) w3 (off_trans o2 o3) h3 rfl⟩
  · cases e3
/-- x, y = (two new lists) -/
def snew2 (pa : PutO i Γ α Γ1) (pb : PutO j Γ1 β Γ2) (f : Γ → Option (List α)) (g : Γ → Option (List β)) : Γ → Option (Fl Γ2 S ρ) := fun γ => (f γ).bind fun xs => (g γ).map fun ys => .nx (pb.put (pa.put γ xs) ys)
theorem vs_new2 (pa : PutO i Γ α Γ1) (pb : PutO j Γ1 β Γ2) {x y : Str} {px py pt : Pos} {kt k2 pt2} {f : Γ → Option (List α)} {g : Γ → Option (List β)} {fr : Γ → Option (Fl Γ2 S ρ)} (efr : snew2 (S := S) pa pb f g = fr) (hc : X.calm = true) (hN : X.N.Nodup) (ha : VF X a f) (hb : VF X b g) (hij : i ≠ j := by decide) (hi : X.N[i]? = some x := by rfl) (hj : X.N[j]? = some y := by rfl)
    (hx : X.env.scope.names.lookup x = some .local := by rfl) (hy : X.env.scope.names.lookup y = some .local := by rfl) (hw : swappedStores [.Tuple [.Name x px, .Name y py] kt pt] (.Tuple [a, b] k2 pt2) X.env = pure (some [x, y]) := by rfl)
    (hs : swapsWithSole [.Tuple [.Name x px, .Name y py] kt pt] (.Tuple [a, b] k2 pt2) pos.line X.env = pure false := by rfl) (ho : Md.okI S i = true := by rfl) (ho' : Md.okI S j = true := by rfl)
    (h1 : starEach [a, b] X.env = (false, eval a X.env) :: starEach [b] X.env := by rfl) (h2 : starEach [b] X.env = (false, eval b X.env) :: starEach [] X.env := by rfl) :
    VS X S R (.Assign [.Tuple [.Name x px, .Name y py] kt pt] (.Tuple [a, b] k2 pt2) pos) fr := by
  subst efr
  exact PS.le (ps_par hc hN hi hj hij hx hy (pa_cons ha (pa_cons hb pa_nil h2) h1) hw hs) fun D σ H ⟨F, G, L, γ, p, r, wd, nd, he, hat, ea, k⟩ => by
    unfold snew2 at ea
    cases e1 : f γ with
    | none => rw [e1] at ea; cases ea
    | some xs =>
      rw [e1] at ea
      simp only [Option.bind_some] at ea
      cases e2 : g γ with
      | none => rw [e2] at ea; cases ea
      | some ys =>
        rw [e2] at ea
        cases ea
        refine ⟨F, G, L, γ, xs, wd, he, e1, fun v G2 H2 x2 w2 ⟨q, vs, ev, hF, hG, hH, r2⟩ => ?_⟩
        subst ev
        have hq : q ∉ L := fun z => EnvR.there he q z hF
        have er2 : er X.K G2 (upd F q (.lst vs)) L σ γ := EnvR.keep (fun b hb => upd_ne (fun z => hq (by rw [← z]; exact hb))) (EnvR.mono x2 he)
        refine ⟨upd F q (.lst vs), G2, L, γ, ys, w2.take hF hG hH, er2, e2, fun v' G3 H3 x3 w3 ⟨q', vs', ev', hF', hG', hH', r3⟩ => ?_⟩
        subst ev'
        have hqq : q ≠ q' := fun z => by
          rw [← z, upd_same] at hF'
          cases hF'
        have hFq' : F q' = none := by
          rw [upd_ne (Ne.symm hqq)] at hF'
          exact hF'
        have hq' : q' ∉ L := fun z => EnvR.there he q' z hFq'
        have er3 : er X.K G3 (upd (upd F q (.lst vs)) q' (.lst vs')) L σ γ := EnvR.keep (fun b hb => upd_ne (fun z => hq' (by rw [← z]; exact hb))) (EnvR.mono x3 er2)
        obtain ⟨L1, l1, l2, l3⟩ := pa.ok er3 hq (by rw [upd_ne hqq]; exact upd_same) (Paired.mono (fun _ _ z => Rep.mono x3 z) r2)
        have hq1 : q' ∉ L1 := fun z => (l1 q' z).elim hq' (fun e => hqq e.symm)
        obtain ⟨L2, m1, m2, m3⟩ := pb.ok l3 hq1 upd_same r3
        refine ⟨_, _, rfl, k _ L2 (upd (upd F q (.lst vs)) q' (.lst vs')) G3 H3 (x2.trans x3) (w3.take hF' hG' hH') (m2 (l2 nd)) ?_ ?_ m3 (Md.keep ho' (Md.keep ho hat))⟩
        · intro b o hb e
          rw [upd_ne (ne_of_none e hFq'), upd_ne (ne_of_none e hF)]
          exact e
        · intro b hb
          rcases m1 b hb with h | h
          · rcases l1 b h with h | h
            · exact .inl h
            · exact .inr (by rw [h]; exact hF)
          · exact .inr (by rw [h]; exact hFq')
/-- a pair, with a draw -/
theorem me_pair {f : Γ → Option ((α × β × Unit) × Γ)} {kt : Nat} (h : MA X [a, b] f) : ME X (.Tuple [a, b] kt pos) (m1 pairT f) := PE.le (pe_tup h) fun σ H Q ⟨F, G, L, γ, z, γ', w, he, ea, q⟩ => by
  obtain ⟨x, e1, e2⟩ := m1_some ea
  cases e2
  refine ⟨F, G, L, γ, x, γ', w, he, e1, fun vs F2 G2 H2 x2 w2 o2 h2 r2 => ?_⟩
  obtain ⟨v, u, e, h3, h4⟩ := rl2 r2
  subst e
  refine ⟨(by decide : 2 ≤ sizeLine), fun p hp => ?_⟩
  have ex := Ex.upd (o := HO.tup [v, u]) (w2.fresh hp).1
  exact q _ F2 _ _ (x2.trans ex) (w2.new hp) o2 (EnvR.mono ex h2) ⟨p, v, u, rfl, upd_same, Rep.mono ex h3, Rep.mono ex h4⟩
end
section
variable {Γ : Type} [EnvR Γ] {X : Cx} {A : Type} [RepL A] {k : Nat} {psn : List Str} {p pos : Pos} {e : Expr} {es : List Expr}
variable {Γ' ρ : Type} [EnvR Γ'] {R : RR ρ} {value : Expr} {p1 p2 : Pos} {x : Str}
theorem vd_s1 {f : OI0 × Γ → Option Str} {fr : OI0 × Γ → Option (Fl (OI1 × Γ) Unit ρ)} (T : TmF X.K) (efr : sf1 f = fr) (hv : VE X value f) (hN : X.N[0]? = some x := by rfl) (hvs : Vis X.env.scope x := by first | exact Or.inl rfl | exact Or.inr (Or.inl rfl) | exact Or.inr (Or.inr rfl)) (hd : (x == ("__debug__" : Str)) = false := by decide)
    (hcd : (x == ("__classdict__" : Str)) = false := by decide) (hs : swapsWith value (some (.Attribute (.Name x p1) "_things" p2)) pos.line X.env = pure false := by rfl) : VS X Unit R (.Assign [.Attribute (.Name x p1) "_things" p2] value pos) fr := by
  obtain ⟨C, h1, h2, n1, n2, n3⟩ := T
  exact vs_f1 efr h1 h2 n1 hv hN hvs hd hcd hs
theorem vd_s2 {f : OI1 × Γ → Option (Tup Str)} {fr : OI1 × Γ → Option (Fl (OI2 × Γ) Unit ρ)} (T : TmF X.K) (efr : sf2 f = fr) (hv : VE X value f) (hN : X.N[0]? = some x := by rfl) (hvs : Vis X.env.scope x := by first | exact Or.inl rfl | exact Or.inr (Or.inl rfl) | exact Or.inr (Or.inr rfl)) (hd : (x == ("__debug__" : Str)) = false := by decide)
    (hcd : (x == ("__classdict__" : Str)) = false := by decide) (hs : swapsWith value (some (.Attribute (.Name x p1) "_closed" p2)) pos.line X.env = pure false := by rfl) : VS X Unit R (.Assign [.Attribute (.Name x p1) "_closed" p2] value pos) fr := by
  obtain ⟨C, h1, h2, n1, n2, n3⟩ := T
  exact vs_f2 efr h1 h2 n2 hv hN hvs hd hcd hs
theorem vd_s3 {f : OI2 × Γ → Option (Dct Str)} {fr : OI2 × Γ → Option (Fl (OI3 × Γ) Unit ρ)} (T : TmF X.K) (efr : sf3 f = fr) (hv : VE X value f) (hN : X.N[0]? = some x := by rfl) (hvs : Vis X.env.scope x := by first | exact Or.inl rfl | exact Or.inr (Or.inl rfl) | exact Or.inr (Or.inr rfl)) (hd : (x == ("__debug__" : Str)) = false := by decide)
    (hcd : (x == ("__classdict__" : Str)) = false := by decide) (hs : swapsWith value (some (.Attribute (.Name x p1) "_around" p2)) pos.line X.env = pure false := by rfl) : VS X Unit R (.Assign [.Attribute (.Name x p1) "_around" p2] value pos) fr := by
  obtain ⟨C, h1, h2, n1, n2, n3⟩ := T
  exact vs_f3 efr h1 h2 n3 hv hN hvs hd hcd hs
end
end Vx
/-! a local that a loop has set, perhaps -/
namespace Vx
open Rep (rep)
open EnvR (er)
open PySem PySem.Spec PyProof.Rows L2
structure Mb (α : Type) where
  v : Option α
instance {α : Type} [Rep α] : Slot (Mb α) := ⟨fun K G _ L o t => L = [] ∧ ∀ a, t.v = some a → ∃ v, o = some v ∧ rep K G a v, fun e ⟨h1, h2⟩ => ⟨h1, fun a ha => let ⟨v, h3, h4⟩ := h2 a ha; ⟨v, h3, Rep.mono e h4⟩⟩, fun _ h => h, fun h q hq => by
  rw [h.1] at hq
  cases hq⟩
instance {α : Type} [Rep α] : VSlot (Mb α) := ⟨fun h => h.1⟩
end Vx
/-! x, y, z = a list, with draws -/
namespace Vx
open Rep (rep)
open EnvR (er)
open PySem PySem.Spec PyProof.Rows L2
instance : DatE (Option Str) := ⟨fun x y => by
  cases x with
  | none =>
    cases y with
    | none => rfl
    | some b => rfl
  | some a =>
    cases y with
    | none => rfl
    | some b =>
      show PyData.eqv (PyData.str a) (PyData.str b) = _
      have := DatE.eqv a b
      have e : decide (some a = some b) = decide (a = b) := decide_eq_decide.mpr (by simp)
      rw [e]
      exact this⟩
end Vx
namespace Vx
open Rep (rep)
open EnvR (er)
open PySem PySem.Spec PyProof.Rows L2
/-! a tuple from behind -/
end Vx
/-! x == y of two objects of one class that has its own word for it -/
namespace Vx
open Rep (rep)
open EnvR (er)
open PySem PySem.Spec PyProof.Rows L2
end Vx
/-! a drawn list is walked -/
namespace Vx
open Rep (rep)
open EnvR (er)
open PySem PySem.Spec PyProof.Rows L2
end Vx
/-! sorted of a list of plain data, so of pairs of texts -/
namespace Vx
open Rep (rep)
open EnvR (er)
open PySem PySem.Spec PyProof.Rows L2
/-- data that can be sorted -/
class DatS (α : Type) [Rep α] [Dat α] : Prop where
  ali : ∀ x y : α, PySem.W.alike (Dat.d x) (Dat.d y) = true
  srt : ∀ xs : List α, PySem.W.Sortable (xs.map Dat.d)
instance : DatS (T2 Str Str) := ⟨fun x y => by
    show PySem.W.alike (.tuple [.str x.a, .str x.b]) (.tuple [.str y.a, .str y.b]) = true
    simp [PySem.W.alike, PySem.W.alikeAll], fun xs => PySem.W.Sortable.tuples fun b => ⟨_, _, rfl⟩⟩
end Vx
/-! [e for x in xs for y in ys] -/
namespace Vx
open Rep (rep)
open EnvR (er)
open PySem PySem.Spec PyProof.Rows L2
/-- a slot of which nothing is known may be empty -/
structure Nn (i : Nat) (Γ : Type) [EnvR Γ] : Prop where
  ok : ∀ {K : PySem.W.Frag} {G F : Hp} {L : List Addr} {σ : L2.St} {γ : Γ}, EnvR.er K G F L σ γ → EnvR.er K G F L (σ.set i none) γ
theorem nz {Γ : Type} [EnvR Γ] : Nn 0 (Any × Γ) := ⟨fun ⟨L1, L2, o, σ', h1, h2, h3, h4, h5⟩ => ⟨L1, L2, none, σ', h1, by subst h2; rfl, h3, h4, h5⟩⟩
theorem ns {i : Nat} {τ₀ Γ : Type} [Slot τ₀] [EnvR Γ] (n : Nn i Γ) : Nn (i + 1) (τ₀ × Γ) := ⟨fun ⟨L1, L2, o, σ', h1, h2, h3, h4, h5⟩ => ⟨L1, L2, o, σ'.set i none, h1, by subst h2; rfl, h3, n.ok h4, h5⟩⟩
section
variable {Γ Γ1 Γ2 : Type} [EnvR Γ] [EnvR Γ1] [EnvR Γ2] {α τ τ1 : Type} [Rep τ] [Rep τ1] [Rep α] {i i1 : Nat}
def catGo (h : τ → Option (List α)) : List τ → Option (List α)
  | [] => some []
  | x :: xs => (h x).bind fun ys => (catGo h xs).map (ys ++ ·)
def flc1 (p1 : Put i1 Γ1 τ1 Γ2) (t : Γ1 → Option Bool) (g1 : Γ1 → Option (List τ1)) (t1 : Γ2 → Option Bool) (e : Γ2 → Option α) : Γ1 → Option (List α) := fun γ => (t γ).bind fun b => if b then (g1 γ).bind fun ys => if ys.length ≤ 300 then lcGo (fun y => t1 (p1.put γ y)) (fun y => e (p1.put γ y)) ys else none else some []
def flc2 (p : Put i Γ τ Γ1) (p1 : Put i1 Γ1 τ1 Γ2) (g : Γ → Option (List τ)) (t : Γ1 → Option Bool) (g1 : Γ1 → Option (List τ1)) (t1 : Γ2 → Option Bool) (e : Γ2 → Option α) : Γ → Option (List α) := fun γ => (g γ).bind fun xs => if xs.length ≤ 300 then catGo (fun x => flc1 p1 t g1 t1 e (p.put γ x)) xs else none
theorem set2 {σ : L2.St} {i : Nat} {a b : Option V} : (σ.set i a).set i b = σ.set i b := set_set'
theorem tlcp2 {K : PySem.W.Frag} {p : Put i Γ τ Γ1} {p1 : Put i1 Γ1 τ1 Γ2} (n : Nn i1 Γ) (hij : i ≠ i1) {g : Γ → Option (List τ)} {t : Γ1 → Option Bool} {g1 : Γ1 → Option (List τ1)} {t1 : Γ2 → Option Bool} {e : Γ2 → Option α} {σ : L2.St} {H : Hp} {Q : VK} (h : tev K (RF K) (flc2 p p1 g t g1 t1 e) σ H Q) :
    tLc2 (tiv K g) (gName i) (tet K t) (tiv K g1) (gName i1) (tet K t1) (tev K (RE K) e) [i, i1] [i1] σ H Q := by
  obtain ⟨F, G, L, γ, zs, w, he, ea, q⟩ := h
  unfold flc2 at ea
  cases e0 : g γ with
  | none => rw [e0] at ea; cases ea
  | some xs =>
  rw [e0] at ea
  simp only [Option.bind_some] at ea
  split at ea
  case isFalse => cases ea
  rename_i hlen
  refine ⟨F, G, L, γ, xs, w, he, e0, fun J G1 H1 x1 w1 wl D hD => ?_⟩
  have fd := w1.fresh hD
  have nD : ∀ q ∈ L, q ≠ D := fun q hq z => EnvR.there he q hq (by rw [z]; exact fd.2)
  refine ⟨fun j m H' => m = xs.length - j ∧ j ≤ xs.length ∧ ∃ G2 acc ys rest, Ex G1 G2 ∧ W (upd F D (.lst acc)) G2 H' ∧ PySem.Paired (rep K G2) ys acc ∧ acc.length ≤ 300 * j ∧
      catGo (fun x => flc1 p1 t g1 t1 e (p.put γ x)) (xs.drop j) = some rest ∧ zs = ys ++ rest, ⟨xs.length, by simp, Nat.zero_le _, G1, [], [], zs, Ex.refl _, w1.own hD, .nil, Nat.zero_le _, ea, rfl⟩, ?_⟩
  rintro j m H' ⟨rfl, hj, G2, acc, ys, rest, x2, w2, r2, hacc, go, rfl⟩
  by_cases hlt : j < xs.length
  · obtain ⟨x, hx⟩ : ∃ x, xs[j]? = some x := ⟨xs[j], List.getElem?_eq_getElem hlt⟩
    obtain ⟨hgo, hyl⟩ := (wl (upd F D (.lst acc)) G2 H' x2 w2 j).1 x hx
    have hdrop : xs.drop j = x :: xs.drop (j + 1) := by
      rw [List.drop_eq_getElem_cons hlt]
      have : xs[j] = x := Option.some.inj ((List.getElem?_eq_getElem hlt).symm.trans hx)
      rw [this]
    rw [hdrop] at go
    unfold catGo at go
    refine .inr ⟨hgo, fun H3 => ∃ G2 acc ys rest', Ex G1 G2 ∧ W (upd F D (.lst acc)) G2 H3 ∧ PySem.Paired (rep K G2) ys acc ∧ acc.length ≤ 300 * (j + 1) ∧
      catGo (fun x => flc1 p1 t g1 t1 e (p.put γ x)) (xs.drop (j + 1)) = some rest' ∧ _ = ys ++ rest', fun H3 z => ⟨xs.length - (j + 1), by omega, rfl, hlt, z⟩, fun xv H3 hy => ?_⟩
    obtain ⟨G3, x3, w3, rx⟩ := hyl xv H3 hy
    have er3 : EnvR.er K G3 (upd F D (.lst acc)) L ((σ.set i1 none).set i (some xv)) (p.put γ x) := p.ok (n.ok (EnvR.keep (fun q hq => upd_ne (nD q hq)) (EnvR.mono ((x1.trans x2).trans x3) he))) rx
    have ew : (wipe σ [i, i1]).set i (some xv) = (σ.set i1 none).set i (some xv) := by
      show ((σ.set i1 none).set i none).set i (some xv) = _
      rw [set2]
    show wipe ((wipe σ [i, i1]).set i (some xv)) [i, i1] = wipe σ [i, i1] ∧ _
    refine ⟨by show ((((σ.set i1 none).set i none).set i (some xv)).set i1 none).set i none = (σ.set i1 none).set i none; rw [set2, List.set_comm (some xv) none hij, set2, set2], ?_⟩
    show tet K t ((wipe σ [i, i1]).set i (some xv)) H3 _
    rw [ew]
    cases e1 : flc1 p1 t g1 t1 e (p.put γ x) with
    | none =>
      rw [e1] at go
      cases go
    | some in1 =>
    rw [e1] at go
    simp only [Option.bind_some] at go
    cases eg : catGo (fun x => flc1 p1 t g1 t1 e (p.put γ x)) (xs.drop (j + 1)) with
    | none =>
      rw [eg] at go
      cases go
    | some rest' =>
    rw [eg] at go
    simp only [Option.map_some] at go
    cases go
    unfold flc1 at e1
    cases et : t (p.put γ x) with
    | none =>
      rw [et] at e1
      cases e1
    | some b =>
      rw [et] at e1
      simp only [Option.bind_some] at e1
      refine ⟨_, G3, L, _, b, w3, er3, et, fun G4 H4 x4 w4 => ?_⟩
      cases b with
      | false =>
        simp only [Bool.false_eq_true, if_false] at e1 ⊢
        cases e1
        exact ⟨G4, acc, ys, rest', (x2.trans x3).trans x4, w4, Paired.mono (fun _ _ z => Rep.mono (x3.trans x4) z) r2, by omega, rfl, rfl⟩
      | true =>
        simp only [if_true] at e1 ⊢
        cases eg1 : g1 (p.put γ x) with
        | none =>
          rw [eg1] at e1
          cases e1
        | some us =>
        rw [eg1] at e1
        simp only [Option.bind_some] at e1
        split at e1
        case isFalse => cases e1
        rename_i hlen1
        refine ⟨_, G4, L, _, us, w4, EnvR.mono x4 er3, eg1, fun J1 G5 H5 x5 w5 wl1 => ?_⟩
        have x25 : Ex G2 G5 := (x3.trans x4).trans x5
        refine ⟨fun k m H6 => m = us.length - k ∧ k ≤ us.length ∧ ∃ G6 acc2 ys2 rest2, Ex G5 G6 ∧ W (upd F D (.lst acc2)) G6 H6 ∧ PySem.Paired (rep K G6) ys2 acc2 ∧ acc2.length ≤ 300 * j + k ∧
          lcGo (fun y => t1 (p1.put (p.put γ x) y)) (fun y => e (p1.put (p.put γ x) y)) (us.drop k) = some rest2 ∧ ys ++ in1 = ys2 ++ rest2, ⟨us.length, by simp, Nat.zero_le _, G5, acc, ys, in1, Ex.refl _, w5, Paired.mono (fun _ _ z => Rep.mono x25 z) r2, hacc, e1, rfl⟩, ?_⟩
        rintro k m H6 ⟨rfl, hk, G6, acc2, ys2, rest2, x6, w6, r6, hacc2, go2, eq2⟩
        by_cases hlt2 : k < us.length
        · obtain ⟨y, hy2⟩ : ∃ y, us[k]? = some y := ⟨us[k], List.getElem?_eq_getElem hlt2⟩
          obtain ⟨hgo2, hyl2⟩ := (wl1 (upd F D (.lst acc2)) G6 H6 x6 w6 k).1 y hy2
          have hdrop2 : us.drop k = y :: us.drop (k + 1) := by
            rw [List.drop_eq_getElem_cons hlt2]
            have : us[k] = y := Option.some.inj ((List.getElem?_eq_getElem hlt2).symm.trans hy2)
            rw [this]
          rw [hdrop2] at go2
          unfold lcGo at go2
          refine .inr ⟨hgo2, fun H7 => ∃ G6 acc2 ys2 rest2, Ex G5 G6 ∧ W (upd F D (.lst acc2)) G6 H7 ∧ PySem.Paired (rep K G6) ys2 acc2 ∧ acc2.length ≤ 300 * j + (k + 1) ∧
            lcGo (fun y => t1 (p1.put (p.put γ x) y)) (fun y => e (p1.put (p.put γ x) y)) (us.drop (k + 1)) = some rest2 ∧ ys ++ in1 = ys2 ++ rest2, fun H7 z => ⟨us.length - (k + 1), by omega, rfl, hlt2, z⟩, fun yv H7 hy7 => ?_⟩
          obtain ⟨G7, x7, w7, ry⟩ := hyl2 yv H7 hy7
          have er7 : EnvR.er K G7 (upd F D (.lst acc2)) L (((σ.set i1 none).set i (some xv)).set i1 (some yv)) (p1.put (p.put γ x) y) := p1.ok (EnvR.keep (fun q hq => by rw [upd_ne (nD q hq), upd_ne (nD q hq)]) (EnvR.mono (((x4.trans x5).trans x6).trans x7) er3)) ry
          show wipe ((wipe ((σ.set i1 none).set i (some xv)) [i1]).set i1 (some yv)) [i1] = wipe ((σ.set i1 none).set i (some xv)) [i1] ∧ _
          refine ⟨by show ((((σ.set i1 none).set i (some xv)).set i1 none).set i1 (some yv)).set i1 none = ((σ.set i1 none).set i (some xv)).set i1 none; rw [set2, set2], ?_⟩
          show tet K t1 ((wipe ((σ.set i1 none).set i (some xv)) [i1]).set i1 (some yv)) H7 _
          rw [show (wipe ((σ.set i1 none).set i (some xv)) [i1]).set i1 (some yv) = ((σ.set i1 none).set i (some xv)).set i1 (some yv) from set2]
          cases et1 : t1 (p1.put (p.put γ x) y) with
          | none =>
            rw [et1] at go2
            cases go2
          | some b =>
            rw [et1] at go2
            simp only [Option.bind_some] at go2
            refine ⟨_, G7, L, _, b, w7, er7, et1, fun G8 H8 x8 w8 => ?_⟩
            cases b with
            | false =>
              simp only [Bool.false_eq_true, if_false] at go2 ⊢
              exact ⟨G8, acc2, ys2, rest2, (x6.trans x7).trans x8, w8, Paired.mono (fun _ _ z => Rep.mono (x7.trans x8) z) r6, by omega, go2, eq2⟩
            | true =>
              simp only [if_true] at go2 ⊢
              cases ee : e (p1.put (p.put γ x) y) with
              | none =>
                rw [ee] at go2
                cases go2
              | some u =>
                rw [ee] at go2
                simp only [Option.bind_some] at go2
                cases eg2 : lcGo (fun y => t1 (p1.put (p.put γ x) y)) (fun y => e (p1.put (p.put γ x) y)) (us.drop (k + 1)) with
                | none =>
                  rw [eg2] at go2
                  cases go2
                | some rest3 =>
                  rw [eg2] at go2
                  simp only [Option.map_some] at go2
                  cases go2
                  refine ⟨_, G8, L, _, u, w8, EnvR.mono x8 er7, ee, fun uv G9 H9 x9 w9 ru => ?_⟩
                  refine ⟨acc2, w9.f _ _ upd_same, Nat.lt_of_lt_of_le (show acc2.length < 100000 by omega) line_ge, G9, acc2 ++ [uv], ys2 ++ [u], rest3, ((x6.trans x7).trans x8).trans x9, ?_,
                    paired_app (Paired.mono (fun _ _ z => Rep.mono ((x7.trans x8).trans x9) z) r6) (.cons ru .nil), ?_, (by first | exact eg2 | rfl), ?_⟩
                  · have := w9.set (u := .lst (acc2 ++ [uv])) upd_same
                    rw [upd_upd] at this
                    exact this
                  · rw [List.length_append, List.length_singleton]
                    omega
                  · rw [eq2, List.append_assoc]
                    rfl
        · have hk2 : us.length ≤ k := Nat.le_of_not_lt hlt2
          refine .inl ⟨(wl1 (upd F D (.lst acc2)) G6 H6 x6 w6 k).2 hk2, ?_⟩
          rw [List.drop_eq_nil_of_le hk2] at go2
          cases go2
          rw [List.append_nil] at eq2
          exact ⟨G6, acc2, ys2, rest', ((x2.trans x25).trans x6), w6, r6, by omega, rfl, by rw [← eq2, List.append_assoc]⟩
  · have hj2 : xs.length ≤ j := Nat.le_of_not_lt hlt
    refine .inl ⟨(wl (upd F D (.lst acc)) G2 H' x2 w2 j).2 hj2, ?_⟩
    rw [List.drop_eq_nil_of_le hj2] at go
    unfold catGo at go
    cases go
    rw [List.append_nil] at q
    have fDx : ∀ acc : List V, Ex F (upd F D (.lst acc)) := fun acc a o z => by
      rw [upd_ne (fun y => by rw [y, fd.2] at z; cases z)]
      exact z
    exact q _ G2 H' (x1.trans x2) (w2.less (fDx acc)) ⟨D, acc, rfl, fd.2, w2.d D _ upd_same, w2.f _ _ upd_same, r2⟩
variable {X : Cx} {elt iter iter1 : Expr} {ifs ifs1 : List Expr} {scope : Scope} {pos tpos tpos1 : Pos} {x x1 : Str}
theorem vf_lc2_ (p : Put i Γ τ Γ1) (p1 : Put i1 Γ1 τ1 Γ2) (n : Nn i1 Γ) {g : Γ → Option (List τ)} {t : Γ1 → Option Bool} {g1 : Γ1 → Option (List τ1)} {t1 : Γ2 → Option Bool} {e : Γ2 → Option α} {fr : Γ → Option (List α)} (efr : flc2 p p1 g t g1 t1 e = fr) (hc : X.calm = true) (hN : X.N.Nodup) (hi : VI X (.Name x tpos) iter g) (ok : blkC X.N X.env.scope scope [(x, i), (x1, i1)] = true)
    (hg : ∀ (s : Shared) (H : Hp) (C : Addr) (cl : List (Str × Addr)) (fp : List Addr), PG (X.blk s H scope (compEnvC scope cl C X.env) fp) (.Name x tpos) (gName i))
    (ht : ∀ (s : Shared) (H : Hp) (C : Addr) (cl : List (Str × Addr)) (fp : List Addr), VTs (X.blk s H scope (compEnvC scope cl C X.env) fp) ifs t)
    (hi1 : ∀ (s : Shared) (H : Hp) (C : Addr) (cl : List (Str × Addr)) (fp : List Addr), VI (X.blk s H scope (compEnvC scope cl C X.env) fp) (.Name x1 tpos1) iter1 g1)
    (hg1 : ∀ (s : Shared) (H : Hp) (C : Addr) (cl : List (Str × Addr)) (fp : List Addr), PG (X.blk s H scope (compEnvC scope cl C X.env) fp) (.Name x1 tpos1) (gName i1))
    (ht1 : ∀ (s : Shared) (H : Hp) (C : Addr) (cl : List (Str × Addr)) (fp : List Addr), VTs (X.blk s H scope (compEnvC scope cl C X.env) fp) ifs1 t1)
    (he : ∀ (s : Shared) (H : Hp) (C : Addr) (cl : List (Str × Addr)) (fp : List Addr), VE (X.blk s H scope (compEnvC scope cl C X.env) fp) elt e) (hij : i ≠ i1 := by decide) (hs : ∀ x, foldedSetIterable iter X.env x = pure x := by intro _; rfl) (hs1 : ∀ env x, foldedSetIterable iter1 env x = pure x := by intro _ _; rfl) :
    VF X (.ListComp elt [⟨.Name x tpos, iter, ifs, 0⟩, ⟨.Name x1 tpos1, iter1, ifs1, 0⟩] scope pos) fr := by
  subst efr
  exact PE.le (pe_lc2 (own := [(x, i), (x1, i1)]) (vs1 := [i1]) (g := gName i) (g1 := gName i1) hc hN hi (blkOk_by ok) (by simp) hg ht hi1 hg1 ht1 he hs hs1) fun σ H Q h => tlcp2 n hij h
end
end Vx
/-! an own list that never changes again; an own list made with draws -/
namespace Vx
open Rep (rep)
open EnvR (er)
open PySem PySem.Spec PyProof.Rows L2
instance : DatS Int := ⟨fun x y => rfl, fun xs => PySem.W.Sortable.others fun b => ⟨(fun h => by cases h), (fun _ h => by cases h)⟩⟩
instance : DatS Str := ⟨fun x y => rfl, fun xs => PySem.W.Sortable.others fun b => ⟨(fun h => by cases h), (fun _ h => by cases h)⟩⟩
structure Frz (i : Nat) (Γ α Γ' : Type) [EnvR Γ] [Rep α] [EnvR Γ'] where
  fr : Γ → Γ'
  ok : ∀ {K : PySem.W.Frag} {G F : Hp} {L : List Addr} {σ : L2.St} {γ : Γ}, er K G F L σ γ → ∃ q vs L', q ∈ L ∧ F q = some (.lst vs) ∧ L'.Sublist L ∧ (G q = none → er K (upd G q (.lst vs)) (del F q) L' σ (fr γ))
def fz {Γ α : Type} [EnvR Γ] [Rep α] : Frz 0 (OL α × Γ) α (List α × Γ) := ⟨fun γ => (γ.1.l, γ.2), fun {K G F L σ γ} ⟨L1, L2, o, σ', h1, h2, ⟨q, vs, h3, h4, h5, h6⟩, h7, h8⟩ => by
  subst h2
  have hq : q ∉ L2 := h8 q (by rw [h3]; exact List.mem_singleton.mpr rfl)
  refine ⟨q, vs, L2, by rw [h1, h3]; exact List.mem_append_left _ (List.mem_singleton.mpr rfl), h5, by rw [h1]; exact List.sublist_append_right _ _, fun hG => ?_⟩
  have ex : Ex G (upd G q (.lst vs)) := Ex.upd hG
  exact ⟨[], L2, o, σ', rfl, rfl, ⟨rfl, _, h4, q, vs, rfl, upd_same, Paired.mono (fun _ _ z => Rep.mono ex z) h6⟩, EnvR.keep (fun b hb => del_ne (fun z => hq (by rw [← z]; exact hb))) (EnvR.mono ex h7), fun _ hb => by cases hb⟩⟩
def fs {i : Nat} {τ Γ α Γ' : Type} [Slot τ] [EnvR Γ] [Rep α] [EnvR Γ'] (w : Frz i Γ α Γ') : Frz (i + 1) (τ × Γ) α (τ × Γ') := ⟨fun γ => (γ.1, w.fr γ.2), fun {K G F L σ γ} ⟨L1, L2, o, σ', h1, h2, h3, h4, h5⟩ => by
  obtain ⟨q, vs, L', k1, k2, k3, k4⟩ := w.ok h4
  subst h2
  have hq : q ∉ L1 := fun z => h5 q z k1
  refine ⟨q, vs, L1 ++ L', by rw [h1]; exact List.mem_append_right _ k1, k2, by rw [h1]; exact List.Sublist.append (List.Sublist.refl _) k3, fun hG => ?_⟩
  exact ⟨L1, L', o, σ', rfl, rfl, Slot.keep (fun b hb => del_ne (fun z => hq (by rw [← z]; exact hb))) (Slot.mono (Ex.upd hG) h3), k4 hG, fun b hb hb' => h5 b hb (k3.subset hb')⟩⟩
section
variable {Γ Γ' Γ'' S ρ α : Type} [EnvR Γ] [EnvR Γ'] [EnvR Γ''] [Md S] [Rep α] {X : Cx} {R : RR ρ} {sts : List Stmt} {e : Expr} {pos : Pos} {i : Nat}
def sfrz (z : Frz i Γ α Γ') (g : Γ' → Option (Fl Γ'' S ρ)) : Γ → Option (Fl Γ'' S ρ) := fun γ => g (z.fr γ)
theorem vss_frz (z : Frz i Γ α Γ') {g : Γ' → Option (Fl Γ'' S ρ)} {fr : Γ → Option (Fl Γ'' S ρ)} (efr : sfrz z g = fr) (h : VSs X S R sts g) : VSs X S R sts fr := by
  subst efr
  exact PSs.le h fun D σ H ⟨F, G, L, γ, p, r, wd, nd, he, ha, ea, q⟩ => by
    obtain ⟨a, vs, L', k1, k2, k3, k4⟩ := z.ok he
    have hG : G a = none := wd.d a _ k2
    exact ⟨del F a, upd G a (.lst vs), L', z.fr γ, p, r, wd.free k2, nd.sublist k3, k4 hG, ha, ea, q.trans (Ex.upd hG) (fun b o hb e => by rw [del_ne (fun z => hb (by rw [z]; exact k1))]; exact e) (fun b hb => .inl (k3.subset hb))⟩
end
/-! in, not in: whole numbers in a list or a tuple -/
end Vx
/-! sorted(a text); sorted(a tuple of texts) -/
namespace Vx
open Rep (rep)
open EnvR (er)
open PySem PySem.Spec PyProof.Rows L2
section
variable {P : Program} {w : World} {A : Around} {E : Value → Shared → Prop} {s : Shared}
theorem code_textS {R : Result → Shared → Prop} (hh : A.handled = none) (x : Str) (t : Tok) (hn : x.cps.size ≤ sizeLine)
    (hR : ∀ h' tk acc' c', (∀ b o, s.heap.get? b = some o → h'.get? b = some o) → h'.get? s.heap.objs.size = some (Obj.mk (.type "list") none (.seq acc' c') #[]) → ItemsOf (SignAt x) acc' x.cps.size → R (.ok (.ret (.ref s.heap.objs.size))) { s with heap := h', toks := tk }) :
    codeAny (model P w) A (.builtin "proto.collect" ⟨[.str x t], []⟩) R s := by
  refine codeAny_builtin F.entry_proto_collect ?_
  rw [Around.under_plainId F.plain_proto_collect]
  change wpAny _ A.in1 (newList [] >>= fun l => again (Code.builtin "list.__iadd__" ⟨[l, Value.str x t], []⟩)) _ _ s
  apply wpAny_bind
  refine wpAny_newObj_type ?_
  refine wpAny_pure ⟨plainId_quiet F.plain_list_iadd _, ?_⟩
  refine codeAny_builtin F.entry_list_iadd ?_
  rw [Around.under_plainId F.plain_list_iadd]
  change wpAny _ A.in1 (Builtin.List.listExtendWith (Value.ref s.heap.objs.size) (Value.str x t) (Value.ref s.heap.objs.size)) _ _ _
  refine wpAny_extend_str (s := { s with heap := s.heap.push { cls := .type "list", data := .seq #[] } }) hh x t s.heap.objs.size (.ref s.heap.objs.size) 0 (Heap.get?_push_size _ rfl) (fun h' tk acc c' k1 k2 k3 => ?_) hn
  refine hR h' tk acc c' (fun b o e => k1 b o (fun z => ?_) (Heap.get?_push_of_some _ e)) k2 k3
  rw [z] at e
  exact Nat.lt_irrefl _ (Heap.lt_size e)
theorem collect_textS {Q : List Value → Shared → Prop} (hh : A.handled = none) (x : Str) (t : Tok) (hn : x.cps.size ≤ sizeLine)
    (hQ : ∀ s' acc, (∀ b o, s.heap.get? b = some o → s'.heap.get? b = some o) → s'.gens = s.gens → s'.os = s.os → s.heap.objs.size ≤ s'.heap.objs.size → ItemsOf (SignAt x) acc x.cps.size → Q acc.toList s') : wpAny (model P w) A (collect (.str x t)) Q E s := by
  unfold collect
  apply wpAny_bind
  apply wpAny_runValue
  refine code_textS hh x t hn fun h' tk acc c' k1 k2 k3 => ?_
  refine wpAny_bind (wpAny_load k2 ?_)
  apply wpAny_pure
  exact hQ _ acc k1 rfl rfl (Nat.le_of_lt (Heap.lt_size k2)) k3
theorem sorted_textS {z : Str} {t : Tok} {Q : Value → Shared → Prop} (hz0 : z.cps.size ≤ sizeLine) (hh : A.handled = none) (hu : A.units + 64 < cLine)
    (hQ : ∀ s' p (out : Array Value) (c : Nat), (∀ b o, s.heap.get? b = some o → s'.heap.get? b = some o) → s'.gens = s.gens → s'.os = s.os → s.heap.objs.size ≤ p → s'.heap.get? p = some (seqObj "list" out c) → StrsAre out.toList (srt (signs z)) → Q (.ref p) s') :
    wpAny (model P w) A (call (.builtin "sorted") [.str z t]) Q E s := by
  apply Calls.call_function_entry kind_sorted plain_sorted entry_sorted (args_sorted1 _)
  unfold Builtin.«sorted»
  refine wpAny_bind (m := checkCount "sorted" 1 1 _) (wpAny_pure ?_)
  apply wpAny_bind
  apply collect_textS (A := A.in1) hh z t hz0
  intro s1 acc k1 g1 o1 hge hacc
  have sv := signs_at hacc
  have st : StrsAre acc.toList (signs z) := sv.strs
  have ev := each_strs st
  have len : acc.toList.length ≤ sizeLine := by rw [Array.length_toList, hacc.1]; exact hz0
  apply wpAny_bind
  refine wpAny_newList ?_ len
  have hoL : (s1.heap.push (seqObj "list" acc.toList.toArray 0)).get? s1.heap.objs.size = some (seqObj "list" acc.toList.toArray 0) := Heap.get?_push_size _ rfl
  apply wpAny_bind
  apply wpAny_holding
  have er : PySem.W.EachIs (fun v b => ∃ as, Reads (s1.heap.push (seqObj "list" acc.toList.toArray 0)) v (PyData.str b) as ∧ s1.heap.objs.size ∉ as) acc.toList (signs z) := each_reads2 ev
  apply PySem.W.list_sort_data (s := { s1 with heap := s1.heap.push (seqObj "list" acc.toList.toArray 0) }) (enc := PyData.str) hoL ev er (strs_alike _) (strs_sortable _) (by simpa [signs] using hz0)
  · intro b _
    show A.units + 1 + 1 + 0 < cLine
    omega
  intro out hlen eo
  rw [strs_le] at eo
  obtain ⟨c, hc⟩ := sortedHeap_at (vs := acc.toList) (out := out.toArray) hoL
  apply wpAny_pure
  refine ⟨_, rfl, hQ _ s1.heap.objs.size out.toArray c ?_ g1 o1 hge hc ?_⟩
  · intro b u e
    have q := k1 b u e
    have hlt := Heap.lt_size q
    show (sortedHeap (s1.heap.push (seqObj "list" acc.toList.toArray 0)) s1.heap.objs.size acc.toList out.toArray).get? b = some u
    rw [sortedHeap_old (Nat.ne_of_lt hlt) (by rw [size_push']; exact Nat.lt_succ_of_lt hlt)]
    exact Heap.get?_push_of_some _ q
  · exact strs_each eo
end
section
variable {X : Cx}
def rSrtS : List V → Hp → VK → Prop := fun vs H Q => ∃ z : Str, vs = [.str z] ∧ z.cps.size ≤ 100000 ∧ ∀ p, H p = none → Q (.ref p) (upd H p (.lst ((srt (signs z)).map V.str)))
theorem cr_srtS (hc : X.calm = true) (hu : X.A.units + 64 < cLine) : CallR X (.builtin "sorted") rSrtS := by
  intro pins s σ H vs us Q I r h
  obtain ⟨z, rfl, hz, k⟩ := h
  obtain ⟨u, rfl, t, rfl⟩ := vals1 r
  have hZ : z.cps.size ≤ sizeLine := Nat.le_trans hz (by decide)
  apply sorted_textS hZ (I.ok.hd hc) hu
  intro s' p out c hk' hgn hos hp hget hst
  have hn : H p = none := I.hok.fresh hp
  have lz : ((srt (signs z)).map V.str).length ≤ sizeLine := by
    rw [List.length_map, (srt_perm _).length_eq]
    simpa [signs] using hZ
  have J := I.call (h' := s'.heap) (g' := s'.gens) (d' := s'.drawn) (t' := s'.toks) (ch := []) (Un.laid hk' hp hn) (I.hok.laid hk' hp (o := .lst ((srt (signs z)).map V.str)) ⟨lz, out.toList, c, vals_of_strs hst, by rw [Array.toArray_toList]; exact hget⟩) (by rw [hgn]; exact I.bare) (fun _ z => nomatch z)
  have e : s' = { s with heap := s'.heap, gens := s'.gens, drawn := s'.drawn, toks := s'.toks } := by
    cases s'
    cases hos
    rfl
  rw [e]
  exact ⟨.ref p, _, J, rfl, k p hn⟩
def srtS (a : Str × Unit) : Option (List Str) := if a.1.cps.size ≤ 100000 then some (srt (signs a.1)) else none
theorem o_srtS {K : PySem.W.Frag} : OpA rSrtS K (RF K) srtS := fun F G H a y vs Q w r e k => by
  obtain ⟨v, h1, h2⟩ := rl1 r
  cases h2
  unfold srtS at e
  split at e
  case isFalse => cases e
  rename_i hz
  cases e
  refine ⟨a.1, h1, hz, fun l hl => ?_⟩
  obtain ⟨w3, r3⟩ := rf_new w hl (rep_strs (K := K) (G := G) (xs := srt (signs a.1)))
  exact k _ G _ (Ex.refl G) w3 r3
end
theorem o_lCatE {K : PySem.W.Frag} {α : Type} [Rep α] : Op2 rCat (RE K (α := List α)) (RE K) (RF K) lCat := fun F G H x y z vx vy Q w rx ry e k => o_lCat F G H x y z vx vy Q w (rl_of rx) (rl_of ry) e k
end Vx
/-! a list of one's own that does not change while an expression is looked at -/
namespace Vx
open Rep (rep)
open EnvR (er)
open PySem PySem.Spec PyProof.Rows L2
/-- values that lean on no object -/
class FlatR (α : Type) [Rep α] : Prop where
  flat : ∀ {K : PySem.W.Frag} {G G' : Hp} {a : α} {v : V}, rep K G a v → rep K G' a v
instance : FlatR Int := ⟨fun h => h⟩
instance : FlatR Bool := ⟨fun h => h⟩
instance : FlatR Str := ⟨fun h => h⟩
instance : FlatR Unit := ⟨fun h => h⟩
instance {α : Type} [Rep α] [FlatR α] : FlatR (Option α) := ⟨fun {K G G' a v} h => by
  cases a with
  | none => exact h
  | some x => exact FlatR.flat (α := α) h⟩
/-! text.index(sign) -/
/-! xs[i], xs[j] = xs[j], xs[i], xs of one's own -/
end Vx
/-! x != y of two objects of one class that has its own word for == -/
namespace Vx
open Rep (rep)
open EnvR (er)
open PySem PySem.Spec PyProof.Rows L2
/-! len(set(a text)) -/
/-! name = [.. for x in xs ..], xs of one's own, the name a plain local -/
end Vx
/-! enumerate(a text); tests of == and != between objects -/
namespace Vx
open Rep (rep)
open EnvR (er)
open PySem PySem.Spec PyProof.Rows L2
end Vx
/-! a dict of one's own, read -/
namespace Vx
open Rep (rep)
open EnvR (er)
open PySem PySem.Spec PyProof.Rows L2
section
variable {Γ : Type} [EnvR Γ] {β κ : Type} [Rep β] [Rep κ] [KeyOf κ] {X : Cx} {e b c : Expr} {pos apos : Pos} {i : Nat}
theorem rk_none {K : PySem.W.Frag} {G : Hp} {k : Key} : ∀ {d : List (Key × β)} {kvs : List (Key × V)}, PySem.Paired (RK K G) d kvs → valB d k = none → valV kvs k = none
  | _, _, .nil, _ => rfl
  | x :: d, y :: kvs, .cons r t, h => by
    unfold valB at h
    rw [List.find?_cons] at h
    by_cases q : x.1 = k
    · rw [decide_eq_true q] at h
      cases h
    · rw [decide_eq_false q] at h
      rw [valV_neg (fun z => q (r.1.trans z))]
      exact rk_none t h
end
section
variable {Γ Γ' S ρ : Type} [EnvR Γ] [EnvR Γ'] [Md S] {β : Type} [Rep β] {X : Cx} {R : RR ρ} {pos : Pos} {i : Nat}
/-- x = {} -/
def snewD0 (p : PutD i Γ β Γ') : Γ → Option (Fl Γ' S ρ) := fun γ => some (.nx (p.put γ []))
theorem vs_newD0_ (pt : PutD i Γ β Γ') {x : Str} {pos' dpos : Pos} {fr : Γ → Option (Fl Γ' S ρ)} (efr : snewD0 (S := S) pt = fr) (hN : X.N.Nodup) (hi : X.N[i]? = some x := by rfl) (hx : Loc X.env.scope x := by first | exact Or.inl rfl | exact Or.inr rfl) (ho : Md.okI S i = true := by rfl)
    (hs : swapsWith (.Dict [] [] dpos) (some (.Name x pos')) pos.line X.env = pure false := by rfl) (hf : X.fn x = true ∨ X.env.scope.names.lookup x = some .local := by first | exact .inl rfl | exact .inr rfl) : VS X S R (.Assign [.Name x pos'] (.Dict [] [] dpos) pos) fr := by
  subst efr
  exact PS.le (ps_set hN hi hx pe_dnewK hs hf) fun D σ H ⟨F, G, L, γ, p, r, wd, nd, he, ha, ea, k⟩ => by
    cases ea
    intro q hq
    have fr := wd.fresh hq
    have nq : q ∉ L := fun z => EnvR.there he q z fr.2
    have w0 := wd.own (o := HO.dK []) hq
    obtain ⟨L', l1, l2, l3⟩ := pt.ok (F := upd F q (.dK [])) (xs := []) (EnvR.keep (fun b hb => upd_ne (fun z => nq (by rw [← z]; exact hb))) he) nq upd_same .nil
    exact k _ L' _ G _ (Ex.refl G) w0 (l2 nd) (off_new fr.2) (fun b hb => (l1 b hb).imp id fun z => by rw [z]; exact fr.2) l3 (Md.keep ho ha)
end
end Vx
/-! lists cut, lists from behind, the greatest of a list of whole numbers -/
namespace Vx
open Rep (rep)
open EnvR (er)
open PySem PySem.Spec PyProof.Rows L2
/-! ### max of a list of whole numbers -/
end Vx
/-! [e for x, y in pairs if ..] -/
namespace Vx
open Rep (rep)
open EnvR (er)
open PySem PySem.Spec PyProof.Rows L2
section
variable {Γ : Type} [EnvR Γ] {α α1 α2 : Type} [Rep α1] [Rep α2] [Rep α] {i j : Nat} {Γ1 Γe : Type} [EnvR Γ1] [EnvR Γe]
def flcp (p1 : Put i Γ α1 Γ1) (p2 : Put j Γ1 α2 Γe) (g : Γ → Option (List (T2 α1 α2))) (t : Γe → Option Bool) (e : Γe → Option α) : Γ → Option (List α) := fun γ => (g γ).bind fun xs => if xs.length ≤ 100000 then lcGo (fun x => t (p2.put (p1.put γ x.a) x.b)) (fun x => e (p2.put (p1.put γ x.a) x.b)) xs else none
/-- the turns of a comprehension that changes nothing -/
theorem tlcpP (hij : i ≠ j) {K : PySem.W.Frag} {p1 : Put i Γ α1 Γ1} {p2 : Put j Γ1 α2 Γe} {g : Γ → Option (List (T2 α1 α2))} {t : Γe → Option Bool} {e : Γe → Option α} {σ : L2.St} {H : Hp} {Q : VK} (h : tev K (RF K) (flcp p1 p2 g t e) σ H Q) :
    tLc (tiv K g) (gPair K i j) (tet K t) (tev K (RE K) e) [i, j] σ H Q := by
  obtain ⟨F, G, L, γ, zs, w, he, ea, q⟩ := h
  unfold flcp at ea
  cases e0 : g γ with
  | none => rw [e0] at ea; cases ea
  | some xs =>
  rw [e0] at ea
  simp only [Option.bind_some] at ea
  split at ea
  case isFalse => cases ea
  rename_i hlen
  refine ⟨F, G, L, γ, xs, w, he, e0, fun J G1 H1 x1 w1 wl D hD => ?_⟩
  have fd := w1.fresh hD
  have nD : ∀ q ∈ L, q ≠ D := fun q hq z => EnvR.there he q hq (by rw [z]; exact fd.2)
  refine ⟨fun n m H' => m = xs.length - n ∧ n ≤ xs.length ∧ ∃ G2 acc ys rest, Ex G1 G2 ∧ W (upd F D (.lst acc)) G2 H' ∧ PySem.Paired (rep K G2) ys acc ∧ acc.length ≤ n ∧
      lcGo (fun x => t (p2.put (p1.put γ x.a) x.b)) (fun x => e (p2.put (p1.put γ x.a) x.b)) (xs.drop n) = some rest ∧ zs = ys ++ rest, ⟨xs.length, by simp, Nat.zero_le _, G1, [], [], zs, Ex.refl _, w1.own hD, .nil, Nat.zero_le _, ea, rfl⟩, ?_⟩
  rintro n m H' ⟨rfl, hj, G2, acc, ys, rest, x2, w2, r2, hacc, go, rfl⟩
  have fDx : ∀ acc : List V, Ex F (upd F D (.lst acc)) := fun acc a o z => by
    rw [upd_ne (fun y => by rw [y, fd.2] at z; cases z)]
    exact z
  by_cases hlt : n < xs.length
  · obtain ⟨x, hx⟩ : ∃ x, xs[n]? = some x := ⟨xs[n], List.getElem?_eq_getElem hlt⟩
    obtain ⟨hgo, hyl⟩ := (wl (upd F D (.lst acc)) G2 H' x2 w2 n).1 x hx
    have hdrop : xs.drop n = x :: xs.drop (n + 1) := by
      rw [List.drop_eq_getElem_cons hlt]
      have : xs[n] = x := Option.some.inj ((List.getElem?_eq_getElem hlt).symm.trans hx)
      rw [this]
    rw [hdrop] at go
    unfold lcGo at go
    refine .inr ⟨hgo, fun H3 => ∃ G2 acc ys rest', Ex G1 G2 ∧ W (upd F D (.lst acc)) G2 H3 ∧ PySem.Paired (rep K G2) ys acc ∧ acc.length ≤ n + 1 ∧
      lcGo (fun x => t (p2.put (p1.put γ x.a) x.b)) (fun x => e (p2.put (p1.put γ x.a) x.b)) (xs.drop (n + 1)) = some rest' ∧ _ = ys ++ rest', fun H3 z => ⟨xs.length - (n + 1), by omega, rfl, hlt, z⟩, fun xv H3 hy => ?_⟩
    obtain ⟨G3, x3, w3, p, va, vb, h1, h2, h3, h4⟩ := hyl xv H3 hy
    refine ⟨p, [va, vb], h1, .inl (.inl (w3.g _ _ h2)), rfl, va, [vb], rfl, vb, [], rfl, rfl, wipe2' hij, ?_⟩
    rw [wipe2 hij]
    have er3 : er K G3 (upd F D (.lst acc)) L ((σ.set i (some va)).set j (some vb)) (p2.put (p1.put γ x.a) x.b) := p2.ok (p1.ok (EnvR.keep (fun q hq => upd_ne (nD q hq)) (EnvR.mono ((x1.trans x2).trans x3) he)) h3) h4
    cases et : t (p2.put (p1.put γ x.a) x.b) with
    | none =>
      rw [et] at go
      cases go
    | some b =>
      rw [et] at go
      simp only [Option.bind_some] at go
      refine ⟨_, G3, L, _, b, w3, er3, et, fun G4 H4 x4 w4 => ?_⟩
      cases b with
      | false =>
        simp only [Bool.false_eq_true, if_false] at go ⊢
        exact ⟨G4, acc, ys, rest, (x2.trans x3).trans x4, w4, Paired.mono (fun _ _ z => Rep.mono (x3.trans x4) z) r2, by omega, go, rfl⟩
      | true =>
        simp only [if_true] at go ⊢
        cases ee : e (p2.put (p1.put γ x.a) x.b) with
        | none =>
          rw [ee] at go
          cases go
        | some y =>
          rw [ee] at go
          simp only [Option.bind_some] at go
          cases eg : lcGo (fun x => t (p2.put (p1.put γ x.a) x.b)) (fun x => e (p2.put (p1.put γ x.a) x.b)) (xs.drop (n + 1)) with
          | none =>
            rw [eg] at go
            cases go
          | some rest' =>
            rw [eg] at go
            simp only [Option.map_some] at go
            cases go
            refine ⟨_, G4, L, _, y, w4, EnvR.mono x4 er3, ee, fun yv G5 H5 x5 w5 ry => ?_⟩
            refine ⟨acc, w5.f _ _ upd_same, Nat.lt_of_lt_of_le (Nat.lt_of_le_of_lt hacc (Nat.lt_of_lt_of_le hlt hlen)) line_ge, G5, acc ++ [yv], ys ++ [y], rest', ((x2.trans x3).trans x4).trans x5, ?_,
              paired_app (Paired.mono (fun _ _ z => Rep.mono ((x3.trans x4).trans x5) z) r2) (.cons ry .nil), ?_, (by first | exact eg | rfl), ?_⟩
            · have := w5.set (u := .lst (acc ++ [yv])) upd_same
              rw [upd_upd] at this
              exact this
            · rw [List.length_append, List.length_singleton]
              omega
            · rw [List.append_assoc]
              rfl
  · have hn' : n = xs.length := by omega
    subst hn'
    rw [List.drop_length] at go
    unfold lcGo at go
    cases go
    refine .inl ⟨(wl (upd F D (.lst acc)) G2 H' x2 w2 xs.length).2 (Nat.le_refl _), ?_⟩
    rw [List.append_nil] at q
    exact q _ G2 H' (x1.trans x2) (w2.less (fDx acc)) ⟨D, acc, rfl, fd.2, w2.d D _ upd_same, w2.f _ _ upd_same, r2⟩
variable {X : Cx} {elt iter : Expr} {ifs : List Expr} {scope : Scope} {pos tpos px py : Pos} {x y : Str} {k0 : Nat}
theorem vf_lcp_ (p1 : Put i Γ α1 Γ1) (p2 : Put j Γ1 α2 Γe) {g : Γ → Option (List (T2 α1 α2))} {t : Γe → Option Bool} {e : Γe → Option α} {fr : Γ → Option (List α)} (efr : flcp p1 p2 g t e = fr) (hc : X.calm = true) (hN : X.N.Nodup) (hi : VI X (.Tuple [.Name x px, .Name y py] k0 tpos) iter g) (ok : blkC X.N X.env.scope scope [(x, i), (y, j)] = true)
    (hg : ∀ (s : Shared) (H : Hp) (C : Addr) (cl : List (Str × Addr)) (fp : List Addr), PG (X.blk s H scope (compEnvC scope cl C X.env) fp) (.Tuple [.Name x px, .Name y py] k0 tpos) (gPair X.K i j))
    (ht : ∀ (s : Shared) (H : Hp) (C : Addr) (cl : List (Str × Addr)) (fp : List Addr), VTs (X.blk s H scope (compEnvC scope cl C X.env) fp) ifs t)
    (he : ∀ (s : Shared) (H : Hp) (C : Addr) (cl : List (Str × Addr)) (fp : List Addr), VE (X.blk s H scope (compEnvC scope cl C X.env) fp) elt e) (hij : i ≠ j := by decide) (hs : ∀ x, foldedSetIterable iter X.env x = pure x := by intro _; rfl) :
    VF X (.ListComp elt [⟨.Tuple [.Name x px, .Name y py] k0 tpos, iter, ifs, 0⟩] scope pos) fr := by
  subst efr
  exact PE.le (pe_lc (own := [(x, i), (y, j)]) (g := gPair X.K i j) hc hN hi (blkOk_by ok) hg ht he hs) fun σ H Q h => tlcpP hij h
end
end Vx
/-! three names at once -/
namespace Vx
open Rep (rep)
open EnvR (er)
open PySem PySem.Spec PyProof.Rows L2
section
variable {Γ : Type} [EnvR Γ] {α : Type} [Rep α] {X : Cx} {a b : Expr} {pos p2 : Pos}
theorem ve_cutSFrom {f : Γ → Option Str} {g : Γ → Option Int} (ha : VE X a f) (hb : VE X b g) : VE X (.Subscript a (.Slice (some b) none none p2) pos) (f2 (fun z i => cutSt (some i) none z) f g) :=
  PE.le (pe_slice sl_str ha (po_some hb) po_none) fun σ H Q ⟨F, G, L, γ, z, w, he, ea, q⟩ => by
    obtain ⟨x, y, e1, e2, e3⟩ := f2_some ea
    unfold cutSt at e3
    split at e3
    · rename_i hl
      cases e3
      exact ⟨F, G, L, γ, x, w, he, e1, fun v G2 H2 x2 w2 r2 => ⟨F, G2, L, γ, y, w2, EnvR.mono x2 he, e2, fun u G3 H3 x3 w3 r3 => ⟨y, r3, x, r2, Nat.le_trans hl line_ge, q _ _ _ (x2.trans x3) w3 rfl⟩⟩⟩
    · cases e3
end
end Vx
/-! len of an object of the class that has its own word for it -/
namespace Vx
open Rep (rep)
open EnvR (er)
open PySem PySem.Spec PyProof.Rows L2
end Vx
/-! dicts of one's own: locked while they are walked, made of pairs -/
namespace Vx
open Rep (rep)
open EnvR (er)
open PySem PySem.Spec PyProof.Rows L2
structure Lk (β : Type) where
  l : List (Key × β)
instance {β : Type} [Rep β] : Rep (Lk β) := ⟨fun K G x v => ∃ p od kvs, v = .ref p ∧ G p = some (.frz od (.dK kvs)) ∧ PySem.Paired (RK K G) x.l kvs,
  fun e ⟨p, od, kvs, h1, h2, h3⟩ => ⟨p, od, kvs, h1, e _ _ h2, rk_mono e h3⟩⟩
structure FrzD (i : Nat) (Γ β Γ' : Type) [EnvR Γ] [Rep β] [EnvR Γ'] where
  fr : Γ → Γ'
  ok : ∀ {K : PySem.W.Frag} {G F : Hp} {L : List Addr} {σ : L2.St} {γ : Γ}, er K G F L σ γ → ∃ q kvs L', q ∈ L ∧ F q = some (.dK kvs) ∧ L'.Sublist L ∧ (∀ od, G q = none → er K (upd G q (.frz od (.dK kvs))) (del F q) L' σ (fr γ))
def fdz {Γ β : Type} [EnvR Γ] [Rep β] : FrzD 0 (OD β × Γ) β (Lk β × Γ) := ⟨fun γ => (⟨γ.1.l⟩, γ.2), fun {K G F L σ γ} ⟨L1, L2, o, σ', h1, h2, ⟨q, vs, h3, h4, h5, h6⟩, h7, h8⟩ => by
  subst h2
  have hq : q ∉ L2 := h8 q (by rw [h3]; exact List.mem_singleton.mpr rfl)
  refine ⟨q, vs, L2, by rw [h1, h3]; exact List.mem_append_left _ (List.mem_singleton.mpr rfl), h5, by rw [h1]; exact List.sublist_append_right _ _, fun od hG => ?_⟩
  have ex : Ex G (upd G q (.frz od (.dK vs))) := Ex.upd hG
  exact ⟨[], L2, o, σ', rfl, rfl, ⟨rfl, _, h4, q, od, vs, rfl, upd_same, rk_mono ex h6⟩, EnvR.keep (fun b hb => del_ne (fun z => hq (by rw [← z]; exact hb))) (EnvR.mono ex h7), fun _ hb => by cases hb⟩⟩
def fds {i : Nat} {τ Γ β Γ' : Type} [Slot τ] [EnvR Γ] [Rep β] [EnvR Γ'] (w : FrzD i Γ β Γ') : FrzD (i + 1) (τ × Γ) β (τ × Γ') := ⟨fun γ => (γ.1, w.fr γ.2), fun {K G F L σ γ} ⟨L1, L2, o, σ', h1, h2, h3, h4, h5⟩ => by
  obtain ⟨q, vs, L', k1, k2, k3, k4⟩ := w.ok h4
  subst h2
  have hq : q ∉ L1 := fun z => h5 q z k1
  refine ⟨q, vs, L1 ++ L', by rw [h1]; exact List.mem_append_right _ k1, k2, by rw [h1]; exact List.Sublist.append (List.Sublist.refl _) k3, fun od hG => ?_⟩
  exact ⟨L1, L', o, σ', rfl, rfl, Slot.keep (fun b hb => del_ne (fun z => hq (by rw [← z]; exact hb))) (Slot.mono (Ex.upd hG) h3), k4 od hG, fun b hb hb' => h5 b hb (k3.subset hb')⟩⟩
/-- values that lean on no locked thing -/
class NoF (α : Type) [Rep α] : Prop where
  off : ∀ {K : PySem.W.Frag} {G : Hp} {q : Addr} {od : Obj} {u : HO} {a : α} {v : V}, G q = some (.frz od u) → rep K G a v → rep K (del G q) a v
instance : NoF Int := ⟨fun _ h => h⟩
instance : NoF Bool := ⟨fun _ h => h⟩
instance : NoF Str := ⟨fun _ h => h⟩
instance {α β : Type} [Rep α] [Rep β] [NoF α] [NoF β] : NoF (T2 α β) := ⟨fun {K G q od u a v} hq ⟨p, va, vb, h1, h2, h3, h4⟩ => ⟨p, va, vb, h1, by
  rw [del_ne (fun z => by rw [z, hq] at h2; cases h2)]
  exact h2, NoF.off hq h3, NoF.off hq h4⟩⟩
section
variable {Γ : Type} [EnvR Γ] {β κ τ : Type} [Rep β] [Rep κ] [KeyOf κ] {X : Cx} {a b tg e : Expr} {pos : Pos}
def lkeys (κ : Type) [Rep κ] [KeyOf κ] (d : Lk β) : Option (List κ) := keysOf d.l
theorem walks_lk {K : PySem.W.Frag} {G : Hp} {p : Addr} {od : Obj} {kvs : List (Key × V)} {d : List (Key × β)} {ks : List κ} (h : G p = some (.frz od (.dK kvs))) (r : PySem.Paired (RK K G) d kvs) (e : keysOf d = some ks) : Walks K G (Itk p od kvs) ks := fun F' G' H' x w i => by
  have hH : H' p = some (.frz od (.dK kvs)) := w.g _ _ (x _ _ h)
  have pr := keys_rep (κ := κ) r e
  have hl : ks.length = kvs.length := by rw [paired_len pr, List.length_map]
  refine ⟨fun t ht => ?_, fun hi => ⟨hH, by omega⟩⟩
  obtain ⟨v, hv, rv⟩ := paired_get pr ht
  have hi : i < ks.length := (List.getElem?_eq_some_iff.mp ht).1
  refine ⟨⟨hH, by omega⟩, fun y H'' hy => ?_⟩
  obtain ⟨rfl, k, u, hk, rfl⟩ := hy
  refine ⟨G', Ex.refl _, w, ?_⟩
  rw [List.getElem?_map, hk] at hv
  cases hv
  exact Rep.mono x rv
theorem vi_lkeys (κ : Type) [Rep κ] [KeyOf κ] {f : Γ → Option (Lk β)} (h : VE X e f) : VI X tg e (f1 (lkeys κ) f) := PI.le (pi_keys h) fun σ H R ⟨F, G, L, γ, ks, w, he, ea, q⟩ => by
  unfold f1 at ea
  cases e1 : f γ with
  | none => rw [e1] at ea; cases ea
  | some d =>
    rw [e1] at ea
    refine ⟨F, G, L, γ, d, w, he, e1, fun v G2 H2 x2 w2 ⟨p, od, kvs, h1, h2, h3⟩ => ⟨p, od, h1, .inl ⟨kvs, w2.g _ _ h2, q _ G2 H2 x2 w2 (walks_lk h2 h3 ea)⟩⟩⟩
end
/-! dict(pairs) -/
def RFd (K : PySem.W.Frag) {β : Type} [Rep β] : RR (List (Key × β)) := fun F G H xs v => ∃ p ks, v = .ref p ∧ F p = none ∧ G p = none ∧ H p = some (.dK ks) ∧ PySem.Paired (RK K G) xs ks
section
variable {Γ Γ' S ρ β : Type} [EnvR Γ] [EnvR Γ'] [Md S] [Rep β] {X : Cx} {R : RR ρ} {e : Expr} {pos : Pos} {i : Nat}
def toD (d : List (Key × β)) : Option (Dct β) := some ⟨d⟩
theorem W.give {F G H : Hp} {q : Addr} {o : HO} (w : W F G H) (hF : F q = none) (hG : G q = none) (hH : H q = some o) : W F (upd G q o) H := ⟨fun b u hb => by
  by_cases c : b = q
  · subst c
    rw [upd_same] at hb
    rw [hH]
    exact hb
  · rw [upd_ne c] at hb
    exact w.g b u hb, w.f, fun b u hb => by
  by_cases c : b = q
  · rw [c, hF] at hb
    cases hb
  · rw [upd_ne c]
    exact w.d b u hb⟩
theorem VF.upd {f : Γ → Option (List (Key × β))} (h : VO X e (RFd X.K) f) : VE X e (f1 toD f) := PE.le h fun σ H Q ⟨F, G, L, γ, a, w, he, ea, q⟩ => by
  unfold f1 at ea
  cases e1 : f γ with
  | none => rw [e1] at ea; cases ea
  | some y =>
    rw [e1] at ea
    cases ea
    refine ⟨F, G, L, γ, y, w, he, e1, fun v G2 H2 x2 w2 ⟨p, ks, h1, h2, h3, h4, h5⟩ => ?_⟩
    exact q v _ H2 (x2.trans (Ex.upd h3)) (W.give w2 h2 h3 h4) ⟨p, ks, h1, upd_same, rk_mono (Ex.upd h3) h5⟩
end
/-! {0: 0, 1: 1, 2: 2, 3: 3} -/
end Vx
/-! [e for x, y in pairs if ..], the pairs made with draws; x, y = [..], v by a tuple -/
namespace Vx
open Rep (rep)
open EnvR (er)
open PySem PySem.Spec PyProof.Rows L2
section
variable {Γ Γ1 Γ2 S ρ : Type} [EnvR Γ] [EnvR Γ1] [EnvR Γ2] [Md S] {α β : Type} [Rep α] [Rep β] {X : Cx} {R : RR ρ} {a b : Expr} {pos : Pos} {i j : Nat}
/-- x, y = a list to be changed, a value: stored out of a tuple -/
def sunpO (p1 : PutO i Γ α Γ1) (p2 : Put j Γ1 β Γ2) (f : Γ → Option (List α)) (g : Γ → Option β) : Γ → Option (Fl Γ2 S ρ) := fun γ => (f γ).bind fun xs => (g γ).map fun y => .nx (p2.put (p1.put γ xs) y)
end
end Vx
/-! -1; min of a list -/
namespace Vx
open Rep (rep)
open EnvR (er)
open PySem PySem.Spec PyProof.Rows L2
end Vx
/-! a tuple is not None -/
namespace Vx
open Rep (rep)
open EnvR (er)
open PySem PySem.Spec PyProof.Rows L2
instance {α : Type} [Rep α] : NN (Tup α) := ⟨fun ⟨p, vs, h, _⟩ => by rw [h]; exact fun z => V.noConfusion z⟩
instance {α β : Type} [Rep α] [Rep β] : NN (T2 α β) := ⟨fun ⟨p, va, vb, h, _⟩ => by rw [h]; exact fun z => V.noConfusion z⟩
end Vx
/-! what all comprehensions have in common: the way into the block, a turn's end, the way out of it -/
namespace Vx
open Rep (rep)
open EnvR (er)
open PySem PySem.Spec PyProof.Rows L2
section
variable {X : Cx} {pins : List (Addr × Obj)} {σ ω : L2.St} {scope : Scope} {fp : List Addr} {ce : Env} {s3 : Shared} {H3 : Hp}
/-- within the block an iterator's cells may be written -/
theorem blk_cells {H' : Hp} {s' : Shared} (J : Inv (X.blk s3 H3 scope ce fp) [] ω H' s') (free : ∀ b ∈ fp, H' b = none) : ∀ b ∈ fp, FpOk (X.blk s3 H3 scope ce fp) [] H' b := by
  intro b hb
  obtain ⟨notL, notC⟩ := J.ok.exf b hb
  refine ⟨free b hb, notL, J.ok.exfs b hb, Or.inl hb, notC, ?_⟩
  intro p hp
  cases (show p ∈ ([] : List (Addr × Obj)) from hp)
/-- out of the block -/
theorem blk_home {H' : Hp} {s' : Shared} (I : Inv X pins σ H3 s3) (cells : ∀ b ∈ fp, FpOk X pins H3 b) (hL : ce.locals = s3.heap.objs.size) (J : Inv (X.blk s3 H3 scope ce fp) [] ω H' s') :
    Inv X pins σ H' s' ∧ FpOk X pins H' s3.heap.objs.size ∧ ∃ m, s'.heap.Ns s3.heap.objs.size m := by
  obtain ⟨m, ns, _⟩ := J.loc
  have free : H' s3.heap.objs.size = none := hL ▸ J.free
  refine ⟨?_, I.fpOk (Nat.le_refl _) free, m, hL ▸ ns⟩
  refine I.call' (ch := fp) J.os J.base J.hok J.bare ?_
  intro b hb
  obtain ⟨_, c1, _, c3, c4, c5⟩ := cells b hb
  exact ⟨c3, c1, c4, c5⟩
/-- a turn's end: the block's own names and the pins forgotten -/
theorem blk_next {σ8 : L2.St} {vs : List Nat} {H' : Hp} {s7 s' : Shared} {P : Program} {w : World} {K : PySem.W.Frag} {tg : Expr} {J : It} {it : Addr} {tn : Nat → Heap → Prop} {i : Nat} (T : Turn P w K tg J fp it tn) (st : tn i s7.heap) (own : wipe σ8 vs = wipe σ vs)
    (I' : Inv (X.blk s3 H3 scope ce fp) ([] ++ pinsAt fp s7.heap) σ8 H' s') : Inv (X.blk s3 H3 scope ce fp) [] (wipe σ vs) H' s' ∧ tn i s'.heap ∧ ∀ b ∈ fp, H' b = none := by
  have held : ∀ b o, b ∈ fp → s7.heap.get? b = some o → s'.heap.get? b = some o ∧ H' b = none := by
    intro b o hb e
    have q := I'.pin (b, o) (List.mem_append_right _ (mem_pinsAt hb e))
    exact ⟨q.1, q.2.1⟩
  refine ⟨?_, T.keep i _ _ st fun b hb o e => (held b o hb e).1, ?_⟩
  · rw [← own]
    exact (I'.unpinned (pins := [])).weak (wipe_length ..) fun j v e => (wipe_some e).1
  · intro b hb
    obtain ⟨o, e, _⟩ := T.obj i _ st b hb
    exact (held b o hb e).2
/-- the way in: a new object D laid, the block opened, its loop to be walked -/
theorem blk_open {s : Shared} {node tg iter : Expr} {ifs : List Expr} {own : List (Str × Nat)} {pos : Pos} {mk : Sem Value} {o0 : Obj} {u0 : Addr → HO} {use : Option (Value → Sem Unit)} {Qf : Value → Shared → Prop} {H : Hp}
    {Rest : Addr → List Addr → (Nat → Heap → Prop) → It → Hp → Shared → Prop} (node1 : clausesOf node = [⟨tg, iter, ifs, 0⟩]) (hN : X.N.Nodup) (I : Inv X pins σ H s) (ok : BlkOk X.N X.env.scope scope own) (fold : ∀ x, foldedSetIterable iter X.env x = pure x)
    (made : ∀ (s : Shared) (Q E : Value → Shared → Prop), Q (.ref s.heap.objs.size) { s with heap := s.heap.push o0 } → wpAny (model X.prog X.w) X.A mk Q E s)
    (isNew : ∀ (h : Heap) (H : Hp), sysModules < h.objs.size → ObjOk X.prog X.w H (h.push o0) h.objs.size (u0 h.objs.size))
    (start : ∀ {it acc : Value} {env : Env} {R : Result → Shared → Prop} {s : Shared}, codeAny (model X.prog X.w) X.A (.compLoop node 0 it acc env) R s →
      wpAny (model X.prog X.w) X.A (pyIter it) (fun it' s' => codeAny (model X.prog X.w) X.A (.compLoop node 0 it' acc env) R s') (notedBy (model X.prog X.w) X.A env fun x s' => R (.error x) s') s → codeAny (model X.prog X.w) X.A (.compStart node 0 it acc env) R s)
    (source : wpAny (model X.prog X.w) X.A (eval iter X.env) (fun v s1 => wpAny (model X.prog X.w) X.A (pyIter v) (fun itv s2 => ∃ it fp tn J H2, itv = .ref it ∧ Inv X pins σ H2 s2 ∧ Turn X.prog X.w X.K tg J fp it tn ∧ tn 0 s2.heap ∧ (∀ b ∈ fp, FpOk X pins H2 b) ∧ Rest it fp tn J H2 s2) X.xe s1) X.xe s)
    (loop : ∀ it fp tn J H2 s2 D s3 s4 C cl, Turn X.prog X.w X.K tg J fp it tn → Rest it fp tn J H2 s2 → H2 D = none → s3.heap.objs.size = C → s4.toks = s2.toks → Inv X pins σ (L2.upd H2 D (u0 D)) s3 → (∀ b ∈ fp, FpOk X pins (L2.upd H2 D (u0 D)) b) →
      Inv (X.blk s3 (L2.upd H2 D (u0 D)) scope (compEnvC scope cl C X.env) fp) [] (wipe σ (own.map (·.2))) (L2.upd H2 D (u0 D)) s4 → tn 0 s4.heap → codeAny (model X.prog X.w) X.A (.compLoop node 0 (.ref it) (.ref D) (compEnvC scope cl C X.env)) (compPost (model X.prog X.w) X.A X.xe use Qf (.ref D) C) s4) :
    wpAny (model X.prog X.w) X.A (comprehension node scope X.env pos mk false (eval iter X.env) use) Qf X.xe s := by
  have cap : closureFor scope X.env = pure (cloFrom X.env.cells scope.names []) := closure_ok fun y hy fr => (ok.free y hy fr).elim (fun z => I.ok.has _ (.inl z)) fun z => I.ok.has _ (.inr z)
  refine wpAny_comprehension_free (use := use) node1 fold cap ok.kind (fun y hy lo => lo ▸ ok.uniq y hy) (thn source ?_)
  intro _ s1 h1
  refine thn h1 ?_
  rintro _ s2 ⟨it, fp, tn, J, H2, rfl, I2, T, st2, free2, rest⟩
  apply made
  apply newEnv_comp
  -- the object and the block
  have low : ∀ b ∈ fp, b < s2.heap.objs.size := fun b hb => let ⟨_, e, _⟩ := T.obj 0 _ st2 b hb; Heap.lt_size e
  have none0 : H2 s2.heap.objs.size = none := I2.hok.fresh (Nat.le_refl _)
  have I3 : Inv X pins σ (L2.upd H2 s2.heap.objs.size (u0 s2.heap.objs.size)) { s2 with heap := s2.heap.push o0 } := I2.laid (t' := s2.toks) (fun b o e => Heap.get?_push_of_some _ e) (Nat.le_refl _) (isNew s2.heap _ I2.big)
  have free3 : ∀ b ∈ fp, FpOk X pins (L2.upd H2 s2.heap.objs.size (u0 s2.heap.objs.size)) b := fun b hb => ⟨(upd_ne (Nat.ne_of_lt (low b hb))).trans (free2 b hb).1, (free2 b hb).2⟩
  have I4 := block_start I3 ok hN (fp := fp) fun b hb => ⟨free3 b hb, by rw [Heap.size_push]; exact Nat.lt_succ_of_lt (low b hb)⟩
  have st4 := T.keep 0 _ (pushCells ((s2.heap.push o0).push { cls := .type "dict", data := .dict #[] }) scope.names) st2 fun b _ o e => pushCells_keeps _ _ _ _ (Heap.get?_push_of_some _ (Heap.get?_push_of_some _ e))
  have go := loop it fp tn J H2 s2 s2.heap.objs.size { s2 with heap := s2.heap.push o0 } { s2 with heap := pushCells ((s2.heap.push o0).push { cls := .type "dict", data := .dict #[] }) scope.names } (s2.heap.push o0).objs.size _ T rest none0 rfl rfl I3 free3 I4 st4
  exact start go (T.self X.A 0 _ _ _ st4 go)
end
end Vx
/-! a comprehension over a text whose letter is struck out by text.replace(letter, ""): the letter's token is known -/
namespace Vx
open Rep (rep)
open EnvR (er)
open PySem PySem.Spec PyProof.Rows L2
/-- the text under the name x, its token known -/
def Tk (X : Cx) (s : Shared) (x z : Str) : Prop := ∃ m t, s.heap.Ns X.env.locals m ∧ X.env.kindOf x = some .local ∧ m x = some (.str z t) ∧ t ≠ 0 ∧ t < s.toks
section
variable {X : Cx} {pins : List (Addr × Obj)} {σ : L2.St} {H : Hp} {s : Shared}
structure PEK (X : Cx) (i : Nat) (x : Str) (e : Expr) (te : TE) : Prop where
  run : ∀ (pins : List (Addr × Obj)) (s : Shared) (σ : L2.St) (H : Hp) (Q : VK) (z : Str), Inv X pins σ H s → Tk X s x z → σ[i]? = some (some (.str z)) → te σ H Q → wpAny (model X.prog X.w) X.A (eval e X.env) (EP X pins σ Q) X.xe s
structure PAK (X : Cx) (i : Nat) (x : Str) (es : List Expr) (ta : TA) : Prop where
  run : ∀ (pos : Pos) (pins : List (Addr × Obj)) (s : Shared) (σ : L2.St) (H : Hp) (Q : List V → Hp → Prop) (z : Str), Inv X pins σ H s → Tk X s x z → σ[i]? = some (some (.str z)) → ta σ H Q → wpAny (model X.prog X.w) X.A (spliced (backTo pos (starEach es X.env))) (AP X pins σ Q) X.xe s
structure PTK (X : Cx) (i : Nat) (x : Str) (e : Expr) (t : TT) : Prop where
  run : ∀ (pins : List (Addr × Obj)) (s : Shared) (σ : L2.St) (H : Hp) (Q : Bool → Hp → Prop) (z : Str), Inv X pins σ H s → Tk X s x z → σ[i]? = some (some (.str z)) → t σ H Q → wpAny (model X.prog X.w) X.A (isTrue e X.env (eval e X.env)) (TP X pins σ Q) X.xe s
theorem PEK.le {i : Nat} {x : Str} {e : Expr} {t u : TE} (h : PEK X i x e t) (k : ∀ σ H Q, u σ H Q → t σ H Q) : PEK X i x e u := ⟨fun pins s σ H Q z I T hi q => h.run pins s σ H Q z I T hi (k σ H Q q)⟩
theorem PAK.le {i : Nat} {x : Str} {e : List Expr} {t u : TA} (h : PAK X i x e t) (k : ∀ σ H Q, u σ H Q → t σ H Q) : PAK X i x e u := ⟨fun pos pins s σ H Q z I T hi q => h.run pos pins s σ H Q z I T hi (k σ H Q q)⟩
theorem PTK.le {i : Nat} {x : Str} {e : Expr} {t u : TT} (h : PTK X i x e t) (k : ∀ σ H Q, u σ H Q → t σ H Q) : PTK X i x e u := ⟨fun pins s σ H Q z I T hi q => h.run pins s σ H Q z I T hi (k σ H Q q)⟩
end
structure TurnK (P : Program) (w : World) (K : PySem.W.Frag) (tg : Expr) (J : It) (fp : List Addr) (it : Addr) (tn : Nat → Heap → Prop) : Prop where
  turn : Turn P w K tg J fp it tn
  item : ∀ (X : Cx), X.prog = P → X.w = w → X.K = K → X.calm = true → ∀ (i : Nat) (pins : List (Addr × Obj)) (s : Shared) (σ : L2.St) (H : Hp) (E : Value → Shared → Prop), Inv X pins σ H s → (∀ b ∈ fp, FpOk X pins H b) → tn i s.heap → J.go i H → 1 ≤ s.toks →
    wpAny (model P w) X.A (pyNext (.ref it)) (fun r s1 => ∃ u, r = some u ∧
      wpAny (model P w) X.A (letOwnedTupleGo tg (.ref it) u) (fun _ s2 => ∃ z t H', u = Value.str z t ∧ t ≠ 0 ∧ t < s2.toks ∧ Inv X pins σ H' s2 ∧ J.yld i H (V.str z) H' ∧ tn (i + 1) s2.heap ∧ ∀ b ∈ fp, H' b = none) E s1) E s
def PIEK (X : Cx) (pins : List (Addr × Obj)) (σ : L2.St) (tg : Expr) (R : It → Hp → Prop) (itv : Value) (s2 : Shared) : Prop :=
  ∃ (it : Addr) (fp : List Addr) (tn : Nat → Heap → Prop) (J : It) (H' : Hp), itv = .ref it ∧ Inv X pins σ H' s2 ∧ TurnK X.prog X.w X.K tg J fp it tn ∧ tn 0 s2.heap ∧ (∀ b ∈ fp, FpOk X pins H' b) ∧ R J H'
/-- at n tokens ahead one is out behind the iterator -/
structure PIK (X : Cx) (n : Nat) (tg iter : Expr) (wi : TI) : Prop where
  run : ∀ (pins : List (Addr × Obj)) (s : Shared) (σ : L2.St) (H : Hp) (R : It → Hp → Prop), n ≤ s.toks → Inv X pins σ H s → wi σ H R →
    wpAny (model X.prog X.w) X.A (eval iter X.env) (fun v s1 => wpAny (model X.prog X.w) X.A (pyIter v) (fun itv s2 => 1 ≤ s2.toks ∧ PIEK X pins σ tg R itv s2) X.xe s1) X.xe s
theorem PIK.le {X : Cx} {n : Nat} {tg e : Expr} {t u : TI} (h : PIK X n tg e t) (k : ∀ σ H Q, u σ H Q → t σ H Q) : PIK X n tg e u := ⟨fun pins s σ H Q hn I q => h.run pins s σ H Q hn I (k σ H Q q)⟩
def PEN (n : Nat) (X : Cx) (e : Expr) (t : TE) : Prop :=
  ∀ (pins : List (Addr × Obj)) (s : Shared) (σ : L2.St) (H : Hp) (Q : VK), n ≤ s.toks → Inv X pins σ H s → t σ H Q → wpAny (model X.prog X.w) X.A (eval e X.env) (EP X pins σ Q) X.xe s
theorem PEN.le {n : Nat} {X : Cx} {e : Expr} {t u : TE} (h : PEN n X e t) (k : ∀ σ H Q, u σ H Q → t σ H Q) : PEN n X e u := fun pins s σ H Q hn I q => h pins s σ H Q hn I (k σ H Q q)
end Vx
/-! the same with mirrors -/
namespace Vx
open Rep (rep)
open EnvR (er)
open PySem PySem.Spec PyProof.Rows L2
end Vx
/-! pair[0].replace(letter, "") where the letter goes through pair[0] -/
namespace Vx
open Rep (rep)
open EnvR (er)
open PySem PySem.Spec PyProof.Rows L2
end Vx
/-! {text for x in ..}, and sorted of it -/
namespace Vx
open Rep (rep)
open EnvR (er)
open PySem PySem.Spec PyProof.Rows L2 PpSet
section
variable {P : Program} {w : World} {A : Around} {E : Value → Shared → Prop} {s : Shared} {a : Addr} {l : List Str}
theorem setS_put {k : Str} {tk : Tok} {Q : Value → Shared → Prop} (R : SetS w s.heap a l) (room : l.length + 1 < scanBound)
    (hQ : ∀ h', Heap.SameBut a s.heap h' → SetS w h' a (if k ∈ l then l else k :: l) → Q .none { s with heap := h', toks := s.toks + 1 }) :
    wpAny (model P w) A (call (.builtin "set.add") [.ref a, .str k tk]) Q E s := by
  have isSet : s.TypeIs (.ref a) "set" := R.elim fun o ⟨_, _, _, ho, ex, _⟩ => ⟨o, ho, ex.1⟩
  have put : ∀ A' : Around, wpAny (model P w) A' (setAdd a (.str k tk)) (fun _ s' => Q .none s') E s := by
    intro A'
    unfold setAdd
    exact wpAny_holding (wpAny_bind ((PySem.strKind P w).pyHash (strKind_is _ _ _ _) (setS_add (s := { s with toks := s.toks + 1 }) R room fun h' _ sb new => hQ h' sb new)))
  apply wpAny_call_entry F.slot_set_add isSet F.entry_set_add (ha := F.args_set_add_2 _ _)
  unfold Builtin.«set.add» Builtin.Frozenset.oneOther Builtin.Frozenset.addrOf
  simp only [List.isEmpty_nil, bind_assoc]
  repeat first | exact wpAny_bind (wpAny_mono (put _) (fun _ _ q => wpAny_pure ⟨_, rfl, q⟩) fun _ _ e => e) | refine wpAny_bind (wpAny_pure ?_) | dsimp only
end
/-- the set of texts at a -/
def SetSO (w : World) (a : Addr) (l : List Str) : HO := .ext fun h => SetS w h a l
theorem setSO_new {w : World} {P : Program} {H : Hp} {h : Heap} {a : Addr} {l : List Str} (R : SetS w h a l) : ObjOk P w H h a (SetSO w a l) := by
  have ⟨o, _, _, _, ho, _⟩ := R
  exact ⟨R, ⟨o, ho⟩, fun h1 h2 p k => SetS.at p k⟩
theorem setSO_get {X : Cx} {pins : List (Addr × Obj)} {σ : L2.St} {H : Hp} {s : Shared} {a : Addr} {l : List Str} (I : Inv X pins σ H s) (ha : H a = some (SetSO X.w a l)) : SetS X.w s.heap a l := (I.hok a _ ha).1
theorem addS_ok {X : Cx} {pins : List (Addr × Obj)} {σ : L2.St} {H : Hp} {s : Shared} {E : Value → Shared → Prop} {D : Addr} {l : List Str} {y : Str} {ty : Tok} {Q : Value → Shared → Prop} (I : Inv X pins σ H s) (hD : H D = some (SetSO X.w D l)) (room : l.length + 1 < scanBound)
    (h : ∀ s', Inv X pins σ (upd H D (SetSO X.w D (if y ∈ l then l else y :: l))) s' → Q .none s') : wpAny (model X.prog X.w) X.A (call (.builtin "set.add") [.ref D, .str y ty]) Q E s := setS_put (setSO_get I hD) room fun h' same new => by
  have stands : ∃ u, h'.get? D = some u := new.imp fun o ⟨_, _, _, z, _⟩ => z
  have free : Mut (H D) := by
    rw [hD]
    trivial
  exact h _ (I.write (e := D) (t' := s.toks + 1) free (Or.inl rfl) (fun b u ne e => (same.2 b ne).trans e) stands (setSO_new new))
def tScS (w : World) (wi : TI) (g : TG) (tt : TT) (te : TE) (vs : List Nat) : TE := fun σ H Q => wi σ H fun J H1 => ∀ D, H1 D = none → ∃ W : Nat → Nat → Hp → Prop, (∃ m, W 0 m (upd H1 D (SetSO w D []))) ∧ ∀ i m H, W i m H →
  (J.stop i H ∧ Q (.ref D) H) ∨ (J.go i H ∧ ∃ Nx : Hp → Prop, (∀ H', Nx H' → ∃ m', m' < m ∧ W (i + 1) m' H') ∧ ∀ x H', J.yld i H x H' → g x (wipe σ vs) H' fun σ2 H2 => wipe σ2 vs = wipe σ vs ∧ tt σ2 H2 fun b H3 =>
    if b = true then te σ2 H3 fun y H4 => ∃ (c : Str) (l : List Str), y = .str c ∧ H4 D = some (SetSO w D l) ∧ l.length + 1 < scanBound ∧ Nx (upd H4 D (SetSO w D (if c ∈ l then l else c :: l))) else Nx H3)
theorem scS_core {X : Cx} {pins : List (Addr × Obj)} {s : Shared} {σ : L2.St} {H : Hp} {Q : VK} {elt tg iter : Expr} {ifs : List Expr} {scope : Scope} {own : List (PySem.Str × Nat)} {pos pos' : Pos} {wi : TI} {g : TG} {tt : TT} {te : TE} {use : Option (Value → Sem Unit)} {Qf : Value → Shared → Prop}
    (hc : X.calm = true) (hN : X.N.Nodup) (I : Inv X pins σ H s) (hi : PI X tg iter wi) (ok : BlkOk X.N X.env.scope scope own)
    (hg : ∀ (s : Shared) (H : Hp) (C : Addr) (cl : List (PySem.Str × Addr)) (fp : List Addr), PG (X.blk s H scope (compEnvC scope cl C X.env) fp) tg g) (ht : ∀ (s : Shared) (H : Hp) (C : Addr) (cl : List (PySem.Str × Addr)) (fp : List Addr), PTs (X.blk s H scope (compEnvC scope cl C X.env) fp) ifs tt)
    (he : ∀ (s : Shared) (H : Hp) (C : Addr) (cl : List (PySem.Str × Addr)) (fp : List Addr), PE (X.blk s H scope (compEnvC scope cl C X.env) fp) elt te) (hs : ∀ x, foldedSetIterable iter X.env x = pure x)
    (h : tScS X.w wi g tt te (own.map (·.2)) σ H Q)
    (hRR : ∀ D C s' m H', Inv X pins σ H' s' → Q (.ref D) H' → s'.heap.Ns C m → FpOk X pins H' C → compPost (model X.prog X.w) X.A X.xe use Qf (.ref D) C (.ok .next) s') :
    wpAny (model X.prog X.w) X.A (comprehension (.SetComp elt [⟨tg, iter, ifs, 0⟩] scope pos) scope X.env pos' (PySem.newSet (.type "set")) false (eval iter X.env) use) Qf X.xe s := by
  refine blk_open (o0 := { cls := .type "set", dict := none, data := .set #[] 0 (.fresh 0 0 (!X.w.params.followText "set-order")) }) (u0 := fun D => SetSO X.w D []) (tg := tg) (ifs := ifs)
    (Rest := fun it fp tn J H2 s2 => ∀ D, H2 D = none → ∃ W : Nat → Nat → Hp → Prop, (∃ m, W 0 m (L2.upd H2 D (SetSO X.w D []))) ∧ ∀ i m H, W i m H → (J.stop i H ∧ Q (.ref D) H) ∨ (J.go i H ∧ ∃ Nx : Hp → Prop, (∀ H', Nx H' → ∃ m', m' < m ∧ W (i + 1) m' H') ∧ ∀ x H', J.yld i H x H' →
      g x (wipe σ (own.map (·.2))) H' fun σ2 H2 => wipe σ2 (own.map (·.2)) = wipe σ (own.map (·.2)) ∧ tt σ2 H2 fun b H3 => if b = true then te σ2 H3 fun y H4 => ∃ (c : Str) (l : List Str), y = .str c ∧ H4 D = some (SetSO X.w D l) ∧ l.length + 1 < scanBound ∧ Nx (L2.upd H4 D (SetSO X.w D (if c ∈ l then l else c :: l))) else Nx H3))
    rfl hN I ok hs (fun s Q' E q => newSet_ok q) (fun h H _ => setSO_new (setS_nil (Heap.get?_push_size _ rfl))) (fun h0 h1 => codeAny_compStart_set h0 h1) ?_ ?_
  · refine thn (hi.run pins s σ H _ I h) fun _ s1 h1 => thn h1 ?_
    rintro _ s2 ⟨it, fp, tn, J, H2, rfl, I2, T, st2, f2, rest⟩
    exact ⟨it, fp, tn, J, H2, rfl, I2, T, st2, f2, rest⟩
  · intro it fp tn J H2 s2 D s3 s4 C cl T rest new hC _ I3 cells I4 st4
    obtain ⟨W, ⟨m0, w0⟩, turn⟩ := rest D new
    have clear : ∀ b ∈ fp, L2.upd H2 D (SetSO X.w D []) b = none := fun b hb => (cells b hb).1
    generalize L2.upd H2 D (SetSO X.w D []) = H3 at I3 I4 w0 cells clear
    -- behind each turn the walk stands at the next place
    have again : ∀ {i n : Nat} {Nx : Hp → Prop} {s7 s' : Shared} {σ8 : L2.St} {H' : Hp}, (∀ H', Nx H' → ∃ m', m' < n ∧ W (i + 1) m' H') → tn (i + 1) s7.heap → wipe σ8 (own.map (·.2)) = wipe σ (own.map (·.2)) →
        Inv (X.blk s3 H3 scope (compEnvC scope cl C X.env) fp) ([] ++ pinsAt fp s7.heap) σ8 H' s' → Nx H' → ∃ m, m < n ∧ ∃ i H', Inv (X.blk s3 H3 scope (compEnvC scope cl C X.env) fp) [] (wipe σ (own.map (·.2))) H' s' ∧ tn i s'.heap ∧ (∀ b ∈ fp, H' b = none) ∧ W i m H' := by
      intro i n Nx s7 s' σ8 H' less st7 same I' nx
      obtain ⟨m, lt, w⟩ := less H' nx
      obtain ⟨J1, st', free⟩ := blk_next T st7 same I'
      exact ⟨m, lt, i + 1, H', J1, st', free, w⟩
    refine compLoopS_any (fun n s' => ∃ i H', Inv (X.blk s3 H3 scope (compEnvC scope cl C X.env) fp) [] (wipe σ (own.map (·.2))) H' s' ∧ tn i s'.heap ∧ (∀ b ∈ fp, H' b = none) ∧ W i n H') ?_ m0 ⟨0, H3, I4, st4, clear, w0⟩
    rintro n s5 ⟨i, H5, I5, st5, n5, w5⟩
    cases turn i n H5 w5 with
    | inl ends =>
      refine thnF (T.done (X.blk s3 H3 scope (compEnvC scope cl C X.env) fp) rfl rfl rfl hc i [] s5 _ H5 (fun _ _ => False) I5 (blk_cells I5 n5) st5 ends.1) ?_
      rintro _ s6 ⟨rfl, I6⟩
      obtain ⟨I7, fC, m, hm⟩ := blk_home I3 cells hC.symm I6
      rw [hC] at fC hm
      exact hRR D C s6 m H5 I7 ends.2 hm fC
    | inr more =>
      obtain ⟨go, Nx, less, step⟩ := more
      refine thnF (T.item (X.blk s3 H3 scope (compEnvC scope cl C X.env) fp) rfl rfl rfl hc i [] s5 _ H5 (fun _ _ => False) I5 (blk_cells I5 n5) st5 go) ?_
      rintro _ s6 ⟨u, rfl, item⟩
      refine thnF item ?_
      rintro _ s7 ⟨x, H7, I7, r7, y7, st7, n7⟩
      refine thnF ((hg s3 H3 C cl fp).run _ s7 _ H7 x u _ (I7.pinned (blk_cells I7 n7) (T.obj _ _ st7)) r7 (step x H7 y7)) ?_
      rintro _ s8 ⟨σ8, H8, I8, same, tests⟩
      refine thnF ((ht s3 H3 C cl fp).run _ s8 σ8 H8 _ I8 tests) ?_
      rintro b s9 ⟨H9, I9, q9⟩
      cases b
      · exact again less st7 same I9 q9
      · refine thnF ((he s3 H3 C cl fp).run _ s9 σ8 H9 _ I9 q9) ?_
        rintro z s10 ⟨_, H10, I10, r10, c, l, rfl, hD, few, nx⟩
        obtain ⟨tz, rfl⟩ := r10
        exact addS_ok (X := X.blk s3 H3 scope (compEnvC scope cl C X.env) fp) I10 hD few fun s11 I11 => again less st7 same I11 nx
theorem pe_scS {X : Cx} {elt tg iter : Expr} {ifs : List Expr} {scope : Scope} {own : List (PySem.Str × Nat)} {pos : Pos} {wi : TI} {g : TG} {tt : TT} {te : TE} (hc : X.calm = true) (hN : X.N.Nodup) (hi : PI X tg iter wi) (ok : BlkOk X.N X.env.scope scope own)
    (hg : ∀ (s : Shared) (H : Hp) (C : Addr) (cl : List (PySem.Str × Addr)) (fp : List Addr), PG (X.blk s H scope (compEnvC scope cl C X.env) fp) tg g) (ht : ∀ (s : Shared) (H : Hp) (C : Addr) (cl : List (PySem.Str × Addr)) (fp : List Addr), PTs (X.blk s H scope (compEnvC scope cl C X.env) fp) ifs tt)
    (he : ∀ (s : Shared) (H : Hp) (C : Addr) (cl : List (PySem.Str × Addr)) (fp : List Addr), PE (X.blk s H scope (compEnvC scope cl C X.env) fp) elt te) (hs : ∀ x, foldedSetIterable iter X.env x = pure x := by intro _; rfl) :
    PE X (.SetComp elt [⟨tg, iter, ifs, 0⟩] scope pos) (tScS X.w wi g tt te (own.map (·.2))) := by
  constructor
  intro pins s σ H Q I h
  rw [eval_SetComp]
  apply scS_core hc hN I hi ok hg ht he hs h
  rintro D C s' m H' I' q ns ⟨c0, c1, _, c3, c4, c5⟩
  refine ⟨m, ns, fun h'' same => ⟨.ref D, H', I'.turned (t' := s'.toks) ?_ c0 c1 c3 c4 c5, rfl, q⟩⟩
  intro b o ne e
  rw [same.2 b ne]
  exact e
theorem ded_app (y : Str) : ∀ (xs acc : List Str), ded acc (xs ++ [y]) = if y ∈ ded acc xs then ded acc xs else y :: ded acc xs
  | [], acc => rfl
  | x :: xs, acc => by
    rw [List.cons_append]
    unfold ded
    exact ded_app y xs _
section
variable {Γ : Type} [EnvR Γ] {α β τ : Type} [Rep τ] [Rep α] {i : Nat} {Γe : Type} [EnvR Γe]
theorem tlcpS {K : PySem.W.Frag} {wl : World} {p : Put i Γ τ Γe} {g : Γ → Option (List τ)} {t : Γe → Option Bool} {e : Γe → Option Str} {σ : L2.St} {H : Hp} {Q : VK}
    (h : ∃ F G L γ zs, W F G H ∧ er K G F L σ γ ∧ flc p g t e γ = some zs ∧ zs.length ≤ 4000 ∧ ∀ D G2 H2, Ex G G2 → W F G2 H2 → H2 D = some (SetSO wl D (ded [] zs)) → Q (.ref D) H2) :
    tScS wl (tiv K g) (gName i) (tet K t) (tev K (RE K) e) [i] σ H Q := by
  obtain ⟨F, G, L, γ, zs, w, he, ea, hz4, q⟩ := h
  unfold flc at ea
  cases e0 : g γ with
  | none => rw [e0] at ea; cases ea
  | some xs =>
  rw [e0] at ea
  simp only [Option.bind_some] at ea
  split at ea
  case isFalse => cases ea
  rename_i hlen
  refine ⟨F, G, L, γ, xs, w, he, e0, fun J G1 H1 x1 w1 wlk D hD => ?_⟩
  have fd := w1.fresh hD
  have nD : ∀ q ∈ L, q ≠ D := fun q hq z => EnvR.there he q hq (by rw [z]; exact fd.2)
  refine ⟨fun j m H' => m = xs.length - j ∧ j ≤ xs.length ∧ ∃ G2 ys rest, Ex G1 G2 ∧ W (upd F D (SetSO wl D (ded [] ys))) G2 H' ∧
      lcGo (fun x => t (p.put γ x)) (fun x => e (p.put γ x)) (xs.drop j) = some rest ∧ zs = ys ++ rest, ⟨xs.length, by simp, Nat.zero_le _, G1, [], zs, Ex.refl _, w1.own hD, ea, rfl⟩, ?_⟩
  rintro j m H' ⟨rfl, hj, G2, ys, rest, x2, w2, go, rfl⟩
  have fDx : ∀ acc : List Str, Ex F (upd F D (SetSO wl D acc)) := fun acc a o z => by
    rw [upd_ne (fun y => by rw [y, fd.2] at z; cases z)]
    exact z
  by_cases hlt : j < xs.length
  · obtain ⟨x, hx⟩ : ∃ x, xs[j]? = some x := ⟨xs[j], List.getElem?_eq_getElem hlt⟩
    obtain ⟨hgo, hyl⟩ := (wlk (upd F D (SetSO wl D (ded [] ys))) G2 H' x2 w2 j).1 x hx
    have hdrop : xs.drop j = x :: xs.drop (j + 1) := by
      rw [List.drop_eq_getElem_cons hlt]
      have : xs[j] = x := Option.some.inj ((List.getElem?_eq_getElem hlt).symm.trans hx)
      rw [this]
    rw [hdrop] at go
    unfold lcGo at go
    refine .inr ⟨hgo, fun H3 => ∃ G2 ys rest', Ex G1 G2 ∧ W (upd F D (SetSO wl D (ded [] ys))) G2 H3 ∧
      lcGo (fun x => t (p.put γ x)) (fun x => e (p.put γ x)) (xs.drop (j + 1)) = some rest' ∧ _ = ys ++ rest', fun H3 z => ⟨xs.length - (j + 1), by omega, rfl, hlt, z⟩, fun xv H3 hy => ?_⟩
    obtain ⟨G3, x3, w3, rx⟩ := hyl xv H3 hy
    have er3 : er K G3 (upd F D (SetSO wl D (ded [] ys))) L (σ.set i (some xv)) (p.put γ x) := p.ok (EnvR.keep (fun q hq => upd_ne (nD q hq)) (EnvR.mono ((x1.trans x2).trans x3) he)) rx
    show wipe ((σ.set i none).set i (some xv)) [i] = wipe σ [i] ∧ _
    refine ⟨by show ((σ.set i none).set i (some xv)).set i none = σ.set i none; rw [set_set', set_set'], ?_⟩
    rw [show (wipe σ [i]).set i (some xv) = σ.set i (some xv) from set_set']
    cases et : t (p.put γ x) with
    | none =>
      rw [et] at go
      cases go
    | some b =>
      rw [et] at go
      simp only [Option.bind_some] at go
      refine ⟨_, G3, L, _, b, w3, er3, et, fun G4 H4 x4 w4 => ?_⟩
      cases b with
      | false =>
        simp only [Bool.false_eq_true, if_false] at go ⊢
        exact ⟨G4, ys, rest, (x2.trans x3).trans x4, w4, go, rfl⟩
      | true =>
        simp only [if_true] at go ⊢
        cases ee : e (p.put γ x) with
        | none =>
          rw [ee] at go
          cases go
        | some y =>
          rw [ee] at go
          simp only [Option.bind_some] at go
          cases eg : lcGo (fun x => t (p.put γ x)) (fun x => e (p.put γ x)) (xs.drop (j + 1)) with
          | none =>
            rw [eg] at go
            cases go
          | some rest' =>
            rw [eg] at go
            simp only [Option.map_some] at go
            cases go
            refine ⟨_, G4, L, _, y, w4, EnvR.mono x4 er3, ee, fun yv G5 H5 x5 w5 ry => ?_⟩
            have ry : yv = V.str y := ry
            have hlen5 : (ded [] ys).length ≤ 4000 := by
              have := ded_len ys []
              have h5 : (ys ++ y :: rest').length ≤ 4000 := hz4
              rw [List.length_append] at h5
              simp at this
              omega
            refine ⟨y, ded [] ys, ry, w5.f _ _ upd_same, ?_, G5, ys ++ [y], rest', ((x2.trans x3).trans x4).trans x5, ?_, (by first | exact eg | rfl), ?_⟩
            · have : scanBound = 4096 := rfl
              omega
            · have := w5.set (u := SetSO wl D (if y ∈ ded [] ys then ded [] ys else y :: ded [] ys)) upd_same
              rw [upd_upd] at this
              rw [ded_app]
              exact this
            · rw [List.append_assoc]
              rfl
  · have hj' : j = xs.length := by omega
    subst hj'
    rw [List.drop_length] at go
    unfold lcGo at go
    cases go
    refine .inl ⟨(wlk (upd F D (SetSO wl D (ded [] ys))) G2 H' x2 w2 xs.length).2 (Nat.le_refl _), ?_⟩
    rw [List.append_nil] at q
    exact q _ G2 H' (x1.trans x2) (w2.less (fDx _)) (w2.f _ _ upd_same)
end
end Vx
namespace Vx
open Rep (rep)
open EnvR (er)
open PySem PySem.Spec PyProof.Rows L2 PpSet
section
variable {X : Cx} {a : Expr} {ta : TE} {p pos : Pos}
theorem pe_sortSO (hc : X.calm = true) (hu : X.A.units + 64 < cLine) (hm : X.mg "sorted" = none) (ha : PE X a ta) (hg : Gl X "sorted" := by rfl)
    (na : starEach [a] X.env = (false, eval a X.env) :: starEach [] X.env := by rfl) : PE X (.Call (.Name "sorted" p) [a] [] pos)
      (fun σ H Q => ta σ H fun v H1 => ∃ D l, v = .ref D ∧ H1 D = some (SetSO X.w D l) ∧ l.length ≤ 4000 ∧ ∀ p, H1 p = none → Q (.ref p) (upd H1 p (.lst ((srt l).map V.str)))) := by
  constructor
  intro pins s σ H Q I h
  refine Call_ (ld_blt I hg hm boot_sorted ?_)
  refine PyProof.Rows.callWith_builtin1 (PyProof.Rows.args_cons (thn (ha.run pins s σ H _ I h) ?_) na) na rfl
  intro v s1 ⟨x, H1, I1, r1, D, l, ex, hD, hl, k⟩
  subst ex
  cases r1
  apply PyProof.Rows.args_nil
  apply sorted_setS (setSO_get I1 hD) (I1.ok.hd hc) hu
  intro s' p out c hk' hgn hos hp hget hst
  have hn : H1 p = none := I1.hok.fresh hp
  have lz : ((srt l).map V.str).length ≤ sizeLine := by
    rw [List.length_map, (srt_perm _).length_eq]
    exact Nat.le_trans hl (by decide : 4000 ≤ sizeLine)
  have J := I1.call (h' := s'.heap) (g' := s'.gens) (d' := s'.drawn) (t' := s'.toks) (ch := []) (Un.laid hk' hp hn) (I1.hok.laid hk' hp (o := .lst ((srt l).map V.str)) ⟨lz, out.toList, c, vals_of_strs hst, hget⟩) (by rw [hgn]; exact I1.bare) (fun _ z => nomatch z)
  have e : s' = { s1 with heap := s'.heap, gens := s'.gens, drawn := s'.drawn, toks := s'.toks } := by
    cases s'
    cases hos
    rfl
  rw [e]
  exact ⟨.ref p, _, J, rfl, k p hn⟩
end
section
variable {Γ Γe : Type} [EnvR Γ] [EnvR Γe] {τ : Type} [Rep τ] {X : Cx} {i : Nat} {elt iter : Expr} {ifs : List Expr} {scope : Scope} {pos tpos cpos pp : Pos} {x : Str}
/-- sorted({elt for x in iter if ..}), elt a text -/
theorem vf_ssC (p : Put i Γ τ Γe) {g : Γ → Option (List τ)} {t : Γe → Option Bool} {e : Γe → Option Str} {fr : Γ → Option (List Str)} (efr : flc p g t e = fr) (hc : X.calm = true) (hN : X.N.Nodup) (hu : X.A.units + 64 < cLine) (hm : X.mg "sorted" = none) (hi : VI X (.Name x tpos) iter g) (ok : blkC X.N X.env.scope scope [(x, i)] = true) (hg : ∀ (s : Shared) (H : Hp) (C : Addr) (cl : List (Str × Addr)) (fp : List Addr), PG (X.blk s H scope (compEnvC scope cl C X.env) fp) (.Name x tpos) (gName i)) (ht : ∀ (s : Shared) (H : Hp) (C : Addr) (cl : List (Str × Addr)) (fp : List Addr), VTs (X.blk s H scope (compEnvC scope cl C X.env) fp) ifs t) (he : ∀ (s : Shared) (H : Hp) (C : Addr) (cl : List (Str × Addr)) (fp : List Addr), VE (X.blk s H scope (compEnvC scope cl C X.env) fp) elt e) (hs : ∀ x, foldedSetIterable iter X.env x = pure x := by intro _; rfl) (hgl : Gl X "sorted" := by rfl)
    (na : starEach [.SetComp elt [⟨.Name x tpos, iter, ifs, 0⟩] scope cpos] X.env = (false, eval (.SetComp elt [⟨.Name x tpos, iter, ifs, 0⟩] scope cpos) X.env) :: starEach [] X.env := by rfl) :
    VF X (.Call (.Name "sorted" pp) [.SetComp elt [⟨.Name x tpos, iter, ifs, 0⟩] scope cpos] [] pos) (f1 ss fr) := by
  subst efr
  refine PE.le (pe_sortSO hc hu hm (pe_scS (own := [(x, i)]) (g := gName i) (te := tev X.K (RE X.K) e) (tt := tet X.K t) hc hN hi (blkOk_by ok) hg ht he hs) hgl na) fun σ H Q ⟨F, G, L, γ, r, w, he, ea, q⟩ => ?_
  unfold f1 at ea
  cases e1 : flc p g t e γ with
  | none => rw [e1] at ea; cases ea
  | some xs =>
    rw [e1] at ea
    simp only [Option.bind_some, ss] at ea
    split at ea
    case isFalse => cases ea
    rename_i hl
    cases ea
    refine tlcpS ⟨F, G, L, γ, xs, w, he, e1, hl, fun D G2 H2 x2 w2 hD => ⟨D, _, rfl, hD, ?_, fun n hn => ?_⟩⟩
    · have := ded_len xs []
      exact Nat.le_trans this (by simpa using hl)
    · obtain ⟨w3, r3⟩ := rf_new w2 hn (of_strs (K := X.K) (G := G2))
      exact q _ _ _ x2 w3 r3
end
end Vx
/-! own.pop() -/
namespace Vx
open Rep (rep)
open EnvR (er)
open PySem PySem.Spec PyProof.Rows L2
section
variable {Γ : Type} [EnvR Γ] {X : Cx} {pos : Pos}
def jnT (a : Str) (y : Tup Str) : Option Str := jn a y.l
/-- "..".join(a tuple) -/
theorem ve_joinT {o e : Expr} {apos : Pos} {f : Γ → Option Str} {g : Γ → Option (Tup Str)} (ho : VE X o f) (he : VE X e g) (hs : starEach [e] X.env = [(false, eval e X.env)] := by rfl) (hbase : attributeBase o "join" X.env (eval o X.env) = eval o X.env := by rfl) (hline : (apos.endLine == pos.line) = true := by rfl) :
    VE X (.Call (.Attribute o "join" apos) [e] [] pos) (f2 jnT f g) := PE.le (pe_join ho he hs hbase hline) fun σ H Q ⟨F, G, L, γ, z, w, hh, ea, q⟩ => by
  obtain ⟨x, y, e1, e2, e3⟩ := f2_some ea
  unfold jnT jn at e3
  split at e3
  · rename_i hl
    cases e3
    refine ⟨F, G, L, γ, x, w, hh, e1, fun v G2 H2 x2 w2 r2 => ⟨⟨x, r2⟩, F, G2, L, γ, y, w2, EnvR.mono x2 hh, e2, fun u G3 H3 x3 w3 r3 => ?_⟩⟩
    obtain ⟨p, vs, h1, h2, h3⟩ := r3
    rw [strs_of h3] at h2
    exact ⟨x, p, y.l, r2, by rw [h1], .inr (.inl (.inl (w3.g _ _ h2))), by omega, q _ _ _ (x2.trans x3) w3 rfl⟩
  · cases e3
end
end Vx
/-! list.count of a text -/
namespace Vx
open Rep (rep)
open EnvR (er)
open PySem PySem.Spec PyProof.Rows L2
end Vx
/-! max of a list of plain data -/
namespace Vx
open Rep (rep)
open EnvR (er)
open PySem PySem.Spec PyProof.Rows L2
section
variable {α : Type} [Rep α] [Dat α]
theorem d_inj [DecidableEq α] [DatE α] {x y : α} (e : Dat.d x = Dat.d y) : x = y := by
  have h1 := DatE.eqv x y
  have h2 := DatE.eqv y y
  rw [e, h2] at h1
  simpa using h1.symm
theorem reads_all {h : Heap} {P : α → V → Prop} (hP : ∀ x w v, P x w → L2.RelV w v → ∃ as, Reads h v (Dat.d x) as) : ∀ {xs : List α} {ws : List V} {us : List Value}, PySem.Paired P xs ws → Vals ws us → ∃ as, ReadsAll h us (xs.map Dat.d) as
  | _, _, _, .nil, .nil => ⟨[], .nil⟩
  | _, _, _, .cons p t, .cons r t2 => by
    obtain ⟨a1, h1⟩ := hP _ _ _ p r
    obtain ⟨a2, h2⟩ := reads_all hP t t2
    exact ⟨_, ReadsAll.cons h1 h2⟩
theorem depth_allD : ∀ xs : List α, PyData.depthAll (xs.map Dat.d) ≤ Dat.dep α
  | [] => Nat.zero_le _
  | x :: xs => by
    have := depth_allD xs
    have := Dat.depth x
    simp only [List.map_cons, PyData.depthAll]
    omega
end
theorem alIS (x y : T2 Int Str) : PySem.W.alike (Dat.d x) (Dat.d y) = true := by
  show PySem.W.alike (.tuple [.int x.a, .str x.b]) (.tuple [.int y.a, .str y.b]) = true
  simp [PySem.W.alike, PySem.W.alikeAll]
theorem nnIS (x : T2 Int Str) : Dat.d x ≠ PyData.none := fun e => by cases e
end Vx
/-! an own dict that changes no more; a closer is not None -/
namespace Vx
open Rep (rep)
open EnvR (er)
open PySem PySem.Spec PyProof.Rows L2
instance : NN Clo := ⟨fun ⟨p, C, dx, vc, va, h, _⟩ => by rw [h]; exact fun z => V.noConfusion z⟩
end Vx
/-! {k: v for x in iter} as a dict of one's own -/
namespace Vx
open Rep (rep)
open EnvR (er)
open PySem PySem.Spec PyProof.Rows L2
end Vx
/-! the class Table, as Closer -/
namespace Vx
open Rep (rep)
open EnvR (er)
open PySem PySem.Spec PyProof.Rows L2
structure Tbl where
  things : Str
  rows : Tup Str
def TbAt (K : PySem.W.Frag) (C : Addr) : Prop := PySem.W.nsIn K mainGlobals "Table" = some (some (.ref C))
theorem TbAt.one {K : PySem.W.Frag} {C C' : Addr} (h : TbAt K C) (k : TbAt K C') : C = C' := by
  unfold TbAt at h k
  rw [h] at k
  cases k
  rfl
/-- the fields, as __init__ lays them -/
def tfl (a b : V) : List (Str × V) := putF "_rows" b (putF "_things" a [])
instance : Rep Tbl := ⟨fun K G c v => ∃ p C dx vc, v = .ref p ∧ TbAt K C ∧ G p = some (.ins C dx (tfl (.str c.things) vc)) ∧ Rep.rep K G c.rows vc,
  fun e ⟨p, C, dx, vc, h1, h2, h3, h4⟩ => ⟨p, C, dx, vc, h1, h2, e _ _ h3, Rep.mono e h4⟩⟩
instance : NN Tbl := ⟨fun ⟨p, C, dx, vc, h, _⟩ => by rw [h]; exact fun z => V.noConfusion z⟩
structure TI0 where
  p : Addr
structure TI1 where
  p : Addr
  things : Str
structure TI2 where
  p : Addr
  c : Tbl
instance : Slot TI0 := ⟨fun K G F L o t => ∃ C dx, L = [t.p] ∧ o = some (.ref t.p) ∧ TbAt K C ∧ F t.p = some (.ins C dx []), fun _ h => h, fun {K G F F' L o t} k ⟨C, dx, h1, h2, h3, h4⟩ => ⟨C, dx, h1, h2, h3, by rw [k t.p (by rw [h1]; exact List.mem_singleton.mpr rfl)]; exact h4⟩, fun ⟨C, dx, h1, h2, h3, h4⟩ q hq => by
  rw [in_one h1 hq, h4]
  exact fun z => by cases z⟩
instance : Slot TI1 := ⟨fun K G F L o t => ∃ C dx, L = [t.p] ∧ o = some (.ref t.p) ∧ TbAt K C ∧ F t.p = some (.ins C dx (putF "_things" (.str t.things) [])), fun _ h => h, fun {K G F F' L o t} k ⟨C, dx, h1, h2, h3, h4⟩ => ⟨C, dx, h1, h2, h3, by rw [k t.p (by rw [h1]; exact List.mem_singleton.mpr rfl)]; exact h4⟩, fun ⟨C, dx, h1, h2, h3, h4⟩ q hq => by
  rw [in_one h1 hq, h4]
  exact fun z => by cases z⟩
instance : Slot TI2 := ⟨fun K G F L o t => ∃ C dx vc, L = [t.p] ∧ o = some (.ref t.p) ∧ TbAt K C ∧ F t.p = some (.ins C dx (tfl (.str t.c.things) vc)) ∧ Rep.rep K G t.c.rows vc, fun e ⟨C, dx, vc, h1, h2, h3, h4, h5⟩ => ⟨C, dx, vc, h1, h2, h3, h4, Rep.mono e h5⟩,
  fun {K G F F' L o t} k ⟨C, dx, vc, h1, h2, h3, h4, h5⟩ => ⟨C, dx, vc, h1, h2, h3, by rw [k t.p (by rw [h1]; exact List.mem_singleton.mpr rfl)]; exact h4, h5⟩, fun ⟨C, dx, vc, h1, h2, h3, h4, h5⟩ q hq => by
  rw [in_one h1 hq, h4]
  exact fun z => by cases z⟩
section
variable {Γ Γ' ρ : Type} [EnvR Γ] [EnvR Γ'] {X : Cx} {R : RR ρ} {value : Expr} {pos p1 p2 : Pos} {C : Addr} {x : Str}
def st2 (f : TI1 × Γ → Option (Tup Str)) : TI1 × Γ → Option (Fl (TI2 × Γ) Unit ρ) := fun γ => (f γ).map fun v => .nx ((⟨γ.1.p, ⟨γ.1.things, v⟩⟩ : TI2), γ.2)
end
end Vx
/-! isinstance(a whole number, int), (.., bool); the stores of Table -/
namespace Vx
open Rep (rep)
open EnvR (er)
open PySem PySem.Spec PyProof.Rows L2
end Vx
/-! x, y = a list to be changed, a value: stored each by itself -/
namespace Vx
open Rep (rep)
open EnvR (er)
open PySem PySem.Spec PyProof.Rows L2
section
variable {Γ Γ1 Γ2 S ρ : Type} [EnvR Γ] [EnvR Γ1] [EnvR Γ2] [Md S] {α β : Type} [Rep α] [Rep β] {X : Cx} {R : RR ρ} {a b : Expr} {pos : Pos} {i j : Nat}
theorem vs_parO (pa : PutO i Γ α Γ1) (pb : Put j Γ1 β Γ2) {x y : Str} {px py pt : Pos} {kt k2 pt2} {f : Γ → Option (List α)} {g : Γ → Option β} {fr : Γ → Option (Fl Γ2 S ρ)} (efr : sunpO (S := S) pa pb f g = fr) (hc : X.calm = true) (hN : X.N.Nodup) (ha : VF X a f) (hb : VE X b g) (hij : i ≠ j := by decide) (hi : X.N[i]? = some x := by rfl) (hj : X.N[j]? = some y := by rfl)
    (hx : X.env.scope.names.lookup x = some .local := by rfl) (hy : X.env.scope.names.lookup y = some .local := by rfl) (hw : swappedStores [.Tuple [.Name x px, .Name y py] kt pt] (.Tuple [a, b] k2 pt2) X.env = pure (some [x, y]) := by rfl)
    (hs : swapsWithSole [.Tuple [.Name x px, .Name y py] kt pt] (.Tuple [a, b] k2 pt2) pos.line X.env = pure false := by rfl) (ho : Md.okI S i = true := by rfl) (ho' : Md.okI S j = true := by rfl)
    (h1 : starEach [a, b] X.env = (false, eval a X.env) :: starEach [b] X.env := by rfl) (h2 : starEach [b] X.env = (false, eval b X.env) :: starEach [] X.env := by rfl) :
    VS X S R (.Assign [.Tuple [.Name x px, .Name y py] kt pt] (.Tuple [a, b] k2 pt2) pos) fr := by
  subst efr
  exact PS.le (ps_par hc hN hi hj hij hx hy (pa_cons ha (pa_cons hb pa_nil h2) h1) hw hs) fun D σ H ⟨F, G, L, γ, p, r, wd, nd, he, hat, ea, k⟩ => by
    unfold sunpO at ea
    cases e1 : f γ with
    | none => rw [e1] at ea; cases ea
    | some xs =>
      rw [e1] at ea
      simp only [Option.bind_some] at ea
      cases e2 : g γ with
      | none => rw [e2] at ea; cases ea
      | some z =>
        rw [e2] at ea
        cases ea
        refine ⟨F, G, L, γ, xs, wd, he, e1, fun v G2 H2 x2 w2 ⟨q, vs, ev, hF, hG, hH, r2⟩ => ?_⟩
        subst ev
        have hq : q ∉ L := fun z => EnvR.there he q z hF
        have er2 : er X.K G2 (upd F q (.lst vs)) L σ γ := EnvR.keep (fun b hb => upd_ne (fun z => hq (by rw [← z]; exact hb))) (EnvR.mono x2 he)
        refine ⟨upd F q (.lst vs), G2, L, γ, z, w2.take hF hG hH, er2, e2, fun v' G3 H3 x3 w3 r3 => ?_⟩
        have er3 : er X.K G3 (upd F q (.lst vs)) L σ γ := EnvR.mono x3 er2
        obtain ⟨L1, l1, l2, l3⟩ := pa.ok er3 hq upd_same (Paired.mono (fun _ _ z => Rep.mono x3 z) r2)
        refine ⟨_, _, rfl, k _ L1 (upd F q (.lst vs)) G3 H3 (x2.trans x3) w3 (l2 nd) (off_new hF) (fun b hb => (l1 b hb).imp id fun z => by rw [z]; exact hF) (pb.ok l3 r3) (Md.keep ho' (Md.keep ho hat))⟩
end
end Vx
/-! sets of whole numbers, made of a list, and sorted at once: VxS to VxV once more -/
namespace Vx
open Rep (rep)
open EnvR (er)
open PySem PySem.Spec PyProof.Rows L2
def keyI (e : Int × Value) : Int := match e.2 with
  | .int k _ => k
  | _ => 0
def GoodI (w : World) (e : Int × Value) : Prop := ∃ k tk, e.2 = Value.int k tk ∧ e.1 = hashInt k
/-- at a stands a set whose members are the texts l, each once, in some order -/
def SetI (w : World) (h : Heap) (a : Addr) (l : List Int) : Prop := ∃ o es ep t,
  h.get? a = some o ∧ o.ExactSet ∧ o.data = .set es ep t ∧ (∀ e ∈ es.toList, GoodI w e) ∧ l.Nodup ∧ (es.toList.map keyI).Perm l ∧
  es.size < scanBound ∧ t.fits es.size = true ∧ Ris t.place.toList ∧ (w.params.followText "set-order" = true ∨ t.led = true)
section
variable {P : Program} {w : World} {A : Around} {E : Value → Shared → Prop} {s : Shared} {h h' : Heap} {a : Addr} {l : List Int}
theorem SetI.at (R : SetI w h a l) (k : ∀ o, h.get? a = some o → h'.get? a = some o) : SetI w h' a l := by
  obtain ⟨o, es, ep, t, ho, rest⟩ := R
  exact ⟨o, es, ep, t, k o ho, rest⟩
end
end Vx
/-! [e for x, y in xs for z in zs] -/
namespace Vx
open Rep (rep)
open EnvR (er)
open PySem PySem.Spec PyProof.Rows L2
end Vx
/-! x, y = a drawn value, a list to be changed -/
namespace Vx
open Rep (rep)
open EnvR (er)
open PySem PySem.Spec PyProof.Rows L2
end Vx
/-! text[::-1] -/
namespace Vx
open Rep (rep)
open EnvR (er)
open PySem PySem.Spec PyProof.Rows L2
end Vx
/-! name = [e for x in xs for y in ys]; x, y = a drawn value, an own list, through a tuple -/
namespace Vx
open Rep (rep)
open EnvR (er)
open PySem PySem.Spec PyProof.Rows L2
end Vx
/-! sum of a list of whole numbers, list.index of one, own.remove(text) -/
namespace Vx
open Rep (rep)
open EnvR (er)
open PySem PySem.Spec PyProof.Rows L2
instance : DatS (T2 Int Str) := ⟨fun x y => by
    show PySem.W.alike (.tuple [.int x.a, .str x.b]) (.tuple [.int y.a, .str y.b]) = true
    simp [PySem.W.alike, PySem.W.alikeAll], fun xs => PySem.W.Sortable.tuples fun b => ⟨_, _, rfl⟩⟩
end Vx
/-! x in a list of plain data; for x in a list of one's own (texts) that the body leaves as it is -/
namespace Vx
open Rep (rep)
open EnvR (er)
open PySem PySem.Spec PyProof.Rows L2
/-! for x in own -/
structure PinM (k : Nat) where
instance (k : Nat) : Md (PinM k) := ⟨fun _ _ _ => True, fun p σ => σ[k]? = some (some (.ref p)), fun i => !(Nat.beq i k), fun {p σ i o} h e => by
  have ne : i ≠ k := fun z => by
    subst z
    simp [Nat.beq_refl] at h
  rw [List.getElem?_set_ne ne]
  exact e⟩
instance {k : Nat} {Γ : Type} [EnvR Γ] : Hd (PinM k) Γ := ⟨fun _ => ⟨⟩, fun _ _ => trivial⟩
end Vx
/-! zip of texts, lists and tuples -/
namespace Vx
open Rep (rep)
open EnvR (er)
open PySem PySem.Spec PyProof.Rows L2
inductive Kd where
  | txt (s : Str)
  | lst (a : Addr)
  | tup (a : Addr)
def Kd.v : Kd → V
  | .txt s => .str s
  | .lst a => .ref a
  | .tup a => .ref a
def Kd.sq (K : PySem.W.Frag) (H : Hp) : Kd → List V → Prop
  | .txt s, xs => xs = (signs s).map V.str
  | .lst a, xs => SqL K H a xs
  | .tup a, xs => SqT K H a xs
def Kd.off : Kd → Addr → Prop
  | .txt _, _ => True
  | .lst a, b => a ≠ b
  | .tup a, b => a ≠ b
def Kd.st : Kd → Addr → Nat → Heap → Prop
  | .txt s, it, i, h => ∃ t, h.IsStrIter it (strIterType s) s t i
  | .lst a, it, i, h => h.IsListIter it a i
  | .tup a, it, i, h => h.IsTupleIter it a i
theorem Kd.keep {k : Kd} {it : Addr} {i : Nat} {h h' : Heap} (st : k.st it i h) (q : ∀ o, h.get? it = some o → h'.get? it = some o) : k.st it i h' := by
  cases k with
  | txt s => obtain ⟨t, o, e, r⟩ := st; exact ⟨t, o, q o e, r⟩
  | lst a => exact (show h.IsListIter it a i from st).at q
  | tup a => exact (show h.IsTupleIter it a i from st).at q
theorem Kd.inj {X : Cx} {pins : List (Addr × Obj)} {σ : L2.St} {H : Hp} {s : Shared} (I : Inv X pins σ H s) {k : Kd} {xs ys : List V} (h1 : k.sq X.K H xs) (h2 : k.sq X.K H ys) : xs = ys := by
  cases k with
  | txt s => exact (show xs = _ from h1).trans (show ys = _ from h2).symm
  | lst a => exact I.list_inj h1 h2
  | tup a => exact I.tuple_inj h1 h2
theorem nn (n a b : Nat) (h : a ≠ b) : n + a ≠ n + b := fun e => h (Nat.add_left_cancel e)
theorem nl (n a : Nat) : n ≤ n + a := Nat.le_add_right _ _
/-! the walk over values -/
end Vx
/-! an own dict given back locked; d.items() as a walk -/
namespace Vx
open Rep (rep)
open EnvR (er)
open PySem PySem.Spec PyProof.Rows L2
theorem pss_lockP {X : Cx} {st : List Stmt} {t : TS} (h : PSs X st t) : PSs X st (fun D σ H => ∃ d u, H d = some u ∧ Mut (some u) ∧ ∀ od, t D σ (upd H d (.frz od u))) := ⟨fun pins s σ H D I ⟨d, u, hd, mu, hw⟩ => by
  obtain ⟨od, I1⟩ := I.lock hd mu
  exact h.run pins s σ _ D I1 (hw od)⟩
theorem W.lock {F G H : Hp} {p : Addr} {u : HO} {od : Obj} (w : W F G H) (k2 : F p = some u) : W (del F p) (upd G p (.frz od u)) (upd H p (.frz od u)) := by
  refine ⟨fun b u hb => ?_, fun b u hb => ?_, fun b u hb => ?_⟩
  · by_cases c : b = p
    · subst c
      rw [upd_same] at hb ⊢
      exact hb
    · rw [upd_ne c] at hb ⊢
      exact w.g b u hb
  · by_cases c : b = p
    · rw [c, del_same] at hb
      cases hb
    · rw [del_ne c] at hb
      rw [upd_ne c]
      exact w.f b u hb
  · by_cases c : b = p
    · rw [c, del_same] at hb
      cases hb
    · rw [del_ne c] at hb
      rw [upd_ne c]
      exact w.d b u hb
section
variable {Γ Γ' Γ'' S ρ β : Type} [EnvR Γ] [EnvR Γ'] [EnvR Γ''] [Md S] [Rep β] {X : Cx} {R : RR ρ} {sts : List Stmt} {i : Nat}
def sfrzL (z : FrzD i Γ β Γ') (g : Γ' → Option (Fl Γ'' S ρ)) : Γ → Option (Fl Γ'' S ρ) := fun γ => g (z.fr γ)
theorem vss_frzL (z : FrzD i Γ β Γ') {g : Γ' → Option (Fl Γ'' S ρ)} {fr : Γ → Option (Fl Γ'' S ρ)} (efr : sfrzL z g = fr) (h : VSs X S R sts g) : VSs X S R sts fr := by
  subst efr
  exact PSs.le (pss_lockP h) fun D σ H ⟨F, G, L, γ, p, r, wd, nd, he, ha, ea, q⟩ => by
    obtain ⟨a, vs, L', k1, k2, k3, k4⟩ := z.ok he
    have hG : G a = none := wd.d a _ k2
    exact ⟨a, .dK vs, wd.f _ _ k2, trivial, fun od => ⟨del F a, upd G a (.frz od (.dK vs)), L', z.fr γ, p, r, wd.lock k2, nd.sublist k3, k4 od hG, ha, ea, q.trans (Ex.upd hG) (fun b o hb e => by rw [del_ne (fun z => hb (by rw [z]; exact k1))]; exact e) (fun b hb => .inl (k3.subset hb))⟩⟩
end
end Vx
/-! dicts with pairs as keys: {p: v for p in pairs}, p in d -/
namespace Vx
open Rep (rep)
open EnvR (er)
open PySem PySem.Spec PyProof.Rows L2
/-! keys that are pairs -/
class KeyL (κ : Type) [Rep κ] where
  key : κ → List Key
  of : ∀ {K : PySem.W.Frag} {G : Hp} {k : κ} {v : V}, rep K G k v → ∃ b, v = .ref b ∧ G b = some (.tup ((key k).map kV))
instance {α β : Type} [Rep α] [Rep β] [KeyOf α] [KeyOf β] : KeyL (T2 α β) := ⟨fun t => [KeyOf.key t.a, KeyOf.key t.b], fun ⟨p, va, vb, h1, h2, h3, h4⟩ => ⟨p, h1, by rw [h2, KeyOf.of h3, KeyOf.of h4]; rfl⟩⟩
abbrev RKt {β : Type} [Rep β] (K : PySem.W.Frag) (G : Hp) : List Key × β → List Key × V → Prop := fun q r => q.1 = r.1 ∧ rep K G q.2 r.2
section
variable {β : Type} [Rep β] {K : PySem.W.Frag} {G : Hp}
theorem rkt_mono {G' : Hp} (e : Ex G G') {d : List (List Key × β)} {kvs : List (List Key × V)} (h : PySem.Paired (RKt K G) d kvs) : PySem.Paired (RKt K G') d kvs := Paired.mono (fun _ _ ⟨a, b⟩ => ⟨a, Rep.mono e b⟩) h
end
structure DT (β : Type) where
  l : List (List Key × β)
instance {β : Type} [Rep β] : Rep (DT β) := ⟨fun K G x v => ∃ p kvs, v = .ref p ∧ G p = some (.dT kvs) ∧ PySem.Paired (RKt K G) x.l kvs, fun e ⟨p, kvs, h1, h2, h3⟩ => ⟨p, kvs, h1, e _ _ h2, rkt_mono e h3⟩⟩
section
variable {Γ : Type} [EnvR Γ] {β κ : Type} [Rep β] [Rep κ] [KeyL κ] {X : Cx} {e : Expr} {K : PySem.W.Frag}
/-- x in d -/
def rInT (neg : Bool) : L2.R2 := fun x y H Q => ∃ a o, y = .ref a ∧ DGet H a x o ∧ Q (.bl (if neg then !o.isSome else o.isSome)) H
theorem op_inT (hu : X.A.units + 1 < cLine) : OpR X (compareOp .In) (rInT false) := by
  intro pins s σ H x y v u Q I rx ry h
  obtain ⟨a, o, ey, g, q⟩ := h
  subst ey
  cases (show u = Value.ref a from ry)
  exact d_in hu I g rx fun s' I' => ⟨.bl _, H, I', rfl, q⟩
end
end Vx
/-! name = {..}, a plain local: stored from within -/
namespace Vx
open Rep (rep)
open EnvR (er)
open PySem PySem.Spec PyProof.Rows L2
end Vx
/-! len(set(a list of texts, of whole numbers)) -/
namespace Vx
open Rep (rep)
open EnvR (er)
open PySem PySem.Spec PyProof.Rows L2
end Vx
/-! i ^ j -/
namespace Vx
open Rep (rep)
open EnvR (er)
open PySem PySem.Spec PyProof.Rows L2
end Vx
/-! values of any kinds side by side: plain data as a kind of its own; == of unlike kinds -/
namespace Vx
open Rep (rep)
open EnvR (er)
open PySem PySem.Spec PyProof.Rows L2
theorem sqL_mono {K : PySem.W.Frag} {G H : Hp} {a : Addr} {xs : List V} (e : Ex G H) (h : SqL K G a xs) : SqL K H a xs := by
  rcases h with (h | ⟨o, h⟩) | h
  · exact .inl (.inl (e _ _ h))
  · exact .inl (.inr ⟨o, e _ _ h⟩)
  · exact .inr h
theorem sqT_mono {K : PySem.W.Frag} {G H : Hp} {a : Addr} {xs : List V} (e : Ex G H) (h : SqT K G a xs) : SqT K H a xs := by
  rcases h with (h | ⟨o, h⟩) | h
  · exact .inl (.inl (e _ _ h))
  · exact .inl (.inr ⟨o, e _ _ h⟩)
  · exact .inr h
mutual
theorem dp_mono {K : PySem.W.Frag} {G H : Hp} (e : Ex G H) : ∀ {v : V} {d : PyData}, Dp K G v d → Dp K H v d
  | _, _, .non => .non
  | _, _, .bl b => .bl b
  | _, _, .int i => .int i
  | _, _, .str x => .str x
  | _, _, .lst s a => .lst (sqL_mono e s) (dpAll_mono e a)
  | _, _, .tup s a => .tup (sqT_mono e s) (dpAll_mono e a)
theorem dpAll_mono {K : PySem.W.Frag} {G H : Hp} (e : Ex G H) : ∀ {vs : List V} {ds : List PyData}, DpAll K G vs ds → DpAll K H vs ds
  | _, _, .nil => .nil
  | _, _, .cons h t => .cons (dp_mono e h) (dpAll_mono e t)
end
/-- plain data of any kind -/
structure PD where
  d : PyData
  p : d.plain = true
  q : d.depth ≤ 20
instance : Rep PD := ⟨fun K G x v => Dp K G v x.d, fun e h => dp_mono e h⟩
instance : Dat PD := ⟨fun x => x.d, fun h e => dp_mono e h, fun x => x.p, 20, fun x => x.q⟩
end Vx
/-! list(zip(text, text)): each pair is kept in the new list, so zip makes a new one at each turn -/
namespace Vx
open Rep (rep)
open EnvR (er)
open PySem PySem.Spec PyProof.Rows L2
/-! zip of two texts, made at n, with a list L made behind it -/
def cells (n : Addr) : List Addr := [n + 4, n + 2, n + 3, n, n + 1]
def ZL (x1 x2 : Str) (t1 t2 : Tok) (n L : Addr) (i : Nat) (h : Heap) : Prop := IsTupOf2 h (n + 2) (.ref n) (.ref (n + 1)) ∧ h.IsStrIter n (strIterType x1) x1 t1 i ∧ h.IsStrIter (n + 1) (strIterType x2) x2 t2 i ∧
  ((IsZip h (n + 4) (n + 2) (n + 3) .none ∧ ∃ a b, IsTupOf2 h (n + 3) a b) ∨ ∃ T f o, L < T ∧ IsZipHeld h (n + 4) (n + 2) (n + 3) T f ∧ h.get? T = some o)
theorem below {n L : Nat} (h : n + 4 < L) (c : Nat) (hc : c ∈ [n + 4, n + 2, n + 3, n, n + 1]) : c < L := by
  simp only [List.mem_cons, List.not_mem_nil, or_false] at hc
  omega
theorem ZL.keep {x1 x2 : Str} {t1 t2 : Tok} {n L : Addr} {i : Nat} {h h' : Heap} (st : ZL x1 x2 t1 t2 n L i h) (nL : n + 4 < L) (k : ∀ b o, b ≠ L → h.get? b = some o → h'.get? b = some o) : ZL x1 x2 t1 t2 n L i h' := by
  obtain ⟨a, ⟨o1, e1, r1⟩, ⟨o2, e2, r2⟩, c⟩ := st
  have lo := fun c hc => Nat.ne_of_lt (below nL c hc)
  refine ⟨k _ _ (lo _ (by simp)) a, ⟨o1, k _ _ (lo _ (by simp)) e1, r1⟩, ⟨o2, k _ _ (lo _ (by simp)) e2, r2⟩, ?_⟩
  rcases c with ⟨z, u, v, w⟩ | ⟨T, f, o, lt, z, w⟩
  · exact Or.inl ⟨k _ _ (lo _ (by simp)) z, u, v, k _ _ (lo _ (by simp)) w⟩
  · exact Or.inr ⟨T, f, o, lt, k _ _ (lo _ (by simp)) z, k _ _ (Nat.ne_of_gt lt) w⟩
/-- from H on: the list at D, and a new pair for each item -/
inductive ZG (H : Hp) (D : Addr) : List (V × V) → List V → Hp → Prop
  | nil : ZG H D [] [] (upd H D (.lst []))
  | snoc {ps : List (V × V)} {us : List V} {H' : Hp} (x y : V) (T : Addr) : ZG H D ps us H' → H' T = none → ZG H D (ps ++ [(x, y)]) (us ++ [.ref T]) (upd (upd H' T (.tup [x, y])) D (.lst (us ++ [.ref T])))
theorem ZG.at {H : Hp} {D : Addr} {ps : List (V × V)} {us : List V} {H' : Hp} (g : ZG H D ps us H') : H' D = some (.lst us) := by
  cases g with
  | nil => exact upd_same
  | snoc => exact upd_same
theorem ZG.len {H : Hp} {D : Addr} {ps : List (V × V)} {us : List V} {H' : Hp} (g : ZG H D ps us H') : us.length = ps.length := by
  induction g with
  | nil => rfl
  | snoc x y T _ _ ih => simp [ih]
end Vx
/-! tables side by side: == and != of two, == beside a pair, a table as a test; a part of an `and` that is never reached -/
namespace Vx
open Rep (rep)
open EnvR (er)
open PySem PySem.Spec PyProof.Rows L2
end Vx
/-! len of a table -/
namespace Vx
open Rep (rep)
open EnvR (er)
open PySem PySem.Spec PyProof.Rows L2
end Vx
/-! a def that draws is handed a list of one's own, to be looked at -/
namespace Vx
open Rep (rep)
open EnvR (er)
open PySem PySem.Spec PyProof.Rows L2
end Vx
/-! name = [.. with draws ..], to be changed later, the name a plain local -/
namespace Vx
open Rep (rep)
open EnvR (er)
open PySem PySem.Spec PyProof.Rows L2
end Vx
/-! Table(rows = .., things = ..) -/
namespace Vx
open Rep (rep)
open EnvR (er)
open PySem PySem.Spec PyProof.Rows L2
end Vx
/-! repr of any plain data but numbers and texts; `is None` and `in` for data of unlike kinds; int of a truth value -/
namespace Vx
open Rep (rep)
open EnvR (er)
open PySem PySem.Spec PyProof.Rows L2
end Vx
/-! lists of one's own in a list of one's own: made in a comprehension, then each handed on to be changed -/
namespace Vx
open Rep (rep)
open EnvR (er)
open PySem PySem.Spec PyProof.Rows L2
structure OLL where
  l : List (List Int)
def atI' (F : Hp) (s : List Int) (q : Addr) : Prop := F q = some (.lst (s.map V.int))
theorem at_keep {F F' : Hp} : ∀ {ss : List (List Int)} {qs : List Addr}, (∀ q ∈ qs, F' q = F q) → PySem.Paired (atI' F) ss qs → PySem.Paired (atI' F') ss qs
  | _, _, _, .nil => .nil
  | _, _, k, .cons r t => .cons ((k _ List.mem_cons_self).trans r) (at_keep (fun q hq => k q (List.mem_cons_of_mem _ hq)) t)
theorem at_some {F : Hp} : ∀ {ss : List (List Int)} {qs : List Addr}, PySem.Paired (atI' F) ss qs → ∀ q ∈ qs, F q ≠ none
  | _, _, .nil, _, h => by cases h
  | _, _, .cons r t, q, h => by
    rcases List.mem_cons.mp h with rfl | h
    · rw [show F q = _ from r]
      exact fun z => by cases z
    · exact at_some t q h
theorem at_app {F : Hp} : ∀ {ss tt : List (List Int)} {qs rs : List Addr}, PySem.Paired (atI' F) ss qs → PySem.Paired (atI' F) tt rs → PySem.Paired (atI' F) (ss ++ tt) (qs ++ rs)
  | _, _, _, _, .nil, h => h
  | _, _, _, _, .cons r t, h => .cons r (at_app t h)
theorem at_len {F : Hp} : ∀ {ss : List (List Int)} {qs : List Addr}, PySem.Paired (atI' F) ss qs → ss.length = qs.length
  | _, _, .nil => rfl
  | _, _, .cons _ t => congrArg (· + 1) (at_len t)
theorem at_get {F : Hp} : ∀ {ss : List (List Int)} {qs : List Addr}, PySem.Paired (atI' F) ss qs → ∀ {j : Nat} {q : Addr}, qs[j]? = some q → ∃ s, ss[j]? = some s ∧ atI' F s q
  | _, _, .nil, j, q, h => by cases j <;> cases h
  | _, _, .cons r t, 0, q, h => by cases h; exact ⟨_, rfl, r⟩
  | _, _, .cons r t, j + 1, q, h => at_get t h
theorem at_put {F F' : Hp} : ∀ {ss : List (List Int)} {qs : List Addr}, qs.Nodup → PySem.Paired (atI' F) ss qs → ∀ {j : Nat} {q : Addr} {s : List Int}, qs[j]? = some q → (∀ b ∈ qs, b ≠ q → F' b = F b) → atI' F' s q → PySem.Paired (atI' F') (ss.set j s) qs
  | _, _, _, .nil, j, q, s, h, _, _ => by cases j <;> cases h
  | _, _, nd, .cons r t, 0, q, s, h, k, a => by
    cases h
    refine .cons a (at_keep (fun b hb => k b (List.mem_cons_of_mem _ hb) fun z => ?_) t)
    subst z
    exact (List.nodup_cons.mp nd).1 hb
  | _, _ :: qs, nd, .cons r t, j + 1, q, s, h, k, a => by
    have hq : q ∈ qs := List.mem_of_getElem? h
    refine .cons ((k _ List.mem_cons_self fun z => ?_).trans r) (at_put (List.nodup_cons.mp nd).2 t h (fun b hb => k b (List.mem_cons_of_mem _ hb)) a)
    subst z
    exact (List.nodup_cons.mp nd).1 hq
instance : Slot OLL := ⟨fun _ _ F L o t => ∃ p qs, L = p :: qs ∧ o = some (.ref p) ∧ F p = some (.lst (qs.map V.ref)) ∧ PySem.Paired (atI' F) t.l qs ∧ (p :: qs).Nodup,
  fun _ h => h,
  fun k ⟨p, qs, h1, h2, h3, h4, h5⟩ => ⟨p, qs, h1, h2, (k p (by rw [h1]; exact List.mem_cons_self)).trans h3, at_keep (fun q hq => k q (by rw [h1]; exact List.mem_cons_of_mem _ hq)) h4, h5⟩,
  fun ⟨p, qs, h1, h2, h3, h4, h5⟩ b hb => by
    rw [h1] at hb
    rcases List.mem_cons.mp hb with rfl | hb
    · rw [h3]
      exact fun z => by cases z
    · exact at_some h4 b hb⟩
section
variable {Γ Γe τ : Type} [EnvR Γ] [EnvR Γe] [Rep τ] {i : Nat}
/-- the turns of a comprehension whose elements are lists just made -/
theorem tlcLL {K : PySem.W.Frag} {p : Put i Γ τ Γe} {g : Γ → Option (List τ)} {e : Γe → Option (List Int)} {σ : L2.St} {H : Hp} {Q : VK}
    (h : ∃ F G L γ xs zs, W F G H ∧ er K G F L σ γ ∧ g γ = some xs ∧ xs.length ≤ 100000 ∧ lcGo (fun _ => some true) (fun x => e (p.put γ x)) xs = some zs ∧
      ∀ D qs F2 G2 H2, Ex G G2 → W F2 G2 H2 → F2 D = some (.lst (qs.map V.ref)) → PySem.Paired (atI' F2) zs qs → (D :: qs).Nodup → (∀ b ∈ D :: qs, F b = none) → (∀ b, b ∉ D :: qs → F2 b = F b) → Q (.ref D) H2) :
    tLc (tiv K g) (gName i) tYes (tev K (RF K) e) [i] σ H Q := by
  obtain ⟨F, G, L, γ, xs, zs, w, he, e0, hlen, ea, q⟩ := h
  refine ⟨F, G, L, γ, xs, w, he, e0, fun J G1 H1 x1 w1 wl D hD => ?_⟩
  have fd := w1.fresh hD
  refine ⟨fun j m H' => m = xs.length - j ∧ j ≤ xs.length ∧ ∃ F2 G2 qs ys rest, Ex G1 G2 ∧ W F2 G2 H' ∧ F2 D = some (.lst (qs.map V.ref)) ∧ PySem.Paired (atI' F2) ys qs ∧ (D :: qs).Nodup ∧ (∀ b ∈ D :: qs, F b = none) ∧ (∀ b, b ∉ D :: qs → F2 b = F b) ∧ qs.length ≤ j ∧
      lcGo (fun _ => some true) (fun x => e (p.put γ x)) (xs.drop j) = some rest ∧ zs = ys ++ rest, ⟨xs.length, by simp, Nat.zero_le _, upd F D (.lst []), G1, [], [], zs, Ex.refl _, w1.own hD, upd_same, .nil, by simp, fun b hb => by rw [List.mem_singleton.mp hb]; exact fd.2, fun b hb => upd_ne fun z => hb (by rw [z]; exact List.mem_cons_self), Nat.zero_le _, ea, rfl⟩, ?_⟩
  rintro j m H' ⟨rfl, hj, F2, G2, qs, ys, rest, x2, w2, hFD, pr, nd, fn, of2, hq, go, rfl⟩
  have nL : ∀ b ∈ L, F2 b = F b := fun b hb => of2 b fun z => EnvR.there he b hb (fn b z)
  by_cases hlt : j < xs.length
  · obtain ⟨x, hx⟩ : ∃ x, xs[j]? = some x := ⟨xs[j], List.getElem?_eq_getElem hlt⟩
    obtain ⟨hgo, hyl⟩ := (wl F2 G2 H' x2 w2 j).1 x hx
    have hdrop : xs.drop j = x :: xs.drop (j + 1) := by
      rw [List.drop_eq_getElem_cons hlt]
      have : xs[j] = x := Option.some.inj ((List.getElem?_eq_getElem hlt).symm.trans hx)
      rw [this]
    rw [hdrop] at go
    unfold lcGo at go
    simp only [Option.bind_some, if_true] at go
    cases ee : e (p.put γ x) with
    | none =>
      rw [ee] at go
      cases go
    | some s =>
    rw [ee] at go
    cases eg : lcGo (fun _ => some true) (fun x => e (p.put γ x)) (xs.drop (j + 1)) with
    | none =>
      rw [eg] at go
      cases go
    | some rest' =>
    rw [eg] at go
    have go' : rest = s :: rest' := (Option.some.inj go).symm
    refine .inr ⟨hgo, fun H3 => ∃ F2 G2 qs ys rest', Ex G1 G2 ∧ W F2 G2 H3 ∧ F2 D = some (.lst (qs.map V.ref)) ∧ PySem.Paired (atI' F2) ys qs ∧ (D :: qs).Nodup ∧ (∀ b ∈ D :: qs, F b = none) ∧ (∀ b, b ∉ D :: qs → F2 b = F b) ∧ qs.length ≤ j + 1 ∧
      lcGo (fun _ => some true) (fun x => e (p.put γ x)) (xs.drop (j + 1)) = some rest' ∧ _ = ys ++ rest', fun H3 z => ⟨xs.length - (j + 1), by omega, rfl, hlt, z⟩, fun xv H3 hy => ?_⟩
    obtain ⟨G3, x3, w3, rx⟩ := hyl xv H3 hy
    have er3 : er K G3 F2 L (σ.set i (some xv)) (p.put γ x) := p.ok (EnvR.keep nL (EnvR.mono ((x1.trans x2).trans x3) he)) rx
    show wipe ((σ.set i none).set i (some xv)) [i] = wipe σ [i] ∧ _
    refine ⟨by show ((σ.set i none).set i (some xv)).set i none = σ.set i none; rw [set_set', set_set'], ?_⟩
    rw [show (wipe σ [i]).set i (some xv) = σ.set i (some xv) from set_set']
    unfold tYes
    simp only [↓reduceIte]
    refine ⟨F2, G3, L, _, s, w3, er3, ee, fun yv G5 H5 x5 w5 ⟨b, vs, ev, hF, hG, hH, r2⟩ => ?_⟩
    rw [ints_of r2] at hH
    subst ev
    have nb : b ∉ D :: qs := fun z => by
      rcases List.mem_cons.mp z with z | z
      · rw [z, hFD] at hF
        cases hF
      · exact at_some pr b z hF
    have hbD : D ≠ b := fun z => nb (by rw [← z]; exact List.mem_cons_self)
    have w6 : W (upd F2 b (.lst (s.map V.int))) G5 H5 := w5.take hF hG hH
    have hD6 : upd F2 b (.lst (s.map V.int)) D = some (.lst (qs.map V.ref)) := by rw [upd_ne hbD]; exact hFD
    have ndq := List.nodup_cons.mp nd
    refine ⟨qs.map V.ref, w5.f _ _ hFD, Nat.lt_of_lt_of_le (by rw [List.length_map]; exact Nat.lt_of_le_of_lt hq (Nat.lt_of_lt_of_le hlt hlen)) line_ge,
      upd (upd F2 b (.lst (s.map V.int))) D (.lst (qs.map V.ref ++ [V.ref b])), G5, qs ++ [b], ys ++ [s], rest', ((x2.trans x3).trans x5), w6.set hD6, ?_, ?_, ?_, ?_, ?_, ?_, eg, ?_⟩
    · rw [upd_same, List.map_append]
      rfl
    · have keep : ∀ c ∈ qs, upd (upd F2 b (.lst (s.map V.int))) D (.lst (qs.map V.ref ++ [V.ref b])) c = F2 c := fun c hc => by
        rw [upd_ne (fun z => ndq.1 (by rw [← z]; exact hc)), upd_ne (fun z => nb (by rw [← z]; exact List.mem_cons_of_mem _ hc))]
      refine at_app (at_keep keep pr) (.cons ?_ .nil)
      show upd (upd F2 b _) D _ b = _
      rw [upd_ne (fun z => hbD z.symm), upd_same]
    · rw [← List.cons_append, List.nodup_append]
      exact ⟨nd, by simp, fun c hc d hd => by rw [List.mem_singleton.mp hd]; exact fun z => nb (by rw [← z]; exact hc)⟩
    · intro c hc
      rw [← List.cons_append] at hc
      rcases List.mem_append.mp hc with z | z
      · exact fn c z
      · rw [List.mem_singleton.mp z, ← of2 b nb]
        exact hF
    · intro c hc
      rw [← List.cons_append, List.mem_append, not_or] at hc
      rw [upd_ne (fun z => hc.1 (by rw [z]; exact List.mem_cons_self)), upd_ne (fun z => hc.2 (by rw [z]; exact List.mem_singleton.mpr rfl))]
      exact of2 c hc.1
    · rw [List.length_append, List.length_singleton]
      omega
    · rw [go', List.append_assoc]
      rfl
  · have hj' : j = xs.length := by omega
    subst hj'
    rw [List.drop_length] at go
    unfold lcGo at go
    cases go
    rw [List.append_nil] at q
    exact .inl ⟨(wl F2 G2 H' x2 w2 xs.length).2 (Nat.le_refl _), q _ _ F2 G2 H' (x1.trans x2) w2 hFD pr nd fn of2⟩
end
/-- the slot behind the first becomes such a list -/
theorem put_ll {τ1 τ2 Γ : Type} [Slot τ1] [Slot τ2] [EnvR Γ] {K : PySem.W.Frag} {G F : Hp} {L : List Addr} {σ : L2.St} {γ : τ1 × τ2 × Γ} {D : Addr} {qs : List Addr} {zs : List (List Int)} (h : er K G F L σ γ) (n : ∀ b ∈ D :: qs, b ∉ L) (nd : (D :: qs).Nodup) (hF : F D = some (.lst (qs.map V.ref))) (pr : PySem.Paired (atI' F) zs qs) :
    ∃ L', (∀ b ∈ L', b ∈ L ∨ b ∈ D :: qs) ∧ (L.Nodup → L'.Nodup) ∧ er K G F L' (σ.set 1 (some (.ref D))) (γ.1, (⟨zs⟩ : OLL), γ.2.2) := by
  obtain ⟨L1, M, o, σ', h1, h2, h3, ⟨L2, L3, o2, σ2, k1, k2, k3, k4, k5⟩, h5⟩ := h
  subst h2 k2 h1 k1
  refine ⟨L1 ++ ((D :: qs) ++ L3), fun b hb => ?_, fun hn => ?_, L1, _, o, _, rfl, rfl, h3, ⟨D :: qs, L3, some (.ref D), σ2, rfl, rfl, ⟨D, qs, rfl, rfl, hF, pr, nd⟩, k4, fun b hb z => n b hb (List.mem_append_right _ (List.mem_append_right _ z))⟩, fun b hb z => ?_⟩
  · rcases List.mem_append.mp hb with z | z
    · exact .inl (List.mem_append_left _ z)
    · rcases List.mem_append.mp z with z | z
      · exact .inr z
      · exact .inl (List.mem_append_right _ (List.mem_append_right _ z))
  · rw [List.nodup_append] at hn ⊢
    refine ⟨hn.1, ?_, fun a ha b hb => ?_⟩
    · rw [List.nodup_append]
      exact ⟨nd, (List.nodup_append.mp hn.2.1).2.1, fun a ha b hb z => n a ha (List.mem_append_right _ (List.mem_append_right _ (by rw [z]; exact hb)))⟩
    · rcases List.mem_append.mp hb with z | z
      · exact fun y => n b z (List.mem_append_left _ (by rw [← y]; exact ha))
      · exact hn.2.2 a ha b (List.mem_append_right _ z)
  · rcases List.mem_append.mp z with z | z
    · exact n b z (List.mem_append_left _ hb)
    · exact h5 b hb (List.mem_append_right _ z)
section
variable {τ1 τ2 Γ Γe S ρ τ : Type} [Slot τ1] [Slot τ2] [EnvR Γ] [EnvR Γe] [Md S] [Rep τ] {X : Cx} {R : RR ρ} {elt iter : Expr} {scope : Scope} {pos tpos spos py : Pos} {x y : Str} {j : Nat}
def sbrews {S ρ : Type} (p : Put j (τ1 × τ2 × Γ) τ Γe) (g : τ1 × τ2 × Γ → Option (List τ)) (e : Γe → Option (List Int)) : τ1 × τ2 × Γ → Option (Fl (τ1 × OLL × Γ) S ρ) := fun γ => (g γ).bind fun xs => if xs.length ≤ 100000 then (lcGo (fun _ => some true) (fun x => e (p.put γ x)) xs).map fun zs => .nx (γ.1, ⟨zs⟩, γ.2.2) else none
theorem vs_brews (p : Put j (τ1 × τ2 × Γ) τ Γe) {g : τ1 × τ2 × Γ → Option (List τ)} {e : Γe → Option (List Int)} {fr : τ1 × τ2 × Γ → Option (Fl (τ1 × OLL × Γ) S ρ)} (efr : sbrews (S := S) p g e = fr) (hc : X.calm = true) (hN : X.N.Nodup) (hi : VI X (.Name x tpos) iter g) (ok : blkC X.N X.env.scope scope [(x, j)] = true)
    (hg : ∀ (s : Shared) (H : Hp) (C : Addr) (cl : List (Str × Addr)) (fp : List Addr), PG (X.blk s H scope (compEnvC scope cl C X.env) fp) (.Name x tpos) (gName j))
    (he : ∀ (s : Shared) (H : Hp) (C : Addr) (cl : List (Str × Addr)) (fp : List Addr), VF (X.blk s H scope (compEnvC scope cl C X.env) fp) elt e)
    (hsw : swapsWith (.ListComp elt [⟨.Name x tpos, iter, [], 0⟩] scope pos) (some (.Name y py)) spos.line X.env = pure true := by rfl) (hn : X.N[1]? = some y := by rfl) (hyl : X.env.scope.names.lookup y = some .local := by rfl) (ho : Md.okI S 1 = true := by rfl) (hs : ∀ x, foldedSetIterable iter X.env x = pure x := by intro _; rfl) :
    VS X S R (.Assign [.Name y py] (.ListComp elt [⟨.Name x tpos, iter, [], 0⟩] scope pos) spos) fr := by
  subst efr
  exact PS.le (ps_setLc (own := [(x, j)]) (g := gName j) hc hN hn hyl hsw hi (blkOk_by ok) hg (fun _ _ _ _ _ => pts_nil) he hs) fun D σ H ⟨F, G, L, γ, q, r, wd, nd, hh, ha, ea, k⟩ => by
    unfold sbrews at ea
    cases e1 : g γ with
    | none => rw [e1] at ea; cases ea
    | some xs =>
    rw [e1] at ea
    simp only [Option.bind_some] at ea
    split at ea
    case isFalse => cases ea
    rename_i hlen
    cases e2 : lcGo (fun _ => some true) (fun x => e (p.put γ x)) xs with
    | none => rw [e2] at ea; cases ea
    | some zs =>
    rw [e2] at ea
    cases ea
    refine tlcLL (σ := σ) (Q := fun v H1 => D.nx (σ.set 1 (some v)) H1) ⟨F, G, L, γ, xs, zs, wd, hh, e1, hlen, e2, fun b qs F2 G2 H2 x2 w2 hF pr nq fn of => ?_⟩
    have nL : ∀ c ∈ b :: qs, c ∉ L := fun c hc z => EnvR.there hh c z (fn c hc)
    have keep : ∀ c ∈ L, F2 c = F c := fun c hc => of c fun z => nL c z hc
    obtain ⟨L', l1, l2, l3⟩ := put_ll (EnvR.keep keep (EnvR.mono x2 hh)) nL nq hF pr
    exact k _ L' F2 G2 H2 x2 w2 (l2 nd) (fun d o hd e => by
      rw [of d (fun z => by rw [fn d z] at e; cases e)]
      exact e) (fun d hd => (l1 d hd).imp id fun z => fn d z) l3 (Md.keep ho ha)
end
/-- where a list stands -/
structure RefV where
  a : Addr
instance : Rep RefV := ⟨fun _ _ x v => v = .ref x.a, fun _ h => h⟩
section
variable {τ1 Γ Γe ρ : Type} [Slot τ1] [EnvR Γ] [EnvR Γe] [Rep ρ] {j : Nat}
/-- a def that changes the list of ints that it is given, handed a variable's -/
def tcm (K : PySem.W.Frag) (m : List Int → Unit → Option (ρ × List Int)) (gt : Get j Γe RefV) : TE := fun σ H Q => ∃ F G L γ q s r s', W F G H ∧ er K G F L σ γ ∧ gt.get γ = ⟨q⟩ ∧ F q = some (.lst (s.map V.int)) ∧ m s () = some (r, s') ∧
  ∀ v F2 G2 H2, Ex G G2 → W F2 G2 H2 → F2 q = some (.lst (s'.map V.int)) → (∀ b, b ≠ q → F2 b = F b) → rep K G2 r v → Q v H2
def goM (m : List Int → Unit → Option (ρ × List Int)) : List (List Int) → Option (List (ρ × List Int))
  | [] => some []
  | s :: ss => (m s ()).bind fun r => (goM m ss).map (r :: ·)
def brewsM (m : List Int → Unit → Option (ρ × List Int)) : τ1 × OLL × Γ → Option (List ρ × (τ1 × OLL × Γ)) := fun γ => if γ.2.1.l.length ≤ 100000 then (goM m γ.2.1.l).map fun rs => (rs.map (·.1), (γ.1, ⟨rs.map (·.2)⟩, γ.2.2)) else none
theorem drop_get {α : Type} {xs ys : List α} {j : Nat} {x : α} (h : xs.drop j = ys.drop j) (e : xs[j]? = some x) : ys[j]? = some x := by
  have a : (xs.drop j)[0]? = xs[j]? := by rw [List.getElem?_drop, Nat.add_zero]
  have b : (ys.drop j)[0]? = ys[j]? := by rw [List.getElem?_drop, Nat.add_zero]
  rw [← b, ← h, a, e]
theorem tlcM {K : PySem.W.Frag} {p : Put j (τ1 × OLL × Γ) RefV Γe} {gt : Get j Γe RefV} (hgp : ∀ γ x, gt.get (p.put γ x) = x) {m : List Int → Unit → Option (ρ × List Int)} {σ : L2.St} {H : Hp} {Q : VK} (h : tem K (RF K) (brewsM (τ1 := τ1) (Γ := Γ) m) σ H Q) :
    tLc (iList K (tVar 1)) (gName j) tYes (tcm K m gt) [j] σ H Q := by
  obtain ⟨F, G, L, γ, zs, γ', w, he, ea, q⟩ := h
  have he' := he
  obtain ⟨L1, M, o, σ', h1, h2, h3, ⟨L2, L3, o2, σ2, k1, k2, ⟨P, qs, l1, l2, l3, l4, l5⟩, k4, k5⟩, h5⟩ := he
  unfold brewsM at ea
  split at ea
  case isFalse => cases ea
  rename_i hz
  obtain ⟨rs, eg0, ez⟩ := Option.map_eq_some_iff.mp ea
  have ez1 : zs = rs.map (·.1) := (congrArg Prod.fst ez).symm
  have ez2 : γ' = (γ.1, (⟨rs.map (·.2)⟩ : OLL), γ.2.2) := (congrArg Prod.snd ez).symm
  have nq := List.nodup_cons.mp l5
  have inL : ∀ b ∈ P :: qs, b ∈ L := fun b hb => by
    rw [h1, k1, l1]
    exact List.mem_append_right _ (List.mem_append_left _ hb)
  have lenq : γ.2.1.l.length = qs.length := at_len l4
  have back : ∀ {F2 G2 : Hp} {cur : List (List Int)}, Ex G G2 → (∀ b ∈ L, b ∉ qs → F2 b = F b) → PySem.Paired (atI' F2) cur qs → er K G2 F2 L σ (γ.1, (⟨cur⟩ : OLL), γ.2.2) := fun {F2 G2 cur} x of pr => by
    refine ⟨L1, M, o, σ', h1, h2, Slot.mono x (Slot.keep (fun b hb => of b (by rw [h1]; exact List.mem_append_left _ hb) fun z => h5 b hb (by rw [k1, l1]; exact List.mem_append_left _ (List.mem_cons_of_mem _ z))) h3), ⟨L2, L3, o2, σ2, k1, k2, ⟨P, qs, l1, l2, (of P (inL P List.mem_cons_self) nq.1).trans l3, pr, l5⟩, EnvR.mono x (EnvR.keep (fun b hb => of b (by rw [h1, k1]; exact List.mem_append_right _ (List.mem_append_right _ hb)) fun z => k5 b (by rw [l1]; exact List.mem_cons_of_mem _ z) hb) k4), k5⟩, h5⟩
  refine ⟨.ref P, by rw [h2, k2, l2]; rfl, P, rfl, ⟨_, .inl (.inl (w.f _ _ l3))⟩, fun D hD => ?_⟩
  have fd := w.fresh hD
  have Dn : ∀ b ∈ P :: qs, b ≠ D := fun b hb z => by
    rw [z] at hb
    rcases List.mem_cons.mp hb with y | y
    · rw [y, l3] at fd
      cases fd.2
    · exact at_some l4 D y fd.2
  refine ⟨fun j' m' H' => m' = qs.length - j' ∧ j' ≤ qs.length ∧ ∃ F2 G2 acc dn cur rest, Ex G G2 ∧ W F2 G2 H' ∧ F2 D = some (.lst acc) ∧ (∀ b, b ∉ qs → b ≠ D → F2 b = F b) ∧ PySem.Paired (atI' F2) cur qs ∧ cur.drop j' = γ.2.1.l.drop j' ∧ cur.take j' = dn.map (·.2) ∧ PySem.Paired (rep K G2) (dn.map (·.1)) acc ∧ dn.length = j' ∧
      goM m (γ.2.1.l.drop j') = some rest ∧ rs = dn ++ rest, ⟨qs.length, by simp, Nat.zero_le _, upd F D (.lst []), G, [], [], γ.2.1.l, rs, Ex.refl _, w.own hD, upd_same, fun b _ z => upd_ne z, at_keep (fun b hb => upd_ne (Dn b (List.mem_cons_of_mem _ hb))) l4, rfl, rfl, .nil, rfl, eg0, rfl⟩, ?_⟩
  rintro j' m' H' ⟨rfl, hj, F2, G2, acc, dn, cur, rest, x2, w2, hFD, of2, pr, dr, tk, r2, dl, go, rfl⟩
  have hP : F2 P = some (.lst (qs.map V.ref)) := (of2 P nq.1 (Dn P List.mem_cons_self)).trans l3
  have hS : SqL K H' P (qs.map V.ref) := .inl (.inl (w2.f _ _ hP))
  have lc : cur.length = qs.length := at_len pr
  have dlen : acc.length = dn.length := by rw [← paired_len r2, List.length_map]
  by_cases hlt : j' < qs.length
  · obtain ⟨b, hb⟩ : ∃ b, qs[j']? = some b := ⟨qs[j'], List.getElem?_eq_getElem hlt⟩
    have hbq : b ∈ qs := List.mem_of_getElem? hb
    have hbr : (qs.map V.ref)[j']? = some (.ref b) := by rw [List.getElem?_map, hb]; rfl
    obtain ⟨s, hs, ats⟩ := at_get pr hb
    have hs0 := drop_get dr hs
    have hdrop : γ.2.1.l.drop j' = s :: γ.2.1.l.drop (j' + 1) := by
      have hl : j' < γ.2.1.l.length := by omega
      rw [List.drop_eq_getElem_cons hl]
      have : γ.2.1.l[j'] = s := Option.some.inj ((List.getElem?_eq_getElem hl).symm.trans hs0)
      rw [this]
    rw [hdrop] at go
    unfold goM at go
    cases em : m s () with
    | none =>
      rw [em] at go
      cases go
    | some rr =>
    obtain ⟨r, s'⟩ := rr
    rw [em] at go
    simp only [Option.bind_some] at go
    cases eg : goM m (γ.2.1.l.drop (j' + 1)) with
    | none =>
      rw [eg] at go
      cases go
    | some rest' =>
    rw [eg] at go
    have go' : rest = (r, s') :: rest' := (Option.some.inj go).symm
    refine .inr ⟨⟨_, _, hS, hbr⟩, fun H3 => ∃ F2 G2 acc dn2 cur rest2, Ex G G2 ∧ W F2 G2 H3 ∧ F2 D = some (.lst acc) ∧ (∀ b, b ∉ qs → b ≠ D → F2 b = F b) ∧ PySem.Paired (atI' F2) cur qs ∧ cur.drop (j' + 1) = γ.2.1.l.drop (j' + 1) ∧ cur.take (j' + 1) = dn2.map (·.2) ∧ PySem.Paired (rep K G2) (dn2.map (·.1)) acc ∧ dn2.length = j' + 1 ∧
      goM m (γ.2.1.l.drop (j' + 1)) = some rest2 ∧ dn ++ rest = dn2 ++ rest2, fun H3 z => ⟨qs.length - (j' + 1), by omega, rfl, hlt, z⟩, fun xv H3 hy => ?_⟩
    obtain ⟨rfl, hv⟩ := hy
    obtain rfl : V.ref b = xv := Option.some.inj (hbr.symm.trans (hv _ hS))
    have er3 : er K G2 F2 L (σ.set j (some (.ref b))) (p.put (γ.1, (⟨cur⟩ : OLL), γ.2.2) ⟨b⟩) := p.ok (back x2 (fun c hc hq => of2 c hq fun z => EnvR.there he' c hc (by rw [z]; exact fd.2)) pr) rfl
    show wipe ((σ.set j none).set j (some (.ref b))) [j] = wipe σ [j] ∧ _
    refine ⟨by show ((σ.set j none).set j (some (.ref b))).set j none = σ.set j none; rw [set_set', set_set'], ?_⟩
    rw [show (wipe σ [j]).set j (some (.ref b)) = σ.set j (some (.ref b)) from set_set']
    unfold tYes
    simp only [↓reduceIte]
    refine ⟨F2, G2, L, _, b, s, r, s', w2, er3, hgp _ _, ats, em, fun v F4 G4 H4 x4 w4 h4 of4 r4 => ?_⟩
    have bD : b ≠ D := Dn b (List.mem_cons_of_mem _ hbq)
    have hF4 : F4 D = some (.lst acc) := (of4 D fun z => bD z.symm).trans hFD
    have ql : qs.length ≤ 100000 := by omega
    refine ⟨acc, w4.f _ _ hF4, Nat.lt_of_lt_of_le (show acc.length < 100000 by omega) line_ge, upd F4 D (.lst (acc ++ [v])), G4, acc ++ [v], dn ++ [(r, s')], cur.set j' s', rest', x2.trans x4, w4.set hF4, upd_same, fun c hc hcD => ?_, ?_, ?_, ?_, ?_, ?_, eg, ?_⟩
    · rw [upd_ne hcD, of4 c (fun z => hc (by rw [z]; exact hbq))]
      exact of2 c hc hcD
    · refine at_put nq.2 pr hb (fun c hc hcb => ?_) ?_
      · rw [upd_ne (Dn c (List.mem_cons_of_mem _ hc))]
        exact of4 c hcb
      · show upd F4 D _ b = _
        rw [upd_ne bD]
        exact h4
    · rw [List.drop_set_of_lt (by omega)]
      have := congrArg (List.drop 1) dr
      rwa [List.drop_drop, List.drop_drop] at this
    · rw [List.take_succ, List.take_set_of_le (Nat.le_refl _), tk, List.getElem?_set_self (by omega), List.map_append]
      rfl
    · rw [List.map_append]
      exact paired_app (Paired.mono (fun _ _ z => Rep.mono x4 z) r2) (.cons r4 .nil)
    · rw [List.length_append, List.length_singleton, dl]
    · rw [go', List.append_assoc]
      rfl
  · have hj' : j' = qs.length := by omega
    subst hj'
    rw [List.drop_eq_nil_of_le (by omega)] at go
    unfold goM at go
    cases go
    rw [List.append_nil] at ez1 ez2
    rw [List.take_of_length_le (by omega)] at tk
    refine .inl ⟨⟨_, hS, by rw [List.length_map]; exact Nat.le_refl _⟩, ?_⟩
    have delW : W (del F2 D) G2 H' := w2.less fun a u z => by
      by_cases y : a = D
      · rw [y, del_same] at z
        cases z
      · rw [del_ne y] at z
        exact z
    have prd : PySem.Paired (atI' (del F2 D)) cur qs := at_keep (fun c hc => del_ne (Dn c (List.mem_cons_of_mem _ hc))) pr
    refine q _ (del F2 D) G2 H' x2 delW (fun c hc => ?_) ?_ ⟨D, acc, rfl, del_same, w2.d D _ hFD, w2.f _ _ hFD, by rw [ez1]; exact r2⟩
    · by_cases y : c = D
      · rw [y, del_same]
        exact fd.2.symm
      · rw [del_ne y]
        exact of2 c (fun z => hc (inL c (List.mem_cons_of_mem _ z))) y
    · rw [ez2, ← tk]
      exact back x2 (fun c hc hq => by
        have y : c ≠ D := fun z => EnvR.there he' c hc (by rw [z]; exact fd.2)
        rw [del_ne y]
        exact of2 c hq y) prd
end
section
variable {τ1 Γ Γe ρ : Type} [Slot τ1] [EnvR Γ] [EnvR Γe] [Rep ρ] {j k : Nat} {X : Cx} {elt : Expr} {scope : Scope} {pos tpos pp pb py : Pos} {x y b : Str} {st : Stmt} {psn : List Str}
theorem me_cm {m : List Int → Unit → Option (ρ × List Int)} (D : Df X.prog X.w X.K X.mg X.base x st k psn (spM X.K m)) (hgd : X.A.guards = some []) (hr : Room k X.A) (gt : Get j Γe RefV) (hN : X.N[j]? = some b := by rfl) (hv : Vis X.env.scope b := by first | exact Or.inl rfl | exact Or.inr (Or.inl rfl) | exact Or.inr (Or.inr rfl)) (hd : (b == ("__debug__" : Str)) = false := by decide) (hcd : (b == ("__classdict__" : Str)) = false := by decide) (hg : Gl X x := by rfl)
    (hdb : (x == ("__debug__" : Str)) = false := by decide) (he : starEach [.Name b pb] X.env = (false, eval (.Name b pb) X.env) :: starEach [] X.env := by rfl) (hpl : (backTo pos (starEach [] X.env)).any (·.1) = false := by rfl) : PE X (.Call (.Name x pp) [.Name b pb] [] pos) (tcm X.K m gt) := by
  obtain ⟨f, fd, F, hm, hb, Gn⟩ := D
  exact PE.le (ge_call Gn hgd hr hm F.kp hb (pa_cons (ve_var gt hN hv hd hcd) pa_nil he) hg hdb he hpl) fun σ H Q ⟨F, G, L, γ, q, s, r, s', w, hh, eg, hF, em, kk⟩ => by
    refine ⟨F, G, L, γ, ⟨q⟩, w, hh, congrArg some eg, fun v G2 H2 x2 w2 rv => ?_⟩
    have ev : v = .ref q := rv
    exact ⟨F, G2, q, [], s, (), r, s', by rw [ev], w2, hF, rfl, em, fun v2 F3 G3 H3 x3 w3 hp hoff r3 => kk v2 F3 G3 H3 (x2.trans x3) w3 hp hoff r3⟩
theorem mf_brews (p : Put j (τ1 × OLL × Γ) RefV Γe) (gt : Get j Γe RefV) {m : List Int → Unit → Option (ρ × List Int)} {fr : τ1 × OLL × Γ → Option (List ρ × (τ1 × OLL × Γ))} (efr : brewsM m = fr) (hc : X.calm = true) (hN : X.N.Nodup) (ok : blkC X.N X.env.scope scope [(x, j)] = true)
    (hg : ∀ (s : Shared) (H : Hp) (C : Addr) (cl : List (Str × Addr)) (fp : List Addr), PG (X.blk s H scope (compEnvC scope cl C X.env) fp) (.Name x tpos) (gName j))
    (he : ∀ (s : Shared) (H : Hp) (C : Addr) (cl : List (Str × Addr)) (fp : List Addr), PE (X.blk s H scope (compEnvC scope cl C X.env) fp) elt (tcm X.K m gt)) (hgp : ∀ γ x, gt.get (p.put γ x) = x := by intro _ _; rfl)
    (hn : X.N[1]? = some y := by rfl) (hv : Vis X.env.scope y := by first | exact Or.inl rfl | exact Or.inr (Or.inl rfl) | exact Or.inr (Or.inr rfl)) (hd : (y == ("__debug__" : Str)) = false := by decide) (hcd : (y == ("__classdict__" : Str)) = false := by decide) (hs : ∀ x, foldedSetIterable (.Name y py) X.env x = pure x := by intro _; rfl) :
    MO X (.ListComp elt [⟨.Name x tpos, .Name y py, [], 0⟩] scope pos) (RF X.K) fr := by
  subst efr
  exact PE.le (pe_lc (own := [(x, j)]) (g := gName j) hc hN (pi_list (pe_var hn hv hd hcd)) (blkOk_by ok) hg (fun _ _ _ _ _ => pts_nil) he hs) fun σ H Q h => tlcM hgp h
end
end Vx
/-! min of a list of plain data -/
namespace Vx
open Rep (rep)
open EnvR (er)
open PySem PySem.Spec PyProof.Rows L2
section
variable {α : Type} [Rep α] [Dat α]
def mnf (a y : α) : α := if PySem.W.dataLt (Dat.d y) (Dat.d a) then y else a
def minP (a : List α × Unit) : Option α := match a.1 with
  | [] => none
  | x :: xs => if xs.length ≤ 1000 then some (xs.foldl mnf x) else none
theorem mnf_d : ∀ (xs : List α) (x : α), Dat.d (xs.foldl mnf x) = PySem.W.minD (Dat.d x) (xs.map Dat.d)
  | [], x => rfl
  | y :: ys, x => by
    rw [List.foldl_cons, mnf_d ys (mnf x y)]
    unfold PySem.W.minD
    rw [List.map_cons, List.foldl_cons]
    refine congrArg (fun z => List.foldl _ z _) ?_
    unfold mnf
    split <;> rfl
end
section
variable {X : Cx} {α : Type} [Rep α] [Dat α] [DecidableEq α] [DatE α]
def rMinP (α : Type) [Rep α] [Dat α] (K : PySem.W.Frag) : List V → Hp → VK → Prop := fun vs H Q => ∃ (b : Addr) (x : α) (xs : List α) (ws : List V) (P : α → V → Prop), vs = [.ref b] ∧ SqL K H b ws ∧ PySem.Paired P (x :: xs) ws ∧ (∀ x w, P x w → Dp K H w (Dat.d x)) ∧ ∀ w, P (xs.foldl mnf x) w → Q w H
theorem cr_minP (ali : ∀ x y : α, PySem.W.alike (Dat.d x) (Dat.d y) = true) (nn : ∀ x : α, Dat.d x ≠ PyData.none) (hu : X.A.units + 64 < cLine) (hc : X.calm = true) (hd : Dat.dep α ≤ 60 := by decide) : CallR X (.builtin "min") (rMinP α X.K) := by
  intro pins s σ H vs us Q I r h
  obtain ⟨b, x, xs, ws, P, rfl, hs, hp, hg, k⟩ := h
  obtain ⟨its, rv, hl, _⟩ := I.list hs
  rw [Vals.ref1 r]
  have hR : ∀ x w v, P x w → L2.RelV w v → ∃ as, Reads s.heap v (Dat.d x) as := fun x w v pz rz => Dp.reads I (Dat.d x) w v (hg x w pz) rz
  obtain ⟨as, hra⟩ := reads_all hR hp rv
  have dep := depth_allD (x :: xs)
  refine PySem.W.min_list_data (I.ok.hd hc) hl.isList (x := Dat.d x) (xs := xs.map Dat.d) hra ⟨fun a ha c hc => ?_, fun a ha => ?_⟩ ?_ (fun i v h' tk bs hi hr hk => ?_)
  · obtain ⟨a, _, rfl⟩ := List.mem_map.mp (show a ∈ (x :: xs).map Dat.d from ha)
    obtain ⟨c, _, rfl⟩ := List.mem_map.mp (show c ∈ (x :: xs).map Dat.d from hc)
    exact ali a c
  · obtain ⟨a, _, rfl⟩ := List.mem_map.mp (show a ∈ (x :: xs).map Dat.d from ha)
    exact nn a
  · rw [List.map_cons] at dep
    omega
  · have hi' : its[i]? = some v := by simpa using hi
    obtain ⟨w, hw, rw'⟩ := paired_getR rv hi'
    obtain ⟨y, hy, py⟩ := paired_getR hp hw
    obtain ⟨as2, r2⟩ := hR y w v py rw'
    have r3 := PySem.W.reads_keeps hk r2
    have e := (PyProof.Rows.reads_det (fun _ _ h _ => h) r3 hr).1
    have e2 : y = xs.foldl mnf x := d_inj (by rw [mnf_d, e])
    subst e2
    exact ⟨w, H, I.kept (t' := tk) hk, rw', k w py⟩
theorem o_minP {K : PySem.W.Frag} : OpA (rMinP α K) K (RE K) (minP (α := α)) := fun F G H a y vs Q w r e k => by
  obtain ⟨v, h1, p, us, h2, h3, h4⟩ := rl1 r
  unfold minP at e
  split at e
  · cases e
  · rename_i x xs ex
    split at e
    · cases e
      subst h2
      rw [ex] at h4
      exact ⟨p, x, xs, us, rep K G, h1, .inl (.inl (w.g _ _ h3)), h4, fun x z hx => Dat.ok hx w.g, fun z hz => k _ G H (Ex.refl G) w hz⟩
    · cases e
end
end Vx
/-! k in a dict of one's own -/
namespace Vx
open Rep (rep)
open EnvR (er)
open PySem PySem.Spec PyProof.Rows L2
section
variable {Γ : Type} [EnvR Γ] {β κ : Type} [Rep β] [Rep κ] [KeyOf κ] {X : Cx} {K : PySem.W.Frag} {i : Nat}
/-- a dict of one's own, looked at -/
def RDo (K : PySem.W.Frag) : RR (List (Key × β)) := fun F G H d v => ∃ p kvs, v = .ref p ∧ F p = some (.dK kvs) ∧ PySem.Paired (RK K G) d kvs
theorem vo_ownD (o : OwnD i Γ β) {x : Str} {p1 : Pos} (hN : X.N[i]? = some x := by rfl) (hvs : Vis X.env.scope x := by first | exact Or.inl rfl | exact Or.inr (Or.inl rfl) | exact Or.inr (Or.inr rfl)) (hd : (x == ("__debug__" : Str)) = false := by decide)
    (hcd : (x == ("__classdict__" : Str)) = false := by decide) : VO X (.Name x p1) (RDo X.K) (fun γ => some (o.get γ)) := PE.le (pe_var hN hvs hd hcd) fun σ H Q ⟨F, G, L, γ, y, w, hh, ea, q⟩ => by
  cases ea
  obtain ⟨p, vs, k1, k2, k3, k4, k5⟩ := o.ok hh
  exact ⟨.ref p, k1, q _ G H (Ex.refl G) w ⟨p, vs, rfl, k3, k4⟩⟩
def inOD (x : κ) (d : List (Key × β)) : Option Bool := some (valB d (KeyOf.key x)).isSome
theorem od_get {F G H : Hp} {x : κ} {d : List (Key × β)} {vx vy : V} (w : W F G H) (rx : rep K G x vx) (ry : RDo K F G H d vy) : ∃ a o, vy = .ref a ∧ DGet H a vx o ∧ o.isSome = (valB d (KeyOf.key x)).isSome := by
  obtain ⟨p, kvs, h1, h2, h3⟩ := ry
  subst h1
  cases c : valB d (KeyOf.key x) with
  | none => exact ⟨p, none, rfl, .inl ⟨kvs, KeyOf.key x, .inl (w.f _ _ h2), KeyOf.of rx, (rk_none h3 c).symm⟩, rfl⟩
  | some z =>
    obtain ⟨u, k1, k2⟩ := rk_val h3 c
    exact ⟨p, some u, rfl, .inl ⟨kvs, KeyOf.key x, .inl (w.f _ _ h2), KeyOf.of rx, k1.symm⟩, rfl⟩
theorem o_inOD : Op2 (rInT false) (RE K (α := κ)) (RDo K (β := β)) (RE K) inOD := fun F G H x y z vx vy Q w rx ry e k => by
  obtain ⟨a, o, e1, e2, e3⟩ := od_get w rx ry
  cases e
  refine ⟨a, o, e1, e2, ?_⟩
  simp only [Bool.false_eq_true, if_false]
  rw [e3]
  exact k _ G H (Ex.refl G) w rfl
end
end Vx
namespace K34
open Vx.Rep (rep)
open Vx.EnvR (er)
open PySem PySem.Spec PyProof.Rows L2 Vx
def topS (i : Nat) : Stmt := PySem.Challenge.pw_closerworks_k34_whole_inner_lots_rims_wo.main.body.getD i (.Pass ⟨0, 0, 0, 0⟩)
def topC (i j : Nat) : Stmt := match topS i with
  | .ClassDef _ _ _ body _ _ _ _ _ _ _ => body.getD j (.Pass ⟨0, 0, 0, 0⟩)
  | s => s
def kA0 {α0 : Type} : Unit → α0 × Unit → α0 × Unit := fun _ b => (b.1, ())
theorem hkA0 {α0 : Type} [Rep α0] {K : PySem.W.Frag} {G : Hp} {b : α0 × Unit} {zs : List V} (h : RepL.rl K G b zs) : RepL.rl K G (kA0 () b) (pickV [0] zs) := by
  obtain ⟨v0, z0, rfl, h0, rfl⟩ := h
  exact ⟨_, _, rfl, h0, rfl⟩
def kA10 {α0 α1 : Type} : Unit → α1 × α0 × Unit → α0 × α1 × Unit := fun _ b => (b.2.1, b.1, ())
theorem hkA10 {α0 α1 : Type} [Rep α0] [Rep α1] {K : PySem.W.Frag} {G : Hp} {b : α1 × α0 × Unit} {zs : List V} (h : RepL.rl K G b zs) : RepL.rl K G (kA10 () b) (pickV [1, 0] zs) := by
  obtain ⟨v0, z0, rfl, h0, v1, z1, rfl, h1, rfl⟩ := h
  exact ⟨_, _, rfl, h1, ⟨_, _, rfl, h0, rfl⟩⟩
structure Top (K : PySem.W.Frag) (mg : Str → Option Value) : Prop where
  f_is_letter : Tf K mg "is_letter" (topS 10) ["sign"]
  f_is_word : Tf K mg "is_word" (topS 11) ["value"]
  f_is_any_lot : Tf K mg "is_any_lot" (topS 12) ["value"]
  f_is_things : Tf K mg "is_things" (topS 13) ["value"]
  f_has_all : Tf K mg "has_all" (topS 18) ["lot", "part"]
  f_is_lot : Tf K mg "is_lot" (topS 14) ["things", "value"]
  f_check_things : Tf K mg "check_things" (topS 15) ["things"]
  f_check_lot : Tf K mg "check_lot" (topS 16) ["things", "lot"]
  f_first_wrong : Tf K mg "first_wrong" (topS 17) ["things", "values"]
  f_in_either : Tf K mg "in_either" (topS 19) ["one", "other"]
  f_without : Tf K mg "without" (topS 20) ["lot", "part"]
  f_rest : Tf K mg "rest" (topS 26) ["things", "lot"]
  f_lots_by_number : Tf K mg "lots_by_number" (topS 21) ["things"]
  f_number_by_lot : Tf K mg "number_by_lot" (topS 22) ["things"]
  f_numbers_of : Tf K mg "numbers_of" (topS 23) ["things", "lots"]
  f_family_of : Tf K mg "family_of" (topS 24) ["things", "numbers"]
  f_meets_of : Tf K mg "meets_of" (topS 25) ["things", "lots"]
  f_is_system : Tf K mg "is_system" (topS 31) ["things", "values"]
  f_check_closed : Tf K mg "check_closed" (topS 29) ["things", "closed"]
  f_first_around : Tf K mg "first_around" (topS 33) ["lots", "part"]
  f_lots_around : Tf K mg "lots_around" (topS 32) ["things", "closed"]
  f_Closer___init__ : TmI K mg "Closer.__init__" (topC 28 0) ["self", "things", "closed"]
  f_Closer_things : TmP K "things" "Closer.things" (topC 28 2) ["self"]
  f_Closer_closed : TmP K "closed" "Closer.closed" (topC 28 3) ["self"]
  f_Closer_around : TmM K "around" "Closer.around" (topC 28 7) ["self", "lot"]
  f_Closer___eq__ : TmM K "__eq__" "Closer.__eq__" (topC 28 6) ["self", "other"]
  f_check_closer : Tf K mg "check_closer" (topS 30) ["closer"]
  f_keeps : Tf K mg "keeps" (topS 37) ["lot", "rule"]
  f_leads_of : Tf K mg "leads_of" (topS 41) ["closer"]
  f_inner_of : Tf K mg "inner_of" (topS 42) ["closer", "lot"]
  f_inner : Tf K mg "inner" (topS 43) ["closer", "lot"]
  f_rim : Tf K mg "rim" (topS 44) ["closer", "lot"]
  f_words : Tf K mg "words" (topS 45) ["closer", "lot"]
  f_first_broken : Tf K mg "first_broken" (topS 38) ["book", "lot"]
  f_led_on : Tf K mg "led_on" (topS 39) ["book", "lot"]
  f_pieces : Tf K mg "pieces" (topS 46) ["closer"]
  f__law_brew : Tf K mg "_law_brew" (topS 48) ["_law_cells", "_law_k"]
  f__law_tap : Tf K mg "_law_tap" (topS 49) ["_law_brew_here", "_law_top"]
  f__law_of : Tf K mg "_law_of" (topS 50) ["_law_brew_here", "_law_menu"]
  f__law_is_in : Tf K mg "_law_is_in" (topS 51) ["_law_pack_here", "_law_more"]
  f__law_both : Tf K mg "_law_both" (topS 52) ["_law_pack_here", "_law_more"]
  f__law_left : Tf K mg "_law_left" (topS 53) ["_law_crew_here", "_law_pack_here"]
  f__law_packs : Tf K mg "_law_packs" (topS 54) ["_law_crew_here"]
  f__law_crew : Tf K mg "_law_crew" (topS 55) ["_law_brew_here", "_law_most"]
  f__law_pack : Tf K mg "_law_pack" (topS 56) ["_law_brew_here", "_law_crew_here"]
  f__law_meeting : Tf K mg "_law_meeting" (topS 57) ["_law_crew_here", "_law_packs_here"]
  f__law_drawn_leads : Tf K mg "_law_drawn_leads" (topS 58) ["_law_brew_here", "_law_crew_here", "_law_many"]
  f__law_led_halls : Tf K mg "_law_led_halls" (topS 59) ["_law_crew_here", "_law_ties"]
  f__law_tails : Tf K mg "_law_tails" (topS 60) ["_law_line_here"]
  f__law_line : Tf K mg "_law_line" (topS 61) ["_law_brew_here", "_law_crew_here"]
  f__law_halls : Tf K mg "_law_halls" (topS 62) ["_law_brew_here", "_law_crew_here"]
  f__law_about : Tf K mg "_law_about" (topS 63) ["_law_halls_here", "_law_pack_here"]
  f__law_words : Tf K mg "_law_words" (topS 65) ["_law_crew_here", "_law_halls_here", "_law_pack_here"]
  f__law_pieces : Tf K mg "_law_pieces" (topS 66) ["_law_crew_here", "_law_ties"]
  f__law_is_among : Tf K mg "_law_is_among" (topS 68) ["_law_some_now", "_law_more"]
  f__law_lot_right : Tf K mg "_law_lot_right" (topS 67) ["_law_made_now", "_law_crew_here", "_law_halls_here", "_law_pack_here"]
  f__law_leads_of : Tf K mg "_law_leads_of" (topS 64) ["_law_crew_here", "_law_halls_here"]
  f__law_right : Tf K mg "_law_right" (topS 69) ["_law_brew_here"]
  f_law : Tf K mg "law" (topS 70) ["_law_cells"]
  b_len : mg "len" = none
  b_all : mg "all" = none
  b_any : mg "any" = none
  b_abs : mg "abs" = none
  b_int : mg "int" = none
  b_min : mg "min" = none
  b_max : mg "max" = none
  b_tuple : mg "tuple" = none
  b_repr : mg "repr" = none
  b_isinstance : mg "isinstance" = none
  b_str : mg "str" = none
  b_range : mg "range" = none
  b_enumerate : mg "enumerate" = none
  b_sorted : mg "sorted" = none
  b_set : mg "set" = none
  b_list : mg "list" = none
  b_divmod : mg "divmod" = none
  c_MOST_THINGS : ∃ t, mg "MOST_THINGS" = some (.int 7 t)
  cloF : TmF K
  isClo : TmIs K mg
theorem sc_is_letter : FnScope ["sign"] ["sign"] (defScope (topS 10)) := ⟨rfl, rfl, rfl, by decide +kernel, rfl, by decide +kernel, by decide +kernel⟩
def P_is_letter : { m : Str×Unit → Option Bool // ∀ {P : Program} {w : World} {K : PySem.W.Frag} {mg : Str → Option Value} {base : Heap}, Top K mg → Df P w K mg base "is_letter" (topS 10) 1 ["sign"] (spF K m) } :=
  ⟨_, fun {P w K mg base} T => df_F T.f_is_letter sc_is_letter (ic i0) (fun cdv A outer s H f hgd hr => (vs_cons (vs_ret (ve_chain op_le_str op_le_str o_sLe o_sLe ve_str (ve_var gz) ve_str)) (vs_nil (wid (Γ := Unit)))))⟩
def m_is_letter := P_is_letter.1
theorem d_is_letter {P : Program} {w : World} {K : PySem.W.Frag} {mg : Str → Option Value} {base : Heap} (T : Top K mg) : Df P w K mg base "is_letter" (topS 10) 1 ["sign"] (spF K m_is_letter) := P_is_letter.2 T
theorem sc_is_word : FnScope ["value", "ahead", "sign"] ["value"] (defScope (topS 11)) := ⟨rfl, rfl, rfl, by decide +kernel, rfl, by decide +kernel, by decide +kernel⟩
def P_is_word : { m : Str×Unit → Option Bool // ∀ {P : Program} {w : World} {K : PySem.W.Frag} {mg : Str → Option Value} {base : Heap}, Top K mg → Df P w K mg base "is_word" (topS 11) 2 ["value"] (spF K m) } :=
  ⟨_, fun {P w K mg base} T => df_F T.f_is_word sc_is_word (ic (ia (ia i0))) (fun cdv A outer s H f hgd hr => (vs_cons (vs_if (vt_not (vt_val (ve_isStr (ve_var gz) T.b_isinstance T.b_str))) (vs_cons (vs_ret ve_bl) (vs_nil wid)) (vs_nil wid)) (vs_cons (vs_set_ (ps pz) rfl sc_is_word.nd ve_str) (vs_cons (vs_forn wid (ps (ps pz)) rfl PassesOwn.never rfl (vi_str (ve_var gz)) (pg_name (i := 2) sc_is_word.nd rfl (by first | exact Or.inl rfl | exact Or.inr rfl)) (vs_cons (vs_if (vw_t (vw_or (vt_cmp op_le_str o_sLe re_mono (ve_var (gs (gs gz))) (ve_var (gs gz)) rfl) (vw_or1 (vt_not (vt_val (vd_call (d_is_letter T) hgd (rm hr) (va_cons (ve_var (gs (gs gz))) va_nil))))))) (vs_cons (vs_ret ve_bl) (vs_nil wid)) (vs_nil wid)) (vs_cons (vs_set_ (ps pz) rfl sc_is_word.nd (ve_var (gs (gs gz)))) (vs_nil (wk (wk (wa wn))))))) (vs_cons (vs_ret ve_bl) (vs_nil (wid (Γ := Unit))))))))⟩
def m_is_word := P_is_word.1
theorem d_is_word {P : Program} {w : World} {K : PySem.W.Frag} {mg : Str → Option Value} {base : Heap} (T : Top K mg) : Df P w K mg base "is_word" (topS 11) 2 ["value"] (spF K m_is_word) := P_is_word.2 T
theorem sc_is_any_lot : FnScope ["value"] ["value"] (defScope (topS 12)) := ⟨rfl, rfl, rfl, by decide +kernel, rfl, by decide +kernel, by decide +kernel⟩
def P_is_any_lot : { m : Str×Unit → Option Bool // ∀ {P : Program} {w : World} {K : PySem.W.Frag} {mg : Str → Option Value} {base : Heap}, Top K mg → Df P w K mg base "is_any_lot" (topS 12) 3 ["value"] (spF K m) } :=
  ⟨_, fun {P w K mg base} T => df_F T.f_is_any_lot sc_is_any_lot (ic i0) (fun cdv A outer s H f hgd hr => (vs_cons (vs_ret (ve_and (vd_call (d_is_word T) hgd (rm hr) (va_cons (ve_var gz) va_nil)) (ve_one (vo_cmp op_le o_iLe re_mono (vo_blt call_len o_lenS (va_cons (ve_var gz) va_nil) T.b_len) (ve_gint T.c_MOST_THINGS) rfl)))) (vs_nil (wid (Γ := Unit)))))⟩
def m_is_any_lot := P_is_any_lot.1
theorem d_is_any_lot {P : Program} {w : World} {K : PySem.W.Frag} {mg : Str → Option Value} {base : Heap} (T : Top K mg) : Df P w K mg base "is_any_lot" (topS 12) 3 ["value"] (spF K m_is_any_lot) := P_is_any_lot.2 T
theorem sc_is_things : FnScope ["value"] ["value"] (defScope (topS 13)) := ⟨rfl, rfl, rfl, by decide +kernel, rfl, by decide +kernel, by decide +kernel⟩
def P_is_things : { m : Str×Unit → Option Bool // ∀ {P : Program} {w : World} {K : PySem.W.Frag} {mg : Str → Option Value} {base : Heap}, Top K mg → Df P w K mg base "is_things" (topS 13) 4 ["value"] (spF K m) } :=
  ⟨_, fun {P w K mg base} T => df_F T.f_is_things sc_is_things (ic i0) (fun cdv A outer s H f hgd hr => (vs_cons (vs_ret (ve_and (vd_call (d_is_any_lot T) hgd (rm hr) (va_cons (ve_var gz) va_nil)) (ve_one (vo_cmp op_ne o_sNe re_mono (ve_var gz) ve_str rfl)))) (vs_nil (wid (Γ := Unit)))))⟩
def m_is_things := P_is_things.1
theorem d_is_things {P : Program} {w : World} {K : PySem.W.Frag} {mg : Str → Option Value} {base : Heap} (T : Top K mg) : Df P w K mg base "is_things" (topS 13) 4 ["value"] (spF K m_is_things) := P_is_things.2 T
theorem sc_has_all : FnScope ["lot", "part", "letter"] ["lot", "part"] (defScope (topS 18)) := ⟨rfl, rfl, rfl, by decide +kernel, rfl, by decide +kernel, by decide +kernel⟩
def P_has_all : { m : Str×Str×Unit → Option Bool // ∀ {P : Program} {w : World} {K : PySem.W.Frag} {mg : Str → Option Value} {base : Heap}, Top K mg → Df P w K mg base "has_all" (topS 18) 1 ["lot", "part"] (spF K m) } :=
  ⟨_, fun {P w K mg base} T => df_F T.f_has_all sc_has_all (ic (ic (ia i0))) (fun cdv A outer s H f hgd hr => (vs_cons (vs_ret (vo_blt (cr_all rfl) o_allB (va_cons (VF.up (vf_lc_ (ps (ps pz)) rfl rfl sc_has_all.nd (vi_str (ve_var (gs gz))) (by rfl) (fun _ _ _ _ _ => pg_name (i := 2) sc_has_all.nd rfl (by first | exact Or.inl rfl | exact Or.inr rfl)) (fun _ _ _ _ _ => vts_nil) (fun _ _ _ _ _ => (vo_cmp op_in_sign o_sIn re_mono (ve_var (gs (gs gz))) (ve_var gz) rfl)))) va_nil) T.b_all)) (vs_nil (wid (Γ := Unit)))))⟩
def m_has_all := P_has_all.1
theorem d_has_all {P : Program} {w : World} {K : PySem.W.Frag} {mg : Str → Option Value} {base : Heap} (T : Top K mg) : Df P w K mg base "has_all" (topS 18) 1 ["lot", "part"] (spF K m_has_all) := P_has_all.2 T
theorem sc_is_lot : FnScope ["things", "value"] ["things", "value"] (defScope (topS 14)) := ⟨rfl, rfl, rfl, by decide +kernel, rfl, by decide +kernel, by decide +kernel⟩
def P_is_lot : { m : Str×Str×Unit → Option Bool // ∀ {P : Program} {w : World} {K : PySem.W.Frag} {mg : Str → Option Value} {base : Heap}, Top K mg → Df P w K mg base "is_lot" (topS 14) 3 ["things", "value"] (spF K m) } :=
  ⟨_, fun {P w K mg base} T => df_F T.f_is_lot sc_is_lot (ic (ic i0)) (fun cdv A outer s H f hgd hr => (vs_cons (vs_ret (ve_and (vd_call (d_is_word T) hgd (rm hr) (va_cons (ve_var (gs gz)) va_nil)) (ve_one (vd_call (d_has_all T) hgd (rm hr) (va_cons (ve_var gz) (va_cons (ve_var (gs gz)) va_nil)))))) (vs_nil (wid (Γ := Unit)))))⟩
def m_is_lot := P_is_lot.1
theorem d_is_lot {P : Program} {w : World} {K : PySem.W.Frag} {mg : Str → Option Value} {base : Heap} (T : Top K mg) : Df P w K mg base "is_lot" (topS 14) 3 ["things", "value"] (spF K m_is_lot) := P_is_lot.2 T
theorem sc_check_things : FnScope ["things"] ["things"] (defScope (topS 15)) := ⟨rfl, rfl, rfl, by decide +kernel, rfl, by decide +kernel, by decide +kernel⟩
def P_check_things : { m : Str×Unit → Option Unit // ∀ {P : Program} {w : World} {K : PySem.W.Frag} {mg : Str → Option Value} {base : Heap}, Top K mg → Df P w K mg base "check_things" (topS 15) 5 ["things"] (spF K m) } :=
  ⟨_, fun {P w K mg base} T => df_U T.f_check_things sc_check_things (ic i0) (fun cdv A outer s H f hgd hr => (vs_cons (vs_if (vt_not (vt_val (vd_call (d_is_things T) hgd (rm hr) (va_cons (ve_var gz) va_nil)))) vss_never (vs_nil wid)) (vs_nil wid)))⟩
def m_check_things := P_check_things.1
theorem d_check_things {P : Program} {w : World} {K : PySem.W.Frag} {mg : Str → Option Value} {base : Heap} (T : Top K mg) : Df P w K mg base "check_things" (topS 15) 5 ["things"] (spF K m_check_things) := P_check_things.2 T
theorem sc_check_lot : FnScope ["things", "lot"] ["things", "lot"] (defScope (topS 16)) := ⟨rfl, rfl, rfl, by decide +kernel, rfl, by decide +kernel, by decide +kernel⟩
def P_check_lot : { m : Str×Str×Unit → Option Unit // ∀ {P : Program} {w : World} {K : PySem.W.Frag} {mg : Str → Option Value} {base : Heap}, Top K mg → Df P w K mg base "check_lot" (topS 16) 4 ["things", "lot"] (spF K m) } :=
  ⟨_, fun {P w K mg base} T => df_U T.f_check_lot sc_check_lot (ic (ic i0)) (fun cdv A outer s H f hgd hr => (vs_cons (vs_if (vt_not (vt_val (vd_call (d_is_lot T) hgd (rm hr) (va_cons (ve_var gz) (va_cons (ve_var (gs gz)) va_nil))))) vss_never (vs_nil wid)) (vs_nil wid)))⟩
def m_check_lot := P_check_lot.1
theorem d_check_lot {P : Program} {w : World} {K : PySem.W.Frag} {mg : Str → Option Value} {base : Heap} (T : Top K mg) : Df P w K mg base "check_lot" (topS 16) 4 ["things", "lot"] (spF K m_check_lot) := P_check_lot.2 T
theorem sc_first_wrong : FnScope ["things", "values", "at", "value"] ["things", "values"] (defScope (topS 17)) := ⟨rfl, rfl, rfl, by decide +kernel, rfl, by decide +kernel, by decide +kernel⟩
def P_first_wrong : { m : (Str×(Tup Str)×Unit) → Option (Option Int) // ∀ {P : Program} {w : World} {K : PySem.W.Frag} {mg : Str → Option Value} {base : Heap}, Top K mg → Df P w K mg base "first_wrong" (topS 17) 4 ["things", "values"] (spF K m) } :=
  ⟨_, fun {P w K mg base} T => df_F T.f_first_wrong sc_first_wrong (ic (ic (ia (ia i0)))) (fun cdv A outer s H f hgd hr => (vs_cons (vs_forp wid (ps (ps pz)) (ps (ps (ps pz))) rfl PassesOwn.never rfl (vi_enumT (ve_var (gs gz)) T.b_enumerate) (pg_tup rfl (pgs_cons (pg_name (i := 2) sc_first_wrong.nd rfl (by first | exact Or.inl rfl | exact Or.inr rfl)) (pgs_cons (pg_name (i := 3) sc_first_wrong.nd rfl (by first | exact Or.inl rfl | exact Or.inr rfl)) pgs_nil))) (vs_cons (vs_if (vw_t (vw_or (vt_not (vt_val (vd_call (d_is_lot T) hgd (rm hr) (va_cons (ve_var gz) (va_cons (ve_var (gs (gs (gs gz)))) va_nil))))) (vw_or1 (vw_t (vw_and (vt_cmp op_gt o_iGt re_mono (ve_var (gs (gs gz))) ve_int rfl) (vw_and1 (vt_cmp op_le_str o_sLe re_mono (ve_var (gs (gs (gs gz)))) (vo_ix ix_tup o_tIx re_mono (ve_var (gs gz)) (vo_op op_sub o_iSub re_mono (ve_var (gs (gs gz))) ve_int)) rfl))))))) (vs_cons (vs_ret (VE.some (ve_var (gs (gs gz))))) (vs_nil wid)) (vs_nil wid)) (vs_nil (wk (wk (wa (wa wn))))))) (vs_cons (vs_ret (ve_nonO (α := Int))) (vs_nil (wid (Γ := Unit))))))⟩
def m_first_wrong := P_first_wrong.1
theorem d_first_wrong {P : Program} {w : World} {K : PySem.W.Frag} {mg : Str → Option Value} {base : Heap} (T : Top K mg) : Df P w K mg base "first_wrong" (topS 17) 4 ["things", "values"] (spF K m_first_wrong) := P_first_wrong.2 T
theorem sc_in_either : FnScope ["one", "other"] ["one", "other"] (defScope (topS 19)) := ⟨rfl, rfl, rfl, by decide +kernel, rfl, by decide +kernel, by decide +kernel⟩
def P_in_either : { m : Str×Str×Unit → Option Str // ∀ {P : Program} {w : World} {K : PySem.W.Frag} {mg : Str → Option Value} {base : Heap}, Top K mg → Df P w K mg base "in_either" (topS 19) 1 ["one", "other"] (spF K m) } :=
  ⟨_, fun {P w K mg base} T => df_F T.f_in_either sc_in_either (ic (ic i0)) (fun cdv A outer s H f hgd hr => (vs_cons (vs_ret (ve_join ve_str (VF.up (vf_ssS rfl (un64 hr) T.b_sorted T.b_set (vo_op op_add_str o_sAdd re_mono (ve_var gz) (ve_var (gs gz))))))) (vs_nil (wid (Γ := Unit)))))⟩
def m_in_either := P_in_either.1
theorem d_in_either {P : Program} {w : World} {K : PySem.W.Frag} {mg : Str → Option Value} {base : Heap} (T : Top K mg) : Df P w K mg base "in_either" (topS 19) 1 ["one", "other"] (spF K m_in_either) := P_in_either.2 T
theorem sc_without : FnScope ["lot", "part", "letter"] ["lot", "part"] (defScope (topS 20)) := ⟨rfl, rfl, rfl, by decide +kernel, rfl, by decide +kernel, by decide +kernel⟩
def P_without : { m : Str×Str×Unit → Option Str // ∀ {P : Program} {w : World} {K : PySem.W.Frag} {mg : Str → Option Value} {base : Heap}, Top K mg → Df P w K mg base "without" (topS 20) 1 ["lot", "part"] (spF K m) } :=
  ⟨_, fun {P w K mg base} T => df_F T.f_without sc_without (ic (ic (ia i0))) (fun cdv A outer s H f hgd hr => (vs_cons (vs_ret (ve_join ve_str (VF.up (vf_lc_ (ps (ps pz)) rfl rfl sc_without.nd (vi_str (ve_var gz)) (by rfl) (fun _ _ _ _ _ => pg_name (i := 2) sc_without.nd rfl (by first | exact Or.inl rfl | exact Or.inr rfl)) (fun _ _ _ _ _ => (vts_one (vt_cmp op_notIn_sign o_sNotIn re_mono (ve_var (gs (gs gz))) (ve_var (gs gz)) rfl))) (fun _ _ _ _ _ => (ve_var (gs (gs gz)))))))) (vs_nil (wid (Γ := Unit)))))⟩
def m_without := P_without.1
theorem d_without {P : Program} {w : World} {K : PySem.W.Frag} {mg : Str → Option Value} {base : Heap} (T : Top K mg) : Df P w K mg base "without" (topS 20) 1 ["lot", "part"] (spF K m_without) := P_without.2 T
theorem sc_rest : FnScope ["things", "lot"] ["things", "lot"] (defScope (topS 26)) := ⟨rfl, rfl, rfl, by decide +kernel, rfl, by decide +kernel, by decide +kernel⟩
def P_rest : { m : Str×Str×Unit → Option Str // ∀ {P : Program} {w : World} {K : PySem.W.Frag} {mg : Str → Option Value} {base : Heap}, Top K mg → Df P w K mg base "rest" (topS 26) 6 ["things", "lot"] (spF K m) } :=
  ⟨_, fun {P w K mg base} T => df_F T.f_rest sc_rest (ic (ic i0)) (fun cdv A outer s H f hgd hr => (vs_cons (vs_ex (vd_call (d_check_things T) hgd (rm hr) (va_cons (ve_var gz) va_nil))) (vs_cons (vs_ex (vd_call (d_check_lot T) hgd (rm hr) (va_cons (ve_var gz) (va_cons (ve_var (gs gz)) va_nil)))) (vs_cons (vs_ret (vd_call (d_without T) hgd (rm hr) (va_cons (ve_var gz) (va_cons (ve_var (gs gz)) va_nil)))) (vs_nil (wid (Γ := Unit)))))))⟩
def m_rest := P_rest.1
theorem d_rest {P : Program} {w : World} {K : PySem.W.Frag} {mg : Str → Option Value} {base : Heap} (T : Top K mg) : Df P w K mg base "rest" (topS 26) 6 ["things", "lot"] (spF K m_rest) := P_rest.2 T
theorem sc_lots_by_number : FnScope ["things", "lots", "letter", "lot"] ["things"] (defScope (topS 21)) := ⟨rfl, rfl, rfl, by decide +kernel, rfl, by decide +kernel, by decide +kernel⟩
def P_lots_by_number : { m : Str×Unit → Option (List Str) // ∀ {P : Program} {w : World} {K : PySem.W.Frag} {mg : Str → Option Value} {base : Heap}, Top K mg → Df P w K mg base "lots_by_number" (topS 21) 1 ["things"] (spF K m) } :=
  ⟨_, fun {P w K mg base} T => df_F T.f_lots_by_number sc_lots_by_number (ic (ia (ia (ia i0)))) (fun cdv A outer s H f hgd hr => (vs_cons (vs_set_ (ps pz) rfl sc_lots_by_number.nd (VF.up (vf_lst (vls_cons ve_str vls_nil)))) (vs_cons (vs_forn wid (ps (ps pz)) rfl PassesOwn.never rfl (vi_str (ve_var gz)) (pg_name (i := 2) sc_lots_by_number.nd rfl (by first | exact Or.inl rfl | exact Or.inr rfl)) (vs_cons (vs_set_ (ps pz) rfl sc_lots_by_number.nd (VF.up (vo_op op_cat o_lCat rl_mono (VE.l (ve_var (gs gz))) (VE.l (VF.up (vf_lc_ (ps (ps (ps pz))) rfl rfl sc_lots_by_number.nd (vi_list (ve_var (gs gz))) (by rfl) (fun _ _ _ _ _ => pg_name (i := 3) sc_lots_by_number.nd rfl (by first | exact Or.inl rfl | exact Or.inr rfl)) (fun _ _ _ _ _ => vts_nil) (fun _ _ _ _ _ => (vo_op op_add_str o_sAdd re_mono (ve_var (gs (gs (gs gz)))) (ve_var (gs (gs gz))))))))))) (vs_nil (wk (wk (wa (wk wn))))))) (vs_cons (vs_ret (ve_var (gs gz))) (vs_nil (wid (Γ := Unit)))))))⟩
def m_lots_by_number := P_lots_by_number.1
theorem d_lots_by_number {P : Program} {w : World} {K : PySem.W.Frag} {mg : Str → Option Value} {base : Heap} (T : Top K mg) : Df P w K mg base "lots_by_number" (topS 21) 1 ["things"] (spF K m_lots_by_number) := P_lots_by_number.2 T
theorem sc_number_by_lot : FnScope ["things", "number", "lot"] ["things"] (defScope (topS 22)) := ⟨rfl, rfl, rfl, by decide +kernel, rfl, by decide +kernel, by decide +kernel⟩
def P_number_by_lot : { m : Str×Unit → Option (Dct Int) // ∀ {P : Program} {w : World} {K : PySem.W.Frag} {mg : Str → Option Value} {base : Heap}, Top K mg → Df P w K mg base "number_by_lot" (topS 22) 2 ["things"] (spF K m) } :=
  ⟨_, fun {P w K mg base} T => df_F T.f_number_by_lot sc_number_by_lot (ic (ia (ia i0))) (fun cdv A outer s H f hgd hr => (vs_cons (vs_ret (ve_dc_ (ps pz) (ps (ps pz)) rfl rfl sc_number_by_lot.nd (vi_enumL (vd_call (d_lots_by_number T) hgd (rm hr) (va_cons (ve_var gz) va_nil)) T.b_enumerate) (by rfl) (fun _ _ _ _ _ => pg_tup rfl (pgs_cons (pg_name (i := 1) sc_number_by_lot.nd rfl (by first | exact Or.inl rfl | exact Or.inr rfl)) (pgs_cons (pg_name (i := 2) sc_number_by_lot.nd rfl (by first | exact Or.inl rfl | exact Or.inr rfl)) pgs_nil))) (fun _ _ _ _ _ => (ve_var (gs (gs gz)))) (fun _ _ _ _ _ => (ve_var (gs gz))))) (vs_nil (wid (Γ := Unit)))))⟩
def m_number_by_lot := P_number_by_lot.1
theorem d_number_by_lot {P : Program} {w : World} {K : PySem.W.Frag} {mg : Str → Option Value} {base : Heap} (T : Top K mg) : Df P w K mg base "number_by_lot" (topS 22) 2 ["things"] (spF K m_number_by_lot) := P_number_by_lot.2 T
theorem sc_numbers_of : FnScope ["things", "lots", "number", "lot"] ["things", "lots"] (defScope (topS 23)) := ⟨rfl, rfl, rfl, by decide +kernel, rfl, by decide +kernel, by decide +kernel⟩
def P_numbers_of : { m : (Str×(Tup Str)×Unit) → Option (List Int) // ∀ {P : Program} {w : World} {K : PySem.W.Frag} {mg : Str → Option Value} {base : Heap}, Top K mg → Df P w K mg base "numbers_of" (topS 23) 3 ["things", "lots"] (spF K m) } :=
  ⟨_, fun {P w K mg base} T => df_F T.f_numbers_of sc_numbers_of (ic (ic (ia (ia i0)))) (fun cdv A outer s H f hgd hr => (vs_cons (vs_set_ (ps (ps pz)) rfl sc_numbers_of.nd (vd_call (d_number_by_lot T) hgd (rm hr) (va_cons (ve_var gz) va_nil))) (vs_cons (vs_ret (VF.up (vf_lc_ (ps (ps (ps pz))) rfl rfl sc_numbers_of.nd (vi_tup (ve_var (gs gz))) (by rfl) (fun _ _ _ _ _ => pg_name (i := 3) sc_numbers_of.nd rfl (by first | exact Or.inl rfl | exact Or.inr rfl)) (fun _ _ _ _ _ => vts_nil) (fun _ _ _ _ _ => (ve_dget (un1 hr) (ve_var (gs (gs gz))) (ve_var (gs (gs (gs gz)))) (by intro _ _; rfl)))))) (vs_nil (wid (Γ := Unit))))))⟩
def m_numbers_of := P_numbers_of.1
theorem d_numbers_of {P : Program} {w : World} {K : PySem.W.Frag} {mg : Str → Option Value} {base : Heap} (T : Top K mg) : Df P w K mg base "numbers_of" (topS 23) 3 ["things", "lots"] (spF K m_numbers_of) := P_numbers_of.2 T
theorem sc_family_of : FnScope ["things", "numbers", "lots", "number"] ["things", "numbers"] (defScope (topS 24)) := ⟨rfl, rfl, rfl, by decide +kernel, rfl, by decide +kernel, by decide +kernel⟩
def P_family_of : { m : (Str×(List Int)×Unit) → Option (Tup Str) // ∀ {P : Program} {w : World} {K : PySem.W.Frag} {mg : Str → Option Value} {base : Heap}, Top K mg → Df P w K mg base "family_of" (topS 24) 2 ["things", "numbers"] (spF K m) } :=
  ⟨_, fun {P w K mg base} T => df_F T.f_family_of sc_family_of (ic (ic (ia (ia i0)))) (fun cdv A outer s H f hgd hr => (vs_cons (vs_set_ (ps (ps pz)) rfl sc_family_of.nd (vd_call (d_lots_by_number T) hgd (rm hr) (va_cons (ve_var gz) va_nil))) (vs_cons (vs_ret (vo_bty call_tuple_of o_tupL (va_cons (VF.up (vo_blt (cr_srt (un64 hr)) o_srtL (va_cons (VF.up (vf_lc_ (ps (ps (ps pz))) rfl rfl sc_family_of.nd (vi_list (ve_var (gs gz))) (by rfl) (fun _ _ _ _ _ => pg_name (i := 3) sc_family_of.nd rfl (by first | exact Or.inl rfl | exact Or.inr rfl)) (fun _ _ _ _ _ => vts_nil) (fun _ _ _ _ _ => (vo_ix ix_list o_lIx rl_mono (VE.l (ve_var (gs (gs gz)))) (ve_var (gs (gs (gs gz)))))))) va_nil) T.b_sorted)) va_nil) T.b_tuple)) (vs_nil (wid (Γ := Unit))))))⟩
def m_family_of := P_family_of.1
theorem d_family_of {P : Program} {w : World} {K : PySem.W.Frag} {mg : Str → Option Value} {base : Heap} (T : Top K mg) : Df P w K mg base "family_of" (topS 24) 2 ["things", "numbers"] (spF K m_family_of) := P_family_of.2 T
theorem sc_meets_of : FnScope ["things", "lots", "whole", "found", "number", "other"] ["things", "lots"] (defScope (topS 25)) := ⟨rfl, rfl, rfl, by decide +kernel, rfl, by decide +kernel, by decide +kernel⟩
def P_meets_of : { m : (Str×(Tup Str)×Unit) → Option (Tup Str) // ∀ {P : Program} {w : World} {K : PySem.W.Frag} {mg : Str → Option Value} {base : Heap}, Top K mg → Df P w K mg base "meets_of" (topS 25) 4 ["things", "lots"] (spF K m) } :=
  ⟨_, fun {P w K mg base} T => df_F T.f_meets_of sc_meets_of (ic (ic (ia (ia (ia (ia i0)))))) (fun cdv A outer s H f hgd hr => (vs_cons (vs_set_ (ps (ps pz)) rfl sc_meets_of.nd (vo_op op_sub o_iSub re_mono (vo_blt call_len o_lenL (va_cons (vd_call (d_lots_by_number T) hgd (rm hr) (va_cons (ve_var gz) va_nil)) va_nil) T.b_len) ve_int)) (vs_cons (vs_newD_ (κ := Int) (pds (pds (pds pdz))) rfl sc_meets_of.nd (ve_var (gs (gs gz))) ve_bl) (vs_cons (vs_forn wid (ps (ps (ps (ps pz)))) rfl PassesOwn.never rfl (vi_list (vd_call (d_numbers_of T) hgd (rm hr) (va_cons (ve_var gz) (va_cons (ve_var (gs gz)) va_nil)))) (pg_name (i := 4) sc_meets_of.nd rfl (by first | exact Or.inl rfl | exact Or.inr rfl)) (vs_cons (vs_forn wid (ps (ps (ps (ps (ps pz))))) rfl PassesOwn.never rfl (vi_list (VF.up (vf_keys_ Int (ds (ds (ds dz))) rfl rfl T.b_list))) (pg_name (i := 5) sc_meets_of.nd rfl (by first | exact Or.inl rfl | exact Or.inr rfl)) (vs_cons (vs_dput_ (ds (ds (ds dz))) rfl (un1 hr) (vo_op op_and o_iAnd re_mono (ve_var (gs (gs (gs (gs gz))))) (ve_var (gs (gs (gs (gs (gs gz))))))) ve_bl) (vs_nil (wk (wk (wk (wk (wk (wa wn))))))))) (vs_nil (wk (wk (wk (wk (wa (wk wn))))))))) (vs_cons (vs_ret (vd_call (d_family_of T) hgd (rm hr) (va_cons (ve_var gz) (va_cons (VF.up (vf_keys_ Int (ds (ds (ds dz))) rfl rfl T.b_list)) va_nil)))) (vs_nil (wid (Γ := Unit))))))))⟩
def m_meets_of := P_meets_of.1
theorem d_meets_of {P : Program} {w : World} {K : PySem.W.Frag} {mg : Str → Option Value} {base : Heap} (T : Top K mg) : Df P w K mg base "meets_of" (topS 25) 4 ["things", "lots"] (spF K m_meets_of) := P_meets_of.2 T
theorem sc_is_system : FnScope ["things", "values"] ["things", "values"] (defScope (topS 31)) := ⟨rfl, rfl, rfl, by decide +kernel, rfl, by decide +kernel, by decide +kernel⟩
def P_is_system : { m : (Str×(Tup Str)×Unit) → Option Bool // ∀ {P : Program} {w : World} {K : PySem.W.Frag} {mg : Str → Option Value} {base : Heap}, Top K mg → Df P w K mg base "is_system" (topS 31) 5 ["things", "values"] (spF K m) } :=
  ⟨_, fun {P w K mg base} T => df_F T.f_is_system sc_is_system (ic (ic i0)) (fun cdv A outer s H f hgd hr => (vs_cons (vs_ret (ve_and (vo_cmp op_isN o_isN re_mono (vd_call (d_first_wrong T) hgd (rm hr) (va_cons (ve_var gz) (va_cons (ve_var (gs gz)) va_nil))) ve_non rfl) (ve_one (vo_cmp (op_eqP (un60 hr)) o_dEq re_mono (vd_call (d_meets_of T) hgd (rm hr) (va_cons (ve_var gz) (va_cons (ve_var (gs gz)) va_nil))) (ve_var (gs gz)) rfl)))) (vs_nil (wid (Γ := Unit)))))⟩
def m_is_system := P_is_system.1
theorem d_is_system {P : Program} {w : World} {K : PySem.W.Frag} {mg : Str → Option Value} {base : Heap} (T : Top K mg) : Df P w K mg base "is_system" (topS 31) 5 ["things", "values"] (spF K m_is_system) := P_is_system.2 T
theorem sc_check_closed : FnScope ["things", "closed", "wrong"] ["things", "closed"] (defScope (topS 29)) := ⟨rfl, rfl, rfl, by decide +kernel, rfl, by decide +kernel, by decide +kernel⟩
def P_check_closed : { m : (Str×(Tup Str)×Unit) → Option Unit // ∀ {P : Program} {w : World} {K : PySem.W.Frag} {mg : Str → Option Value} {base : Heap}, Top K mg → Df P w K mg base "check_closed" (topS 29) 6 ["things", "closed"] (spF K m) } :=
  ⟨_, fun {P w K mg base} T => df_U T.f_check_closed sc_check_closed (ic (ic (ia i0))) (fun cdv A outer s H f hgd hr => (vs_cons (vs_if (vt_not (vt_val (ve_isTup (ve_var (gs gz)) T.b_isinstance T.b_tuple))) vss_never (vs_nil wid)) (vs_cons (vs_set_ (ps (ps pz)) rfl sc_check_closed.nd (vd_call (d_first_wrong T) hgd (rm hr) (va_cons (ve_var gz) (va_cons (ve_var (gs gz)) va_nil)))) (vs_cons (vs_if (vt_cmp op_notN o_notN re_mono (ve_var (gs (gs gz))) ve_non rfl) vss_never (vs_nil wid)) (vs_cons (vs_if (vt_not (vt_val (vd_call (d_is_system T) hgd (rm hr) (va_cons (ve_var gz) (va_cons (ve_var (gs gz)) va_nil))))) vss_never (vs_nil wid)) (vs_nil wid))))))⟩
def m_check_closed := P_check_closed.1
theorem d_check_closed {P : Program} {w : World} {K : PySem.W.Frag} {mg : Str → Option Value} {base : Heap} (T : Top K mg) : Df P w K mg base "check_closed" (topS 29) 6 ["things", "closed"] (spF K m_check_closed) := P_check_closed.2 T
theorem sc_first_around : FnScope ["lots", "part", "at"] ["lots", "part"] (defScope (topS 33)) := ⟨rfl, rfl, rfl, by decide +kernel, rfl, by decide +kernel, by decide +kernel⟩
def P_first_around : { m : ((List Str)×Str×Unit) → Option Str // ∀ {P : Program} {w : World} {K : PySem.W.Frag} {mg : Str → Option Value} {base : Heap}, Top K mg → Df P w K mg base "first_around" (topS 33) 2 ["lots", "part"] (spF K m) } :=
  ⟨_, fun {P w K mg base} T => df_F T.f_first_around sc_first_around (ic (ic (ia i0))) (fun cdv A outer s H f hgd hr => (vs_cons (vs_set_ (ps (ps pz)) rfl sc_first_around.nd ve_int) (vs_cons (vs_while_ wid 1000 rfl PassesOwn.never (vt_not (vt_val (vd_call (d_has_all T) hgd (rm hr) (va_cons (vo_ix ix_list o_lIx rl_mono (VE.l (ve_var gz)) (ve_var (gs (gs gz)))) (va_cons (ve_var (gs gz)) va_nil))))) (vs_cons (vs_aug (gs (gs gz)) (ps (ps pz)) rfl sc_first_around.nd ve_int) (vs_nil wid))) (vs_cons (vs_ret (vo_ix ix_list o_lIx rl_mono (VE.l (ve_var gz)) (ve_var (gs (gs gz))))) (vs_nil (wid (Γ := Unit)))))))⟩
def m_first_around := P_first_around.1
theorem d_first_around {P : Program} {w : World} {K : PySem.W.Frag} {mg : Str → Option Value} {base : Heap} (T : Top K mg) : Df P w K mg base "first_around" (topS 33) 2 ["lots", "part"] (spF K m_first_around) := P_first_around.2 T
theorem sc_lots_around : FnScope ["things", "closed", "by_size", "lot"] ["things", "closed"] (defScope (topS 32)) := ⟨rfl, rfl, rfl, by decide +kernel, rfl, by decide +kernel, by decide +kernel⟩
def P_lots_around : { m : (Str×(Tup Str)×Unit) → Option (Dct Str) // ∀ {P : Program} {w : World} {K : PySem.W.Frag} {mg : Str → Option Value} {base : Heap}, Top K mg → Df P w K mg base "lots_around" (topS 32) 3 ["things", "closed"] (spF K m) } :=
  ⟨_, fun {P w K mg base} T => df_F T.f_lots_around sc_lots_around (ic (ic (ia (ia i0)))) (fun cdv A outer s H f hgd hr => (vs_cons (vs_set_ (ps (ps pz)) rfl sc_lots_around.nd (VF.up (vf_sortK (un64 hr) T.b_sorted T.b_len (ve_var (gs gz))))) (vs_cons (vs_ret (ve_dc1 (ps (ps (ps pz))) rfl rfl sc_lots_around.nd (vi_list (vd_call (d_lots_by_number T) hgd (rm hr) (va_cons (ve_var gz) va_nil))) (by rfl) (fun _ _ _ _ _ => pg_name (i := 3) sc_lots_around.nd rfl (by first | exact Or.inl rfl | exact Or.inr rfl)) (fun _ _ _ _ _ => (ve_var (gs (gs (gs gz))))) (fun _ _ _ _ _ => (vd_call (d_first_around T) hgd (rm hr) (va_cons (ve_var (gs (gs gz))) (va_cons (ve_var (gs (gs (gs gz)))) va_nil)))))) (vs_nil (wid (Γ := Unit))))))⟩
def m_lots_around := P_lots_around.1
theorem d_lots_around {P : Program} {w : World} {K : PySem.W.Frag} {mg : Str → Option Value} {base : Heap} (T : Top K mg) : Df P w K mg base "lots_around" (topS 32) 3 ["things", "closed"] (spF K m_lots_around) := P_lots_around.2 T
theorem sc_Closer___init__ : FnScope ["self", "things", "closed"] ["self", "things", "closed"] (defScope (topC 28 0)) := ⟨rfl, rfl, rfl, by decide +kernel, rfl, by decide +kernel, by decide +kernel⟩
def P_Closer___init__ : { m : (Str×(Tup Str)×Unit) → Option Clo // ∀ {P : Program} {w : World} {K : PySem.W.Frag} {mg : Str → Option Value} {base : Heap}, Top K mg → DfI P w K mg base 7 ["self", "things", "closed"] (spI K m) } :=
  ⟨_, fun {P w K mg base} T => df_I T.f_Closer___init__ sc_Closer___init__ (ic (ic i0)) (by
      intro γ c q γ' h p
      cases e1 : m_check_things (γ.1, ()) with
      | none => simp only [sseq, sex, sf1, sf2, sf3, snil, Fl.bnd, f1, fv, fcons, fnil, gs, gz, wid, Option.bind_some, e1, Option.map_none, Option.bind_none] at h; cases h
      | some u1 =>
        cases e2 : m_check_closed (γ.1, γ.2.1, ()) with
        | none => simp only [sseq, sex, sf1, sf2, sf3, snil, Fl.bnd, f1, fv, fcons, fnil, gs, gz, wid, Option.bind_some, Option.map_some, e1, e2, Option.map_none, Option.bind_none] at h; cases h
        | some u2 =>
          cases e3 : m_lots_around (γ.1, γ.2.1, ()) with
          | none => simp only [sseq, sex, sf1, sf2, sf3, snil, Fl.bnd, f1, fv, fcons, fnil, gs, gz, wid, Option.bind_some, Option.map_some, e1, e2, e3, Option.map_none, Option.bind_none] at h; cases h
          | some u3 =>
            simp only [sseq, sex, sf1, sf2, sf3, snil, Fl.bnd, f1, fv, fcons, fnil, gs, gz, wid, Option.bind_some, Option.map_some, e1, e2, e3] at h ⊢
            cases h
            exact ⟨_, rfl⟩) (fun cdv A outer s H f hgd hr => (vs_cons (vs_ex (vd_call (d_check_things T) hgd (rm hr) (va_cons (ve_var (gs gz)) va_nil))) (vs_cons (vs_ex (vd_call (d_check_closed T) hgd (rm hr) (va_cons (ve_var (gs gz)) (va_cons (ve_var (gs (gs gz))) va_nil)))) (vs_cons (vd_s1 T.cloF rfl (ve_var (gs gz))) (vs_cons (vd_s2 T.cloF rfl (ve_var (gs (gs gz)))) (vs_cons (vd_s3 T.cloF rfl (vd_call (d_lots_around T) hgd (rm hr) (va_cons (ve_var (gs gz)) (va_cons (ve_var (gs (gs gz))) va_nil)))) (vs_nil wid)))))))⟩
def m_Closer___init__ := P_Closer___init__.1
theorem d_Closer___init__ {P : Program} {w : World} {K : PySem.W.Frag} {mg : Str → Option Value} {base : Heap} (T : Top K mg) : DfI P w K mg base 7 ["self", "things", "closed"] (spI K m_Closer___init__) := P_Closer___init__.2 T
theorem sc_Closer_things : FnScope ["self"] ["self"] (defScope (topC 28 2)) := ⟨rfl, rfl, rfl, by decide +kernel, rfl, by decide +kernel, by decide +kernel⟩
def P_Closer_things : { m : Clo×Unit → Option Str // ∀ {P : Program} {w : World} {K : PySem.W.Frag} {mg : Str → Option Value} {base : Heap}, Top K mg → DfP P w K mg base "things" 1 ["self"] (spF K m) } :=
  ⟨_, fun {P w K mg base} T => df_P T.f_Closer_things sc_Closer_things (ic i0) (fun cdv A outer s H f hgd hr => (vs_cons (vs_ret (vd_fT T.cloF (ve_var gz))) (vs_nil (wid (Γ := Unit)))))⟩
def m_Closer_things := P_Closer_things.1
theorem d_Closer_things {P : Program} {w : World} {K : PySem.W.Frag} {mg : Str → Option Value} {base : Heap} (T : Top K mg) : DfP P w K mg base "things" 1 ["self"] (spF K m_Closer_things) := P_Closer_things.2 T
theorem sc_Closer_around : FnScope ["self", "lot"] ["self", "lot"] (defScope (topC 28 7)) := ⟨rfl, rfl, rfl, by decide +kernel, rfl, by decide +kernel, by decide +kernel⟩
def P_Closer_around : { m : Clo×Str×Unit → Option Str // ∀ {P : Program} {w : World} {K : PySem.W.Frag} {mg : Str → Option Value} {base : Heap}, Top K mg → DfMt P w K mg base "around" 5 ["self", "lot"] (spF K m) } :=
  ⟨_, fun {P w K mg base} T => df_Mt T.f_Closer_around sc_Closer_around (ic (ic i0)) (fun cdv A outer s H f hgd hr => (vs_cons (vs_ex (vd_call (d_check_lot T) hgd (rm hr) (va_cons (vd_fT T.cloF (ve_var gz)) (va_cons (ve_var (gs gz)) va_nil)))) (vs_cons (vs_ret (ve_dget (un1 hr) (vd_fA T.cloF (ve_var gz)) (ve_var (gs gz)) (by intro _ _; rfl))) (vs_nil (wid (Γ := Unit))))))⟩
def m_Closer_around := P_Closer_around.1
theorem d_Closer_around {P : Program} {w : World} {K : PySem.W.Frag} {mg : Str → Option Value} {base : Heap} (T : Top K mg) : DfMt P w K mg base "around" 5 ["self", "lot"] (spF K m_Closer_around) := P_Closer_around.2 T
theorem sc_check_closer : FnScope ["closer"] ["closer"] (defScope (topS 30)) := ⟨rfl, rfl, rfl, by decide +kernel, rfl, by decide +kernel, by decide +kernel⟩
def P_check_closer : { m : Clo×Unit → Option Unit // ∀ {P : Program} {w : World} {K : PySem.W.Frag} {mg : Str → Option Value} {base : Heap}, Top K mg → Df P w K mg base "check_closer" (topS 30) 1 ["closer"] (spF K m) } :=
  ⟨_, fun {P w K mg base} T => df_U T.f_check_closer sc_check_closer (ic i0) (fun cdv A outer s H f hgd hr => (vs_cons (vs_if (vt_not (vt_val (ve_isClo T.isClo (ve_var gz) T.b_isinstance))) vss_never (vs_nil wid)) (vs_nil wid)))⟩
def m_check_closer := P_check_closer.1
theorem d_check_closer {P : Program} {w : World} {K : PySem.W.Frag} {mg : Str → Option Value} {base : Heap} (T : Top K mg) : Df P w K mg base "check_closer" (topS 30) 1 ["closer"] (spF K m_check_closer) := P_check_closer.2 T
theorem sc_keeps : FnScope ["lot", "rule", "needed", "added"] ["lot", "rule"] (defScope (topS 37)) := ⟨rfl, rfl, rfl, by decide +kernel, rfl, by decide +kernel, by decide +kernel⟩
def P_keeps : { m : (Str×(T2 Str Str)×Unit) → Option Bool // ∀ {P : Program} {w : World} {K : PySem.W.Frag} {mg : Str → Option Value} {base : Heap}, Top K mg → Df P w K mg base "keeps" (topS 37) 2 ["lot", "rule"] (spF K m) } :=
  ⟨_, fun {P w K mg base} T => df_F T.f_keeps sc_keeps (ic (ic (ia (ia i0)))) (fun cdv A outer s H f hgd hr => (vs_cons (vs_unp (ps (ps pz)) (ps (ps (ps pz))) rfl rfl sc_keeps.nd (ve_var (gs gz))) (vs_cons (vs_ret (ve_or (ve_not (vd_call (d_has_all T) hgd (rm hr) (va_cons (ve_var gz) (va_cons (ve_var (gs (gs gz))) va_nil)))) (ve_one (vd_call (d_has_all T) hgd (rm hr) (va_cons (ve_var gz) (va_cons (ve_var (gs (gs (gs gz)))) va_nil)))))) (vs_nil (wid (Γ := Unit))))))⟩
def m_keeps := P_keeps.1
theorem d_keeps {P : Program} {w : World} {K : PySem.W.Frag} {mg : Str → Option Value} {base : Heap} (T : Top K mg) : Df P w K mg base "keeps" (topS 37) 2 ["lot", "rule"] (spF K m_keeps) := P_keeps.2 T
theorem sc_leads_of : FnScope ["closer", "one", "other"] ["closer"] (defScope (topS 41)) := ⟨rfl, rfl, rfl, by decide +kernel, rfl, by decide +kernel, by decide +kernel⟩
def P_leads_of : { m : Clo×Unit → Option (Tup Str) // ∀ {P : Program} {w : World} {K : PySem.W.Frag} {mg : Str → Option Value} {base : Heap}, Top K mg → Df P w K mg base "leads_of" (topS 41) 6 ["closer"] (spF K m) } :=
  ⟨_, fun {P w K mg base} T => df_F T.f_leads_of sc_leads_of (ic (ia (ia i0))) (fun cdv A outer s H f hgd hr => (vs_cons (vs_ret (vo_bty call_tuple_of o_tupL (va_cons (VF.up (vf_lc2_ (ps pz) (ps (ps pz)) (ns (ns nz)) rfl rfl sc_leads_of.nd (vi_str (vd_prop (d_Closer_things T) hgd (rm hr) (ve_var gz))) (by rfl) (fun _ _ _ _ _ => pg_name (i := 1) sc_leads_of.nd rfl (by first | exact Or.inl rfl | exact Or.inr rfl)) (fun _ _ _ _ _ => vts_nil) (fun _ _ _ _ _ => (vi_str (vd_call (d_without T) hgd (rm hr) (va_cons (vd_meth (d_Closer_around T) hgd (rm hr) (ve_var gz) (va_cons (ve_var (gs gz)) va_nil)) (va_cons (ve_var (gs gz)) va_nil))))) (fun _ _ _ _ _ => pg_name (i := 2) sc_leads_of.nd rfl (by first | exact Or.inl rfl | exact Or.inr rfl)) (fun _ _ _ _ _ => vts_nil) (fun _ _ _ _ _ => (vo_op op_add_str o_sAdd re_mono (ve_var (gs gz)) (ve_var (gs (gs gz))))))) va_nil) T.b_tuple)) (vs_nil (wid (Γ := Unit)))))⟩
def m_leads_of := P_leads_of.1
theorem d_leads_of {P : Program} {w : World} {K : PySem.W.Frag} {mg : Str → Option Value} {base : Heap} (T : Top K mg) : Df P w K mg base "leads_of" (topS 41) 6 ["closer"] (spF K m_leads_of) := P_leads_of.2 T
theorem sc_inner_of : FnScope ["closer", "lot"] ["closer", "lot"] (defScope (topS 42)) := ⟨rfl, rfl, rfl, by decide +kernel, rfl, by decide +kernel, by decide +kernel⟩
def P_inner_of : { m : Clo×Str×Unit → Option Str // ∀ {P : Program} {w : World} {K : PySem.W.Frag} {mg : Str → Option Value} {base : Heap}, Top K mg → Df P w K mg base "inner_of" (topS 42) 6 ["closer", "lot"] (spF K m) } :=
  ⟨_, fun {P w K mg base} T => df_F T.f_inner_of sc_inner_of (ic (ic i0)) (fun cdv A outer s H f hgd hr => (vs_cons (vs_ret (vd_call (d_without T) hgd (rm hr) (va_cons (vd_prop (d_Closer_things T) hgd (rm hr) (ve_var gz)) (va_cons (vd_meth (d_Closer_around T) hgd (rm hr) (ve_var gz) (va_cons (vd_call (d_without T) hgd (rm hr) (va_cons (vd_prop (d_Closer_things T) hgd (rm hr) (ve_var gz)) (va_cons (ve_var (gs gz)) va_nil))) va_nil)) va_nil)))) (vs_nil (wid (Γ := Unit)))))⟩
def m_inner_of := P_inner_of.1
theorem d_inner_of {P : Program} {w : World} {K : PySem.W.Frag} {mg : Str → Option Value} {base : Heap} (T : Top K mg) : Df P w K mg base "inner_of" (topS 42) 6 ["closer", "lot"] (spF K m_inner_of) := P_inner_of.2 T
theorem sc_inner : FnScope ["closer", "lot"] ["closer", "lot"] (defScope (topS 43)) := ⟨rfl, rfl, rfl, by decide +kernel, rfl, by decide +kernel, by decide +kernel⟩
theorem kb_inner_lot_closer : KbF "inner" (topS 43) ["closer", "lot"] ["lot", "closer"] 0 [1, 0] := fun kV doc pm an cdv ct us ws h1 h2 => match us, ws, h1, h2 with | [], [_, _], _, _ => rfl
def P_inner : { m : Clo×Str×Unit → Option Str // ∀ {P : Program} {w : World} {K : PySem.W.Frag} {mg : Str → Option Value} {base : Heap}, Top K mg → Df P w K mg base "inner" (topS 43) 7 ["closer", "lot"] (spF K m) } :=
  ⟨_, fun {P w K mg base} T => df_F T.f_inner sc_inner (ic (ic i0)) (fun cdv A outer s H f hgd hr => (vs_cons (vs_ex (vd_call (d_check_closer T) hgd (rm hr) (va_cons (ve_var gz) va_nil))) (vs_cons (vs_ex (vd_call (d_check_lot T) hgd (rm hr) (va_cons (vd_prop (d_Closer_things T) hgd (rm hr) (ve_var gz)) (va_cons (ve_var (gs gz)) va_nil)))) (vs_cons (vs_ret (vd_call (d_inner_of T) hgd (rm hr) (va_cons (ve_var gz) (va_cons (ve_var (gs gz)) va_nil)))) (vs_nil (wid (Γ := Unit)))))))⟩
def m_inner := P_inner.1
theorem d_inner {P : Program} {w : World} {K : PySem.W.Frag} {mg : Str → Option Value} {base : Heap} (T : Top K mg) : Df P w K mg base "inner" (topS 43) 7 ["closer", "lot"] (spF K m_inner) := P_inner.2 T
theorem sc_rim : FnScope ["closer", "lot"] ["closer", "lot"] (defScope (topS 44)) := ⟨rfl, rfl, rfl, by decide +kernel, rfl, by decide +kernel, by decide +kernel⟩
theorem kb_rim_lot_closer : KbF "rim" (topS 44) ["closer", "lot"] ["lot", "closer"] 0 [1, 0] := fun kV doc pm an cdv ct us ws h1 h2 => match us, ws, h1, h2 with | [], [_, _], _, _ => rfl
def P_rim : { m : Clo×Str×Unit → Option Str // ∀ {P : Program} {w : World} {K : PySem.W.Frag} {mg : Str → Option Value} {base : Heap}, Top K mg → Df P w K mg base "rim" (topS 44) 7 ["closer", "lot"] (spF K m) } :=
  ⟨_, fun {P w K mg base} T => df_F T.f_rim sc_rim (ic (ic i0)) (fun cdv A outer s H f hgd hr => (vs_cons (vs_ex (vd_call (d_check_closer T) hgd (rm hr) (va_cons (ve_var gz) va_nil))) (vs_cons (vs_ex (vd_call (d_check_lot T) hgd (rm hr) (va_cons (vd_prop (d_Closer_things T) hgd (rm hr) (ve_var gz)) (va_cons (ve_var (gs gz)) va_nil)))) (vs_cons (vs_ret (vd_call (d_without T) hgd (rm hr) (va_cons (vd_meth (d_Closer_around T) hgd (rm hr) (ve_var gz) (va_cons (ve_var (gs gz)) va_nil)) (va_cons (vd_call (d_inner_of T) hgd (rm hr) (va_cons (ve_var gz) (va_cons (ve_var (gs gz)) va_nil))) va_nil)))) (vs_nil (wid (Γ := Unit)))))))⟩
def m_rim := P_rim.1
theorem d_rim {P : Program} {w : World} {K : PySem.W.Frag} {mg : Str → Option Value} {base : Heap} (T : Top K mg) : Df P w K mg base "rim" (topS 44) 7 ["closer", "lot"] (spF K m_rim) := P_rim.2 T
theorem sc_words : FnScope ["closer", "lot", "found", "at", "word", "other"] ["closer", "lot"] (defScope (topS 45)) := ⟨rfl, rfl, rfl, by decide +kernel, rfl, by decide +kernel, by decide +kernel⟩
theorem kb_words_lot_closer : KbF "words" (topS 45) ["closer", "lot"] ["lot", "closer"] 0 [1, 0] := fun kV doc pm an cdv ct us ws h1 h2 => match us, ws, h1, h2 with | [], [_, _], _, _ => rfl
def P_words : { m : Clo×Str×Unit → Option (Tup Str) // ∀ {P : Program} {w : World} {K : PySem.W.Frag} {mg : Str → Option Value} {base : Heap}, Top K mg → Df P w K mg base "words" (topS 45) 6 ["closer", "lot"] (spF K m) } :=
  ⟨_, fun {P w K mg base} T => df_F T.f_words sc_words (ic (ic (ia (ia (ia (ia i0)))))) (fun cdv A outer s H f hgd hr => (vs_cons (vs_ex (vd_call (d_check_closer T) hgd (rm hr) (va_cons (ve_var gz) va_nil))) (vs_cons (vs_ex (vd_call (d_check_lot T) hgd (rm hr) (va_cons (vd_prop (d_Closer_things T) hgd (rm hr) (ve_var gz)) (va_cons (ve_var (gs gz)) va_nil)))) (vs_cons (vs_new_ (pos' (pos' poz)) rfl sc_words.nd (vf_lst (vls_cons (ve_var (gs gz)) vls_nil))) (vs_cons (vs_set_ (ps (ps (ps pz))) rfl sc_words.nd ve_int) (vs_cons (vs_while_ wid 1000 rfl PassesOwn.never (vt_cmp op_lt o_iLt re_mono (ve_var (gs (gs (gs gz)))) (ve_lenO (os (os oz)) rfl T.b_len) rfl) (vs_cons (vs_set_ (ps (ps (ps (ps pz)))) rfl sc_words.nd (vo_ix ix_list o_lIx rl_mono (vl_own (os (os oz))) (ve_var (gs (gs (gs gz)))))) (vs_cons (vs_aug (gs (gs (gs gz))) (ps (ps (ps pz))) rfl sc_words.nd ve_int) (vs_cons (vs_forn wid (ps (ps (ps (ps (ps pz))))) rfl PassesOwn.never rfl (vi_tup (ve_tupL (vls_cons (vd_meth (d_Closer_around T) hgd (rm hr) (ve_var gz) (va_cons (ve_var (gs (gs (gs (gs gz))))) va_nil)) (vls_cons (vd_call (d_without T) hgd (rm hr) (va_cons (vd_prop (d_Closer_things T) hgd (rm hr) (ve_var gz)) (va_cons (ve_var (gs (gs (gs (gs gz))))) va_nil))) vls_nil)))) (pg_name (i := 5) sc_words.nd rfl (by first | exact Or.inl rfl | exact Or.inr rfl)) (vs_cons (vs_if (vt_cmp op_notIn_seq o_lNotIn re_mono (ve_var (gs (gs (gs (gs (gs gz)))))) (vl_own (os (os oz))) rfl) (vs_cons (vs_app_ (os (os oz)) rfl (vo_up (ve_var (gs (gs (gs (gs (gs gz))))))) (hpe := fun t h => pe_bm PySem.F.plainAttrs_list PySem.F.slot_list_append PySem.F.type_list_append mt_append (pe_var (i := 2) rfl (by first | exact Or.inl rfl | exact Or.inr (Or.inl rfl) | exact Or.inr (Or.inr rfl)) (by decide) (by decide)) h)) (vs_nil wid)) (vs_nil wid)) (vs_nil (wk (wk (wk (wk (wk (wa wn))))))))) (vs_nil (wk (wk (wk (wk (wa (wk wn))))))))))) (vs_cons (vs_ret (vo_bty call_tuple_of o_tupL (va_cons (VF.up (vf_srtO (os (os oz)) rfl (un64 hr) T.b_sorted)) va_nil) T.b_tuple)) (vs_nil (wid (Γ := Unit))))))))))⟩
def m_words := P_words.1
theorem d_words {P : Program} {w : World} {K : PySem.W.Frag} {mg : Str → Option Value} {base : Heap} (T : Top K mg) : Df P w K mg base "words" (topS 45) 6 ["closer", "lot"] (spF K m_words) := P_words.2 T
theorem sc_first_broken : FnScope ["book", "lot", "at", "rule"] ["book", "lot"] (defScope (topS 38)) := ⟨rfl, rfl, rfl, by decide +kernel, rfl, by decide +kernel, by decide +kernel⟩
def P_first_brokenL : { m : ((List (T2 Str Str))×Str×Unit) → Option (Option Int) // ∀ {P : Program} {w : World} {K : PySem.W.Frag} {mg : Str → Option Value} {base : Heap}, Top K mg → Df P w K mg base "first_broken" (topS 38) 3 ["book", "lot"] (spF K m) } :=
  ⟨_, fun {P w K mg base} T => df_F T.f_first_broken sc_first_broken (ic (ic (ia (ia i0)))) (fun cdv A outer s H f hgd hr => (vs_cons (vs_forp wid (ps (ps pz)) (ps (ps (ps pz))) rfl PassesOwn.never rfl (vi_enumL (ve_var gz) T.b_enumerate) (pg_tup rfl (pgs_cons (pg_name (i := 2) sc_first_broken.nd rfl (by first | exact Or.inl rfl | exact Or.inr rfl)) (pgs_cons (pg_name (i := 3) sc_first_broken.nd rfl (by first | exact Or.inl rfl | exact Or.inr rfl)) pgs_nil))) (vs_cons (vs_if (vt_not (vt_val (vd_call (d_keeps T) hgd (rm hr) (va_cons (ve_var (gs gz)) (va_cons (ve_var (gs (gs (gs gz)))) va_nil))))) (vs_cons (vs_ret (VE.some (ve_var (gs (gs gz))))) (vs_nil wid)) (vs_nil wid)) (vs_nil (wk (wk (wa (wa wn))))))) (vs_cons (vs_ret (ve_nonO (α := Int))) (vs_nil (wid (Γ := Unit))))))⟩
def m_first_brokenL := P_first_brokenL.1
theorem d_first_brokenL {P : Program} {w : World} {K : PySem.W.Frag} {mg : Str → Option Value} {base : Heap} (T : Top K mg) : Df P w K mg base "first_broken" (topS 38) 3 ["book", "lot"] (spF K m_first_brokenL) := P_first_brokenL.2 T
theorem sc_led_on : FnScope ["book", "lot", "used", "come", "broken"] ["book", "lot"] (defScope (topS 39)) := ⟨rfl, rfl, rfl, by decide +kernel, rfl, by decide +kernel, by decide +kernel⟩
def P_led_onL : { m : ((List (T2 Str Str))×Str×Unit) → Option (T2 (Tup Int) Str) // ∀ {P : Program} {w : World} {K : PySem.W.Frag} {mg : Str → Option Value} {base : Heap}, Top K mg → Df P w K mg base "led_on" (topS 39) 4 ["book", "lot"] (spF K m) } :=
  ⟨_, fun {P w K mg base} T => df_F T.f_led_on sc_led_on (ic (ic (ia (ia (ia i0))))) (fun cdv A outer s H f hgd hr => (vs_cons (vs_new_ (pos' (pos' poz)) rfl sc_led_on.nd (vf_lst (vls_nil (α := Int)))) (vs_cons (vs_set_ (ps (ps (ps pz))) rfl sc_led_on.nd (ve_var (gs gz))) (vs_cons (vs_set_ (ps (ps (ps (ps pz)))) rfl sc_led_on.nd (vd_call (d_first_brokenL T) hgd (rm hr) (va_cons (ve_var gz) (va_cons (ve_var (gs (gs (gs gz)))) va_nil)))) (vs_cons (vs_while_ wid 1000 rfl PassesOwn.never (vt_cmp op_notN o_notN re_mono (ve_var (gs (gs (gs (gs gz))))) ve_non rfl) (vs_cons (vs_app_ (os (os oz)) rfl (vo_up (VE.unw (ve_var (gs (gs (gs (gs gz))))))) (hpe := fun t h => pe_bm PySem.F.plainAttrs_list PySem.F.slot_list_append PySem.F.type_list_append mt_append (pe_var (i := 2) rfl (by first | exact Or.inl rfl | exact Or.inr (Or.inl rfl) | exact Or.inr (Or.inr rfl)) (by decide) (by decide)) h)) (vs_cons (vs_set_ (ps (ps (ps pz))) rfl sc_led_on.nd (vd_call (d_in_either T) hgd (rm hr) (va_cons (ve_var (gs (gs (gs gz)))) (va_cons (vo_ix ix_tup o_ix1 re_mono (vo_ix ix_list o_lIx rl_mono (VE.l (ve_var gz)) (VE.unw (ve_var (gs (gs (gs (gs gz))))))) ve_int) va_nil)))) (vs_cons (vs_set_ (ps (ps (ps (ps pz)))) rfl sc_led_on.nd (vd_call (d_first_brokenL T) hgd (rm hr) (va_cons (ve_var gz) (va_cons (ve_var (gs (gs (gs gz)))) va_nil)))) (vs_nil wid))))) (vs_cons (vs_ret (ve_pair (va_cons (ve_tupO (os (os oz)) rfl T.b_tuple) (va_cons (ve_var (gs (gs (gs gz)))) va_nil)))) (vs_nil (wid (Γ := Unit)))))))))⟩
def m_led_onL := P_led_onL.1
theorem d_led_onL {P : Program} {w : World} {K : PySem.W.Frag} {mg : Str → Option Value} {base : Heap} (T : Top K mg) : Df P w K mg base "led_on" (topS 39) 4 ["book", "lot"] (spF K m_led_onL) := P_led_onL.2 T
theorem sc_pieces : FnScope ["closer", "some", "both_ways", "lead", "thing"] ["closer"] (defScope (topS 46)) := ⟨rfl, rfl, rfl, by decide +kernel, rfl, by decide +kernel, by decide +kernel⟩
theorem kb_pieces_closer : KbF "pieces" (topS 46) ["closer"] ["closer"] 0 [0] := fun kV doc pm an cdv ct us ws h1 h2 => match us, ws, h1, h2 with | [], [_], _, _ => rfl
def P_pieces : { m : Clo×Unit → Option (Tup Str) // ∀ {P : Program} {w : World} {K : PySem.W.Frag} {mg : Str → Option Value} {base : Heap}, Top K mg → Df P w K mg base "pieces" (topS 46) 7 ["closer"] (spF K m) } :=
  ⟨_, fun {P w K mg base} T => df_F T.f_pieces sc_pieces (ic (ia (ia (ia (ia i0))))) (fun cdv A outer s H f hgd hr => (vs_cons (vs_ex (vd_call (d_check_closer T) hgd (rm hr) (va_cons (ve_var gz) va_nil))) (vs_cons (vs_set_ (ps pz) rfl sc_pieces.nd (vd_call (d_leads_of T) hgd (rm hr) (va_cons (ve_var gz) va_nil))) (vs_cons (vs_set_ (ps (ps pz)) rfl sc_pieces.nd (VF.up (vo_op op_cat o_lCat rl_mono (VE.l (VF.up (vf_lc_ (ps (ps (ps pz))) rfl rfl sc_pieces.nd (vi_tup (ve_var (gs gz))) (by rfl) (fun _ _ _ _ _ => pg_name (i := 3) sc_pieces.nd rfl (by first | exact Or.inl rfl | exact Or.inr rfl)) (fun _ _ _ _ _ => vts_nil) (fun _ _ _ _ _ => (ve_pair (va_cons (vo_ix ix_str o_sIx re_mono (ve_var (gs (gs (gs gz)))) ve_int) (va_cons (vo_ix ix_str o_sIx re_mono (ve_var (gs (gs (gs gz)))) ve_int) va_nil))))))) (VE.l (VF.up (vf_lc_ (ps (ps (ps pz))) rfl rfl sc_pieces.nd (vi_tup (ve_var (gs gz))) (by rfl) (fun _ _ _ _ _ => pg_name (i := 3) sc_pieces.nd rfl (by first | exact Or.inl rfl | exact Or.inr rfl)) (fun _ _ _ _ _ => vts_nil) (fun _ _ _ _ _ => (ve_pair (va_cons (vo_ix ix_str o_sIx re_mono (ve_var (gs (gs (gs gz)))) ve_int) (va_cons (vo_ix ix_str o_sIx re_mono (ve_var (gs (gs (gs gz)))) ve_int) va_nil)))))))))) (vs_cons (vs_ret (vo_bty call_tuple_of o_tupL (va_cons (VF.up (vf_ssC (ps (ps (ps (ps pz)))) rfl rfl sc_pieces.nd (un64 hr) T.b_sorted (vi_str (vd_prop (d_Closer_things T) hgd (rm hr) (ve_var gz))) (by rfl) (fun _ _ _ _ _ => pg_name (i := 4) sc_pieces.nd rfl (by first | exact Or.inl rfl | exact Or.inr rfl)) (fun _ _ _ _ _ => vts_nil) (fun _ _ _ _ _ => (vo_ix ix_tup o_ix1 re_mono (vd_call (d_led_onL T) hgd (rm hr) (va_cons (ve_var (gs (gs gz))) (va_cons (ve_var (gs (gs (gs (gs gz))))) va_nil))) ve_int)))) va_nil) T.b_tuple)) (vs_nil (wid (Γ := Unit))))))))⟩
def m_pieces := P_pieces.1
theorem d_pieces {P : Program} {w : World} {K : PySem.W.Frag} {mg : Str → Option Value} {base : Heap} (T : Top K mg) : Df P w K mg base "pieces" (topS 46) 7 ["closer"] (spF K m_pieces) := P_pieces.2 T
theorem sc__law_brew : FnScope ["_law_cells", "_law_k", "_law_cell", "_law_mixed", "_law_each"] ["_law_cells", "_law_k"] (defScope (topS 48)) := ⟨rfl, rfl, rfl, by decide +kernel, rfl, by decide +kernel, by decide +kernel⟩
def P__law_brew : { m : Scr×Int×Unit → Option (List Int) // ∀ {P : Program} {w : World} {K : PySem.W.Frag} {mg : Str → Option Value} {base : Heap}, Top K mg → Df P w K mg base "_law_brew" (topS 48) 1 ["_law_cells", "_law_k"] (spN K m) } :=
  ⟨_, fun {P w K mg base} T => df_N T.f__law_brew sc__law_brew (ic (ic (ia (ia (ia i0))))) (fun cdv A outer s H f hgd hr => (vs_cons (vs_set_ (ps (ps pz)) rfl sc__law_brew.nd (vo_if (vt_cmp op_lt o_iLt re_mono (ve_var (gs gz)) (vo_blt call_len o_lenC (va_cons (ve_var gz) va_nil) T.b_len) rfl) (vo_bty call_int1 o_int (va_cons (vo_ix ix_list o_cIx re_mono (ve_var gz) (ve_var (gs gz))) va_nil) T.b_int) (vo_op op_add o_iAdd re_mono (vo_op op_mul o_iMul re_mono ve_int (ve_var (gs gz))) ve_int))) (vs_cons (vs_set_ (ps (ps (ps pz))) rfl sc__law_brew.nd (vo_op op_add o_iAdd re_mono ve_int (vo_op op_mul o_iMul re_mono ve_int (ve_var (gs gz))))) (vs_cons (vs_forn wid (ps (ps (ps (ps pz)))) rfl PassesOwn.never rfl (vi_list (VF.up (vo_op op_cat o_lCat rl_mono (VE.l (VF.up (vf_scrTo (ve_var gz) ve_int))) (VE.l (VF.up (vf_lst (vls_cons (ve_var (gs (gs gz))) vls_nil))))))) (pg_name (i := 4) sc__law_brew.nd rfl (by first | exact Or.inl rfl | exact Or.inr rfl)) (vs_cons (vs_set_ (ps (ps (ps pz))) rfl sc__law_brew.nd (vo_op op_mod o_iMod re_mono (vo_bty call_int1 o_int (va_cons (vo_op op_add o_iAdd re_mono (vo_op op_mul o_iMul re_mono (ve_var (gs (gs (gs gz)))) ve_int) (vo_bty call_int1 o_int (va_cons (ve_var (gs (gs (gs (gs gz))))) va_nil) T.b_int)) va_nil) T.b_int) ve_int)) (vs_nil (wk (wk (wk (wk (wa wn)))))))) (vs_cons (vs_ret (vf_lst (vls_cons (vo_if (vw_t (vw_or (vt_cmp op_lt o_iLt re_mono (ve_var (gs (gs gz))) ve_int rfl) (vw_or1 (vt_cmp op_ge o_iGe re_mono (ve_var (gs (gs gz))) (vo_op op_pow o_iPow re_mono ve_int ve_int) rfl)))) (vo_blt call_abs o_abs (va_cons (ve_var (gs (gs gz))) va_nil) T.b_abs) ve_int) (vls_cons (ve_var (gs (gs (gs gz)))) (vls_cons ve_int vls_nil))))) (vs_nil (wid (Γ := Unit))))))))⟩
def m__law_brew := P__law_brew.1
theorem d__law_brew {P : Program} {w : World} {K : PySem.W.Frag} {mg : Str → Option Value} {base : Heap} (T : Top K mg) : Df P w K mg base "_law_brew" (topS 48) 1 ["_law_cells", "_law_k"] (spN K m__law_brew) := P__law_brew.2 T
theorem sc__law_tap : FnScope ["_law_brew_here", "_law_top", "_law_old", "_law_figure"] ["_law_brew_here", "_law_top"] (defScope (topS 49)) := ⟨rfl, rfl, rfl, by decide +kernel, rfl, by decide +kernel, by decide +kernel⟩
def P__law_tap : { m : List Int → Int×Unit → Option (Int × List Int) // ∀ {P : Program} {w : World} {K : PySem.W.Frag} {mg : Str → Option Value} {base : Heap}, Top K mg → Df P w K mg base "_law_tap" (topS 49) 1 ["_law_brew_here", "_law_top"] (spM K m) } :=
  ⟨_, fun {P w K mg base} T => df_M T.f__law_tap sc__law_tap (ic (ia (ia i0))) (fun cdv A outer s H f hgd hr => (vs_cons (vs_set1_ oz rfl (vo_op op_add o_iAdd re_mono (vo_ix ix_list o_lIx rl_mono (vl_own oz) ve_int) ve_int) ve_int) (vs_cons (vs_set_ (ps (ps pz)) rfl sc__law_tap.nd (vo_bty call_int1 o_int (va_cons (vo_ix ix_list o_lIx rl_mono (vl_own oz) ve_int) va_nil) T.b_int)) (vs_cons (vs_set1_ oz rfl (vo_op op_mod o_iMod re_mono (vo_bty call_int1 o_int (va_cons (vo_op op_add o_iAdd re_mono (vo_op op_add o_iAdd re_mono (vo_op op_mul o_iMul re_mono (ve_var (gs (gs gz))) (vo_op op_add o_iAdd re_mono (vo_op op_mod o_iMod re_mono (vo_bty call_int1 o_int (va_cons (ve_var (gs (gs gz))) va_nil) T.b_int) ve_int) ve_int)) (vo_op op_mul o_iMul re_mono ve_int (vo_ix ix_list o_lIx rl_mono (vl_own oz) ve_int))) ve_int) va_nil) T.b_int) ve_int) ve_int) (vs_cons (vs_if (vt_cmp op_gt o_iGt re_mono (vo_ix ix_list o_lIx rl_mono (vl_own oz) ve_int) ve_int rfl) (vs_cons (vs_dm_ oz (ps (ps (ps pz))) rfl rfl sc__law_tap.nd (va_cons (vo_ix ix_list o_lIx rl_mono (vl_own oz) ve_int) (va_cons (ve_var (gs gz)) va_nil)) T.b_divmod) (vs_cons (vs_ret (ve_var (gs (gs (gs gz))))) (vs_nil wid))) (vs_nil wid)) (vs_cons (vs_ret (vo_op op_mod o_iMod re_mono (vo_bty call_int1 o_int (va_cons (vo_op op_fdiv o_iDiv re_mono (vo_ix ix_list o_lIx rl_mono (vl_own oz) ve_int) ve_int) va_nil) T.b_int) (ve_var (gs gz)))) (vs_nil (wid (Γ := Unit)))))))))⟩
def m__law_tap := P__law_tap.1
theorem d__law_tap {P : Program} {w : World} {K : PySem.W.Frag} {mg : Str → Option Value} {base : Heap} (T : Top K mg) : Df P w K mg base "_law_tap" (topS 49) 1 ["_law_brew_here", "_law_top"] (spM K m__law_tap) := P__law_tap.2 T
theorem sc__law_of : FnScope ["_law_brew_here", "_law_menu"] ["_law_brew_here", "_law_menu"] (defScope (topS 50)) := ⟨rfl, rfl, rfl, by decide +kernel, rfl, by decide +kernel, by decide +kernel⟩
def P__law_of : { m : List Int → Str×Unit → Option (Str × List Int) // ∀ {P : Program} {w : World} {K : PySem.W.Frag} {mg : Str → Option Value} {base : Heap}, Top K mg → Df P w K mg base "_law_of" (topS 50) 2 ["_law_brew_here", "_law_menu"] (spM K m) } :=
  ⟨_, fun {P w K mg base} T => df_M T.f__law_of sc__law_of (ic i0) (fun cdv A outer s H f hgd hr => (vs_cons (vs_retM (mo_ix ix_str o_sIx re_mmono (vo_up (ve_var (gs gz))) (md_draw (d__law_tap T) hgd (rm hr) (pe_var (i := 0) rfl (by first | exact Or.inl rfl | exact Or.inr (Or.inl rfl) | exact Or.inr (Or.inr rfl)) (by decide) (by decide)) (va_up (va_cons (vo_blt call_len o_lenS (va_cons (ve_var (gs gz)) va_nil) T.b_len) va_nil))))) (vs_nil (wid (Γ := Unit)))))⟩
def m__law_of := P__law_of.1
theorem d__law_of {P : Program} {w : World} {K : PySem.W.Frag} {mg : Str → Option Value} {base : Heap} (T : Top K mg) : Df P w K mg base "_law_of" (topS 50) 2 ["_law_brew_here", "_law_menu"] (spM K m__law_of) := P__law_of.2 T
theorem sc__law_is_in : FnScope ["_law_pack_here", "_law_more", "_law_each"] ["_law_pack_here", "_law_more"] (defScope (topS 51)) := ⟨rfl, rfl, rfl, by decide +kernel, rfl, by decide +kernel, by decide +kernel⟩
def P__law_is_in : { m : Str×Str×Unit → Option Bool // ∀ {P : Program} {w : World} {K : PySem.W.Frag} {mg : Str → Option Value} {base : Heap}, Top K mg → Df P w K mg base "_law_is_in" (topS 51) 1 ["_law_pack_here", "_law_more"] (spF K m) } :=
  ⟨_, fun {P w K mg base} T => df_F T.f__law_is_in sc__law_is_in (ic (ic (ia i0))) (fun cdv A outer s H f hgd hr => (vs_cons (vs_ret (vo_blt (cr_all rfl) o_allB (va_cons (VF.up (vf_lc_ (ps (ps pz)) rfl rfl sc__law_is_in.nd (vi_str (ve_var gz)) (by rfl) (fun _ _ _ _ _ => pg_name (i := 2) sc__law_is_in.nd rfl (by first | exact Or.inl rfl | exact Or.inr rfl)) (fun _ _ _ _ _ => vts_nil) (fun _ _ _ _ _ => (vo_cmp op_in_sign o_sIn re_mono (ve_var (gs (gs gz))) (ve_var (gs gz)) rfl)))) va_nil) T.b_all)) (vs_nil (wid (Γ := Unit)))))⟩
def m__law_is_in := P__law_is_in.1
theorem d__law_is_in {P : Program} {w : World} {K : PySem.W.Frag} {mg : Str → Option Value} {base : Heap} (T : Top K mg) : Df P w K mg base "_law_is_in" (topS 51) 1 ["_law_pack_here", "_law_more"] (spF K m__law_is_in) := P__law_is_in.2 T
theorem sc__law_both : FnScope ["_law_pack_here", "_law_more", "_law_each"] ["_law_pack_here", "_law_more"] (defScope (topS 52)) := ⟨rfl, rfl, rfl, by decide +kernel, rfl, by decide +kernel, by decide +kernel⟩
def P__law_both : { m : Str×Str×Unit → Option Str // ∀ {P : Program} {w : World} {K : PySem.W.Frag} {mg : Str → Option Value} {base : Heap}, Top K mg → Df P w K mg base "_law_both" (topS 52) 1 ["_law_pack_here", "_law_more"] (spF K m) } :=
  ⟨_, fun {P w K mg base} T => df_F T.f__law_both sc__law_both (ic (ic (ia i0))) (fun cdv A outer s H f hgd hr => (vs_cons (vs_ret (ve_join ve_str (VF.up (vf_lc_ (ps (ps pz)) rfl rfl sc__law_both.nd (vi_str (ve_var gz)) (by rfl) (fun _ _ _ _ _ => pg_name (i := 2) sc__law_both.nd rfl (by first | exact Or.inl rfl | exact Or.inr rfl)) (fun _ _ _ _ _ => (vts_one (vt_cmp op_in_sign o_sIn re_mono (ve_var (gs (gs gz))) (ve_var (gs gz)) rfl))) (fun _ _ _ _ _ => (ve_var (gs (gs gz)))))))) (vs_nil (wid (Γ := Unit)))))⟩
def m__law_both := P__law_both.1
theorem d__law_both {P : Program} {w : World} {K : PySem.W.Frag} {mg : Str → Option Value} {base : Heap} (T : Top K mg) : Df P w K mg base "_law_both" (topS 52) 1 ["_law_pack_here", "_law_more"] (spF K m__law_both) := P__law_both.2 T
theorem sc__law_left : FnScope ["_law_crew_here", "_law_pack_here", "_law_each"] ["_law_crew_here", "_law_pack_here"] (defScope (topS 53)) := ⟨rfl, rfl, rfl, by decide +kernel, rfl, by decide +kernel, by decide +kernel⟩
def P__law_left : { m : Str×Str×Unit → Option Str // ∀ {P : Program} {w : World} {K : PySem.W.Frag} {mg : Str → Option Value} {base : Heap}, Top K mg → Df P w K mg base "_law_left" (topS 53) 1 ["_law_crew_here", "_law_pack_here"] (spF K m) } :=
  ⟨_, fun {P w K mg base} T => df_F T.f__law_left sc__law_left (ic (ic (ia i0))) (fun cdv A outer s H f hgd hr => (vs_cons (vs_ret (ve_join ve_str (VF.up (vf_lc_ (ps (ps pz)) rfl rfl sc__law_left.nd (vi_str (ve_var gz)) (by rfl) (fun _ _ _ _ _ => pg_name (i := 2) sc__law_left.nd rfl (by first | exact Or.inl rfl | exact Or.inr rfl)) (fun _ _ _ _ _ => (vts_one (vt_cmp op_notIn_sign o_sNotIn re_mono (ve_var (gs (gs gz))) (ve_var (gs gz)) rfl))) (fun _ _ _ _ _ => (ve_var (gs (gs gz)))))))) (vs_nil (wid (Γ := Unit)))))⟩
def m__law_left := P__law_left.1
theorem d__law_left {P : Program} {w : World} {K : PySem.W.Frag} {mg : Str → Option Value} {base : Heap} (T : Top K mg) : Df P w K mg base "_law_left" (topS 53) 1 ["_law_crew_here", "_law_pack_here"] (spF K m__law_left) := P__law_left.2 T
theorem sc__law_packs : FnScope ["_law_crew_here", "_law_found", "_law_each", "_law_pack_here"] ["_law_crew_here"] (defScope (topS 54)) := ⟨rfl, rfl, rfl, by decide +kernel, rfl, by decide +kernel, by decide +kernel⟩
def P__law_packs : { m : Str×Unit → Option (List Str) // ∀ {P : Program} {w : World} {K : PySem.W.Frag} {mg : Str → Option Value} {base : Heap}, Top K mg → Df P w K mg base "_law_packs" (topS 54) 1 ["_law_crew_here"] (spF K m) } :=
  ⟨_, fun {P w K mg base} T => df_F T.f__law_packs sc__law_packs (ic (ia (ia (ia i0)))) (fun cdv A outer s H f hgd hr => (vs_cons (vs_set_ (ps pz) rfl sc__law_packs.nd (VF.up (vf_lst (vls_cons ve_str vls_nil)))) (vs_cons (vs_forn wid (ps (ps pz)) rfl PassesOwn.never rfl (vi_str (ve_var gz)) (pg_name (i := 2) sc__law_packs.nd rfl (by first | exact Or.inl rfl | exact Or.inr rfl)) (vs_cons (vs_set_ (ps pz) rfl sc__law_packs.nd (VF.up (vo_op op_cat o_lCat rl_mono (VE.l (ve_var (gs gz))) (VE.l (VF.up (vf_lc_ (ps (ps (ps pz))) rfl rfl sc__law_packs.nd (vi_list (ve_var (gs gz))) (by rfl) (fun _ _ _ _ _ => pg_name (i := 3) sc__law_packs.nd rfl (by first | exact Or.inl rfl | exact Or.inr rfl)) (fun _ _ _ _ _ => vts_nil) (fun _ _ _ _ _ => (vo_op op_add_str o_sAdd re_mono (ve_var (gs (gs (gs gz)))) (ve_var (gs (gs gz))))))))))) (vs_nil (wk (wk (wa (wk wn))))))) (vs_cons (vs_ret (VF.up (vo_blt (cr_srt (un64 hr)) o_srtL (va_cons (ve_var (gs gz)) va_nil) T.b_sorted))) (vs_nil (wid (Γ := Unit)))))))⟩
def m__law_packs := P__law_packs.1
theorem d__law_packs {P : Program} {w : World} {K : PySem.W.Frag} {mg : Str → Option Value} {base : Heap} (T : Top K mg) : Df P w K mg base "_law_packs" (topS 54) 1 ["_law_crew_here"] (spF K m__law_packs) := P__law_packs.2 T
theorem sc__law_crew : FnScope ["_law_brew_here", "_law_most", "_law_k", "_law_left_here", "_law_found"] ["_law_brew_here", "_law_most"] (defScope (topS 55)) := ⟨rfl, rfl, rfl, by decide +kernel, rfl, by decide +kernel, by decide +kernel⟩
def P__law_crew : { m : List Int → Int×Unit → Option (Str × List Int) // ∀ {P : Program} {w : World} {K : PySem.W.Frag} {mg : Str → Option Value} {base : Heap}, Top K mg → Df P w K mg base "_law_crew" (topS 55) 2 ["_law_brew_here", "_law_most"] (spM K m) } :=
  ⟨_, fun {P w K mg base} T => df_M T.f__law_crew sc__law_crew (ic (ia (ia (ia i0)))) (fun cdv A outer s H f hgd hr => (vs_cons (vs_new2 (pos' (pos' (pos' poz))) (pos' (pos' (pos' (pos' poz)))) rfl rfl sc__law_crew.nd (vo_bty (call_listS rfl) o_listS (va_cons ve_str va_nil) T.b_list) (vf_lst (vls_nil (α := Str)))) (vs_cons (vs_fornM wid (ps (ps pz)) rfl PassesOwn.never rfl (mi_range1 (mo_op op_add o_iAdd re_mmono (vo_up ve_int) (md_draw (d__law_tap T) hgd (rm hr) (pe_var (i := 0) rfl (by first | exact Or.inl rfl | exact Or.inr (Or.inl rfl) | exact Or.inr (Or.inr rfl)) (by decide) (by decide)) (va_up (va_cons (ve_var (gs gz)) va_nil)))) T.b_range) (pg_name (i := 2) sc__law_crew.nd rfl (by first | exact Or.inl rfl | exact Or.inr rfl)) (vs_cons (vs_app_ (os (os (os (os oz)))) rfl (me_pop (os (os (os oz))) rfl (md_draw (d__law_tap T) hgd (rm hr) (pe_var (i := 0) rfl (by first | exact Or.inl rfl | exact Or.inr (Or.inl rfl) | exact Or.inr (Or.inr rfl)) (by decide) (by decide)) (va_up (va_cons (ve_lenO (os (os (os oz))) rfl T.b_len) va_nil))) (hpe := fun t h => pe_bm PySem.F.plainAttrs_list PySem.F.slot_list_pop PySem.F.type_list_pop mt_popAt (pe_var (i := 3) rfl (by first | exact Or.inl rfl | exact Or.inr (Or.inl rfl) | exact Or.inr (Or.inr rfl)) (by decide) (by decide)) h)) (hpe := fun t h => pe_bm PySem.F.plainAttrs_list PySem.F.slot_list_append PySem.F.type_list_append mt_append (pe_var (i := 4) rfl (by first | exact Or.inl rfl | exact Or.inr (Or.inl rfl) | exact Or.inr (Or.inr rfl)) (by decide) (by decide)) h)) (vs_nil (wk (wk (wa (wk (wk wn)))))))) (vss_frz (fs (fs (fs (fs fz)))) rfl (vs_cons (vs_ret (ve_join ve_str (VF.up (vo_blt (cr_srt (un64 hr)) o_srtL (va_cons (ve_var (gs (gs (gs (gs gz))))) va_nil) T.b_sorted)))) (vs_nil (wid (Γ := Unit))))))))⟩
def m__law_crew := P__law_crew.1
theorem d__law_crew {P : Program} {w : World} {K : PySem.W.Frag} {mg : Str → Option Value} {base : Heap} (T : Top K mg) : Df P w K mg base "_law_crew" (topS 55) 2 ["_law_brew_here", "_law_most"] (spM K m__law_crew) := P__law_crew.2 T
theorem sc__law_pack : FnScope ["_law_brew_here", "_law_crew_here", "_law_each"] ["_law_brew_here", "_law_crew_here"] (defScope (topS 56)) := ⟨rfl, rfl, rfl, by decide +kernel, rfl, by decide +kernel, by decide +kernel⟩
def P__law_pack : { m : List Int → Str×Unit → Option (Str × List Int) // ∀ {P : Program} {w : World} {K : PySem.W.Frag} {mg : Str → Option Value} {base : Heap}, Top K mg → Df P w K mg base "_law_pack" (topS 56) 2 ["_law_brew_here", "_law_crew_here"] (spM K m) } :=
  ⟨_, fun {P w K mg base} T => df_M T.f__law_pack sc__law_pack (ic (ia i0)) (fun cdv A outer s H f hgd hr => (vs_cons (vs_retM (me_join (vo_up ve_str) (mo_keep (mf_lc_ (cs (cs cz)) rfl rfl sc__law_pack.nd (vi_up (vi_str (ve_var (gs gz)))) (by rfl) (fun _ _ _ _ _ => pg_name (i := 2) sc__law_pack.nd rfl (by first | exact Or.inl rfl | exact Or.inr rfl)) (fun _ _ _ _ _ => (mts_one (mt_cmp op_eq o_sEq re_mmono (md_draw (d__law_tap T) hgd (rm hr) (pe_var (i := 0) rfl (by first | exact Or.inl rfl | exact Or.inr (Or.inl rfl) | exact Or.inr (Or.inr rfl)) (by decide) (by decide)) (va_up (va_cons ve_int va_nil))) (vo_up ve_int) rfl))) (fun _ _ _ _ _ => (vo_up (ve_var (gs (gs gz))))))))) (vs_nil (wid (Γ := Unit)))))⟩
def m__law_pack := P__law_pack.1
theorem d__law_pack {P : Program} {w : World} {K : PySem.W.Frag} {mg : Str → Option Value} {base : Heap} (T : Top K mg) : Df P w K mg base "_law_pack" (topS 56) 2 ["_law_brew_here", "_law_crew_here"] (spM K m__law_pack) := P__law_pack.2 T
theorem sc__law_meeting : FnScope ["_law_crew_here", "_law_packs_here", "_law_found", "_law_pack_here", "_law_hall"] ["_law_crew_here", "_law_packs_here"] (defScope (topS 57)) := ⟨rfl, rfl, rfl, by decide +kernel, rfl, by decide +kernel, by decide +kernel⟩
def P__law_meeting : { m : (Str×(List Str)×Unit) → Option (Tup Str) // ∀ {P : Program} {w : World} {K : PySem.W.Frag} {mg : Str → Option Value} {base : Heap}, Top K mg → Df P w K mg base "_law_meeting" (topS 57) 2 ["_law_crew_here", "_law_packs_here"] (spF K m) } :=
  ⟨_, fun {P w K mg base} T => df_F T.f__law_meeting sc__law_meeting (ic (ic (ia (ia (ia i0))))) (fun cdv A outer s H f hgd hr => (vs_cons (vs_set_ (ps (ps pz)) rfl sc__law_meeting.nd (VF.up (vf_lst (vls_cons (ve_var gz) vls_nil)))) (vs_cons (vs_forn wid (ps (ps (ps pz))) rfl PassesOwn.never rfl (vi_list (ve_var (gs gz))) (pg_name (i := 3) sc__law_meeting.nd rfl (by first | exact Or.inl rfl | exact Or.inr rfl)) (vs_cons (vs_set_ (ps (ps pz)) rfl sc__law_meeting.nd (VF.up (vf_ssL rfl (un64 hr) T.b_sorted T.b_set (VE.l (VF.up (vo_op op_cat o_lCat rl_mono (VE.l (ve_var (gs (gs gz)))) (VE.l (VF.up (vf_lc_ (ps (ps (ps (ps pz)))) rfl rfl sc__law_meeting.nd (vi_list (ve_var (gs (gs gz)))) (by rfl) (fun _ _ _ _ _ => pg_name (i := 4) sc__law_meeting.nd rfl (by first | exact Or.inl rfl | exact Or.inr rfl)) (fun _ _ _ _ _ => vts_nil) (fun _ _ _ _ _ => (vd_call (d__law_both T) hgd (rm hr) (va_cons (ve_var (gs (gs (gs (gs gz))))) (va_cons (ve_var (gs (gs (gs gz)))) va_nil))))))))))))) (vs_nil (wk (wk (wk (wa (wk wn)))))))) (vs_cons (vs_ret (vo_bty call_tuple_of o_tupL (va_cons (VF.up (vo_blt (cr_srt (un64 hr)) o_srtL (va_cons (ve_var (gs (gs gz))) va_nil) T.b_sorted)) va_nil) T.b_tuple)) (vs_nil (wid (Γ := Unit)))))))⟩
def m__law_meeting := P__law_meeting.1
theorem d__law_meeting {P : Program} {w : World} {K : PySem.W.Frag} {mg : Str → Option Value} {base : Heap} (T : Top K mg) : Df P w K mg base "_law_meeting" (topS 57) 2 ["_law_crew_here", "_law_packs_here"] (spF K m__law_meeting) := P__law_meeting.2 T
theorem sc__law_drawn_leads : FnScope ["_law_brew_here", "_law_crew_here", "_law_many", "_law_ties", "_law_turn", "_law_z", "_law_x", "_law_y"] ["_law_brew_here", "_law_crew_here", "_law_many"] (defScope (topS 58)) := ⟨rfl, rfl, rfl, by decide +kernel, rfl, by decide +kernel, by decide +kernel⟩
def P__law_drawn_leads : { m : List Int → Str×Int×Unit → Option ((Lk Bool) × List Int) // ∀ {P : Program} {w : World} {K : PySem.W.Frag} {mg : Str → Option Value} {base : Heap}, Top K mg → Df P w K mg base "_law_drawn_leads" (topS 58) 3 ["_law_brew_here", "_law_crew_here", "_law_many"] (spM K m) } :=
  ⟨_, fun {P w K mg base} T => df_M T.f__law_drawn_leads sc__law_drawn_leads (ic (ic (ia (ia (ia (ia (ia i0))))))) (fun cdv A outer s H f hgd hr => (vs_cons (vs_newD0_ (β := Bool) (pds (pds (pds pdz))) rfl sc__law_drawn_leads.nd) (vs_cons (vs_forn wid (ps (ps (ps (ps pz)))) rfl PassesOwn.never rfl (vi_range1 (ve_var (gs (gs gz))) T.b_range) (pg_name (i := 4) sc__law_drawn_leads.nd rfl (by first | exact Or.inl rfl | exact Or.inr rfl)) (vs_cons (vs_par_ (ps (ps (ps (ps (ps (ps pz)))))) (ps (ps (ps (ps (ps (ps (ps pz))))))) rfl rfl sc__law_drawn_leads.nd (ma_cons (md_draw (d__law_of T) hgd (rm hr) (pe_var (i := 0) rfl (by first | exact Or.inl rfl | exact Or.inr (Or.inl rfl) | exact Or.inr (Or.inr rfl)) (by decide) (by decide)) (va_up (va_cons (ve_var (gs gz)) va_nil))) (ma_cons (md_draw (d__law_of T) hgd (rm hr) (pe_var (i := 0) rfl (by first | exact Or.inl rfl | exact Or.inr (Or.inl rfl) | exact Or.inr (Or.inr rfl)) (by decide) (by decide)) (va_up (va_cons (ve_var (gs gz)) va_nil))) (va_up va_nil)))) (vs_cons (vs_if (vt_cmp op_ne o_sNe re_mono (ve_var (gs (gs (gs (gs (gs (gs gz))))))) (ve_var (gs (gs (gs (gs (gs (gs (gs gz)))))))) rfl) (vs_cons (vs_dput_ (ds (ds (ds dz))) rfl (un1 hr) (vo_op op_add_str o_sAdd re_mono (ve_var (gs (gs (gs (gs (gs (gs gz))))))) (ve_var (gs (gs (gs (gs (gs (gs (gs gz))))))))) ve_bl) (vs_nil wid)) (vs_nil wid)) (vs_nil (wk (wk (wk (wk (wa (wk (wa (wa wn)))))))))))) (vs_cons (vs_forn wid (ps (ps (ps (ps (ps pz))))) rfl PassesOwn.never rfl (vi_str (ve_var (gs gz))) (pg_name (i := 5) sc__law_drawn_leads.nd rfl (by first | exact Or.inl rfl | exact Or.inr rfl)) (vs_cons (vs_forn wid (ps (ps (ps (ps (ps (ps pz)))))) rfl PassesOwn.never rfl (vi_str (ve_var (gs gz))) (pg_name (i := 6) sc__law_drawn_leads.nd rfl (by first | exact Or.inl rfl | exact Or.inr rfl)) (vs_cons (vs_forn wid (ps (ps (ps (ps (ps (ps (ps pz))))))) rfl PassesOwn.never rfl (vi_str (ve_var (gs gz))) (pg_name (i := 7) sc__law_drawn_leads.nd rfl (by first | exact Or.inl rfl | exact Or.inr rfl)) (vs_cons (vs_if (vw_t (vw_and (vt_cmp op_ne o_sNe re_mono (ve_var (gs (gs (gs (gs (gs (gs gz))))))) (ve_var (gs (gs (gs (gs (gs (gs (gs gz)))))))) rfl) (vw_and (vt_cmp (op_inT (un1 hr)) o_inOD re_mono (vo_op op_add_str o_sAdd re_mono (ve_var (gs (gs (gs (gs (gs (gs gz))))))) (ve_var (gs (gs (gs (gs (gs gz))))))) (vo_ownD (ds (ds (ds dz)))) rfl) (vw_and1 (vt_cmp (op_inT (un1 hr)) o_inOD re_mono (vo_op op_add_str o_sAdd re_mono (ve_var (gs (gs (gs (gs (gs gz)))))) (ve_var (gs (gs (gs (gs (gs (gs (gs gz))))))))) (vo_ownD (ds (ds (ds dz)))) rfl))))) (vs_cons (vs_dput_ (ds (ds (ds dz))) rfl (un1 hr) (vo_op op_add_str o_sAdd re_mono (ve_var (gs (gs (gs (gs (gs (gs gz))))))) (ve_var (gs (gs (gs (gs (gs (gs (gs gz))))))))) ve_bl) (vs_nil wid)) (vs_nil wid)) (vs_nil (wk (wk (wk (wk (wk (wk (wk (wa wn))))))))))) (vs_nil (wk (wk (wk (wk (wk (wk (wa (wk wn))))))))))) (vs_nil (wk (wk (wk (wk (wk (wa (wk (wk wn))))))))))) (vss_frzL (fds (fds (fds fdz))) rfl (vs_cons (vs_ret (ve_var (gs (gs (gs gz))))) (vs_nil (wid (Γ := Unit)))))))))⟩
def m__law_drawn_leads := P__law_drawn_leads.1
theorem d__law_drawn_leads {P : Program} {w : World} {K : PySem.W.Frag} {mg : Str → Option Value} {base : Heap} (T : Top K mg) : Df P w K mg base "_law_drawn_leads" (topS 58) 3 ["_law_brew_here", "_law_crew_here", "_law_many"] (spM K m__law_drawn_leads) := P__law_drawn_leads.2 T
theorem sc__law_led_halls : FnScope ["_law_crew_here", "_law_ties", "_law_found", "_law_pack_here", "_law_tie"] ["_law_crew_here", "_law_ties"] (defScope (topS 59)) := ⟨rfl, rfl, rfl, by decide +kernel, rfl, by decide +kernel, by decide +kernel⟩
def P__law_led_halls : { m : (Str×(Lk Bool)×Unit) → Option (Tup Str) // ∀ {P : Program} {w : World} {K : PySem.W.Frag} {mg : Str → Option Value} {base : Heap}, Top K mg → Df P w K mg base "_law_led_halls" (topS 59) 2 ["_law_crew_here", "_law_ties"] (spF K m) } :=
  ⟨_, fun {P w K mg base} T => df_F T.f__law_led_halls sc__law_led_halls (ic (ic (ia (ia (ia i0))))) (fun cdv A outer s H f hgd hr => (vs_cons (vs_new_ (pos' (pos' poz)) rfl sc__law_led_halls.nd (vf_lst (vls_nil (α := Str)))) (vs_cons (vs_forn wid (ps (ps (ps pz))) rfl PassesOwn.never rfl (vi_list (vd_call (d__law_packs T) hgd (rm hr) (va_cons (ve_var gz) va_nil))) (pg_name (i := 3) sc__law_led_halls.nd rfl (by first | exact Or.inl rfl | exact Or.inr rfl)) (vs_cons (vs_if (vt_cmp (op_eqP (un60 hr)) o_dEq re_mono (VF.up (vf_lc_ (ps (ps (ps (ps pz)))) rfl rfl sc__law_led_halls.nd (vi_lkeys Str (ve_var (gs gz))) (by rfl) (fun _ _ _ _ _ => pg_name (i := 4) sc__law_led_halls.nd rfl (by first | exact Or.inl rfl | exact Or.inr rfl)) (fun _ _ _ _ _ => (vts_one (vw_t (vw_and (vt_cmp op_in_sign o_sIn re_mono (vo_ix ix_str o_sIx re_mono (ve_var (gs (gs (gs (gs gz))))) ve_int) (ve_var (gs (gs (gs gz)))) rfl) (vw_and1 (vt_cmp op_notIn_sign o_sNotIn re_mono (vo_ix ix_str o_sIx re_mono (ve_var (gs (gs (gs (gs gz))))) ve_int) (ve_var (gs (gs (gs gz)))) rfl)))))) (fun _ _ _ _ _ => (ve_var (gs (gs (gs (gs gz)))))))) (VF.up (vf_lst (vls_nil (α := Str)))) rfl) (vs_cons (vs_app_ (os (os oz)) rfl (vo_up (ve_var (gs (gs (gs gz))))) (hpe := fun t h => pe_bm PySem.F.plainAttrs_list PySem.F.slot_list_append PySem.F.type_list_append mt_append (pe_var (i := 2) rfl (by first | exact Or.inl rfl | exact Or.inr (Or.inl rfl) | exact Or.inr (Or.inr rfl)) (by decide) (by decide)) h)) (vs_nil wid)) (vs_nil wid)) (vs_nil (wk (wk (wk (wa (wk wn)))))))) (vs_cons (vs_ret (ve_tupO (os (os oz)) rfl T.b_tuple)) (vs_nil (wid (Γ := Unit)))))))⟩
def m__law_led_halls := P__law_led_halls.1
theorem d__law_led_halls {P : Program} {w : World} {K : PySem.W.Frag} {mg : Str → Option Value} {base : Heap} (T : Top K mg) : Df P w K mg base "_law_led_halls" (topS 59) 2 ["_law_crew_here", "_law_ties"] (spF K m__law_led_halls) := P__law_led_halls.2 T
theorem sc__law_tails : FnScope ["_law_line_here", "_law_k"] ["_law_line_here"] (defScope (topS 60)) := ⟨rfl, rfl, rfl, by decide +kernel, rfl, by decide +kernel, by decide +kernel⟩
def P__law_tails : { m : Str×Unit → Option (List Str) // ∀ {P : Program} {w : World} {K : PySem.W.Frag} {mg : Str → Option Value} {base : Heap}, Top K mg → Df P w K mg base "_law_tails" (topS 60) 1 ["_law_line_here"] (spF K m) } :=
  ⟨_, fun {P w K mg base} T => df_F T.f__law_tails sc__law_tails (ic (ia i0)) (fun cdv A outer s H f hgd hr => (vs_cons (vs_ret (VF.up (vf_lc_ (ps pz) rfl rfl sc__law_tails.nd (vi_range1 (vo_op op_add o_iAdd re_mono (vo_blt call_len o_lenS (va_cons (ve_var gz) va_nil) T.b_len) ve_int) T.b_range) (by rfl) (fun _ _ _ _ _ => pg_name (i := 1) sc__law_tails.nd rfl (by first | exact Or.inl rfl | exact Or.inr rfl)) (fun _ _ _ _ _ => vts_nil) (fun _ _ _ _ _ => (ve_join ve_str (VF.up (vo_blt (cr_srtS rfl (un64 hr)) o_srtS (va_cons (ve_cutSFrom (ve_var gz) (ve_var (gs gz))) va_nil) T.b_sorted))))))) (vs_nil (wid (Γ := Unit)))))⟩
def m__law_tails := P__law_tails.1
theorem d__law_tails {P : Program} {w : World} {K : PySem.W.Frag} {mg : Str → Option Value} {base : Heap} (T : Top K mg) : Df P w K mg base "_law_tails" (topS 60) 1 ["_law_line_here"] (spF K m__law_tails) := P__law_tails.2 T
theorem sc__law_line : FnScope ["_law_brew_here", "_law_crew_here", "_law_k", "_law_left_here", "_law_found"] ["_law_brew_here", "_law_crew_here"] (defScope (topS 61)) := ⟨rfl, rfl, rfl, by decide +kernel, rfl, by decide +kernel, by decide +kernel⟩
def P__law_line : { m : List Int → Str×Unit → Option (Str × List Int) // ∀ {P : Program} {w : World} {K : PySem.W.Frag} {mg : Str → Option Value} {base : Heap}, Top K mg → Df P w K mg base "_law_line" (topS 61) 2 ["_law_brew_here", "_law_crew_here"] (spM K m) } :=
  ⟨_, fun {P w K mg base} T => df_M T.f__law_line sc__law_line (ic (ia (ia (ia i0)))) (fun cdv A outer s H f hgd hr => (vs_cons (vs_parO (pos' (pos' (pos' poz))) (ps (ps (ps (ps pz)))) rfl rfl sc__law_line.nd (vo_bty (call_listS rfl) o_listS (va_cons (ve_var (gs gz)) va_nil) T.b_list) ve_str) (vs_cons (vs_forn wid (ps (ps pz)) rfl PassesOwn.never rfl (vi_range1 (vo_blt call_len o_lenS (va_cons (ve_var (gs gz)) va_nil) T.b_len) T.b_range) (pg_name (i := 2) sc__law_line.nd rfl (by first | exact Or.inl rfl | exact Or.inr rfl)) (vs_cons (vs_setM_ (ps (ps (ps (ps pz)))) rfl sc__law_line.nd (mo_op op_add_str o_sAdd re_mmono (vo_up (ve_var (gs (gs (gs (gs gz)))))) (me_pop (os (os (os oz))) rfl (md_draw (d__law_tap T) hgd (rm hr) (pe_var (i := 0) rfl (by first | exact Or.inl rfl | exact Or.inr (Or.inl rfl) | exact Or.inr (Or.inr rfl)) (by decide) (by decide)) (va_up (va_cons (ve_lenO (os (os (os oz))) rfl T.b_len) va_nil))) (hpe := fun t h => pe_bm PySem.F.plainAttrs_list PySem.F.slot_list_pop PySem.F.type_list_pop mt_popAt (pe_var (i := 3) rfl (by first | exact Or.inl rfl | exact Or.inr (Or.inl rfl) | exact Or.inr (Or.inr rfl)) (by decide) (by decide)) h)))) (vs_nil (wk (wk (wa (wk (wk wn)))))))) (vs_cons (vs_ret (ve_var (gs (gs (gs (gs gz)))))) (vs_nil (wid (Γ := Unit)))))))⟩
def m__law_line := P__law_line.1
theorem d__law_line {P : Program} {w : World} {K : PySem.W.Frag} {mg : Str → Option Value} {base : Heap} (T : Top K mg) : Df P w K mg base "_law_line" (topS 61) 2 ["_law_brew_here", "_law_crew_here"] (spM K m__law_line) := P__law_line.2 T
theorem sc__law_halls : FnScope ["_law_brew_here", "_law_crew_here", "_law_way", "_law_lots_now", "_law_turn", "_law_pairs", "_law_p", "_law_i", "_law_t"] ["_law_brew_here", "_law_crew_here"] (defScope (topS 62)) := ⟨rfl, rfl, rfl, by decide +kernel, rfl, by decide +kernel, by decide +kernel⟩
def P__law_halls : { m : List Int → Str×Unit → Option ((Tup Str) × List Int) // ∀ {P : Program} {w : World} {K : PySem.W.Frag} {mg : Str → Option Value} {base : Heap}, Top K mg → Df P w K mg base "_law_halls" (topS 62) 4 ["_law_brew_here", "_law_crew_here"] (spM K m) } :=
  ⟨_, fun {P w K mg base} T => df_M T.f__law_halls sc__law_halls (ic (ia (ia (ia (ia (ia (ia (ia i0)))))))) (fun cdv A outer s H f hgd hr => (vs_cons (vs_setM_ (ps (ps pz)) rfl sc__law_halls.nd (md_draw (d__law_tap T) hgd (rm hr) (pe_var (i := 0) rfl (by first | exact Or.inl rfl | exact Or.inr (Or.inl rfl) | exact Or.inr (Or.inr rfl)) (by decide) (by decide)) (va_up (va_cons ve_int va_nil)))) (vs_cons (vs_if (vt_cmp op_eq o_sEq re_mono (ve_var (gs (gs gz))) ve_int rfl) (vs_cons (vs_retM (md_call (d__law_meeting T) hgd (rm hr) (ma_cons (vo_up (ve_var (gs gz))) (ma_cons (mo_keep (mf_lc_ (cs (cs (cs (cs cz)))) rfl rfl sc__law_halls.nd (mi_range1 (md_draw (d__law_tap T) hgd (rm hr) (pe_var (i := 0) rfl (by first | exact Or.inl rfl | exact Or.inr (Or.inl rfl) | exact Or.inr (Or.inr rfl)) (by decide) (by decide)) (va_up (va_cons ve_int va_nil))) T.b_range) (by rfl) (fun _ _ _ _ _ => pg_name (i := 4) sc__law_halls.nd rfl (by first | exact Or.inl rfl | exact Or.inr rfl)) (fun _ _ _ _ _ => (vts_up vts_nil)) (fun _ _ _ _ _ => (md_draw (d__law_pack T) hgd (rm hr) (pe_var (i := 0) rfl (by first | exact Or.inl rfl | exact Or.inr (Or.inl rfl) | exact Or.inr (Or.inr rfl)) (by decide) (by decide)) (va_up (va_cons (ve_var (gs gz)) va_nil)))))) (va_up va_nil))))) (vs_nil wid)) (vs_nil wid)) (vs_cons (vs_if (vt_cmp op_lt o_iLt re_mono (ve_var (gs (gs gz))) ve_int rfl) (vs_cons (vs_setM_ (ps (ps (ps (ps (ps pz))))) rfl sc__law_halls.nd (mo_keep (mf_lc_ (cs (cs (cs (cs cz)))) rfl rfl sc__law_halls.nd (mi_range1 (md_draw (d__law_tap T) hgd (rm hr) (pe_var (i := 0) rfl (by first | exact Or.inl rfl | exact Or.inr (Or.inl rfl) | exact Or.inr (Or.inr rfl)) (by decide) (by decide)) (va_up (va_cons ve_int va_nil))) T.b_range) (by rfl) (fun _ _ _ _ _ => pg_name (i := 4) sc__law_halls.nd rfl (by first | exact Or.inl rfl | exact Or.inr rfl)) (fun _ _ _ _ _ => (vts_up vts_nil)) (fun _ _ _ _ _ => (me_pair (ma_cons (md_draw (d__law_pack T) hgd (rm hr) (pe_var (i := 0) rfl (by first | exact Or.inl rfl | exact Or.inr (Or.inl rfl) | exact Or.inr (Or.inr rfl)) (by decide) (by decide)) (va_up (va_cons (ve_var (gs gz)) va_nil))) (ma_cons (md_draw (d__law_of T) hgd (rm hr) (pe_var (i := 0) rfl (by first | exact Or.inl rfl | exact Or.inr (Or.inl rfl) | exact Or.inr (Or.inr rfl)) (by decide) (by decide)) (va_up (va_cons (ve_var (gs gz)) va_nil))) (va_up va_nil)))))))) (vs_cons (vs_ret (vo_bty call_tuple_of o_tupL (va_cons (VF.up (vf_lc_ (ps (ps (ps (ps (ps (ps pz)))))) rfl rfl sc__law_halls.nd (vi_list (vd_call (d__law_packs T) hgd (rm hr) (va_cons (ve_var (gs gz)) va_nil))) (by rfl) (fun _ _ _ _ _ => pg_name (i := 6) sc__law_halls.nd rfl (by first | exact Or.inl rfl | exact Or.inr rfl)) (fun _ _ _ _ _ => (vts_one (vt_cmp (op_eqP (un60 hr)) o_dEq re_mono (VF.up (vf_lcp_ (ps (ps (ps (ps (ps (ps (ps pz))))))) (ps (ps (ps (ps (ps (ps (ps (ps pz)))))))) rfl rfl sc__law_halls.nd (vi_list (ve_var (gs (gs (gs (gs (gs gz))))))) (by rfl) (fun _ _ _ _ _ => pg_tup rfl (pgs_cons (pg_name (i := 7) sc__law_halls.nd rfl (by first | exact Or.inl rfl | exact Or.inr rfl)) (pgs_cons (pg_name (i := 8) sc__law_halls.nd rfl (by first | exact Or.inl rfl | exact Or.inr rfl)) pgs_nil))) (fun _ _ _ _ _ => (vts_one (vw_t (vw_and (vt_val (vd_call (d__law_is_in T) hgd (rm hr) (va_cons (ve_var (gs (gs (gs (gs (gs (gs (gs gz)))))))) (va_cons (ve_var (gs (gs (gs (gs (gs (gs gz))))))) va_nil)))) (vw_and1 (vt_cmp op_notIn_sign o_sNotIn re_mono (ve_var (gs (gs (gs (gs (gs (gs (gs (gs gz))))))))) (ve_var (gs (gs (gs (gs (gs (gs gz))))))) rfl)))))) (fun _ _ _ _ _ => ve_int))) (VF.up (vf_lst (vls_nil (α := Int)))) rfl))) (fun _ _ _ _ _ => (ve_var (gs (gs (gs (gs (gs (gs gz)))))))))) va_nil) T.b_tuple)) (vs_nil wid))) (vs_nil wid)) (vs_cons (vs_if (vt_cmp op_eq o_sEq re_mono (ve_var (gs (gs gz))) ve_int rfl) (vs_cons (vs_retM (md_call (d__law_led_halls T) hgd (rm hr) (ma_cons (vo_up (ve_var (gs gz))) (ma_cons (md_draw (d__law_drawn_leads T) hgd (rm hr) (pe_var (i := 0) rfl (by first | exact Or.inl rfl | exact Or.inr (Or.inl rfl) | exact Or.inr (Or.inr rfl)) (by decide) (by decide)) (ma_cons (vo_up (ve_var (gs gz))) (ma_cons (md_draw (d__law_tap T) hgd (rm hr) (pe_var (i := 0) rfl (by first | exact Or.inl rfl | exact Or.inr (Or.inl rfl) | exact Or.inr (Or.inr rfl)) (by decide) (by decide)) (va_up (va_cons ve_int va_nil))) (va_up va_nil)))) (va_up va_nil))))) (vs_nil wid)) (vs_nil wid)) (vs_cons (vs_set_ (ps (ps (ps pz))) rfl sc__law_halls.nd (VF.up (vf_lst (vls_nil (α := Str))))) (vs_cons (vs_fornM wid (ps (ps (ps (ps pz)))) rfl PassesOwn.never rfl (mi_range1 (mo_op op_add o_iAdd re_mmono (vo_up ve_int) (md_draw (d__law_tap T) hgd (rm hr) (pe_var (i := 0) rfl (by first | exact Or.inl rfl | exact Or.inr (Or.inl rfl) | exact Or.inr (Or.inr rfl)) (by decide) (by decide)) (va_up (va_cons ve_int va_nil)))) T.b_range) (pg_name (i := 4) sc__law_halls.nd rfl (by first | exact Or.inl rfl | exact Or.inr rfl)) (vs_cons (vs_setM_ (ps (ps (ps pz))) rfl sc__law_halls.nd (mo_keep (mo_op op_cat o_lCatE re_mmono (vo_up (ve_var (gs (gs (gs gz))))) (md_call (d__law_tails T) hgd (rm hr) (ma_cons (md_draw (d__law_line T) hgd (rm hr) (pe_var (i := 0) rfl (by first | exact Or.inl rfl | exact Or.inr (Or.inl rfl) | exact Or.inr (Or.inr rfl)) (by decide) (by decide)) (va_up (va_cons (ve_var (gs gz)) va_nil))) (va_up va_nil)))))) (vs_nil (wk (wk (wk (wk (wa (wk (wk (wk (wk wn)))))))))))) (vs_cons (vs_ret (vd_call (d__law_meeting T) hgd (rm hr) (va_cons (ve_var (gs gz)) (va_cons (ve_var (gs (gs (gs gz)))) va_nil)))) (vs_nil (wid (Γ := Unit)))))))))))⟩
def m__law_halls := P__law_halls.1
theorem d__law_halls {P : Program} {w : World} {K : PySem.W.Frag} {mg : Str → Option Value} {base : Heap} (T : Top K mg) : Df P w K mg base "_law_halls" (topS 62) 4 ["_law_brew_here", "_law_crew_here"] (spM K m__law_halls) := P__law_halls.2 T
theorem sc__law_about : FnScope ["_law_halls_here", "_law_pack_here", "_law_hall"] ["_law_halls_here", "_law_pack_here"] (defScope (topS 63)) := ⟨rfl, rfl, rfl, by decide +kernel, rfl, by decide +kernel, by decide +kernel⟩
def P__law_about : { m : ((Tup Str)×Str×Unit) → Option Str // ∀ {P : Program} {w : World} {K : PySem.W.Frag} {mg : Str → Option Value} {base : Heap}, Top K mg → Df P w K mg base "_law_about" (topS 63) 2 ["_law_halls_here", "_law_pack_here"] (spF K m) } :=
  ⟨_, fun {P w K mg base} T => df_F T.f__law_about sc__law_about (ic (ic (ia i0))) (fun cdv A outer s H f hgd hr => (vs_cons (vs_ret (vo_ix ix_tup o_ix1 re_mono (vo_blt (cr_minP alIS nnIS (un64 hr) rfl) o_minP (va_cons (VF.up (vf_lc_ (ps (ps pz)) rfl rfl sc__law_about.nd (vi_tup (ve_var gz)) (by rfl) (fun _ _ _ _ _ => pg_name (i := 2) sc__law_about.nd rfl (by first | exact Or.inl rfl | exact Or.inr rfl)) (fun _ _ _ _ _ => (vts_one (vt_val (vd_call (d__law_is_in T) hgd (rm hr) (va_cons (ve_var (gs gz)) (va_cons (ve_var (gs (gs gz))) va_nil)))))) (fun _ _ _ _ _ => (ve_pair (va_cons (vo_blt call_len o_lenS (va_cons (ve_var (gs (gs gz))) va_nil) T.b_len) (va_cons (ve_var (gs (gs gz))) va_nil)))))) va_nil) T.b_min) ve_int)) (vs_nil (wid (Γ := Unit)))))⟩
def m__law_about := P__law_about.1
theorem d__law_about {P : Program} {w : World} {K : PySem.W.Frag} {mg : Str → Option Value} {base : Heap} (T : Top K mg) : Df P w K mg base "_law_about" (topS 63) 2 ["_law_halls_here", "_law_pack_here"] (spF K m__law_about) := P__law_about.2 T
theorem sc__law_words : FnScope ["_law_crew_here", "_law_halls_here", "_law_pack_here", "_law_turn", "_law_found", "_law_fresh", "_law_later", "_law_each"] ["_law_crew_here", "_law_halls_here", "_law_pack_here"] (defScope (topS 65)) := ⟨rfl, rfl, rfl, by decide +kernel, rfl, by decide +kernel, by decide +kernel⟩
def P__law_words : { m : (Str×(Tup Str)×Str×Unit) → Option (Tup Str) // ∀ {P : Program} {w : World} {K : PySem.W.Frag} {mg : Str → Option Value} {base : Heap}, Top K mg → Df P w K mg base "_law_words" (topS 65) 3 ["_law_crew_here", "_law_halls_here", "_law_pack_here"] (spF K m) } :=
  ⟨_, fun {P w K mg base} T => df_F T.f__law_words sc__law_words (ic (ic (ic (ia (ia (ia (ia (ia i0)))))))) (fun cdv A outer s H f hgd hr => (vs_cons (vs_unp (ps (ps (ps (ps pz)))) (ps (ps (ps (ps (ps pz))))) rfl rfl sc__law_words.nd (ve_pair (va_cons (VF.up (vf_lst (vls_cons (ve_var (gs (gs gz))) vls_nil))) (va_cons (VF.up (vf_lst (vls_cons (ve_var (gs (gs gz))) vls_nil))) va_nil)))) (vs_cons (vs_forn wid (ps (ps (ps pz))) rfl PassesOwn.never rfl (vi_range1 ve_int T.b_range) (pg_name (i := 3) sc__law_words.nd rfl (by first | exact Or.inl rfl | exact Or.inr rfl)) (vs_cons (vs_set_ (ps (ps (ps (ps (ps (ps pz)))))) rfl sc__law_words.nd (VF.up (vo_op op_cat o_lCat rl_mono (VE.l (VF.up (vf_lc_ (ps (ps (ps (ps (ps (ps (ps pz))))))) rfl rfl sc__law_words.nd (vi_list (ve_var (gs (gs (gs (gs (gs gz))))))) (by rfl) (fun _ _ _ _ _ => pg_name (i := 7) sc__law_words.nd rfl (by first | exact Or.inl rfl | exact Or.inr rfl)) (fun _ _ _ _ _ => vts_nil) (fun _ _ _ _ _ => (vd_call (d__law_about T) hgd (rm hr) (va_cons (ve_var (gs gz)) (va_cons (ve_var (gs (gs (gs (gs (gs (gs (gs gz)))))))) va_nil))))))) (VE.l (VF.up (vf_lc_ (ps (ps (ps (ps (ps (ps (ps pz))))))) rfl rfl sc__law_words.nd (vi_list (ve_var (gs (gs (gs (gs (gs gz))))))) (by rfl) (fun _ _ _ _ _ => pg_name (i := 7) sc__law_words.nd rfl (by first | exact Or.inl rfl | exact Or.inr rfl)) (fun _ _ _ _ _ => vts_nil) (fun _ _ _ _ _ => (vd_call (d__law_left T) hgd (rm hr) (va_cons (ve_var gz) (va_cons (ve_var (gs (gs (gs (gs (gs (gs (gs gz)))))))) va_nil)))))))))) (vs_cons (vs_set_ (ps (ps (ps (ps (ps pz))))) rfl sc__law_words.nd (VF.up (vf_ssL rfl (un64 hr) T.b_sorted T.b_set (VE.l (VF.up (vf_lc_ (ps (ps (ps (ps (ps (ps (ps pz))))))) rfl rfl sc__law_words.nd (vi_list (ve_var (gs (gs (gs (gs (gs (gs gz)))))))) (by rfl) (fun _ _ _ _ _ => pg_name (i := 7) sc__law_words.nd rfl (by first | exact Or.inl rfl | exact Or.inr rfl)) (fun _ _ _ _ _ => (vts_one (vt_cmp op_notIn_seq o_lNotIn re_mono (ve_var (gs (gs (gs (gs (gs (gs (gs gz)))))))) (VE.l (ve_var (gs (gs (gs (gs gz)))))) rfl))) (fun _ _ _ _ _ => (ve_var (gs (gs (gs (gs (gs (gs (gs gz))))))))))))))) (vs_cons (vs_set_ (ps (ps (ps (ps pz)))) rfl sc__law_words.nd (VF.up (vo_op op_cat o_lCat rl_mono (VE.l (ve_var (gs (gs (gs (gs gz)))))) (VE.l (ve_var (gs (gs (gs (gs (gs gz)))))))))) (vs_nil (wk (wk (wk (wa (wk (wk (wa (wk wn))))))))))))) (vs_cons (vs_ret (vo_bty call_tuple_of o_tupL (va_cons (VF.up (vo_blt (cr_srt (un64 hr)) o_srtL (va_cons (ve_var (gs (gs (gs (gs gz))))) va_nil) T.b_sorted)) va_nil) T.b_tuple)) (vs_nil (wid (Γ := Unit)))))))⟩
def m__law_words := P__law_words.1
theorem d__law_words {P : Program} {w : World} {K : PySem.W.Frag} {mg : Str → Option Value} {base : Heap} (T : Top K mg) : Df P w K mg base "_law_words" (topS 65) 3 ["_law_crew_here", "_law_halls_here", "_law_pack_here"] (spF K m__law_words) := P__law_words.2 T
theorem sc__law_pieces : FnScope ["_law_crew_here", "_law_ties", "_law_herds", "_law_tie", "_law_near", "_law_herd"] ["_law_crew_here", "_law_ties"] (defScope (topS 66)) := ⟨rfl, rfl, rfl, by decide +kernel, rfl, by decide +kernel, by decide +kernel⟩
def P__law_pieces : { m : (Str×(Tup Str)×Unit) → Option (Tup Str) // ∀ {P : Program} {w : World} {K : PySem.W.Frag} {mg : Str → Option Value} {base : Heap}, Top K mg → Df P w K mg base "_law_pieces" (topS 66) 1 ["_law_crew_here", "_law_ties"] (spF K m) } :=
  ⟨_, fun {P w K mg base} T => df_F T.f__law_pieces sc__law_pieces (ic (ic (ia (ia (ia (ia i0)))))) (fun cdv A outer s H f hgd hr => (vs_cons (vs_set_ (ps (ps pz)) rfl sc__law_pieces.nd (VF.up (vo_bty (call_listS rfl) o_listS (va_cons (ve_var gz) va_nil) T.b_list))) (vs_cons (vs_forn wid (ps (ps (ps pz))) rfl PassesOwn.never rfl (vi_tup (ve_var (gs gz))) (pg_name (i := 3) sc__law_pieces.nd rfl (by first | exact Or.inl rfl | exact Or.inr rfl)) (vs_cons (vs_set_ (ps (ps (ps (ps pz)))) rfl sc__law_pieces.nd (VF.up (vf_lc_ (ps (ps (ps (ps (ps pz))))) rfl rfl sc__law_pieces.nd (vi_list (ve_var (gs (gs gz)))) (by rfl) (fun _ _ _ _ _ => pg_name (i := 5) sc__law_pieces.nd rfl (by first | exact Or.inl rfl | exact Or.inr rfl)) (fun _ _ _ _ _ => (vts_one (vw_t (vw_or (vt_cmp op_in_sign o_sIn re_mono (vo_ix ix_str o_sIx re_mono (ve_var (gs (gs (gs gz)))) ve_int) (ve_var (gs (gs (gs (gs (gs gz)))))) rfl) (vw_or1 (vt_cmp op_in_sign o_sIn re_mono (vo_ix ix_str o_sIx re_mono (ve_var (gs (gs (gs gz)))) ve_int) (ve_var (gs (gs (gs (gs (gs gz)))))) rfl)))))) (fun _ _ _ _ _ => (ve_var (gs (gs (gs (gs (gs gz)))))))))) (vs_cons (vs_set_ (ps (ps pz)) rfl sc__law_pieces.nd (VF.up (vo_op op_cat o_lCat rl_mono (VE.l (VF.up (vf_lc_ (ps (ps (ps (ps (ps pz))))) rfl rfl sc__law_pieces.nd (vi_list (ve_var (gs (gs gz)))) (by rfl) (fun _ _ _ _ _ => pg_name (i := 5) sc__law_pieces.nd rfl (by first | exact Or.inl rfl | exact Or.inr rfl)) (fun _ _ _ _ _ => (vts_one (vt_cmp op_notIn_seq o_lNotIn re_mono (ve_var (gs (gs (gs (gs (gs gz)))))) (VE.l (ve_var (gs (gs (gs (gs gz)))))) rfl))) (fun _ _ _ _ _ => (ve_var (gs (gs (gs (gs (gs gz)))))))))) (VE.l (VF.up (vf_lst (vls_cons (ve_join ve_str (VF.up (vo_blt (cr_srtS rfl (un64 hr)) o_srtS (va_cons (ve_join ve_str (ve_var (gs (gs (gs (gs gz)))))) va_nil) T.b_sorted))) vls_nil))))))) (vs_nil (wk (wk (wk (wa (wa (wk wn)))))))))) (vs_cons (vs_ret (vo_bty call_tuple_of o_tupL (va_cons (VF.up (vo_blt (cr_srt (un64 hr)) o_srtL (va_cons (ve_var (gs (gs gz))) va_nil) T.b_sorted)) va_nil) T.b_tuple)) (vs_nil (wid (Γ := Unit)))))))⟩
def m__law_pieces := P__law_pieces.1
theorem d__law_pieces {P : Program} {w : World} {K : PySem.W.Frag} {mg : Str → Option Value} {base : Heap} (T : Top K mg) : Df P w K mg base "_law_pieces" (topS 66) 1 ["_law_crew_here", "_law_ties"] (spF K m__law_pieces) := P__law_pieces.2 T
theorem sc__law_is_among : FnScope ["_law_some_now", "_law_more", "_law_each"] ["_law_some_now", "_law_more"] (defScope (topS 68)) := ⟨rfl, rfl, rfl, by decide +kernel, rfl, by decide +kernel, by decide +kernel⟩
def P__law_is_among : { m : ((Tup Str)×(Tup Str)×Unit) → Option Bool // ∀ {P : Program} {w : World} {K : PySem.W.Frag} {mg : Str → Option Value} {base : Heap}, Top K mg → Df P w K mg base "_law_is_among" (topS 68) 1 ["_law_some_now", "_law_more"] (spF K m) } :=
  ⟨_, fun {P w K mg base} T => df_F T.f__law_is_among sc__law_is_among (ic (ic (ia i0))) (fun cdv A outer s H f hgd hr => (vs_cons (vs_ret (vo_cmp (op_eqP (un60 hr)) o_dEq re_mono (VF.up (vf_lc_ (ps (ps pz)) rfl rfl sc__law_is_among.nd (vi_tup (ve_var gz)) (by rfl) (fun _ _ _ _ _ => pg_name (i := 2) sc__law_is_among.nd rfl (by first | exact Or.inl rfl | exact Or.inr rfl)) (fun _ _ _ _ _ => (vts_one (vt_cmp op_notIn_seq o_tNotIn re_mono (ve_var (gs (gs gz))) (ve_var (gs gz)) rfl))) (fun _ _ _ _ _ => (ve_var (gs (gs gz)))))) (VF.up (vf_lst (vls_nil (α := Str)))) rfl)) (vs_nil (wid (Γ := Unit)))))⟩
def m__law_is_among := P__law_is_among.1
theorem d__law_is_among {P : Program} {w : World} {K : PySem.W.Frag} {mg : Str → Option Value} {base : Heap} (T : Top K mg) : Df P w K mg base "_law_is_among" (topS 68) 1 ["_law_some_now", "_law_more"] (spF K m__law_is_among) := P__law_is_among.2 T
theorem sc__law_lot_right : FnScope ["_law_made_now", "_law_crew_here", "_law_halls_here", "_law_pack_here", "_law_within_now", "_law_edge", "_law_due", "_law_told", "_law_each"] ["_law_made_now", "_law_crew_here", "_law_halls_here", "_law_pack_here"] (defScope (topS 67)) := ⟨rfl, rfl, rfl, by decide +kernel, rfl, by decide +kernel, by decide +kernel⟩
def P__law_lot_right : { m : (Clo×Str×(Tup Str)×Str×Unit) → Option Bool // ∀ {P : Program} {w : World} {K : PySem.W.Frag} {mg : Str → Option Value} {base : Heap}, Top K mg → Df P w K mg base "_law_lot_right" (topS 67) 8 ["_law_made_now", "_law_crew_here", "_law_halls_here", "_law_pack_here"] (spF K m) } :=
  ⟨_, fun {P w K mg base} T => df_F T.f__law_lot_right sc__law_lot_right (ic (ic (ic (ic (ia (ia (ia (ia (ia i0))))))))) (fun cdv A outer s H f hgd hr => (vs_cons (vs_set_ (ps (ps (ps (ps pz)))) rfl sc__law_lot_right.nd (vd_call (d__law_left T) hgd (rm hr) (va_cons (ve_var (gs gz)) (va_cons (vd_call (d__law_about T) hgd (rm hr) (va_cons (ve_var (gs (gs gz))) (va_cons (vd_call (d__law_left T) hgd (rm hr) (va_cons (ve_var (gs gz)) (va_cons (ve_var (gs (gs (gs gz)))) va_nil))) va_nil))) va_nil)))) (vs_cons (vs_set_ (ps (ps (ps (ps (ps pz))))) rfl sc__law_lot_right.nd (ve_join ve_str (VF.up (vf_lc_ (ps (ps (ps (ps (ps (ps (ps (ps pz)))))))) rfl rfl sc__law_lot_right.nd (vi_str (vd_call (d__law_about T) hgd (rm hr) (va_cons (ve_var (gs (gs gz))) (va_cons (ve_var (gs (gs (gs gz)))) va_nil)))) (by rfl) (fun _ _ _ _ _ => pg_name (i := 8) sc__law_lot_right.nd rfl (by first | exact Or.inl rfl | exact Or.inr rfl)) (fun _ _ _ _ _ => (vts_one (vt_cmp op_notIn_sign o_sNotIn re_mono (ve_var (gs (gs (gs (gs (gs (gs (gs (gs gz))))))))) (ve_var (gs (gs (gs (gs gz))))) rfl))) (fun _ _ _ _ _ => (ve_var (gs (gs (gs (gs (gs (gs (gs (gs gz)))))))))))))) (vs_cons (vs_if (vt_cmp op_ne o_sNe re_mono (vo_blt (cr_repr hgd (un60 hr)) o_repr (va_cons (VF.up (vf_lst (vls_cons (vd_call (d_inner T) hgd (rm hr) (va_cons (ve_var gz) (va_cons (ve_var (gs (gs (gs gz)))) va_nil))) (vls_cons (vd_callK0 (d_inner T) kA10 hkA10 hgd (rm hr) kb_inner_lot_closer (vk_cons (ve_var (gs (gs (gs gz)))) (vk_cons (ve_var gz) vk_nil))) vls_nil)))) va_nil) T.b_repr) (vo_blt (cr_repr hgd (un60 hr)) o_repr (va_cons (VF.up (vo_op op_rep o_lRep rl_mono (VE.l (VF.up (vf_lst (vls_cons (ve_var (gs (gs (gs (gs gz))))) vls_nil)))) ve_int)) va_nil) T.b_repr) rfl) (vs_cons (vs_ret ve_bl) (vs_nil wid)) (vs_nil wid)) (vs_cons (vs_if (vt_cmp op_ne o_sNe re_mono (vo_blt (cr_repr hgd (un60 hr)) o_repr (va_cons (VF.up (vf_lst (vls_cons (vd_call (d_rim T) hgd (rm hr) (va_cons (ve_var gz) (va_cons (ve_var (gs (gs (gs gz)))) va_nil))) (vls_cons (vd_callK0 (d_rim T) kA10 hkA10 hgd (rm hr) kb_rim_lot_closer (vk_cons (ve_var (gs (gs (gs gz)))) (vk_cons (ve_var gz) vk_nil))) vls_nil)))) va_nil) T.b_repr) (vo_blt (cr_repr hgd (un60 hr)) o_repr (va_cons (VF.up (vo_op op_rep o_lRep rl_mono (VE.l (VF.up (vf_lst (vls_cons (ve_var (gs (gs (gs (gs (gs gz)))))) vls_nil)))) ve_int)) va_nil) T.b_repr) rfl) (vs_cons (vs_ret ve_bl) (vs_nil wid)) (vs_nil wid)) (vs_cons (vs_set_ (ps (ps (ps (ps (ps (ps pz)))))) rfl sc__law_lot_right.nd (vd_call (d__law_words T) hgd (rm hr) (va_cons (ve_var (gs gz)) (va_cons (ve_var (gs (gs gz))) (va_cons (ve_var (gs (gs (gs gz)))) va_nil))))) (vs_cons (vs_set_ (ps (ps (ps (ps (ps (ps (ps pz))))))) rfl sc__law_lot_right.nd (vd_call (d_words T) hgd (rm hr) (va_cons (ve_var gz) (va_cons (ve_var (gs (gs (gs gz)))) va_nil)))) (vs_cons (vs_if (vw_t (vw_or (vt_cmp op_ne o_sNe re_mono (vo_blt (cr_repr hgd (un60 hr)) o_repr (va_cons (VF.up (vf_lst (vls_cons (ve_var (gs (gs (gs (gs (gs (gs (gs gz)))))))) (vls_cons (vd_callK0 (d_words T) kA10 hkA10 hgd (rm hr) kb_words_lot_closer (vk_cons (ve_var (gs (gs (gs gz)))) (vk_cons (ve_var gz) vk_nil))) vls_nil)))) va_nil) T.b_repr) (vo_blt (cr_repr hgd (un60 hr)) o_repr (va_cons (VF.up (vo_op op_rep o_lRep rl_mono (VE.l (VF.up (vf_lst (vls_cons (ve_var (gs (gs (gs (gs (gs (gs gz))))))) vls_nil)))) ve_int)) va_nil) T.b_repr) rfl) (vw_or1 (vt_cmp op_gt o_iGt re_mono (vo_blt call_len o_lenT (va_cons (ve_var (gs (gs (gs (gs (gs (gs (gs gz)))))))) va_nil) T.b_len) ve_int rfl)))) (vs_cons (vs_ret ve_bl) (vs_nil wid)) (vs_nil wid)) (vs_cons (vs_if (vt_cmp op_ne o_sNe re_mono (vd_call (d_inner T) hgd (rm hr) (va_cons (ve_var gz) (va_cons (ve_var (gs (gs (gs gz)))) va_nil))) (vd_call (d_rest T) hgd (rm hr) (va_cons (ve_var (gs gz)) (va_cons (vd_meth (d_Closer_around T) hgd (rm hr) (ve_var gz) (va_cons (vd_call (d_rest T) hgd (rm hr) (va_cons (ve_var (gs gz)) (va_cons (ve_var (gs (gs (gs gz)))) va_nil))) va_nil)) va_nil))) rfl) (vs_cons (vs_ret ve_bl) (vs_nil wid)) (vs_nil wid)) (vs_cons (vs_ret (vo_blt (cr_all rfl) o_allB (va_cons (VF.up (vf_lc_ (ps (ps (ps (ps (ps (ps (ps (ps pz)))))))) rfl rfl sc__law_lot_right.nd (vi_tup (ve_cutTo (ve_var (gs (gs (gs (gs (gs (gs (gs gz)))))))) ve_int)) (by rfl) (fun _ _ _ _ _ => pg_name (i := 8) sc__law_lot_right.nd rfl (by first | exact Or.inl rfl | exact Or.inr rfl)) (fun _ _ _ _ _ => vts_nil) (fun _ _ _ _ _ => (vd_call (d__law_is_among T) hgd (rm hr) (va_cons (vd_call (d_words T) hgd (rm hr) (va_cons (ve_var gz) (va_cons (ve_var (gs (gs (gs (gs (gs (gs (gs (gs gz))))))))) va_nil))) (va_cons (ve_var (gs (gs (gs (gs (gs (gs (gs gz)))))))) va_nil)))))) va_nil) T.b_all)) (vs_nil (wid (Γ := Unit)))))))))))))⟩
def m__law_lot_right := P__law_lot_right.1
theorem d__law_lot_right {P : Program} {w : World} {K : PySem.W.Frag} {mg : Str → Option Value} {base : Heap} (T : Top K mg) : Df P w K mg base "_law_lot_right" (topS 67) 8 ["_law_made_now", "_law_crew_here", "_law_halls_here", "_law_pack_here"] (spF K m__law_lot_right) := P__law_lot_right.2 T
theorem sc__law_leads_of : FnScope ["_law_crew_here", "_law_halls_here", "_law_found", "_law_x", "_law_y"] ["_law_crew_here", "_law_halls_here"] (defScope (topS 64)) := ⟨rfl, rfl, rfl, by decide +kernel, rfl, by decide +kernel, by decide +kernel⟩
def P__law_leads_of : { m : (Str×(Tup Str)×Unit) → Option (Tup Str) // ∀ {P : Program} {w : World} {K : PySem.W.Frag} {mg : Str → Option Value} {base : Heap}, Top K mg → Df P w K mg base "_law_leads_of" (topS 64) 3 ["_law_crew_here", "_law_halls_here"] (spF K m) } :=
  ⟨_, fun {P w K mg base} T => df_F T.f__law_leads_of sc__law_leads_of (ic (ic (ia (ia (ia i0))))) (fun cdv A outer s H f hgd hr => (vs_cons (vs_set_ (ps (ps pz)) rfl sc__law_leads_of.nd (VF.up (vf_lst (vls_nil (α := Str))))) (vs_cons (vs_forn wid (ps (ps (ps pz))) rfl PassesOwn.never rfl (vi_str (ve_var gz)) (pg_name (i := 3) sc__law_leads_of.nd rfl (by first | exact Or.inl rfl | exact Or.inr rfl)) (vs_cons (vs_set_ (ps (ps pz)) rfl sc__law_leads_of.nd (VF.up (vo_op op_cat o_lCat rl_mono (VE.l (ve_var (gs (gs gz)))) (VE.l (VF.up (vf_lc_ (ps (ps (ps (ps pz)))) rfl rfl sc__law_leads_of.nd (vi_str (vd_call (d__law_about T) hgd (rm hr) (va_cons (ve_var (gs gz)) (va_cons (ve_var (gs (gs (gs gz)))) va_nil)))) (by rfl) (fun _ _ _ _ _ => pg_name (i := 4) sc__law_leads_of.nd rfl (by first | exact Or.inl rfl | exact Or.inr rfl)) (fun _ _ _ _ _ => (vts_one (vt_cmp op_ne o_sNe re_mono (ve_var (gs (gs (gs (gs gz))))) (ve_var (gs (gs (gs gz)))) rfl))) (fun _ _ _ _ _ => (vo_op op_add_str o_sAdd re_mono (ve_var (gs (gs (gs gz)))) (ve_var (gs (gs (gs (gs gz))))))))))))) (vs_nil (wk (wk (wk (wa (wk wn)))))))) (vs_cons (vs_ret (vo_bty call_tuple_of o_tupL (va_cons (VF.up (vo_blt (cr_srt (un64 hr)) o_srtL (va_cons (ve_var (gs (gs gz))) va_nil) T.b_sorted)) va_nil) T.b_tuple)) (vs_nil (wid (Γ := Unit)))))))⟩
def m__law_leads_of := P__law_leads_of.1
theorem d__law_leads_of {P : Program} {w : World} {K : PySem.W.Frag} {mg : Str → Option Value} {base : Heap} (T : Top K mg) : Df P w K mg base "_law_leads_of" (topS 64) 3 ["_law_crew_here", "_law_halls_here"] (spF K m__law_leads_of) := P__law_leads_of.2 T
theorem sc__law_right : FnScope ["_law_brew_here", "_law_turn", "_law_crew_here", "_law_halls_here", "_law_pack_here", "_law_made_now", "_law_due"] ["_law_brew_here"] (defScope (topS 69)) := ⟨rfl, rfl, rfl, by decide +kernel, rfl, by decide +kernel, by decide +kernel⟩
def P__law_right : { m : List Int → Unit → Option (Bool × List Int) // ∀ {P : Program} {w : World} {K : PySem.W.Frag} {mg : Str → Option Value} {base : Heap}, Top K mg → Df P w K mg base "_law_right" (topS 69) 9 ["_law_brew_here"] (spM K m) } :=
  ⟨_, fun {P w K mg base} T => df_M T.f__law_right sc__law_right (ia (ia (ia (ia (ia (ia i0)))))) (fun cdv A outer s H f hgd hr => (vs_cons (vs_forn wid (ps pz) rfl PassesOwn.never rfl (vi_range1 ve_int T.b_range) (pg_name (i := 1) sc__law_right.nd rfl (by first | exact Or.inl rfl | exact Or.inr rfl)) (vs_cons (vs_setM_ (ps (ps pz)) rfl sc__law_right.nd (md_draw (d__law_crew T) hgd (rm hr) (pe_var (i := 0) rfl (by first | exact Or.inl rfl | exact Or.inr (Or.inl rfl) | exact Or.inr (Or.inr rfl)) (by decide) (by decide)) (va_up (va_cons ve_int va_nil)))) (vs_cons (vs_setM_ (ps (ps (ps pz))) rfl sc__law_right.nd (md_draw (d__law_halls T) hgd (rm hr) (pe_var (i := 0) rfl (by first | exact Or.inl rfl | exact Or.inr (Or.inl rfl) | exact Or.inr (Or.inr rfl)) (by decide) (by decide)) (va_up (va_cons (ve_var (gs (gs gz))) va_nil)))) (vs_cons (vs_par_ (ps (ps (ps (ps (ps pz))))) (ps (ps (ps (ps (ps (ps pz)))))) rfl rfl sc__law_right.nd (va_up (va_cons (vd_make (d_Closer___init__ T) hgd (rm hr) (va_cons (ve_var (gs (gs gz))) (va_cons (ve_var (gs (gs (gs gz)))) va_nil))) (va_cons (vd_call (d__law_pieces T) hgd (rm hr) (va_cons (ve_var (gs (gs gz))) (va_cons (vd_call (d__law_leads_of T) hgd (rm hr) (va_cons (ve_var (gs (gs gz))) (va_cons (ve_var (gs (gs (gs gz)))) va_nil))) va_nil))) va_nil)))) (vs_cons (vs_if (vt_cmp op_ne o_sNe re_mono (vo_blt (cr_repr hgd (un60 hr)) o_repr (va_cons (VF.up (vf_lst (vls_cons (vd_call (d_pieces T) hgd (rm hr) (va_cons (ve_var (gs (gs (gs (gs (gs gz)))))) va_nil)) (vls_cons (vd_callK0 (d_pieces T) kA0 hkA0 hgd (rm hr) kb_pieces_closer (vk_cons (ve_var (gs (gs (gs (gs (gs gz)))))) vk_nil)) vls_nil)))) va_nil) T.b_repr) (vo_blt (cr_repr hgd (un60 hr)) o_repr (va_cons (VF.up (vo_op op_rep o_lRep rl_mono (VE.l (VF.up (vf_lst (vls_cons (ve_var (gs (gs (gs (gs (gs (gs gz))))))) vls_nil)))) ve_int)) va_nil) T.b_repr) rfl) (vs_cons (vs_ret ve_bl) (vs_nil wid)) (vs_nil wid)) (vs_cons (vs_if (vt_cmp (op_neP (un60 hr)) o_dNe re_mono (VF.up (vo_blt (cr_srtS rfl (un64 hr)) o_srtS (va_cons (ve_joinT ve_str (ve_var (gs (gs (gs (gs (gs (gs gz)))))))) va_nil) T.b_sorted)) (VF.up (vo_bty (call_listS rfl) o_listS (va_cons (ve_var (gs (gs gz))) va_nil) T.b_list)) rfl) (vs_cons (vs_ret ve_bl) (vs_nil wid)) (vs_nil wid)) (vs_cons (vs_forn wid (ps (ps (ps (ps pz)))) rfl PassesOwn.never rfl (vi_list (vd_call (d__law_packs T) hgd (rm hr) (va_cons (ve_var (gs (gs gz))) va_nil))) (pg_name (i := 4) sc__law_right.nd rfl (by first | exact Or.inl rfl | exact Or.inr rfl)) (vs_cons (vs_if (vt_not (vt_val (vd_call (d__law_lot_right T) hgd (rm hr) (va_cons (ve_var (gs (gs (gs (gs (gs gz)))))) (va_cons (ve_var (gs (gs gz))) (va_cons (ve_var (gs (gs (gs gz)))) (va_cons (ve_var (gs (gs (gs (gs gz))))) va_nil))))))) (vs_cons (vs_ret ve_bl) (vs_nil wid)) (vs_nil wid)) (vs_nil (wk (wk (wk (wk (wa (wk (wk wn)))))))))) (vs_nil (wk (wa (wa (wa (wk (wa (wa wn))))))))))))))) (vs_cons (vs_ret ve_bl) (vs_nil (wid (Γ := Unit))))))⟩
def m__law_right := P__law_right.1
theorem d__law_right {P : Program} {w : World} {K : PySem.W.Frag} {mg : Str → Option Value} {base : Heap} (T : Top K mg) : Df P w K mg base "_law_right" (topS 69) 9 ["_law_brew_here"] (spM K m__law_right) := P__law_right.2 T
theorem sc_law : FnScope ["_law_cells", "_law_brews", "_law_k", "_law_brew_here"] ["_law_cells"] (defScope (topS 70)) := ⟨rfl, rfl, rfl, by decide +kernel, rfl, by decide +kernel, by decide +kernel⟩
def P_law : { m : Scr×Unit → Option Bool // ∀ {P : Program} {w : World} {K : PySem.W.Frag} {mg : Str → Option Value} {base : Heap}, Top K mg → Df P w K mg base "law" (topS 70) 10 ["_law_cells"] (spF K m) } :=
  ⟨_, fun {P w K mg base} T => df_F T.f_law sc_law (ic (ia (ia (ia i0)))) (fun cdv A outer s H f hgd hr => (vs_cons (vs_brews (ps (ps pz)) rfl rfl sc_law.nd (vi_range1 (vo_blt (call_max2 rfl) o_max2 (va_cons ve_int (va_cons (vo_blt (call_min2 rfl) o_min2 (va_cons (vo_blt call_len o_lenC (va_cons (ve_var gz) va_nil) T.b_len) (va_cons ve_int va_nil)) T.b_min) va_nil)) T.b_max) T.b_range) (by rfl) (fun _ _ _ _ _ => pg_name (i := 2) sc_law.nd rfl (by first | exact Or.inl rfl | exact Or.inr rfl)) (fun _ _ _ _ _ => (vd_callN (d__law_brew T) hgd (rm hr) (va_cons (ve_var gz) (va_cons (ve_var (gs (gs gz))) va_nil))))) (vs_cons (vs_retM (mo_blt (cr_all rfl) o_allB (ma_cons (mo_keep (mf_brews (ps (ps (ps pz))) (gs (gs (gs gz))) rfl rfl sc_law.nd (by rfl) (fun _ _ _ _ _ => pg_name (i := 3) sc_law.nd rfl (by first | exact Or.inl rfl | exact Or.inr rfl)) (fun _ _ _ _ _ => me_cm (d__law_right T) hgd (rm hr) (gs (gs (gs gz)))))) (va_up va_nil)) T.b_all)) (vs_nil (wid (Γ := Unit))))))⟩
def m_law := P_law.1
theorem d_law {P : Program} {w : World} {K : PySem.W.Frag} {mg : Str → Option Value} {base : Heap} (T : Top K mg) : Df P w K mg base "law" (topS 70) 10 ["_law_cells"] (spF K m_law) := P_law.2 T
end K34
namespace K34
open Vx.Rep (rep)
open Vx.EnvR (er)
open PySem PySem.Spec PyProof.Rows L2 Vx
def S (l : List Nat) : Str := ⟨l.toArray⟩
theorem S_tl (s : Str) : S s.cps.toList = s := by
  cases s
  simp [S]
@[simp] theorem tl_S (l : List Nat) : (S l).cps.toList = l := by simp [S]
@[simp] theorem len_S (l : List Nat) : (S l).length = l.length := by simp [S, Str.length]
theorem S_inj {a b : List Nat} : S a = S b ↔ a = b := by
  constructor
  · intro h
    have := congrArg (fun s : Str => s.cps.toList) h
    simpa using this
  · intro h
    rw [h]
@[simp] theorem S_add (a b : List Nat) : S a ++ S b = S (a ++ b) := by
  show Str.append _ _ = _
  simp [S, Str.append]
theorem signs_S (l : List Nat) : Vx.signs (S l) = l.map fun c => S [c] := by
  simp [Vx.signs, S]
theorem sIn_S (c : Nat) (l : List Nat) : sIn (S [c]) (S l) = some (decide (c ∈ l)) := rfl
theorem sNotIn_S (c : Nat) (l : List Nat) : sNotIn (S [c]) (S l) = some (!decide (c ∈ l)) := rfl
theorem emp : Str.ofString "" = S [] := rfl
theorem join_S (l : List (List Nat)) : Txt.join (S []) (l.map S) = S l.flatten := by
  have e : ∀ l : List (List Nat), Str.join (S []) (l.map S) = S l.flatten := by
    intro l
    induction l with
    | nil => rfl
    | cons a r ih =>
      cases r with
      | nil => simp [Str.join]
      | cons b r =>
        rw [List.map_cons, List.map_cons]
        show S a ++ S [] ++ Str.join (S []) ((b :: r).map S) = _
        rw [ih]
        simp
  rw [TL.join_eq]
  exact e l
theorem sum_one : ∀ l : List Nat, ((l.map fun c => S [c]).map (·.length)).sum = l.length
  | [] => rfl
  | a :: r => by
    have := sum_one r
    simp only [List.map_cons, List.sum_cons, len_S, List.length_cons, List.length_nil] at this ⊢
    omega
theorem flat_one : ∀ l : List Nat, (l.map fun c => [c]).flatten = l
  | [] => rfl
  | a :: r => by
    have := flat_one r
    simp only [List.map_cons, List.flatten_cons, List.singleton_append, this]
theorem jn_S (l : List Nat) (h : l.length ≤ 100000) : jn (Str.ofString "") (l.map fun c => S [c]) = some (S l) := by
  have e : (l.map fun c => S [c]) = (l.map fun c => [c]).map S := by
    rw [List.map_map]
    rfl
  unfold jn
  rw [emp, if_pos (by rw [sum_one]; simpa using h), e, join_S, flat_one]
theorem lcGo_of {τ α : Type} {t : τ → Option Bool} {e : τ → Option α} {T : τ → Bool} {E : τ → α} : ∀ {xs : List τ}, (∀ x ∈ xs, t x = some (T x)) → (∀ x ∈ xs, T x = true → e x = some (E x)) → lcGo t e xs = some ((xs.filter T).map E)
  | [], _, _ => rfl
  | x :: xs, h, k => by
    unfold lcGo
    rw [h x List.mem_cons_self, Option.bind_some, lcGo_of (fun y hy => h y (List.mem_cons_of_mem _ hy)) (fun y hy => k y (List.mem_cons_of_mem _ hy))]
    cases hT : T x with
    | true => simp [k x List.mem_cons_self hT, hT]
    | false => simp [hT]
theorem filter_map_sign (l : List Nat) (p : Nat → Bool) (T : Str → Bool) (h : ∀ c, T (S [c]) = p c) : (l.map fun c => S [c]).filter T = (l.filter p).map fun c => S [c] := by
  induction l with
  | nil => rfl
  | cons a r ih =>
    rw [List.map_cons, List.filter_cons, List.filter_cons, h a]
    cases p a <;> simp [ih]
theorem without_S (a b : List Nat) (h : a.length ≤ 1000) : m_without (S a, S b, ()) = some (S (a.filter fun c => !decide (c ∈ b))) := by
  show runF _ _ = _
  simp only [runF, runU, sseq, Fl.bnd, sret, sset, sif, sex, snever, f1, f2, fv, fc, fif, fand, foor, fnot, fcons, fnil, lcons, lnil, flc, gz, gs, pz, ps, ic, ia, i0, snil, wid, wn, wk, wa, Option.bind_some, Option.map_some, Option.map_map, Function.comp_def, fyes]
  rw [signs_S]
  rw [if_pos (by rw [List.length_map]; omega), lcGo_of (T := fun s => !decide (∃ c ∈ b, s = S [c])) (E := fun s => s)]
  · rw [filter_map_sign a (fun c => !decide (c ∈ b)) _ (fun c => by simp [S_inj])]
    rw [List.map_id', Option.bind_some, jn_S _ (by have := List.length_filter_le (fun c => !decide (c ∈ b)) a; omega)]
    rfl
  · intro s hs
    obtain ⟨c, hc, rfl⟩ := List.mem_map.mp hs
    rw [sNotIn_S]
    simp [S_inj]
  · intro s hs _
    rfl
theorem left_S (a b : List Nat) (h : a.length ≤ 1000) : m__law_left (S a, S b, ()) = some (S (a.filter fun c => !decide (c ∈ b))) := without_S a b h
theorem has_all_S (b a : List Nat) (h : a.length ≤ 1000) : m_has_all (S b, S a, ()) = some (decide (∀ c ∈ a, c ∈ b)) := by
  show runF _ _ = _
  simp only [runF, runU, sseq, Fl.bnd, sret, sset, sif, sex, snever, f1, f2, fv, fc, fif, fand, foor, fnot, fcons, fnil, lcons, lnil, flc, gz, gs, pz, ps, ic, ia, i0, snil, wid, wn, wk, wa, Option.bind_some, Option.map_some, Option.map_map, Function.comp_def, fyes]
  rw [signs_S]
  rw [if_pos (by rw [List.length_map]; omega), lcGo_of (T := fun s => true) (E := fun s => decide (∃ c ∈ b, s = S [c]))]
  · rw [Option.bind_some, Option.bind_some]
    unfold Vx.allB
    simp only [Option.bind_some, Option.map_some]
    congr 1
    rw [Bool.eq_iff_iff]
    simp [S_inj]
  · intro s hs
    rfl
  · intro s hs _
    obtain ⟨c, hc, rfl⟩ := List.mem_map.mp hs
    rw [sIn_S]
    simp [S_inj]
theorem forL_then {τ Γ S ρ β : Type} {step : τ → Γ → Option (Fl Γ S ρ)} {k : Fl Γ S ρ → Option β} {r : Option β} (I : List τ → Γ → Prop) : ∀ {xs : List τ} {γ : Γ}, I xs γ → (∀ x xs γ, I (x :: xs) γ → ∃ γ', step x γ = some (.nx γ') ∧ I xs γ') → (∀ γ', I [] γ' → k (.nx γ') = r) → (forL step xs γ).bind k = r
  | [], γ, h0, _, hk => hk γ h0
  | x :: xs, γ, h0, hs, hk => by
    obtain ⟨γ', e, h1⟩ := hs x xs γ h0
    unfold forL
    rw [e, Option.bind_some]
    exact forL_then I h1 hs hk
structure Word (l : List Nat) : Prop where
  asc : l.Pairwise (· < ·)
  let_ : ∀ c ∈ l, 97 ≤ c ∧ c ≤ 122
theorem lt1 (c d : Nat) : ([c] < [d]) ↔ c < d := by
  rw [List.cons_lt_cons_iff]
  simp
theorem is_letter_S (c : Nat) : m_is_letter (S [c], ()) = some (decide (97 ≤ c ∧ c ≤ 122)) := by
  show runF _ _ = _
  simp only [runF, runU, sseq, Fl.bnd, sret, sset, sif, sex, snever, sfor, f1, f2, fv, fc, fif, fand, foor, fnot, fcons, fnil, fch, lcons, lnil, flc, gz, gs, pz, ps, ic, ia, i0, snil, wid, wn, wk, wa, Option.bind_some, Option.map_some, Option.map_map, Function.comp_def, fyes, Option.bind_assoc]
  have e1 : Str.ofString "a" = S [97] := rfl
  have e2 : Str.ofString "z" = S [122] := rfl
  rw [e1, e2]
  unfold sLe
  simp only [tl_S, lt1, Option.bind_some]
  by_cases h1 : c < 97 <;> by_cases h2 : 122 < c <;> simp [h1, h2] <;> omega
theorem is_word_S (l : List Nat) (h : Word l) : m_is_word (S l, ()) = some true := by
  show runF _ _ = _
  simp only [runF, runU, sseq, Fl.bnd, sret, sset, sif, sex, snever, sfor, f1, f2, fv, fc, fif, fand, foor, fnot, fcons, fnil, fch, lcons, lnil, flc, gz, gs, pz, ps, ic, ia, i0, snil, wid, wn, wk, wa, Option.bind_some, Option.map_some, Option.map_map, Function.comp_def, fyes, Option.bind_assoc]
  simp only [Bool.not_true, Bool.false_eq_true, if_false, Option.bind_some, Option.bind_assoc, signs_S]
  refine forL_then (fun xs γ => ∃ l' a, xs = (l'.map fun c => S [c]) ∧ γ = (S l, S a, ⟨⟩, ()) ∧ Word l' ∧ ∀ c ∈ l', a < [c]) ⟨l, [], rfl, rfl, h, fun c _ => List.nil_lt_cons ..⟩ ?_ ?_
  · rintro x xs γ ⟨l', a, h1, rfl, h3, h4⟩
    cases l' with
    | nil => cases h1
    | cons c r =>
      cases h1
      refine ⟨_, ?_, r, [c], rfl, rfl, ⟨(List.pairwise_cons.mp h3.asc).2, fun d hd => h3.let_ d (List.mem_cons_of_mem _ hd)⟩, fun d hd => (lt1 _ _).mpr ((List.pairwise_cons.mp h3.asc).1 d hd)⟩
      simp only [runF, runU, sseq, Fl.bnd, sret, sset, sif, sex, snever, sfor, f1, f2, fv, fc, fif, fand, foor, fnot, fcons, fnil, fch, lcons, lnil, flc, gz, gs, pz, ps, ic, ia, i0, snil, wid, wn, wk, wa, Option.bind_some, Option.map_some, Option.map_map, Function.comp_def, fyes, Option.bind_assoc]
      have e : sLe (S [c]) (S a) = some false := by
        unfold sLe
        simp [h4 c List.mem_cons_self]
      have e2 := h3.let_ c List.mem_cons_self
      rw [e]
      simp only [Option.bind_some, is_letter_S, e2, and_self, decide_true, Bool.not_true, Bool.false_eq_true, if_false, Option.map_some]
      first | done | rfl
  · rintro γ' ⟨l', a, h1, rfl, h3, h4⟩
    first | done | rfl
theorem is_any_lot_S (l : List Nat) (h : Word l) (hl : l.length ≤ 7) : m_is_any_lot (S l, ()) = some true := by
  show runF _ _ = _
  simp only [runF, runU, sseq, Fl.bnd, sret, sset, sif, sex, snever, sfor, f1, f2, fv, fc, fif, fand, foor, fnot, fcons, fnil, fch, lcons, lnil, flc, gz, gs, pz, ps, ic, ia, i0, snil, wid, wn, wk, wa, Option.bind_some, Option.map_some, Option.map_map, Function.comp_def, fyes, Option.bind_assoc]
  simp only [is_word_S l h, Option.bind_some, if_true, lenS, len_S, if_pos (show l.length ≤ 100000 by omega), iLe]
  simp
  omega
theorem is_things_S (l : List Nat) (h : Word l) (hl : l.length ≤ 7) (h0 : l ≠ []) : m_is_things (S l, ()) = some true := by
  show runF _ _ = _
  simp only [runF, runU, sseq, Fl.bnd, sret, sset, sif, sex, snever, sfor, f1, f2, fv, fc, fif, fand, foor, fnot, fcons, fnil, fch, lcons, lnil, flc, gz, gs, pz, ps, ic, ia, i0, snil, wid, wn, wk, wa, Option.bind_some, Option.map_some, Option.map_map, Function.comp_def, fyes, Option.bind_assoc]
  simp only [is_any_lot_S l h hl, Option.bind_some, if_true, sNe, emp, S_inj]
  simp [h0]
theorem is_lot_S (l a : List Nat) (h : Word a) (ha : ∀ c ∈ a, c ∈ l) (hn : a.length ≤ 1000) : m_is_lot (S l, S a, ()) = some true := by
  show runF _ _ = _
  simp only [runF, runU, sseq, Fl.bnd, sret, sset, sif, sex, snever, sfor, f1, f2, fv, fc, fif, fand, foor, fnot, fcons, fnil, fch, lcons, lnil, flc, gz, gs, pz, ps, ic, ia, i0, snil, wid, wn, wk, wa, Option.bind_some, Option.map_some, Option.map_map, Function.comp_def, fyes, Option.bind_assoc]
  simp only [is_word_S a h, Option.bind_some, if_true, has_all_S l a hn]
  simp
  exact ha
theorem chk_things_S (l : List Nat) (h : Word l) (hl : l.length ≤ 7) (h0 : l ≠ []) : m_check_things (S l, ()) = some () := by
  show runU _ _ = _
  simp only [runF, runU, sseq, Fl.bnd, sret, sset, sif, sex, snever, sfor, f1, f2, fv, fc, fif, fand, foor, fnot, fcons, fnil, fch, lcons, lnil, flc, gz, gs, pz, ps, ic, ia, i0, snil, wid, wn, wk, wa, Option.bind_some, Option.map_some, Option.map_map, Function.comp_def, fyes, Option.bind_assoc]
  simp [is_things_S l h hl h0]
theorem chk_lot_S (l a : List Nat) (h : Word a) (ha : ∀ c ∈ a, c ∈ l) (hn : a.length ≤ 1000) : m_check_lot (S l, S a, ()) = some () := by
  show runU _ _ = _
  simp only [runF, runU, sseq, Fl.bnd, sret, sset, sif, sex, snever, sfor, f1, f2, fv, fc, fif, fand, foor, fnot, fcons, fnil, fch, lcons, lnil, flc, gz, gs, pz, ps, ic, ia, i0, snil, wid, wn, wk, wa, Option.bind_some, Option.map_some, Option.map_map, Function.comp_def, fyes, Option.bind_assoc]
  simp [is_lot_S l a h ha hn]
def sel (l : List Nat) (k : Nat) : List Nat := l.filter fun c => k.testBit (l.idxOf c)
def grow (acc : List (List Nat)) (c : Nat) : List (List Nat) := acc ++ acc.map (· ++ [c])
def subs (l : List Nat) : List (List Nat) := l.foldl grow [[]]
theorem subs_snoc (l : List Nat) (c : Nat) : subs (l ++ [c]) = subs l ++ (subs l).map (· ++ [c]) := by
  unfold subs
  rw [List.foldl_append]
  rfl
theorem sel_snoc_lo (l : List Nat) (c : Nat) (hc : c ∉ l) (k : Nat) (hk : k < 2 ^ l.length) : sel (l ++ [c]) k = sel l k := by
  unfold sel
  rw [List.filter_append]
  have h1 : l.filter (fun d => k.testBit ((l ++ [c]).idxOf d)) = l.filter (fun d => k.testBit (l.idxOf d)) := by
    apply List.filter_congr
    intro d hd
    rw [List.idxOf_append, if_pos hd]
  have h2 : [c].filter (fun d => k.testBit ((l ++ [c]).idxOf d)) = [] := by
    rw [List.filter_cons, List.idxOf_append, if_neg hc]
    have : k.testBit (List.idxOf c [c] + l.length) = false := by
      rw [show List.idxOf c [c] = 0 by simp, Nat.zero_add]
      exact Nat.testBit_lt_two_pow hk
    rw [if_neg (by rw [this]; simp)]
    rfl
  rw [h1, h2, List.append_nil]
theorem sel_snoc_hi (l : List Nat) (c : Nat) (hc : c ∉ l) (k : Nat) (hk : k < 2 ^ l.length) : sel (l ++ [c]) (2 ^ l.length + k) = sel l k ++ [c] := by
  unfold sel
  rw [List.filter_append]
  have h1 : l.filter (fun d => (2 ^ l.length + k).testBit ((l ++ [c]).idxOf d)) = l.filter (fun d => k.testBit (l.idxOf d)) := by
    apply List.filter_congr
    intro d hd
    rw [List.idxOf_append, if_pos hd]
    exact Nat.testBit_two_pow_add_gt (List.idxOf_lt_length_of_mem hd) k
  have h2 : [c].filter (fun d => (2 ^ l.length + k).testBit ((l ++ [c]).idxOf d)) = [c] := by
    rw [List.filter_cons, List.idxOf_append, if_neg hc]
    have : (2 ^ l.length + k).testBit (List.idxOf c [c] + l.length) = true := by
      rw [show List.idxOf c [c] = 0 by simp, Nat.zero_add, Nat.testBit_two_pow_add_eq, Nat.testBit_lt_two_pow hk]
      rfl
    rw [if_pos (by rw [this])]
    rfl
  rw [h1, h2]
theorem subs_sel : ∀ (n : Nat) (l : List Nat), l.length = n → l.Nodup → subs l = (List.range (2 ^ n)).map (sel l)
  | 0, l, hn, _ => by
    have : l = [] := List.length_eq_zero_iff.mp hn
    subst this
    rfl
  | n + 1, l, hn, nd => by
    obtain ⟨r, c, rfl⟩ : ∃ r c, l = r ++ [c] := by
      rcases List.eq_nil_or_concat l with h | ⟨r, c, h⟩
      · rw [h] at hn
        cases hn
      · exact ⟨r, c, by rw [h, List.concat_eq_append]⟩
    have hr : r.length = n := by simpa using hn
    have nd' := List.nodup_append.mp nd
    have hc : c ∉ r := fun h => nd'.2.2 c h c (by simp) rfl
    rw [subs_snoc, subs_sel n r hr nd'.1, Nat.pow_succ, Nat.mul_two, List.range_add, List.map_append, List.map_map, List.map_map]
    congr 1
    · apply List.map_congr_left
      intro k hk
      exact (sel_snoc_lo r c hc k (by rw [hr]; exact List.mem_range.mp hk)).symm
    · apply List.map_congr_left
      intro k hk
      have := sel_snoc_hi r c hc k (by rw [hr]; exact List.mem_range.mp hk)
      rw [hr] at this
      exact this.symm
theorem filt_true {α : Type} (xs : List α) : xs.filter (fun _ => true) = xs := List.filter_eq_self.mpr fun _ _ => rfl
theorem lots_by_number_S (l : List Nat) (hl : l.length ≤ 7) : m_lots_by_number (S l, ()) = some ((subs l).map S) := by
  show runF _ _ = _
  simp only [runF, runU, sseq, Fl.bnd, sret, sset, sif, sex, snever, sfor, f1, f2, fv, fc, fif, fand, foor, fnot, fcons, fnil, fch, lcons, lnil, flc, gz, gs, pz, ps, ic, ia, i0, snil, wid, wn, wk, wa, Option.bind_some, Option.map_some, Option.map_map, Function.comp_def, fyes, Option.bind_assoc]
  simp only [short, List.length_cons, List.length_nil]
  rw [if_pos (by omega)]
  simp only [Option.bind_some, Option.map_some, Option.bind_assoc, signs_S]
  refine forL_then (fun xs γ => ∃ (l' : List Nat) (acc : List (List Nat)), xs = (l'.map fun c => S [c]) ∧ γ = (S l, acc.map S, (⟨⟩ : Any), (⟨⟩ : Any), ()) ∧ l'.foldl grow acc = subs l ∧ acc.length * 2 ^ l'.length ≤ 128 ∧ ∀ s ∈ acc, s.length + l'.length ≤ 7) ⟨l, [[]], rfl, rfl, rfl, ?_, ?_⟩ ?_ ?_
  · have : 2 ^ l.length ≤ 2 ^ 7 := Nat.pow_le_pow_right (by decide) hl
    simpa using this
  · intro s hs
    cases List.mem_singleton.mp hs
    simpa using hl
  · rintro x xs γ ⟨l', acc, h1, rfl, h3, h4, h5⟩
    cases l' with
    | nil => cases h1
    | cons c r =>
      cases h1
      have h6 : acc.length * 2 ^ r.length * 2 ≤ 128 := by
        rw [List.length_cons, Nat.pow_succ, ← Nat.mul_assoc] at h4
        exact h4
      have h7 : acc.length ≤ 128 := by
        have : 0 < 2 ^ r.length := Nat.two_pow_pos _
        have := Nat.le_mul_of_pos_right acc.length this
        omega
      refine ⟨_, ?_, r, grow acc c, rfl, rfl, h3, ?_, ?_⟩
      · simp only [List.length_map]
        rw [if_pos (by omega), lcGo_of (T := fun _ => true) (E := fun s => s ++ S [c])]
        · simp only [Option.bind_some, lCat, List.length_map, filt_true]
          rw [if_pos (by omega)]
          simp only [Option.map_some, Option.bind_some]
          unfold grow
          rw [List.map_append, List.map_map, List.map_map]
          have e : ((fun s => s ++ S [c]) ∘ S) = (S ∘ fun x => x ++ [c]) := by
            funext z
            exact S_add z [c]
          rw [e]
        · intro s _
          rfl
        · intro s hs _
          obtain ⟨z, hz, rfl⟩ := List.mem_map.mp hs
          have := h5 z hz
          unfold sAdd
          rw [if_pos (by simp only [len_S, List.length_cons, List.length_nil] at this ⊢; omega)]
      · unfold grow
        rw [List.length_append, List.length_map, ← Nat.two_mul, Nat.mul_assoc, Nat.mul_comm 2]
        exact h6
      · intro s hs
        unfold grow at hs
        rcases List.mem_append.mp hs with h | h
        · have := h5 s h
          rw [List.length_cons] at this
          omega
        · obtain ⟨z, hz, rfl⟩ := List.mem_map.mp h
          have := h5 z hz
          rw [List.length_cons] at this
          rw [List.length_append, List.length_singleton]
          omega
  · rintro γ' ⟨l', acc, h1, rfl, h3, h4, h5⟩
    have : l' = [] := by
      cases l' with
      | nil => rfl
      | cons => cases h1
    subst this
    show some (acc.map S) = _
    rw [← h3]
    rfl
theorem mem_sel {l : List Nat} {k c : Nat} : c ∈ sel l k ↔ c ∈ l ∧ k.testBit (l.idxOf c) = true := by
  unfold sel
  rw [List.mem_filter]
theorem bit_hi {k n p : Nat} (h : k < 2 ^ n) (hp : n ≤ p) : k.testBit p = false := Nat.testBit_lt_two_pow (Nat.lt_of_lt_of_le h (Nat.pow_le_pow_right (by decide) hp))
theorem bit_sel {l : List Nat} (nd : l.Nodup) {k p : Nat} (hp : p < l.length) : l[p] ∈ sel l k ↔ k.testBit p = true := by
  rw [mem_sel, List.Nodup.idxOf_getElem nd]
  simp
theorem sel_sub {l : List Nat} (nd : l.Nodup) {i j : Nat} (hi : i < 2 ^ l.length) : (∀ c ∈ sel l i, c ∈ sel l j) ↔ i &&& j = i := by
  constructor
  · intro h
    apply Nat.eq_of_testBit_eq
    intro p
    rw [Nat.testBit_and]
    by_cases hp : p < l.length
    · cases hb : i.testBit p with
      | false => rfl
      | true =>
        have := (bit_sel nd hp).mp (h _ ((bit_sel nd hp).mpr hb))
        rw [this]
        rfl
    · rw [bit_hi hi (by omega)]
      rfl
  · intro h c hc
    rw [mem_sel] at hc ⊢
    refine ⟨hc.1, ?_⟩
    have := hc.2
    rw [← h, Nat.testBit_and, Bool.and_eq_true] at this
    exact this.2
theorem sel_inj {l : List Nat} (nd : l.Nodup) {i j : Nat} (hi : i < 2 ^ l.length) (hj : j < 2 ^ l.length) (h : sel l i = sel l j) : i = j := by
  have h1 := (sel_sub nd (j := j) hi).mp (by rw [h]; exact fun _ z => z)
  have h2 := (sel_sub nd (j := i) hj).mp (by rw [h]; exact fun _ z => z)
  rw [← h1, Nat.and_comm, h2]
theorem sel_and (l : List Nat) (i j : Nat) : (sel l i).filter (fun c => decide (c ∈ sel l j)) = sel l (i &&& j) := by
  unfold sel
  rw [List.filter_filter]
  apply List.filter_congr
  intro c hc
  rw [Nat.testBit_and, Bool.eq_iff_iff]
  simp [List.mem_filter, hc, and_comm]
theorem sel_len (l : List Nat) (i : Nat) : (sel l i).length ≤ l.length := List.length_filter_le _ _
theorem enum_map {α β : Type} (f : α → β) : ∀ (xs : List α) (k : Nat), enumF k (xs.map f) = (enumF k xs).map fun t => ⟨t.a, f t.b⟩
  | [], _ => rfl
  | x :: xs, k => by
    show _ :: enumF (k + 1) (xs.map f) = _
    rw [enum_map f xs (k + 1)]
    rfl
theorem enum_range (n : Nat) : ∀ k : Nat, enumF k (List.range' k n) = (List.range' k n).map fun i => ⟨(i : Int), i⟩ := by
  induction n with
  | zero => intro k; rfl
  | succ n ih =>
    intro k
    rw [List.range'_succ]
    show ⟨(k : Int), k⟩ :: enumF (k + 1) (List.range' (k + 1) n) = _
    rw [ih (k + 1)]
    rfl
theorem dcGo_new {τ κ β : Type} [Rep κ] [KeyOf κ] {kf : τ → Option κ} {vf : τ → Option β} {kx : τ → κ} {vx : τ → β} : ∀ (xs : List τ) (d : List (Key × β)), (∀ x ∈ xs, kf x = some (kx x) ∧ vf x = some (vx x)) → (xs.map fun x => KeyOf.key (kx x)).Nodup → (∀ x ∈ xs, ∀ q ∈ d, q.1 ≠ KeyOf.key (kx x)) →
    dcGo kf vf xs d = some (d ++ xs.map fun x => (KeyOf.key (kx x), vx x))
  | [], d, _, _, _ => by simp [dcGo]
  | x :: xs, d, h1, h2, h3 => by
    unfold dcGo
    obtain ⟨e1, e2⟩ := h1 x List.mem_cons_self
    rw [e1, e2, Option.bind_some, Option.bind_some]
    have hp : putB d (KeyOf.key (kx x)) (vx x) = d ++ [(KeyOf.key (kx x), vx x)] := by
      unfold putB
      rw [if_neg]
      intro z
      obtain ⟨q, hq, e⟩ := List.any_eq_true.mp z
      exact h3 x List.mem_cons_self q hq (of_decide_eq_true e)
    rw [List.map_cons, List.nodup_cons] at h2
    rw [hp, dcGo_new xs _ (fun y hy => h1 y (List.mem_cons_of_mem _ hy)) h2.2]
    · simp
    · intro y hy q hq
      rcases List.mem_append.mp hq with h | h
      · exact h3 y (List.mem_cons_of_mem _ hy) q h
      · rw [List.mem_singleton.mp h]
        intro z
        exact h2.1 (List.mem_map.mpr ⟨y, hy, z.symm⟩)
theorem nodup_map {α β : Type} {f : α → β} : ∀ {xs : List α}, xs.Nodup → (∀ a ∈ xs, ∀ b ∈ xs, f a = f b → a = b) → (xs.map f).Nodup
  | [], _, _ => List.nodup_nil
  | x :: xs, h, k => by
    rw [List.nodup_cons] at h
    rw [List.map_cons, List.nodup_cons]
    refine ⟨fun z => ?_, nodup_map h.2 fun a ha b hb => k a (List.mem_cons_of_mem _ ha) b (List.mem_cons_of_mem _ hb)⟩
    obtain ⟨y, hy, e⟩ := List.mem_map.mp z
    have := k y (List.mem_cons_of_mem _ hy) x List.mem_cons_self e
    exact h.1 (this ▸ hy)
structure Lets (l : List Nat) : Prop where
  w : Word l
  n : l.length ≤ 7
  p : l ≠ []
theorem Lets.nd {l : List Nat} (h : Lets l) : l.Nodup := h.w.asc.imp fun h => Nat.ne_of_lt h
theorem lots_S {l : List Nat} (h : Lets l) : m_lots_by_number (S l, ()) = some ((List.range (2 ^ l.length)).map fun k => S (sel l k)) := by
  rw [lots_by_number_S l h.n, subs_sel _ l rfl h.nd, List.map_map]
  rfl
theorem p7 {l : List Nat} (h : Lets l) : 2 ^ l.length ≤ 128 := Nat.pow_le_pow_right (by decide) h.n
def numD (l : List Nat) : List (Key × Int) := (List.range (2 ^ l.length)).map fun k => (Sum.inr (S (sel l k)), (k : Int))
theorem number_by_lot_S {l : List Nat} (h : Lets l) : m_number_by_lot (S l, ()) = some ⟨numD l⟩ := by
  show runF _ _ = _
  simp only [runF, runU, sseq, Fl.bnd, sret, sset, sif, sex, snever, sfor, f1, f2, fv, fc, fif, fand, foor, fnot, fcons, fnil, fch, lcons, lnil, flc, gz, gs, pz, ps, ic, ia, i0, snil, wid, wn, wk, wa, Option.bind_some, Option.map_some, Option.map_map, Function.comp_def, fyes, Option.bind_assoc]
  simp only [lots_S h, Option.bind_some, fdc]
  have e : enumF 0 ((List.range (2 ^ l.length)).map fun k => S (sel l k)) = (List.range (2 ^ l.length)).map fun (k : Nat) => (⟨(k : Int), S (sel l k)⟩ : T2 Int Str) := by
    rw [enum_map, List.range_eq_range', enum_range, List.map_map]
    rfl
  simp only [f1, lots_S h, Option.bind_some, fcons, fnil, fv, e, List.length_map, List.length_range]
  rw [if_pos (by have := p7 h; omega), dcGo_new (kx := fun x => x.b) (vx := fun x => x.a)]
  · simp only [List.nil_append, List.map_map, Option.map_some, Option.bind_some]
    rfl
  · intro x _
    exact ⟨rfl, rfl⟩
  · rw [List.map_map]
    apply nodup_map List.nodup_range
    intro i hi j hj e
    have e2 : S (sel l i) = S (sel l j) := Sum.inr.inj e
    exact sel_inj h.nd (List.mem_range.mp hi) (List.mem_range.mp hj) (S_inj.mp e2)
  · intro x _ q hq
    cases hq
theorem band (a b : Nat) : Builtin.bitAnd (a : Int) (b : Int) = ((a &&& b : Nat) : Int) := by
  unfold Builtin.bitAnd
  rw [decide_eq_true (Int.natCast_nonneg a), decide_eq_true (Int.natCast_nonneg b)]
  rfl
def T (l : List Nat) (F : List Nat) : List Str := F.map fun k => S (sel l k)
def Z (F : List Nat) : List Int := F.map fun (k : Nat) => (k : Int)
theorem valD {l : List Nat} (h : Lets l) {k : Nat} (hk : k < 2 ^ l.length) : valB (numD l) (Sum.inr (S (sel l k))) = some (k : Int) := by
  unfold valB numD
  rw [List.find?_map]
  have e : List.find? ((fun kv : Key × Int => decide (kv.1 = Sum.inr (S (sel l k)))) ∘ fun (k : Nat) => ((Sum.inr (S (sel l k)) : Key), (k : Int))) (List.range (2 ^ l.length)) = some k := by
    rw [List.find?_range_eq_some]
    refine ⟨by simp, List.mem_range.mpr hk, fun j hj => ?_⟩
    simp only [Function.comp_apply, Bool.not_eq_true', decide_eq_false_iff_not]
    intro z
    have := sel_inj h.nd (by omega) hk (S_inj.mp (Sum.inr.inj z))
    omega
  rw [e]
  rfl
theorem numbers_of_S {l : List Nat} (h : Lets l) (F : List Nat) (hF : ∀ k ∈ F, k < 2 ^ l.length) (hn : F.length ≤ 1000) : m_numbers_of (S l, ⟨T l F⟩, ()) = some (Z F) := by
  show runF _ _ = _
  simp only [runF, runU, sseq, Fl.bnd, sret, sset, sif, sex, snever, sfor, f1, f2, fv, fc, fif, fand, foor, fnot, fcons, fnil, fch, lcons, lnil, flc, gz, gs, pz, ps, ic, ia, i0, snil, wid, wn, wk, wa, Option.bind_some, Option.map_some, Option.map_map, Function.comp_def, fyes, Option.bind_assoc]
  simp only [number_by_lot_S h, Option.bind_some, Option.map_some]
  rw [if_pos (by simp [T]; omega)]
  have e : lcGo (fun x => some true) (fun x => dget (⟨numD l⟩ : Dct Int) x) (T l F) = some (Z F) := by
    have key : ∀ F : List Nat, (∀ k ∈ F, k < 2 ^ l.length) → lcGo (fun x => some true) (fun x => dget (⟨numD l⟩ : Dct Int) x) (T l F) = some (Z F) := by
      intro F
      induction F with
      | nil => intro _; rfl
      | cons k F ih =>
        intro hF
        show (lcGo _ _ (S (sel l k) :: T l F)) = _
        unfold lcGo
        have e1 : dget (⟨numD l⟩ : Dct Int) (S (sel l k)) = some (k : Int) := valD h (hF k List.mem_cons_self)
        simp only [Option.bind_some, if_true, e1, ih (fun j hj => hF j (List.mem_cons_of_mem _ hj)), Option.map_some]
        rfl
    exact key F hF
  rw [e]
  rfl
theorem family_of_S {l : List Nat} (h : Lets l) (F : List Nat) (hF : ∀ k ∈ F, k < 2 ^ l.length) (hn : F.length ≤ 1000) : m_family_of (S l, Z F, ()) = some ⟨srt (T l F)⟩ := by
  show runF _ _ = _
  simp only [runF, runU, sseq, Fl.bnd, sret, sset, sif, sex, snever, sfor, f1, f2, fv, fc, fif, fand, foor, fnot, fcons, fnil, fch, lcons, lnil, flc, gz, gs, pz, ps, ic, ia, i0, snil, wid, wn, wk, wa, Option.bind_some, Option.map_some, Option.map_map, Function.comp_def, fyes, Option.bind_assoc]
  simp only [lots_S h, Option.bind_some, Option.map_some]
  rw [if_pos (by simp [Z]; omega)]
  have e : lcGo (fun x => some true) (fun x => lIx ((List.range (2 ^ l.length)).map fun k => S (sel l k)) x) (Z F) = some (T l F) := by
    have key : ∀ F : List Nat, (∀ k ∈ F, k < 2 ^ l.length) → lcGo (fun x => some true) (fun x => lIx ((List.range (2 ^ l.length)).map fun k => S (sel l k)) x) (Z F) = some (T l F) := by
      intro F
      induction F with
      | nil => intro _; rfl
      | cons k F ih =>
        intro hF
        show (lcGo _ _ ((k : Int) :: Z F)) = _
        unfold lcGo
        have e1 : lIx ((List.range (2 ^ l.length)).map fun k => S (sel l k)) (k : Int) = some (S (sel l k)) := by
          unfold lIx
          apply atI_nat
          rw [List.getElem?_map, List.getElem?_range (hF k List.mem_cons_self)]
          rfl
        simp only [Option.bind_some, if_true, e1, ih (fun j hj => hF j (List.mem_cons_of_mem _ hj)), Option.map_some]
        rfl
    exact key F hF
  rw [e]
  simp only [Option.bind_some, srtL, tupL]
  rw [if_pos (by simp [T]; omega)]
  rfl
def least (F : List Nat) : List Nat := F.filter fun k => !F.any fun p => decide (p ≠ k) && decide (p &&& k = p)
def keysD (ks : List Nat) : List (Key × Bool) := ks.map fun (k : Nat) => (Sum.inl (k : Int), true)
def addK (ks : List Nat) (k : Nat) : List Nat := if k ∈ ks then ks else ks ++ [k]
theorem putB_keysD (ks : List Nat) (k : Nat) : putB (keysD ks) (KeyOf.key (k : Int)) true = keysD (addK ks k) := by
  unfold putB addK
  have e : ((keysD ks).any fun kv => decide (kv.1 = KeyOf.key (k : Int))) = decide (k ∈ ks) := by
    rw [Bool.eq_iff_iff, List.any_eq_true]
    simp only [keysD, List.mem_map, decide_eq_true_eq]
    constructor
    · rintro ⟨x, ⟨j, hj, rfl⟩, h⟩
      have h2 : (j : Int) = (k : Int) := Sum.inl.inj h
      have : j = k := by omega
      exact this ▸ hj
    · intro h
      exact ⟨_, ⟨k, h, rfl⟩, rfl⟩
  rw [e]
  by_cases h : k ∈ ks
  · rw [if_pos (decide_eq_true h), if_pos h]
    unfold keysD
    rw [List.map_map]
    apply List.map_congr_left
    intro j hj
    simp only [Function.comp_apply]
    split <;> rfl
  · rw [if_neg (by simpa using h), if_neg h]
    unfold keysD
    rw [List.map_append]
    rfl
theorem keysOf_keysD : ∀ ks : List Nat, (keysOf (keysD ks) : Option (List Int)) = some (Z ks)
  | [] => rfl
  | k :: ks => by
    show (keysOf ((Sum.inl (k : Int), true) :: keysD ks) : Option (List Int)) = _
    unfold keysOf
    rw [keysOf_keysD ks]
    rfl
structure Good (N : Nat) (ks : List Nat) : Prop where
  nd : ks.Nodup
  lt : ∀ k ∈ ks, k < N
theorem Good.len {N : Nat} {ks : List Nat} (g : Good N ks) : ks.length ≤ N := by
  have := List.Nodup.length_le_of_subset g.nd (l₂ := List.range N) (fun k hk => List.mem_range.mpr (g.lt k hk))
  rwa [List.length_range] at this
theorem addK_good {N : Nat} {ks : List Nat} {k : Nat} (g : Good N ks) (h : k < N) : Good N (addK ks k) := by
  unfold addK
  split
  · exact g
  · rename_i hk
    refine ⟨List.nodup_append.mpr ⟨g.nd, by simp, fun a ha b hb e => hk ?_⟩, fun j hj => ?_⟩
    · rw [List.mem_singleton.mp hb] at e
      exact e ▸ ha
    · rcases List.mem_append.mp hj with q | q
      · exact g.lt j q
      · rw [List.mem_singleton.mp q]
        exact h
theorem mem_addK {ks : List Nat} {k j : Nat} : j ∈ addK ks k ↔ j ∈ ks ∨ j = k := by
  unfold addK
  split
  · rename_i h
    constructor
    · exact .inl
    · rintro (q | q)
      · exact q
      · exact q ▸ h
  · simp
def step (op : Nat → Nat → Nat) (ks : List Nat) (n : Nat) : List Nat := ks.foldl (fun acc o => addK acc (op n o)) ks
theorem meets_of_S {l : List Nat} (h : Lets l) (F : List Nat) (hF : ∀ k ∈ F, k < 2 ^ l.length) (hn : F.length ≤ 1000) : m_meets_of (S l, ⟨T l F⟩, ()) = some ⟨srt (T l (F.foldl (step (· &&& ·)) [2 ^ l.length - 1]))⟩ := by
  show runF _ _ = _
  simp only [runF, runU, sseq, Fl.bnd, sret, sset, sif, sex, snever, sfor, snewD, sdput, fkeys, dz, ds, pdz, pds, f1, f2, fv, fc, fif, fand, foor, fnot, fcons, fnil, fch, lcons, lnil, flc, gz, gs, pz, ps, ic, ia, i0, snil, wid, wn, wk, wa, Option.bind_some, Option.map_some, Option.map_map, Function.comp_def, fyes, Option.bind_assoc]
  simp only [lots_S h, numbers_of_S h F hF hn, Option.bind_some, Option.map_some, lenL, iSub, List.length_map, List.length_range, Option.bind_assoc]
  have N1 : 0 < 2 ^ l.length := Nat.two_pow_pos _
  have ec : ((2 ^ l.length : Nat) : Int) - 1 = ((2 ^ l.length - 1 : Nat) : Int) := by
    rw [Int.natCast_sub N1]
    rfl
  rw [ec]
  have N7 := p7 h
  generalize hN : 2 ^ l.length = N at *
  refine forL_then (fun xs γ => ∃ (r acc : List Nat), xs = Z r ∧ γ = (S l, (⟨T l F⟩ : Tup Str), ((N - 1 : Nat) : Int), (⟨keysD acc⟩ : OD Bool), (⟨⟩ : Any), (⟨⟩ : Any), ()) ∧ r.foldl (step (· &&& ·)) acc = F.foldl (step (· &&& ·)) [N - 1] ∧ Good N acc ∧ ∀ k ∈ r, k < N) ⟨F, [N - 1], rfl, rfl, rfl, ⟨by simp, by simp; omega⟩, hF⟩ ?_ ?_
  · rintro x xs γ ⟨r, acc, h1, rfl, h3, g, h5⟩
    cases r with
    | nil => cases h1
    | cons n r =>
      cases h1
      refine ⟨_, ?_, r, step (· &&& ·) acc n, rfl, rfl, h3, ?_, fun k hk => h5 k (List.mem_cons_of_mem _ hk)⟩
      · simp only [keysOf_keysD, Option.bind_some]
        refine forL_then (fun xs γ => ∃ (q a : List Nat), xs = Z q ∧ γ = (S l, (⟨T l F⟩ : Tup Str), ((N - 1 : Nat) : Int), (⟨keysD a⟩ : OD Bool), (n : Int), (⟨⟩ : Any), ()) ∧ q.foldl (fun acc o => addK acc ((· &&& ·) n o)) a = step (· &&& ·) acc n ∧ Good N a ∧ ∀ k ∈ q, k < N) ⟨acc, acc, rfl, rfl, rfl, g, g.lt⟩ ?_ ?_
        · rintro x xs γ ⟨q, a, e1, rfl, e3, g2, e5⟩
          cases q with
          | nil => cases e1
          | cons o q =>
            cases e1
            have hlt : (· &&& ·) n o < N := by
              rw [← hN]
              have h8 := e5 o List.mem_cons_self
              have h9 := h5 n List.mem_cons_self
              rw [← hN] at h8 h9
              exact Nat.and_lt_two_pow _ h8
            refine ⟨_, ?_, q, addK a ((· &&& ·) n o), rfl, rfl, e3, addK_good g2 hlt, fun k hk => e5 k (List.mem_cons_of_mem _ hk)⟩
            simp only [iAnd, band, Option.bind_some, putB_keysD]
            have hl : (keysD a).length < 100000 := by
              have := g2.len
              simp only [keysD, List.length_map]
              omega
            rw [if_pos hl]
            rfl
        · rintro γ' ⟨q, a, e1, rfl, e3, g2, e5⟩
          have : q = [] := by
            cases q with
            | nil => rfl
            | cons => cases e1
          subst this
          rw [← e3]
          rfl
      · have key : ∀ q a : List Nat, Good N a → (∀ k ∈ q, k < N) → Good N (q.foldl (fun acc o => addK acc ((· &&& ·) n o)) a) := by
          intro q
          induction q with
          | nil => intro a g2 _; exact g2
          | cons o q ih =>
            intro a g2 e5
            refine ih _ (addK_good g2 ?_) fun k hk => e5 k (List.mem_cons_of_mem _ hk)
            rw [← hN]
            have h8 := e5 o List.mem_cons_self
            have h9 := h5 n List.mem_cons_self
            rw [← hN] at h8 h9
            exact Nat.and_lt_two_pow _ h8
        exact key acc acc g g.lt
  · rintro γ' ⟨r, acc, h1, rfl, h3, g, h5⟩
    have : r = [] := by
      cases r with
      | nil => rfl
      | cons => cases h1
    subst this
    simp only [keysOf_keysD, Option.bind_some]
    have := g.len
    rw [family_of_S h acc (by rw [hN]; exact g.lt) (by omega)]
    rw [← h3]
    rfl
def Asc (xs : List Str) : Prop := xs.Pairwise fun a b => a.cps.toList < b.cps.toList
structure Fam (l : List Nat) (F : List Nat) : Prop where
  lt : ∀ k ∈ F, k < 2 ^ l.length
  asc : Asc (T l F)
  n : F.length ≤ 1000
theorem sel_word {l : List Nat} (h : Lets l) (k : Nat) : Word (sel l k) := ⟨h.w.asc.filter _, fun c hc => h.w.let_ c (mem_sel.mp hc).1⟩
theorem sel_in (l : List Nat) (k : Nat) : ∀ c ∈ sel l k, c ∈ l := fun c hc => (mem_sel.mp hc).1
theorem first_wrong_S {l : List Nat} (h : Lets l) {F : List Nat} (f : Fam l F) : m_first_wrong (S l, ⟨T l F⟩, ()) = some none := by
  show runF _ _ = _
  simp only [runF, runU, sseq, Fl.bnd, sret, sset, sif, sex, snever, sfor, snewD, sdput, fkeys, dz, ds, pdz, pds, f1, f2, fv, fc, fif, fand, foor, fnot, fcons, fnil, fch, lcons, lnil, flc, gz, gs, pz, ps, ic, ia, i0, snil, wid, wn, wk, wa, Option.bind_some, Option.map_some, Option.map_map, Function.comp_def, fyes, Option.bind_assoc]
  refine forL_then (fun xs γ => ∃ (p r : List Str), p ++ r = T l F ∧ xs = enumF p.length r ∧ γ = (S l, (⟨T l F⟩ : Tup Str), (⟨⟩ : Any), (⟨⟩ : Any), ())) ⟨[], T l F, rfl, rfl, rfl⟩ ?_ ?_
  · rintro x xs γ ⟨p, r, h1, h2, rfl⟩
    cases r with
    | nil => cases h2
    | cons s r =>
      cases h2
      refine ⟨_, ?_, p ++ [s], r, by simpa using h1, by simp, rfl⟩
      obtain ⟨k, hk, rfl⟩ : ∃ k, k ∈ F ∧ S (sel l k) = s := by
        have : s ∈ T l F := by
          rw [← h1]
          simp
        exact List.mem_map.mp this
      have e1 : m_is_lot (S l, S (sel l k), ()) = some true := is_lot_S l _ (sel_word h k) (sel_in l k) (by have := sel_len l k; have := h.n; omega)
      simp only [e1, Option.map_some, Option.bind_some, Bool.not_true, Bool.false_eq_true, if_false, iGt]
      by_cases hp : p = []
      · subst hp
        simp
      · have hpl : 0 < p.length := List.length_pos_iff.mpr hp
        have e2 : (decide (0 < (p.length : Int))) = true := by simp; omega
        obtain ⟨q, y, rfl⟩ : ∃ q y, p = q ++ [y] := by
          rcases List.eq_nil_or_concat p with z | ⟨q, y, z⟩
          · exact absurd z hp
          · exact ⟨q, y, by rw [z, List.concat_eq_append]⟩
        have e3 : tIx (⟨T l F⟩ : Tup Str) (((q ++ [y]).length : Int) - 1) = some y := by
          unfold tIx
          have : (((q ++ [y]).length : Int) - 1) = (q.length : Int) := by
            rw [List.length_append, List.length_singleton]
            omega
          rw [this]
          apply atI_nat
          rw [← h1]
          simp
        have e4 : sLe (S (sel l k)) y = some false := by
          unfold sLe
          have := f.asc
          unfold Asc at this
          rw [← h1] at this
          have h5 := (List.pairwise_append.mp this).2.2 y (by simp) (S (sel l k)) (by simp)
          rw [decide_eq_true h5]
          rfl
        simp only [e2, if_true, iSub, Option.bind_some, e3, e4, Bool.false_eq_true, if_false]
        try rfl
  · rintro γ' ⟨p, r, h1, h2, rfl⟩
    try rfl
theorem mem_ded : ∀ (xs acc : List Str) (s : Str), s ∈ ded acc xs ↔ s ∈ acc ∨ s ∈ xs
  | [], acc, s => by simp [ded]
  | x :: xs, acc, s => by
    unfold ded
    rw [mem_ded xs]
    split
    · rename_i h
      simp only [List.mem_cons]
      constructor
      · rintro (q | q)
        · exact .inl q
        · exact .inr (.inr q)
      · rintro (q | q | q)
        · exact .inl q
        · exact .inl (q ▸ h)
        · exact .inr q
    · simp only [List.mem_cons]
      constructor
      · rintro ((q | q) | q)
        · exact .inr (.inl q)
        · exact .inl q
        · exact .inr (.inr q)
      · rintro (q | q | q)
        · exact .inl (.inr q)
        · exact .inl (.inl q)
        · exact .inr q
theorem ded_nd : ∀ (xs acc : List Str), acc.Nodup → (ded acc xs).Nodup
  | [], acc, h => h
  | x :: xs, acc, h => by
    unfold ded
    apply ded_nd xs
    split
    · exact h
    · rename_i hx
      exact List.nodup_cons.mpr ⟨hx, h⟩
theorem srt_ext {xs ys : List Str} (h1 : xs.Nodup) (h2 : ys.Nodup) (h : ∀ s, s ∈ xs ↔ s ∈ ys) : srt xs = srt ys := srt_eq ((List.perm_ext_iff_of_nodup h1 h2).mpr h)
theorem mem_srt {xs : List Str} {s : Str} : s ∈ srt xs ↔ s ∈ xs := (srt_perm xs).mem_iff
theorem srt_nd {xs : List Str} (h : xs.Nodup) : (srt xs).Nodup := (srt_perm xs).nodup_iff.mpr h
theorem srt_id {xs : List Str} (h : xs.Pairwise fun a b => leS a b = true) : srt xs = xs := List.mergeSort_of_pairwise h
theorem T_nd {l : List Nat} (h : Lets l) {F : List Nat} (nd : F.Nodup) (lt : ∀ k ∈ F, k < 2 ^ l.length) : (T l F).Nodup := nodup_map nd fun a ha b hb e => sel_inj h.nd (lt a ha) (lt b hb) (S_inj.mp e)
theorem mem_T {l F : List Nat} {s : Str} : s ∈ T l F ↔ ∃ k ∈ F, S (sel l k) = s := List.mem_map
theorem T_mem {l : List Nat} (h : Lets l) {F : List Nat} (lt : ∀ k ∈ F, k < 2 ^ l.length) {k : Nat} (hk : k < 2 ^ l.length) : S (sel l k) ∈ T l F ↔ k ∈ F := by
  rw [mem_T]
  constructor
  · rintro ⟨j, hj, e⟩
    rw [← sel_inj h.nd (lt j hj) hk (S_inj.mp e)]
    exact hj
  · exact fun hk => ⟨k, hk, rfl⟩
theorem T_ext {l : List Nat} (h : Lets l) {F F' : List Nat} (g : Good (2 ^ l.length) F) (g' : Good (2 ^ l.length) F') (e : ∀ k, k ∈ F ↔ k ∈ F') : srt (T l F) = srt (T l F') :=
  srt_ext (T_nd h g.nd g.lt) (T_nd h g'.nd g'.lt) fun s => by
    rw [mem_T, mem_T]
    constructor
    · rintro ⟨k, hk, q⟩
      exact ⟨k, (e k).mp hk, q⟩
    · rintro ⟨k, hk, q⟩
      exact ⟨k, (e k).mpr hk, q⟩
theorem T_back {l : List Nat} : ∀ {ys : List Str}, (∀ s ∈ ys, ∃ k, k < 2 ^ l.length ∧ S (sel l k) = s) → ∃ A, ys = T l A ∧ ∀ k ∈ A, k < 2 ^ l.length
  | [], _ => ⟨[], rfl, fun _ h => by cases h⟩
  | s :: ys, h => by
    obtain ⟨k, hk, e⟩ := h s List.mem_cons_self
    obtain ⟨A, e2, h2⟩ := T_back fun y hy => h y (List.mem_cons_of_mem _ hy)
    exact ⟨k :: A, by rw [e2, ← e]; rfl, fun j hj => by
      rcases List.mem_cons.mp hj with q | q
      · rw [q]
        exact hk
      · exact h2 j q⟩
theorem nd_of_map {α β : Type} {f : α → β} : ∀ {xs : List α}, (xs.map f).Nodup → xs.Nodup
  | [], _ => List.nodup_nil
  | x :: xs, h => by
    rw [List.map_cons, List.nodup_cons] at h
    exact List.nodup_cons.mpr ⟨fun z => h.1 (List.mem_map_of_mem z), nd_of_map h.2⟩
theorem T_srt {l : List Nat} (h : Lets l) {F : List Nat} (g : Good (2 ^ l.length) F) : ∃ A, srt (T l F) = T l A ∧ Fam l A ∧ Good (2 ^ l.length) A ∧ ∀ k, k ∈ A ↔ k ∈ F := by
  obtain ⟨A, e, lt⟩ := T_back (l := l) (ys := srt (T l F)) fun s hs => by
    obtain ⟨k, hk, q⟩ := mem_T.mp (mem_srt.mp hs)
    exact ⟨k, g.lt k hk, q⟩
  have nd : (T l A).Nodup := by
    rw [← e]
    exact srt_nd (T_nd h g.nd g.lt)
  have gA : Good (2 ^ l.length) A := ⟨nd_of_map nd, lt⟩
  refine ⟨A, e, ⟨lt, ?_, by have := gA.len; have := p7 h; omega⟩, gA, fun k => ?_⟩
  · have p := srt_pair (T l F)
    rw [e] at p
    have q := p.and (List.nodup_iff_pairwise_ne.mp nd)
    refine q.imp ?_
    intro a b ⟨h1, h2⟩
    have h1 : a.cps.toList ≤ b.cps.toList := of_decide_eq_true h1
    apply Decidable.byContradiction
    intro h3
    have h4 : b.cps.toList ≤ a.cps.toList := List.not_lt.mp h3
    have h5 := List.le_antisymm h1 h4
    apply h2
    rw [← S_tl a, ← S_tl b, h5]
  · constructor
    · intro hk
      have : S (sel l k) ∈ srt (T l F) := by
        rw [e]
        exact mem_T.mpr ⟨k, hk, rfl⟩
      exact (T_mem h g.lt (lt k hk)).mp (mem_srt.mp this)
    · intro hk
      have : S (sel l k) ∈ T l A := by
        rw [← e]
        exact mem_srt.mpr (mem_T.mpr ⟨k, hk, rfl⟩)
      exact (T_mem h lt (g.lt k hk)).mp this
theorem T_len (l F : List Nat) : (T l F).length = F.length := List.length_map ..
theorem range_good (N : Nat) : Good N (List.range N) := ⟨List.nodup_range, fun _ h => List.mem_range.mp h⟩
theorem law_lots0 (l : List Nat) (hl : l.length ≤ 7) : m__law_packs (S l, ()) = some (srt ((subs l).map S)) := by
  show runF _ _ = _
  simp only [runF, runU, sseq, Fl.bnd, sret, sset, sif, sex, snever, sfor, f1, f2, fv, fc, fif, fand, foor, fnot, fcons, fnil, fch, lcons, lnil, flc, gz, gs, pz, ps, ic, ia, i0, snil, wid, wn, wk, wa, Option.bind_some, Option.map_some, Option.map_map, Function.comp_def, fyes, Option.bind_assoc]
  simp only [short, List.length_cons, List.length_nil]
  rw [if_pos (by omega)]
  simp only [Option.bind_some, Option.map_some, Option.bind_assoc, signs_S]
  refine forL_then (fun xs γ => ∃ (l' : List Nat) (acc : List (List Nat)), xs = (l'.map fun c => S [c]) ∧ γ = (S l, acc.map S, (⟨⟩ : Any), (⟨⟩ : Any), ()) ∧ l'.foldl grow acc = subs l ∧ acc.length * 2 ^ l'.length ≤ 128 ∧ ∀ s ∈ acc, s.length + l'.length ≤ 7) ⟨l, [[]], rfl, rfl, rfl, ?_, ?_⟩ ?_ ?_
  · have : 2 ^ l.length ≤ 2 ^ 7 := Nat.pow_le_pow_right (by decide) hl
    simpa using this
  · intro s hs
    cases List.mem_singleton.mp hs
    simpa using hl
  · rintro x xs γ ⟨l', acc, h1, rfl, h3, h4, h5⟩
    cases l' with
    | nil => cases h1
    | cons c r =>
      cases h1
      have h6 : acc.length * 2 ^ r.length * 2 ≤ 128 := by
        rw [List.length_cons, Nat.pow_succ, ← Nat.mul_assoc] at h4
        exact h4
      have h7 : acc.length ≤ 128 := by
        have : 0 < 2 ^ r.length := Nat.two_pow_pos _
        have := Nat.le_mul_of_pos_right acc.length this
        omega
      refine ⟨_, ?_, r, grow acc c, rfl, rfl, h3, ?_, ?_⟩
      · simp only [List.length_map]
        rw [if_pos (by omega), lcGo_of (T := fun _ => true) (E := fun s => s ++ S [c])]
        · simp only [Option.bind_some, lCat, List.length_map, filt_true]
          rw [if_pos (by omega)]
          simp only [Option.map_some, Option.bind_some]
          unfold grow
          rw [List.map_append, List.map_map, List.map_map]
          have e : ((fun s => s ++ S [c]) ∘ S) = (S ∘ fun x => x ++ [c]) := by
            funext z
            exact S_add z [c]
          rw [e]
        · intro s _
          rfl
        · intro s hs _
          obtain ⟨z, hz, rfl⟩ := List.mem_map.mp hs
          have := h5 z hz
          unfold sAdd
          rw [if_pos (by simp only [len_S, List.length_cons, List.length_nil] at this ⊢; omega)]
      · unfold grow
        rw [List.length_append, List.length_map, ← Nat.two_mul, Nat.mul_assoc, Nat.mul_comm 2]
        exact h6
      · intro s hs
        unfold grow at hs
        rcases List.mem_append.mp hs with h | h
        · have := h5 s h
          rw [List.length_cons] at this
          omega
        · obtain ⟨z, hz, rfl⟩ := List.mem_map.mp h
          have := h5 z hz
          rw [List.length_cons] at this
          rw [List.length_append, List.length_singleton]
          omega
  · rintro γ' ⟨l', acc, h1, rfl, h3, h4, h5⟩
    have : l' = [] := by
      cases l' with
      | nil => rfl
      | cons => cases h1
    subst this
    have h9 : acc.length ≤ 128 := by simpa using h4
    have e9 : srtL (acc.map S, ()) = some (srt (acc.map S)) := by
      unfold srtL
      rw [if_pos (by rw [List.length_map]; omega)]
    simp only [e9, Option.map_some, Option.bind_some]
    rw [← h3]
    rfl
theorem law_lots_S {l : List Nat} (h : Lets l) : m__law_packs (S l, ()) = some (srt (T l (List.range (2 ^ l.length)))) := by
  rw [law_lots0 l h.n, subs_sel _ l rfl h.nd, List.map_map]
  rfl
theorem mem_fold {f : Nat → Nat} {k : Nat} : ∀ (q a : List Nat), k ∈ q.foldl (fun acc o => addK acc (f o)) a ↔ k ∈ a ∨ ∃ o ∈ q, k = f o
  | [], a => by simp
  | o :: q, a => by
    rw [List.foldl_cons, mem_fold q, mem_addK]
    simp only [List.mem_cons]
    constructor
    · rintro ((h | h) | ⟨x, hx, e⟩)
      · exact .inl h
      · exact .inr ⟨o, .inl rfl, h⟩
      · exact .inr ⟨x, .inr hx, e⟩
    · rintro (h | ⟨x, hx | hx, e⟩)
      · exact .inl (.inl h)
      · subst hx
        exact .inl (.inr e)
      · exact .inr ⟨x, hx, e⟩
theorem mem_step {op : Nat → Nat → Nat} {ks : List Nat} {n k : Nat} : k ∈ step op ks n ↔ k ∈ ks ∨ ∃ o ∈ ks, k = op n o := mem_fold ks ks
theorem fold_good {N : Nat} {f : Nat → Nat} : ∀ (q a : List Nat), Good N a → (∀ o ∈ q, f o < N) → Good N (q.foldl (fun acc o => addK acc (f o)) a)
  | [], a, g, _ => g
  | o :: q, a, g, h => fold_good q _ (addK_good g (h o List.mem_cons_self)) fun x hx => h x (List.mem_cons_of_mem _ hx)
theorem step_good {N : Nat} {op : Nat → Nat → Nat} {ks : List Nat} {n : Nat} (g : Good N ks) (h : ∀ o ∈ ks, op n o < N) : Good N (step op ks n) := fold_good ks ks g h
def cm (l : List Nat) (k : Nat) : Nat := 2 ^ l.length - (k + 1)
theorem cm_bit (l : List Nat) {k : Nat} (hk : k < 2 ^ l.length) (i : Nat) : (cm l k).testBit i = (decide (i < l.length) && !k.testBit i) := Nat.testBit_two_pow_sub_succ hk i
theorem cm_lt (l : List Nat) (k : Nat) : cm l k < 2 ^ l.length := by
  have := Nat.two_pow_pos l.length
  unfold cm
  omega
theorem cm_cm {l : List Nat} {k : Nat} (hk : k < 2 ^ l.length) : cm l (cm l k) = k := by
  unfold cm
  omega
theorem sel_cm (l : List Nat) {k : Nat} (hk : k < 2 ^ l.length) : l.filter (fun c => !decide (c ∈ sel l k)) = sel l (cm l k) := by
  unfold sel
  apply List.filter_congr
  intro c hc
  rw [cm_bit l hk, decide_eq_true (List.idxOf_lt_length_of_mem hc)]
  have : (decide (c ∈ List.filter (fun c => k.testBit (List.idxOf c l)) l)) = k.testBit (l.idxOf c) := by
    rw [Bool.eq_iff_iff, decide_eq_true_eq, List.mem_filter]
    simp [hc]
  rw [this]
  rfl
theorem sel_full (l : List Nat) : sel l (2 ^ l.length - 1) = l := by
  have h0 : 0 < 2 ^ l.length := Nat.two_pow_pos _
  have := sel_cm l h0
  unfold cm at this
  rw [Nat.zero_add] at this
  rw [← this]
  have e : sel l 0 = [] := by simp [sel]
  rw [e]
  simp
theorem lcGo_T {l : List Nat} (h : Lets l) {α : Type} {t : Str → Option Bool} {e : Str → Option α} {P : Nat → Bool} {E : Nat → α} : ∀ {F : List Nat}, (∀ k ∈ F, t (S (sel l k)) = some (P k)) → (∀ k ∈ F, P k = true → e (S (sel l k)) = some (E k)) → lcGo t e (T l F) = some ((F.filter P).map E)
  | [], _, _ => rfl
  | k :: F, h1, h2 => by
    show lcGo t e (S (sel l k) :: T l F) = _
    unfold lcGo
    rw [h1 k List.mem_cons_self, Option.bind_some, lcGo_T h (fun j hj => h1 j (List.mem_cons_of_mem _ hj)) (fun j hj => h2 j (List.mem_cons_of_mem _ hj))]
    cases hP : P k with
    | true => simp [h2 k List.mem_cons_self hP, hP]
    | false => simp [hP]
theorem le_bits {a b : Nat} : a &&& b = a ↔ ∀ i, a.testBit i = true → b.testBit i = true := by
  constructor
  · intro h i hi
    rw [← h, Nat.testBit_and, Bool.and_eq_true] at hi
    exact hi.2
  · intro h
    apply Nat.eq_of_testBit_eq
    intro i
    rw [Nat.testBit_and]
    cases ha : a.testBit i with
    | false => rfl
    | true => rw [h i ha]; rfl
theorem le_trans' {a b c : Nat} (h : a &&& b = a) (k : b &&& c = b) : a &&& c = a := le_bits.mpr fun i hi => le_bits.mp k i (le_bits.mp h i hi)
theorem le_anti {a b : Nat} (h : a &&& b = a) (k : b &&& a = b) : a = b := by
  rw [← h, Nat.and_comm]
  exact k
theorem mem_walk {op : Nat → Nat → Nat} {x : Nat} : ∀ (F A : List Nat), x ∈ F.foldl (step op) A ↔ ∃ a ∈ A, ∃ G : List Nat, G.Sublist F ∧ x = G.foldl (fun z n => op n z) a
  | [], A => by
    constructor
    · intro h
      exact ⟨x, h, [], List.Sublist.refl _, rfl⟩
    · rintro ⟨a, ha, G, hG, e⟩
      cases hG
      rw [e]
      exact ha
  | n :: F, A => by
    rw [List.foldl_cons, mem_walk F]
    constructor
    · rintro ⟨a, ha, G, hG, e⟩
      rcases mem_step.mp ha with h | ⟨o, ho, rfl⟩
      · exact ⟨a, h, G, hG.cons _, e⟩
      · exact ⟨o, ho, n :: G, hG.cons_cons _, e⟩
    · rintro ⟨a, ha, G, hG, e⟩
      cases hG with
      | cons _ h => exact ⟨a, mem_step.mpr (.inl ha), _, h, e⟩
      | cons_cons _ h => exact ⟨op n a, mem_step.mpr (.inr ⟨a, ha, rfl⟩), _, h, e⟩
theorem and_full {l : List Nat} {k : Nat} (hk : k < 2 ^ l.length) : k &&& (2 ^ l.length - 1) = k := by
  rw [Nat.and_two_pow_sub_one_eq_mod]
  exact Nat.mod_eq_of_lt hk
def Shut (M : List Nat) : Prop := ∀ x ∈ M, ∀ y ∈ M, x &&& y ∈ M
theorem shut_step {M : List Nat} (h : Shut M) (n : Nat) : Shut (step (· &&& ·) M n) := by
  intro x hx y hy
  rcases mem_step.mp hx with a | ⟨a, ha, rfl⟩ <;> rcases mem_step.mp hy with b | ⟨b, hb, rfl⟩
  · exact mem_step.mpr (.inl (h x a y b))
  · refine mem_step.mpr (.inr ⟨x &&& b, h x a b hb, ?_⟩)
    show x &&& (n &&& b) = n &&& (x &&& b)
    rw [← Nat.and_assoc, ← Nat.and_assoc, Nat.and_comm x n]
  · refine mem_step.mpr (.inr ⟨a &&& y, h a ha y b, ?_⟩)
    show (n &&& a) &&& y = n &&& (a &&& y)
    rw [Nat.and_assoc]
  · refine mem_step.mpr (.inr ⟨a &&& b, h a ha b hb, ?_⟩)
    show (n &&& a) &&& (n &&& b) = n &&& (a &&& b)
    apply Nat.eq_of_testBit_eq
    intro i
    simp only [Nat.testBit_and]
    cases n.testBit i <;> cases a.testBit i <;> cases b.testBit i <;> rfl
theorem shut_walk : ∀ (F M : List Nat), Shut M → Shut (F.foldl (step (· &&& ·)) M)
  | [], M, h => h
  | n :: F, M, h => shut_walk F _ (shut_step h n)
theorem walk_mem {op : Nat → Nat → Nat} {x : Nat} : ∀ (F M : List Nat), x ∈ M → x ∈ F.foldl (step op) M
  | [], M, h => h
  | n :: F, M, h => walk_mem F _ (mem_step.mpr (.inl h))
theorem walk_good {N : Nat} {op : Nat → Nat → Nat} (h : ∀ n o, n < N → o < N → op n o < N) : ∀ (F M : List Nat), (∀ k ∈ F, k < N) → Good N M → Good N (F.foldl (step op) M)
  | [], M, _, g => g
  | n :: F, M, hF, g => walk_good h F _ (fun k hk => hF k (List.mem_cons_of_mem _ hk)) (step_good g fun o ho => h n o (hF n List.mem_cons_self) (g.lt o ho))
theorem meet_meet {l : List Nat} {A : List Nat} (lt : ∀ k ∈ A, k < 2 ^ l.length) (w : 2 ^ l.length - 1 ∈ A) (s : Shut A) (k : Nat) : k ∈ A.foldl (step (· &&& ·)) [2 ^ l.length - 1] ↔ k ∈ A := by
  rw [mem_walk]
  constructor
  · rintro ⟨a, ha, G, hG, e⟩
    have ha' : a ∈ A := by
      rw [List.mem_singleton.mp ha]
      exact w
    have key : ∀ (G : List Nat) (a : Nat), (∀ g ∈ G, g ∈ A) → a ∈ A → G.foldl (fun z n => n &&& z) a ∈ A := by
      intro G
      induction G with
      | nil => intro a _ h; exact h
      | cons g G ih => exact fun a h1 h2 => ih _ (fun x hx => h1 x (List.mem_cons_of_mem _ hx)) (s g (h1 g List.mem_cons_self) a h2)
    rw [e]
    exact key G a (fun g hg => hG.subset hg) ha'
  · intro hk
    exact ⟨_, List.mem_singleton.mpr rfl, [k], List.singleton_sublist.mpr hk, (and_full (lt k hk)).symm⟩
def Sm (w n : Nat) (d : PyData) : Prop := d.showable = true ∧ d.leavesShort 8 = true ∧ d.depth ≤ n ∧ d.weight ≤ w
theorem sm_all {w n : Nat} : ∀ {ds : List PyData}, (∀ d ∈ ds, Sm w n d) → PyData.showableAll ds = true ∧ PyData.leavesShortAll 8 ds = true ∧ PyData.depthAll ds ≤ n ∧ PyData.weightAll ds ≤ ds.length * (w + 1)
  | [], _ => by simp [PyData.showableAll, PyData.leavesShortAll, PyData.depthAll, PyData.weightAll]
  | d :: ds, h => by
    obtain ⟨a1, a2, a3, a4⟩ := h d List.mem_cons_self
    obtain ⟨b1, b2, b3, b4⟩ := sm_all fun x hx => h x (List.mem_cons_of_mem _ hx)
    simp only [PyData.showableAll, PyData.leavesShortAll, PyData.depthAll, PyData.weightAll, a1, a2, b1, b2, Bool.and_self, List.length_cons, true_and]
    rw [Nat.add_mul]
    constructor <;> omega
theorem sm_list {w n m : Nat} {ds : List PyData} (h : ∀ d ∈ ds, Sm w n d) (hl : ds.length ≤ m) : Sm (m * (w + 1) + 1) (n + 1) (.list ds) := by
  obtain ⟨b1, b2, b3, b4⟩ := sm_all h
  have := Nat.mul_le_mul_right (w + 1) hl
  refine ⟨by simpa [PyData.showable] using b1, by simpa [PyData.leavesShort] using b2, by simp only [PyData.depth]; omega, by simp only [PyData.weight]; omega⟩
theorem sm_tup {w n m : Nat} {ds : List PyData} (h : ∀ d ∈ ds, Sm w n d) (hl : ds.length ≤ m) : Sm (m * (w + 1) + 1) (n + 1) (.tuple ds) := by
  obtain ⟨b1, b2, b3, b4⟩ := sm_all h
  have := Nat.mul_le_mul_right (w + 1) hl
  refine ⟨by simpa [PyData.showable] using b1, by simpa [PyData.leavesShort] using b2, by simp only [PyData.depth]; omega, by simp only [PyData.weight]; omega⟩
theorem sm_str {l : List Nat} {w : Nat} (h : ∀ c ∈ l, c ≤ 122) (hl : l.length ≤ w) : Sm w 0 (.str (S l)) := by
  refine ⟨rfl, ?_, Nat.le_refl _, ?_⟩
  · simp only [PyData.leavesShort, tl_S, List.all_eq_true, decide_eq_true_eq]
    intro c hc
    have := h c hc
    omega
  · simp only [PyData.weight]
    have : (S l).cps.size = l.length := by simp [S]
    omega
theorem fits_of {w n : Nat} {d : PyData} (h : Sm w n d) (hw : w ≤ 5000) (hn : n ≤ 50) : fits d = true := by
  obtain ⟨h1, h2, h3, h4⟩ := h
  have := PyData.shown_le 8 (Nat.le_refl _) d h2
  have l := line_ge
  unfold fits
  rw [h1, decide_eq_true (by omega), decide_eq_true (by omega)]
  rfl
theorem T_sm {l : List Nat} (h : Lets l) (F : List Nat) : ∀ d ∈ (T l F).map Dat.d, Sm 7 0 d := by
  intro d hd
  obtain ⟨s, hs, rfl⟩ := List.mem_map.mp hd
  obtain ⟨k, hk, rfl⟩ := mem_T.mp hs
  exact sm_str (fun c hc => (h.w.let_ c (sel_in l k c hc)).2) (by have := sel_len l k; have := h.n; omega)
theorem repr_fam {l : List Nat} (h : Lets l) {A B : List Nat} (hA : A.length ≤ 128) (hB : B.length ≤ 128) : ∃ r, rprD (([⟨T l A⟩, ⟨T l B⟩] : List (Tup Str)), ()) = some r := by
  refine ⟨_, if_pos ?_⟩
  refine fits_of (w := 2 * (128 * (7 + 1) + 1 + 1) + 1) (n := 2) ?_ (by decide) (by decide)
  show Sm _ _ (.list [.tuple ((T l A).map Dat.d), .tuple ((T l B).map Dat.d)])
  refine sm_list (n := 1) (fun d hd => ?_) (Nat.le_refl 2)
  rcases List.mem_cons.mp hd with q | q
  · subst q
    exact sm_tup (T_sm h A) (by simpa [T] using hA)
  · rw [List.mem_singleton.mp q]
    exact sm_tup (T_sm h B) (by simpa [T] using hB)
structure Sys (l C : List Nat) : Prop extends Fam l C where
  full : 2 ^ l.length - 1 ∈ C
  shut : Shut C
theorem fam_good {l F : List Nat} (f : Fam l F) : Good (2 ^ l.length) F := ⟨nd_of_map (f := fun k => S (sel l k)) (f.asc.imp fun h e => by rw [e] at h; exact List.lt_irrefl _ h), f.lt⟩
theorem fam_srt {l F : List Nat} (f : Fam l F) : srt (T l F) = T l F := srt_id (f.asc.imp fun h => decide_eq_true (List.le_of_lt h))
theorem meets_sys {l C : List Nat} (h : Lets l) (s : Sys l C) : srt (T l (C.foldl (step (· &&& ·)) [2 ^ l.length - 1])) = T l C := by
  have N1 : 0 < 2 ^ l.length := Nat.two_pow_pos _
  have g : Good (2 ^ l.length) (C.foldl (step (· &&& ·)) [2 ^ l.length - 1]) := walk_good (fun n o h1 h2 => Nat.and_lt_two_pow _ h2) C _ s.lt ⟨by simp, by simp; omega⟩
  rw [T_ext h g (fam_good s.toFam) (meet_meet s.lt s.full s.shut), fam_srt s.toFam]
theorem is_system_S {l C : List Nat} (h : Lets l) (s : Sys l C) : m_is_system (S l, ⟨T l C⟩, ()) = some true := by
  show runF _ _ = _
  simp only [runF, runU, sseq, Fl.bnd, sret, sset, sif, sex, snever, sfor, snewD, sdput, fkeys, dz, ds, pdz, pds, f1, f2, fv, fc, fif, fand, foor, fnot, fcons, fnil, fch, lcons, lnil, flc, gz, gs, pz, ps, ic, ia, i0, snil, wid, wn, wk, wa, Option.bind_some, Option.map_some, Option.map_map, Function.comp_def, fyes, Option.bind_assoc]
  simp only [first_wrong_S h s.toFam, meets_of_S h C s.lt s.n, Option.bind_some, isN, meets_sys h s, dEq]
  simp
theorem chk_closed_S {l C : List Nat} (h : Lets l) (s : Sys l C) : m_check_closed (S l, ⟨T l C⟩, ()) = some () := by
  show runU _ _ = _
  simp only [runF, runU, sseq, Fl.bnd, sret, sset, sif, sex, snever, sfor, snewD, sdput, fkeys, dz, ds, pdz, pds, f1, f2, fv, fc, fif, fand, foor, fnot, fcons, fnil, fch, lcons, lnil, flc, gz, gs, pz, ps, ic, ia, i0, snil, wid, wn, wk, wa, Option.bind_some, Option.map_some, Option.map_map, Function.comp_def, fyes, Option.bind_assoc]
  simp [first_wrong_S h s.toFam, is_system_S h s, notN]
def ar (l C : List Nat) (k : Nat) : Nat := (C.filter fun m => decide (k &&& m = k)).foldl (fun z m => z &&& m) (2 ^ l.length - 1)
theorem fold_bit (i : Nat) : ∀ (G : List Nat) (z : Nat), (G.foldl (fun z m => z &&& m) z).testBit i = (z.testBit i && G.all fun m => m.testBit i)
  | [], z => by simp
  | m :: G, z => by
    rw [List.foldl_cons, fold_bit i G, Nat.testBit_and, List.all_cons, Bool.and_assoc]
theorem fold_mem {C : List Nat} (s : Shut C) : ∀ (G : List Nat) (z : Nat), z ∈ C → (∀ m ∈ G, m ∈ C) → G.foldl (fun z m => z &&& m) z ∈ C
  | [], z, hz, _ => hz
  | m :: G, z, hz, hG => fold_mem s G _ (s _ hz _ (hG m List.mem_cons_self)) fun x hx => hG x (List.mem_cons_of_mem _ hx)
theorem ar_mem {l C : List Nat} (s : Sys l C) (k : Nat) : ar l C k ∈ C := fold_mem s.shut _ _ s.full fun m hm => (List.mem_filter.mp hm).1
theorem ar_lt {l C : List Nat} (s : Sys l C) (k : Nat) : ar l C k < 2 ^ l.length := s.lt _ (ar_mem s k)
theorem ar_up {l C : List Nat} {k : Nat} (hk : k < 2 ^ l.length) : k &&& ar l C k = k := le_bits.mpr fun i hi => by
  unfold ar
  rw [fold_bit, Bool.and_eq_true]
  refine ⟨le_bits.mp (and_full hk) i hi, List.all_eq_true.mpr fun m hm => le_bits.mp (of_decide_eq_true (List.mem_filter.mp hm).2) i hi⟩
theorem ar_le {l C : List Nat} {k m : Nat} (hm : m ∈ C) (h : k &&& m = k) : ar l C k &&& m = ar l C k := le_bits.mpr fun i hi => by
  unfold ar at hi
  rw [fold_bit, Bool.and_eq_true] at hi
  exact List.all_eq_true.mp hi.2 m (List.mem_filter.mpr ⟨hm, decide_eq_true h⟩)
theorem ar_mono {l C : List Nat} (s : Sys l C) {j k : Nat} (hk : k < 2 ^ l.length) (h : j &&& k = j) : ar l C j &&& ar l C k = ar l C j := ar_le (ar_mem s k) (le_trans' h (ar_up hk))
theorem ar_fix {l C : List Nat} (s : Sys l C) {k : Nat} (hk : k < 2 ^ l.length) : ar l C k = k ↔ k ∈ C := by
  constructor
  · intro e
    rw [← e]
    exact ar_mem s k
  · intro hm
    exact le_anti (ar_le hm (by simp)) (ar_up hk)
theorem filt_len {l : List Nat} {P Q : Nat → Bool} (h : ∀ c ∈ l, P c = true → Q c = true) : (l.filter P).length ≤ (l.filter Q).length ∧ ((l.filter P).length = (l.filter Q).length → l.filter P = l.filter Q) := by
  induction l with
  | nil => simp
  | cons c l ih =>
    obtain ⟨i1, i2⟩ := ih fun d hd => h d (List.mem_cons_of_mem _ hd)
    have hc := h c List.mem_cons_self
    cases hp : P c <;> cases hq : Q c
    · simp [hp, hq, i1]
      exact i2
    · simp only [List.filter_cons, hp, hq, Bool.false_eq_true, if_false, if_true, List.length_cons]
      exact ⟨by omega, fun e => by omega⟩
    · rw [hc hp] at hq
      cases hq
    · simp only [List.filter_cons, hp, hq, if_true, List.length_cons]
      exact ⟨by omega, fun e => by rw [i2 (by omega)]⟩
theorem sel_le_len {l : List Nat} (nd : l.Nodup) {i j : Nat} (h : i &&& j = i) : (sel l i).length ≤ (sel l j).length ∧ ((sel l i).length = (sel l j).length → sel l i = sel l j) :=
  filt_len fun c hc hi => le_bits.mp h _ hi
theorem whl_find {Γ S ρ : Type} {c : Γ → Option Bool} {f : Γ → Option (Fl Γ S ρ)} (st : Nat → Γ) (j : Nat) (hc : ∀ i, i < j → c (st i) = some true) (hf : ∀ i, i < j → f (st i) = some (.nx (st (i + 1)))) (he : c (st j) = some false) : ∀ (n i : Nat), i ≤ j → j - i < n → whl n c f (st i) = some (.nx (st j))
  | 0, i, _, h => by omega
  | n + 1, i, hi, h => by
    unfold whl
    by_cases e : i = j
    · subst e
      rw [he]
      rfl
    · rw [hc i (by omega), Option.bind_some, if_pos rfl, hf i (by omega), Option.bind_some]
      exact whl_find st j hc hf he n (i + 1) (by omega) (by omega)
theorem first_around_S {b : List Nat} (hb : b.length ≤ 1000) (pre : List (List Nat)) (m : List Nat) (post : List (List Nat)) (h1 : ∀ x ∈ pre, ¬ ∀ c ∈ b, c ∈ x) (h2 : ∀ c ∈ b, c ∈ m) (hn : pre.length < 900) : m_first_around ((pre ++ m :: post).map S, S b, ()) = some (S m) := by
  show runF _ _ = _
  simp only [runF, runU, sseq, Fl.bnd, sret, sset, sif, sex, snever, sfor, snewD, sdput, fkeys, dz, ds, pdz, pds, f1, f2, fv, fc, fif, fand, foor, fnot, fcons, fnil, fch, lcons, lnil, flc, gz, gs, pz, ps, ic, ia, i0, snil, wid, wn, wk, wa, Option.bind_some, Option.map_some, Option.map_map, Function.comp_def, fyes, Option.bind_assoc]
  unfold swhl
  simp only [lenS]
  have ix : ∀ i : Nat, i < (pre ++ m :: post).length → lIx ((pre ++ m :: post).map S) (i : Int) = some (S ((pre ++ m :: post).getD i [])) := by
    intro i hi
    unfold lIx
    apply atI_nat
    rw [List.getElem?_map, List.getD_eq_getElem?_getD, List.getElem?_eq_getElem hi]
    rfl
  have e0 : (((pre ++ m :: post).map S, S b, (0 : Int), ()) : List Str × Str × Int × Unit) = (fun i : Nat => ((pre ++ m :: post).map S, S b, (i : Int), ())) 0 := rfl
  rw [e0, whl_find (fun i : Nat => (((pre ++ m :: post).map S, S b, (i : Int), ()) : List Str × Str × Int × Unit)) pre.length ?_ ?_ ?_ 1000 0 (Nat.zero_le _) (by omega)]
  · simp only [Option.bind_some]
    rw [ix pre.length (by simp)]
    simp
    try rfl
  · intro i hi
    simp only [fnot, f1, f2, fv, fcons, fnil, Option.bind_some]
    rw [ix i (by simp; omega)]
    simp only [Option.bind_some]
    rw [has_all_S _ _ hb]
    have hm : (pre ++ m :: post).getD i [] ∈ pre := by
      rw [List.getD_eq_getElem?_getD, List.getElem?_append_left hi, List.getElem?_eq_getElem hi]
      exact List.getElem_mem hi
    rw [decide_eq_false (h1 _ hm)]
    rfl
  · intro i hi
    simp only [runF, runU, sseq, Fl.bnd, sret, sset, sif, sex, snever, sfor, snewD, sdput, fkeys, dz, ds, pdz, pds, f1, f2, fv, fc, fif, fand, foor, fnot, fcons, fnil, fch, lcons, lnil, flc, gz, gs, pz, ps, ic, ia, i0, snil, wid, wn, wk, wa, Option.bind_some, Option.map_some, Option.map_map, Function.comp_def, fyes, Option.bind_assoc]
    simp only [saug, fc, Option.map_some, Option.bind_some]
    try rfl
  · simp only [fnot, f1, f2, fv, fcons, fnil, Option.bind_some]
    rw [ix pre.length (by simp)]
    simp only [Option.bind_some]
    rw [has_all_S _ _ hb]
    have hm : (pre ++ m :: post).getD pre.length [] = m := by simp
    rw [hm]
    simp [h2]
    exact h2
theorem around_first {l C : List Nat} (h : Lets l) (s : Sys l C) {k : Nat} (hk : k < 2 ^ l.length) : m_first_around (srtK (T l C), S (sel l k), ()) = some (S (sel l (ar l C k))) := by
  have hp : (srtK (T l C)).Perm (T l C) := List.mergeSort_perm _ _
  obtain ⟨A, eA, lA⟩ := T_back (l := l) (ys := srtK (T l C)) fun t ht => by
    obtain ⟨k, hk, q⟩ := mem_T.mp (hp.mem_iff.mp ht)
    exact ⟨k, s.lt k hk, q⟩
  have nd : (T l A).Nodup := by
    rw [← eA]
    exact hp.nodup_iff.mpr (T_nd h (fam_good s.toFam).nd s.lt)
  have mA : ∀ k, k < 2 ^ l.length → (k ∈ A ↔ k ∈ C) := fun k hk => by
    rw [← T_mem h lA hk, ← T_mem h s.lt hk, ← eA]
    exact hp.mem_iff
  have pw : (T l A).Pairwise fun a b => leL a b = true := by
    rw [← eA]
    refine List.pairwise_mergeSort (le := leL) ?_ ?_ _
    · intro a b c h1 h2
      have h1 := of_decide_eq_true h1
      have h2 := of_decide_eq_true h2
      exact decide_eq_true (by omega)
    · intro a b
      rw [Bool.or_eq_true]
      rcases Int.le_total (a.length : Int) (b.length : Int) with h | h
      · exact .inl (decide_eq_true h)
      · exact .inr (decide_eq_true h)
  obtain ⟨A1, A2, e⟩ := List.append_of_mem ((mA _ (ar_lt s k)).mpr (ar_mem s k))
  have lenA : A.length = C.length := by
    have := hp.length_eq
    rw [eA, T_len, T_len] at this
    exact this
  have hn := (fam_good s.toFam).len
  have N7 := p7 h
  rw [eA]
  have eT : T l A = (A1.map (sel l) ++ sel l (ar l C k) :: A2.map (sel l)).map S := by
    rw [e]
    simp [T, Function.comp_def]
  rw [eT]
  refine first_around_S (by have := sel_len l k; have := h.n; omega) _ _ _ ?_ ((sel_sub h.nd hk).mpr (ar_up hk)) ?_
  · intro x hx hs
    obtain ⟨p, hp1, rfl⟩ := List.mem_map.mp hx
    have pA : p ∈ A := by rw [e]; exact List.mem_append_left _ hp1
    have hp3 := (sel_sub h.nd hk).mp hs
    have hle := ar_le (l := l) ((mA p (lA p pA)).mp pA) hp3
    obtain ⟨l1, l2⟩ := sel_le_len h.nd hle
    rw [e] at pw nd
    unfold T at pw nd
    rw [List.map_append, List.map_cons] at pw nd
    have q1 := (List.pairwise_append.mp pw).2.2 (S (sel l p)) (List.mem_map_of_mem hp1) (S (sel l (ar l C k))) List.mem_cons_self
    have q1 := of_decide_eq_true q1
    rw [len_S, len_S] at q1
    have q2 := l2 (by omega)
    have q3 := (List.nodup_append.mp nd).2.2 (S (sel l p)) (List.mem_map_of_mem hp1) (S (sel l (ar l C k))) List.mem_cons_self
    exact q3 (by rw [q2])
  · rw [List.length_map]
    have : A.length = A1.length + (A2.length + 1) := by rw [e, List.length_append, List.length_cons]
    omega
theorem lots_around_S {l C : List Nat} (h : Lets l) (s : Sys l C) : m_lots_around (S l, ⟨T l C⟩, ()) = some ⟨(List.range (2 ^ l.length)).map fun k => ((Sum.inr (S (sel l k)) : Key), S (sel l (ar l C k)))⟩ := by
  show runF _ _ = _
  simp only [runF, runU, sseq, Fl.bnd, sret, sset, sif, sex, snever, sfor, snewD, sdput, fkeys, dz, ds, pdz, pds, f1, f2, fv, fc, fif, fand, foor, fnot, fcons, fnil, fch, lcons, lnil, flc, gz, gs, pz, ps, ic, ia, i0, snil, wid, wn, wk, wa, Option.bind_some, Option.map_some, Option.map_map, Function.comp_def, fyes, Option.bind_assoc]
  simp only [lots_S h, Option.bind_some, sortK]
  have hn := s.n
  have N7 := p7 h
  rw [if_pos ⟨by rw [T_len]; omega, fun x hx => by
    obtain ⟨k, hk, rfl⟩ := mem_T.mp hx
    have := sel_len l k
    have := h.n
    rw [len_S]
    omega⟩]
  simp only [Option.map_some, Option.bind_some, fdc1, f1, fv, fcons, fnil, lots_S h, List.length_map, List.length_range]
  rw [if_pos (by omega), dcGo_new (kx := fun x => x) (vx := fun x => (m_first_around (srtK (T l C), x, ())).getD x)]
  · simp only [List.nil_append, List.map_map, Option.map_some, Option.bind_some]
    congr 2
    apply List.map_congr_left
    intro k hk
    have hk := List.mem_range.mp hk
    simp only [Function.comp_apply]
    rw [around_first h s hk]
    rfl
  · intro x hx
    obtain ⟨k, hk, rfl⟩ := List.mem_map.mp hx
    rw [around_first h s (List.mem_range.mp hk)]
    exact ⟨rfl, rfl⟩
  · rw [List.map_map]
    apply nodup_map List.nodup_range
    intro i hi j hj e
    have e2 : S (sel l i) = S (sel l j) := Sum.inr.inj e
    exact sel_inj h.nd (List.mem_range.mp hi) (List.mem_range.mp hj) (S_inj.mp e2)
  · intro x _ q hq
    cases hq
def arD (l C : List Nat) : List (Key × Str) := (List.range (2 ^ l.length)).map fun k => ((Sum.inr (S (sel l k)) : Key), S (sel l (ar l C k)))
def clo (l C : List Nat) : Clo := ⟨S l, ⟨T l C⟩, arD l C⟩
theorem make_S {l C : List Nat} (h : Lets l) (s : Sys l C) : m_Closer___init__ (S l, ⟨T l C⟩, ()) = some (clo l C) := by
  show runI _ _ = _
  unfold runI
  simp only [sseq, sex, sf1, sf2, sf3, snil, Fl.bnd, f1, fv, fcons, fnil, gs, gz, wid, ic, i0, Option.bind_some, Option.map_some, chk_things_S l h.w h.n h.p, chk_closed_S h s, lots_around_S h s]
  rfl
theorem things_S (l C : List Nat) : m_Closer_things (clo l C, ()) = some (S l) := rfl
theorem val_arD {l C : List Nat} (h : Lets l) {k : Nat} (hk : k < 2 ^ l.length) : valB (arD l C) (Sum.inr (S (sel l k))) = some (S (sel l (ar l C k))) := by
  unfold valB arD
  rw [List.find?_map]
  have e : List.find? ((fun kv : Key × Str => decide (kv.1 = Sum.inr (S (sel l k)))) ∘ fun (k : Nat) => ((Sum.inr (S (sel l k)) : Key), S (sel l (ar l C k)))) (List.range (2 ^ l.length)) = some k := by
    rw [List.find?_range_eq_some]
    refine ⟨by simp, List.mem_range.mpr hk, fun j hj => ?_⟩
    simp only [Function.comp_apply, Bool.not_eq_true', decide_eq_false_iff_not]
    intro z
    have := sel_inj h.nd (by omega) hk (S_inj.mp (Sum.inr.inj z))
    omega
  rw [e]
  rfl
theorem around_S {l C : List Nat} (h : Lets l) {k : Nat} (hk : k < 2 ^ l.length) : m_Closer_around (clo l C, S (sel l k), ()) = some (S (sel l (ar l C k))) := by
  show runF _ _ = _
  simp only [runF, runU, sseq, Fl.bnd, sret, sset, sif, sex, snever, sfor, f1, f2, fv, fc, fif, fand, foor, fnot, fcons, fnil, fch, lcons, lnil, flc, gz, gs, pz, ps, ic, ia, i0, snil, wid, wn, wk, wa, Option.bind_some, Option.map_some, Option.map_map, Function.comp_def, fyes, Option.bind_assoc]
  simp only [clo, chk_lot_S l _ (sel_word h k) (sel_in l k) (show (sel l k).length ≤ 1000 by have := sel_len l k; have := h.n; omega), Option.bind_some, Option.map_some, dget]
  rw [show (KeyOf.key (S (sel l k)) : Key) = Sum.inr (S (sel l k)) from rfl, val_arD h hk]
  rfl
def rul (l : List Nat) (i j : Nat) : T2 Str Str := ⟨S (sel l i), S (sel l j)⟩
theorem has_all_T {l : List Nat} (h : Lets l) (i : Nat) {j : Nat} (hj : j < 2 ^ l.length) : m_has_all (S (sel l i), S (sel l j), ()) = some (decide (j &&& i = j)) := by
  rw [has_all_S _ _ (by have := sel_len l j; have := h.n; omega)]
  congr 1
  exact decide_eq_decide.mpr (sel_sub h.nd hj)
theorem keeps_S {l : List Nat} (h : Lets l) (k : Nat) {i j : Nat} (hi : i < 2 ^ l.length) (hj : j < 2 ^ l.length) : m_keeps (S (sel l k), rul l i j, ()) = some (!decide (i &&& k = i) || decide (j &&& k = j)) := by
  show runF _ _ = _
  simp only [runF, runU, sseq, Fl.bnd, sret, sset, sif, sex, snever, sfor, f1, f2, fv, fc, fif, fand, foor, fnot, fcons, fnil, fch, lcons, lnil, flc, gz, gs, pz, ps, ic, ia, i0, snil, wid, wn, wk, wa, Option.bind_some, Option.map_some, Option.map_map, Function.comp_def, fyes, Option.bind_assoc]
  simp only [sunp, fv, rul, Function.comp_apply, Option.map_some, Option.bind_some, has_all_T h k hi, has_all_T h k hj]
  by_cases h1 : i &&& k = i <;> simp [h1]
theorem chk_closer_S (l C : List Nat) : m_check_closer (clo l C, ()) = some () := rfl
theorem both_S (a b : List Nat) (h : a.length ≤ 1000) : m__law_both (S a, S b, ()) = some (S (a.filter fun c => decide (c ∈ b))) := by
  show runF _ _ = _
  simp only [runF, runU, sseq, Fl.bnd, sret, sset, sif, sex, snever, f1, f2, fv, fc, fif, fand, foor, fnot, fcons, fnil, lcons, lnil, flc, gz, gs, pz, ps, ic, ia, i0, snil, wid, wn, wk, wa, Option.bind_some, Option.map_some, Option.map_map, Function.comp_def, fyes]
  simp only [signs_S, List.length_map]
  rw [if_pos (by omega)]
  rw [lcGo_of (T := fun s => match sign1 s with | some c => decide (c ∈ b) | none => false) (E := fun s => s)]
  · rw [filter_map_sign a (fun c => decide (c ∈ b))]
    · simp only [List.map_map, Option.bind_some, emp]
      rw [show ((fun s => s) ∘ fun c => S [c]) = (fun c => S [c]) from rfl, ← emp, jn_S _ (Nat.le_trans (List.length_filter_le ..) (by omega))]
      rfl
    · intro c
      rfl
  · intro x hx
    obtain ⟨c, hc, rfl⟩ := List.mem_map.mp hx
    exact sIn_S c b
  · intro x hx _
    rfl
theorem law_both_T {l : List Nat} (h : Lets l) (i j : Nat) : m__law_both (S (sel l i), S (sel l j), ()) = some (S (sel l (i &&& j))) := by
  rw [both_S _ _ (by have := sel_len l i; have := h.n; omega), sel_and]
theorem lt1s (c d : Nat) : leS (S [c]) (S [d]) = decide (c ≤ d) := by
  unfold leS
  simp only [tl_S]
  by_cases h : c ≤ d
  · rw [decide_eq_true h]
    exact decide_eq_true (List.not_lt.mp fun z => by
      have := (lt1 d c).mp z
      omega)
  · rw [decide_eq_false h]
    exact decide_eq_false fun z => h (by
      have := List.not_lt.mpr z
      rw [lt1] at this
      omega)
theorem sign_srt {o : List Nat} (h : o.Pairwise (· < ·)) : srt (o.map fun c => S [c]) = o.map fun c => S [c] := by
  apply srt_id
  rw [List.pairwise_map]
  exact h.imp fun h => by
    rw [lt1s]
    exact decide_eq_true (Nat.le_of_lt h)
theorem sign_nd {o : List Nat} (h : o.Nodup) : (o.map fun c => S [c]).Nodup := nodup_map h fun a _ b _ e => by
  have := S_inj.mp e
  cases this
  rfl
theorem sort_signs {xs o : List Nat} (ho : o.Pairwise (· < ·)) (m : ∀ c, c ∈ xs ↔ c ∈ o) : srt (ded [] (xs.map fun c => S [c])) = o.map fun c => S [c] := by
  rw [← sign_srt ho]
  refine srt_ext (ded_nd _ _ List.nodup_nil) (sign_nd (ho.imp fun h => Nat.ne_of_lt h)) fun s => ?_
  rw [mem_ded]
  simp only [List.not_mem_nil, false_or, List.mem_map]
  constructor
  · rintro ⟨c, hc, rfl⟩
    exact ⟨c, (m c).mp hc, rfl⟩
  · rintro ⟨c, hc, rfl⟩
    exact ⟨c, (m c).mpr hc, rfl⟩
theorem sel_asc {l : List Nat} (h : Lets l) (k : Nat) : (sel l k).Pairwise (· < ·) := h.w.asc.filter _
theorem mem_or {l : List Nat} {i j c : Nat} : c ∈ sel l (i ||| j) ↔ c ∈ sel l i ∨ c ∈ sel l j := by
  rw [mem_sel, mem_sel, mem_sel, Nat.testBit_or, Bool.or_eq_true]
  constructor
  · rintro ⟨h, a | a⟩
    · exact .inl ⟨h, a⟩
    · exact .inr ⟨h, a⟩
  · rintro (⟨h, a⟩ | ⟨h, a⟩)
    · exact ⟨h, .inl a⟩
    · exact ⟨h, .inr a⟩
def bk (l : List Nat) (B : List (Nat × Nat)) : Tup (T2 Str Str) := ⟨B.map fun p => rul l p.1 p.2⟩
structure Bok (l : List Nat) (B : List (Nat × Nat)) : Prop where
  lt : ∀ p ∈ B, p.1 < 2 ^ l.length ∧ p.2 < 2 ^ l.length
  n : B.length ≤ 100
def kp (B : List (Nat × Nat)) (k : Nat) : Bool := B.all fun p => !decide (p.1 &&& k = p.1) || decide (p.2 &&& k = p.2)
theorem sapp_ok {Γ Γd S ρ α : Type} [EnvR Γ] [EnvR Γd] [Rep α] {i : Nat} (o : Own i Γ α Γd) {f : Γ → Option (α × Γ)} {γ γ' : Γ} {y : α} (e : f γ = some (y, γ')) (h : (o.get γ').length < 100000) : sapp (S := S) (ρ := ρ) o f γ = some (.nx (o.set γ' (o.get γ' ++ [y]))) := by
  unfold sapp
  rw [e]
  simp only [Option.bind_some]
  rw [if_pos h]
structure All (l E : List Nat) : Prop where
  f : Fam l E
  m : ∀ k, k ∈ E ↔ k < 2 ^ l.length
theorem all_ex {l : List Nat} (h : Lets l) : ∃ E, m__law_packs (S l, ()) = some (T l E) ∧ All l E := by
  obtain ⟨E, eE, fE, gE, mE⟩ := T_srt h (range_good (2 ^ l.length))
  exact ⟨E, by rw [law_lots_S h, eE], fE, fun k => (mE k).trans List.mem_range⟩
theorem kept_sys {l E : List Nat} (h : Lets l) (A : All l E) {B : List (Nat × Nat)} (b : Bok l B) : Sys l (E.filter (kp B)) := by
  have N1 : 0 < 2 ^ l.length := Nat.two_pow_pos _
  refine ⟨⟨fun k hk => A.f.lt k (List.mem_filter.mp hk).1, ?_, Nat.le_trans (List.length_filter_le _ _) A.f.n⟩, ?_, ?_⟩
  · have := A.f.asc
    unfold Asc at this ⊢
    exact this.sublist (List.Sublist.map _ List.filter_sublist)
  · refine List.mem_filter.mpr ⟨(A.m _).mpr (by omega), List.all_eq_true.mpr fun p hp => ?_⟩
    rw [Bool.or_eq_true]
    exact .inr (decide_eq_true (and_full (b.lt p hp).2))
  · intro x hx y hy
    obtain ⟨x1, x2⟩ := List.mem_filter.mp hx
    obtain ⟨y1, y2⟩ := List.mem_filter.mp hy
    refine List.mem_filter.mpr ⟨(A.m _).mpr (Nat.and_lt_two_pow _ (A.f.lt y y1)), List.all_eq_true.mpr fun p hp => ?_⟩
    have h1 := List.all_eq_true.mp x2 p hp
    have h2 := List.all_eq_true.mp y2 p hp
    by_cases hq : p.1 &&& (x &&& y) = p.1
    · have q := le_bits.mp hq
      have q1 : p.1 &&& x = p.1 := le_bits.mpr fun i hi => by
        have := q i hi
        rw [Nat.testBit_and, Bool.and_eq_true] at this
        exact this.1
      have q2 : p.1 &&& y = p.1 := le_bits.mpr fun i hi => by
        have := q i hi
        rw [Nat.testBit_and, Bool.and_eq_true] at this
        exact this.2
      simp only [q1, decide_true, Bool.not_true, Bool.false_or, decide_eq_true_eq] at h1
      simp only [q2, decide_true, Bool.not_true, Bool.false_or, decide_eq_true_eq] at h2
      rw [Bool.or_eq_true]
      refine .inr (decide_eq_true (le_bits.mpr fun i hi => ?_))
      rw [Nat.testBit_and, le_bits.mp h1 i hi, le_bits.mp h2 i hi]
      rfl
    · simp [hq]
def Sk (n : Int) (s : List Int) : Prop := ∃ a b c : Int, s = [a, b, c] ∧ 0 ≤ c ∧ c ≤ n
theorem Sk.mono {n m : Int} {s : List Int} (h : Sk n s) (k : n ≤ m) : Sk m s := let ⟨a, b, c, h1, h2, h3⟩ := h; ⟨a, b, c, h1, h2, by omega⟩
theorem bits_ex (f : Nat → Bool) : ∀ n, ∃ k, k < 2 ^ n ∧ ∀ p, p < n → k.testBit p = f p
  | 0 => ⟨0, by omega, fun p hp => by omega⟩
  | n + 1 => by
    obtain ⟨k, hk, h⟩ := bits_ex f n
    have e : 2 ^ (n + 1) = 2 ^ n + 2 ^ n := by rw [Nat.pow_succ]; omega
    cases hf : f n with
    | false =>
      refine ⟨k, by omega, fun p hp => ?_⟩
      by_cases q : p = n
      · subst q
        rw [bit_hi hk (Nat.le_refl _), hf]
      · exact h p (by omega)
    | true =>
      refine ⟨2 ^ n + k, by omega, fun p hp => ?_⟩
      by_cases q : p = n
      · subst q
        rw [Nat.testBit_two_pow_add_eq, bit_hi hk (Nat.le_refl _), hf]
        rfl
      · rw [Nat.testBit_two_pow_add_gt (by omega)]
        exact h p (by omega)
theorem filt_sub : ∀ {x l : List Nat}, x.Sublist l → l.Nodup → x = l.filter fun c => decide (c ∈ x)
  | _, _, .slnil, _ => rfl
  | x, c :: l, .cons _ s, nd => by
    have hc : c ∉ x := fun h => (List.nodup_cons.mp nd).1 (s.subset h)
    rw [List.filter_cons_of_neg (by simp [hc])]
    exact filt_sub s (List.nodup_cons.mp nd).2
  | c :: x, _ :: l, .cons_cons _ s, nd => by
    have ih := filt_sub s (List.nodup_cons.mp nd).2
    rw [List.filter_cons_of_pos (by simp)]
    congr 1
    rw [ih]
    apply List.filter_congr
    intro d hd
    have hdc : d ≠ c := fun e => (List.nodup_cons.mp nd).1 (by rw [← e]; exact hd)
    rw [← ih]
    simp [hdc]
theorem sub_sel {x l : List Nat} (s : x.Sublist l) (nd : l.Nodup) : ∃ k, k < 2 ^ l.length ∧ x = sel l k := by
  obtain ⟨k, hk, h⟩ := bits_ex (fun p => decide (l.getD p 0 ∈ x)) l.length
  refine ⟨k, hk, ?_⟩
  rw [filt_sub s nd]
  unfold sel
  apply List.filter_congr
  intro c hc
  have hp := List.idxOf_lt_length_of_mem hc
  rw [h _ hp]
  have : l.getD (l.idxOf c) 0 = c := by
    rw [List.getD_eq_getElem?_getD, List.getElem?_eq_getElem hp, Option.getD_some]
    exact List.getElem_idxOf hp
  rw [this]
  try simp only [List.mem_filter, hc, true_and, decide_eq_true_eq]
def Ev {β : Type} (X : Option β) (P : β → Prop) : Prop := ∃ y, X = some y ∧ P y
theorem Ev.of {β : Type} {X : Option β} {P : β → Prop} {y : β} (e : X = some y) (h : P y) : Ev X P := ⟨y, e, h⟩
theorem Ev.mono {β : Type} {X : Option β} {P Q : β → Prop} (h : Ev X P) (k : ∀ y, P y → Q y) : Ev X Q := let ⟨y, e, p⟩ := h; ⟨y, e, k y p⟩
theorem Ev.some {β : Type} {P : β → Prop} {y : β} (h : P y) : Ev (some y) P := ⟨y, rfl, h⟩
theorem Ev.bind {α β : Type} {X : Option α} {k : α → Option β} {P : β → Prop} (h : Ev X fun y => Ev (k y) P) : Ev (X.bind k) P := by
  obtain ⟨y, e, z, e2, p⟩ := h
  exact ⟨z, by rw [e]; exact e2, p⟩
theorem Ev.map {α β : Type} {X : Option α} {f : α → β} {P : β → Prop} (h : Ev X fun y => P (f y)) : Ev (X.map f) P := by
  obtain ⟨y, e, p⟩ := h
  exact ⟨f y, by rw [e]; rfl, p⟩
theorem Ev.forL {τ Γ S ρ : Type} {step : τ → Γ → Option (Fl Γ S ρ)} {P : Fl Γ S ρ → Prop} (I : List τ → Γ → Prop) : ∀ {xs : List τ} {γ : Γ}, I xs γ → (∀ x xs γ, I (x :: xs) γ → Ev (step x γ) fun r => ∃ γ', r = .nx γ' ∧ I xs γ') → (∀ γ, I [] γ → P (.nx γ)) → Ev (forL step xs γ) P
  | [], γ, h0, _, hk => ⟨_, rfl, hk γ h0⟩
  | x :: xs, γ, h0, hs, hk => by
    obtain ⟨r, e, γ', e2, h1⟩ := hs x xs γ h0
    subst e2
    obtain ⟨y, e3, p⟩ := Ev.forL I h1 hs hk
    refine ⟨y, ?_, p⟩
    unfold Vx.forL
    rw [e, Option.bind_some]
    exact e3
theorem Ev.lcSt {τ Γ α : Type} {t : τ → Γ → Option (Bool × Γ)} {e : τ → Γ → Option (α × Γ)} (I : Nat → Γ → Prop) (Q : τ → α → Prop) {P : List α × Γ → Prop} : ∀ {xs : List τ} {n : Nat} {s : Γ}, I n s → (∀ x m s, m < n + xs.length → I m s → x ∈ xs → Ev (t x s) fun b => if b.1 = true then Ev (e x b.2) fun y => Q x y.1 ∧ I (m + 1) y.2 else I (m + 1) b.2) →
    (∀ ys zs s', zs.Sublist xs → PySem.Paired Q zs ys → I (n + xs.length) s' → P (ys, s')) → Ev (lcSt t e xs s) P
  | [], n, s, h, _, k => ⟨([], s), rfl, k [] [] s (List.Sublist.refl _) .nil h⟩
  | x :: xs, n, s, h, hs, k => by
    obtain ⟨⟨b, s1⟩, e1, h1⟩ := hs x n s (by rw [List.length_cons]; omega) h List.mem_cons_self
    have en : n + 1 + xs.length = n + (x :: xs).length := by rw [List.length_cons]; omega
    cases b with
    | true =>
      simp only [if_true] at h1
      obtain ⟨⟨y, s2⟩, e2, hq, h2⟩ := h1
      have := Ev.lcSt I Q (P := fun r => P (y :: r.1, r.2)) (xs := xs) (n := n + 1) (s := s2) h2 (fun x m s hm hi hx => hs x m s (by omega) hi (List.mem_cons_of_mem _ hx)) fun ys zs s' h3 h4 h5 => k (y :: ys) (x :: zs) s' (h3.cons_cons x) (.cons hq h4) (by rw [← en]; exact h5)
      obtain ⟨⟨ys, s3⟩, e3, p⟩ := this
      refine ⟨(y :: ys, s3), ?_, p⟩
      unfold Vx.lcSt
      rw [e1]
      simp only [Option.bind_some, if_true]
      rw [e2]
      simp only [Option.bind_some]
      rw [e3]
      rfl
    | false =>
      simp only [Bool.false_eq_true, if_false] at h1
      have := Ev.lcSt I Q (P := P) (xs := xs) (n := n + 1) (s := s1) h1 (fun x m s hm hi hx => hs x m s (by omega) hi (List.mem_cons_of_mem _ hx)) fun ys zs s' h3 h4 h5 => k ys zs s' (h3.cons x) h4 (by rw [← en]; exact h5)
      obtain ⟨r, e3, p⟩ := this
      refine ⟨r, ?_, p⟩
      unfold Vx.lcSt
      rw [e1]
      simp only [Option.bind_some, Bool.false_eq_true, if_false]
      exact e3
theorem Ev.mlc {Γ Γe τ α : Type} {i : Nat} [EnvR Γ] [EnvR Γe] [Rep τ] [Rep α] {p : Put i Γ τ Γe} {bk : Bk i Γ τ Γe} {g : Γ → Option (List τ × Γ)} {t : Γe → Option (Bool × Γe)} {e : Γe → Option (α × Γe)} {γ : Γ} {P : List α × Γ → Prop} (I : Nat → Γ → Prop) (Q : τ → α → Prop)
    (h : Ev (g γ) fun r => r.1.length ≤ 100000 ∧ I 0 r.2 ∧ (∀ x m s, m < r.1.length → I m s → x ∈ r.1 → Ev (t (p.put s x)) fun b => if b.1 = true then Ev (e (p.put (bk.back b.2) x)) fun y => Q x y.1 ∧ I (m + 1) (bk.back y.2) else I (m + 1) (bk.back b.2)) ∧ ∀ ys zs s', zs.Sublist r.1 → PySem.Paired Q zs ys → I r.1.length s' → P (ys, s')) :
    Ev (mlc p bk g t e γ) P := by
  obtain ⟨⟨xs, γ1⟩, e0, hl, h0, hs, hk⟩ := h
  unfold Vx.mlc
  rw [e0]
  simp only [Option.bind_some]
  rw [if_pos hl]
  refine Ev.lcSt I Q (n := 0) h0 (fun x m s hm hi hx => ?_) (fun ys zs s' h1 h2 h3 => hk ys zs s' h1 h2 (by rw [Nat.zero_add] at h3; exact h3))
  rw [Nat.zero_add] at hm
  exact Ev.map ((hs x m s hm hi hx).mono fun b hb => by
    obtain ⟨b, s1⟩ := b
    cases b with
    | true =>
      simp only [if_true] at hb ⊢
      exact Ev.map hb
    | false =>
      simp only [Bool.false_eq_true, if_false] at hb ⊢
      exact hb)
theorem Ev.lcStA {τ Γ α : Type} {t : τ → Γ → Option (Bool × Γ)} {e : τ → Γ → Option (α × Γ)} (I : Nat → Γ → Prop) (Q : τ → α → Prop) {P : List α × Γ → Prop} : ∀ {xs : List τ} {n : Nat} {s : Γ}, I n s → (∀ x m s, m < n + xs.length → I m s → x ∈ xs → Ev (t x s) fun b => b.1 = true ∧ Ev (e x b.2) fun y => Q x y.1 ∧ I (m + 1) y.2) →
    (∀ ys s', PySem.Paired Q xs ys → I (n + xs.length) s' → P (ys, s')) → Ev (Vx.lcSt t e xs s) P
  | [], n, s, h, _, k => ⟨([], s), rfl, k [] s .nil h⟩
  | x :: xs, n, s, h, hs, k => by
    obtain ⟨⟨b, s1⟩, e1, hb, ⟨y, s2⟩, e2, hq, h2⟩ := hs x n s (by rw [List.length_cons]; omega) h List.mem_cons_self
    have hb : b = true := hb
    subst hb
    have en : n + 1 + xs.length = n + (x :: xs).length := by rw [List.length_cons]; omega
    have := Ev.lcStA I Q (P := fun r => P (y :: r.1, r.2)) (xs := xs) (n := n + 1) (s := s2) h2 (fun x m s hm hi hx => hs x m s (by omega) hi (List.mem_cons_of_mem _ hx)) fun ys s' h4 h5 => k (y :: ys) s' (.cons hq h4) (by rw [← en]; exact h5)
    obtain ⟨⟨ys, s3⟩, e3, p⟩ := this
    refine ⟨(y :: ys, s3), ?_, p⟩
    unfold Vx.lcSt
    rw [e1]
    simp only [Option.bind_some, if_true]
    rw [e2]
    simp only [Option.bind_some]
    rw [e3]
    rfl
theorem Ev.mlcA {Γ Γe τ α : Type} {i : Nat} [EnvR Γ] [EnvR Γe] [Rep τ] [Rep α] {p : Put i Γ τ Γe} {bk : Bk i Γ τ Γe} {g : Γ → Option (List τ × Γ)} {t : Γe → Option (Bool × Γe)} {e : Γe → Option (α × Γe)} {γ : Γ} {P : List α × Γ → Prop} (I : Nat → Γ → Prop) (Q : τ → α → Prop)
    (h : Ev (g γ) fun r => r.1.length ≤ 100000 ∧ I 0 r.2 ∧ (∀ x m s, m < r.1.length → I m s → x ∈ r.1 → Ev (t (p.put s x)) fun b => b.1 = true ∧ Ev (e (p.put (bk.back b.2) x)) fun y => Q x y.1 ∧ I (m + 1) (bk.back y.2)) ∧ ∀ ys s', PySem.Paired Q r.1 ys → I r.1.length s' → P (ys, s')) :
    Ev (Vx.mlc p bk g t e γ) P := by
  obtain ⟨⟨xs, γ1⟩, e0, hl, h0, hs, hk⟩ := h
  unfold Vx.mlc
  rw [e0]
  simp only [Option.bind_some]
  rw [if_pos hl]
  refine Ev.lcStA I Q (n := 0) h0 (fun x m s hm hi hx => ?_) (fun ys s' h2 h3 => hk ys s' h2 (by rw [Nat.zero_add] at h3; exact h3))
  rw [Nat.zero_add] at hm
  exact Ev.map ((hs x m s hm hi hx).mono fun b hb => ⟨hb.1, Ev.map hb.2⟩)
theorem rng_n (n : Nat) (h : n ≤ 1000) : rangeOf1 (n : Int) = some (Z (List.range n)) := by
  unfold rangeOf1 rng
  rw [if_pos (by omega)]
  simp [Z]
theorem paired_len' {α β : Type} {R : α → β → Prop} {xs : List α} {ys : List β} (h : PySem.Paired R xs ys) : xs.length = ys.length := Vx.paired_len h
def l7 : List Nat := [97, 98, 99, 100, 107, 120, 122]
theorem erase_map {α β : Type} (f : α → β) : ∀ (xs : List α) (i : Nat), (xs.map f).eraseIdx i = (xs.eraseIdx i).map f
  | [], _ => rfl
  | _ :: _, 0 => rfl
  | x :: xs, i + 1 => by
    show f x :: (xs.map f).eraseIdx i = f x :: (xs.eraseIdx i).map f
    rw [erase_map f xs i]
theorem erase_perm {α : Type} : ∀ (xs : List α) (i : Nat) (h : i < xs.length), (xs[i] :: xs.eraseIdx i).Perm xs
  | x :: xs, 0, _ => List.Perm.refl _
  | x :: xs, i + 1, h => by
    have hi : i < xs.length := by rw [List.length_cons] at h; omega
    have ih := erase_perm xs i hi
    show (xs[i] :: x :: xs.eraseIdx i).Perm (x :: xs)
    exact (List.Perm.swap x _ _).trans (ih.cons x)
theorem paired_id {xs ys : List Str} (h : PySem.Paired (fun (x y : Str) => x = y) xs ys) : xs = ys := by
  induction h with
  | nil => rfl
  | cons r _ ih => rw [r, ih]
theorem paired_all {α β : Type} {P : β → Prop} {xs : List α} {ys : List β} (h : PySem.Paired (fun _ y => P y) xs ys) : ∀ y ∈ ys, P y := by
  induction h with
  | nil =>
    intro y hy
    cases hy
  | cons r _ ih =>
    intro y hy
    rcases List.mem_cons.mp hy with e | e
    · rw [e]
      exact r
    · exact ih y e
theorem sub_signs {zs : List Str} {l : List Nat} (h : zs.Sublist (l.map fun c => S [c])) : ∃ x : List Nat, x.Sublist l ∧ zs = x.map fun c => S [c] := by
  obtain ⟨x, h1, h2⟩ := List.sublist_map_iff.mp h
  exact ⟨x, h1, h2⟩
theorem sif_no {Γ S ρ : Type} [EnvR Γ] {c : Γ → Option Bool} {f : Γ → Option (Fl Γ S ρ)} {γ : Γ} (h : c γ = some false) : sif c f (snil wid) γ = some (.nx γ) := by
  unfold sif
  rw [h]
  rfl
theorem sif_yes {Γ Γ' S ρ : Type} [EnvR Γ] {c : Γ → Option Bool} {f g : Γ → Option (Fl Γ' S ρ)} {γ : Γ} (h : c γ = some true) : sif c f g γ = f γ := by
  unfold sif
  rw [h]
  rfl
theorem sset_ok {Γ Γ' S ρ α : Type} [EnvR Γ] [EnvR Γ'] [Rep α] {i : Nat} {p : Put i Γ α Γ'} {f : Γ → Option α} {γ : Γ} {a : α} (h : f γ = some a) : sset (S := S) (ρ := ρ) p f γ = some (.nx (p.put γ a)) := by
  unfold sset
  rw [h]
  rfl
theorem sel_one {l : List Nat} (h : Lets l) {c : Nat} (hc : c ∈ l) : ∃ k, k < 2 ^ l.length ∧ [c] = sel l k := sub_sel (List.singleton_sublist.mpr hc) h.nd
theorem in_either_T {l : List Nat} (h : Lets l) (i j : Nat) : m_in_either (S (sel l i), S (sel l j), ()) = some (S (sel l (i ||| j))) := by
  show runF _ _ = _
  simp only [runF, runU, sseq, Fl.bnd, sret, sset, sif, sex, snever, sfor, f1, f2, fv, fc, fif, fand, foor, fnot, fcons, fnil, fch, lcons, lnil, flc, gz, gs, pz, ps, ic, ia, i0, snil, wid, wn, wk, wa, Option.bind_some, Option.map_some, Option.map_map, Function.comp_def, fyes, Option.bind_assoc]
  have li := sel_len l i
  have lj := sel_len l j
  have lk := sel_len l (i ||| j)
  have n7 := h.n
  simp only [sAdd, len_S, Option.bind_some]
  rw [if_pos (by omega)]
  simp only [Option.bind_some, S_add, ss, signs_S, List.length_map, List.length_append]
  rw [if_pos (by omega)]
  simp only [Option.bind_some]
  rw [sort_signs (o := sel l (i ||| j)) (sel_asc h _) fun c => by rw [List.mem_append, mem_or], jn_S _ (by omega)]
  rfl
theorem Ev.out {β : Type} {X : Option β} {v : β} (h : Ev X fun y => y = v) : X = Option.some v := by
  obtain ⟨y, e, rfl⟩ := h
  exact e
theorem kp_cons (p : Nat × Nat) (B : List (Nat × Nat)) (k : Nat) : kp (p :: B) k = ((!decide (p.1 &&& k = p.1) || decide (p.2 &&& k = p.2)) && kp B k) := List.all_cons
def fb (k : Nat) : List (Nat × Nat) → Nat → Option Nat
  | [], _ => none
  | p :: B, n => if (!decide (p.1 &&& k = p.1) || decide (p.2 &&& k = p.2)) = true then fb k B (n + 1) else some n
theorem fb_none {k : Nat} : ∀ {B : List (Nat × Nat)} {n : Nat}, fb k B n = none ↔ kp B k = true
  | [], n => by simp [fb, kp]
  | p :: B, n => by
    rw [kp_cons]
    unfold fb
    split
    · rename_i h
      rw [fb_none, h]
      simp
    · rename_i h
      simp [h]
theorem fb_some {k i : Nat} : ∀ {B : List (Nat × Nat)} {n : Nat}, fb k B n = some i → ∃ j p, i = n + j ∧ B[j]? = some p ∧ p ∈ B ∧ p.1 &&& k = p.1 ∧ ¬ p.2 &&& k = p.2
  | [], n, h => by cases h
  | q :: B, n, h => by
    unfold fb at h
    split at h
    · obtain ⟨j, p, h1, h2, h3, h4⟩ := fb_some h
      exact ⟨j + 1, p, by omega, h2, List.mem_cons_of_mem _ h3, h4⟩
    · rename_i hq
      cases h
      refine ⟨0, q, rfl, rfl, List.mem_cons_self, ?_⟩
      simpa using hq
theorem Ev.forLr {τ Γ S ρ : Type} {step : τ → Γ → Option (Fl Γ S ρ)} {P : Fl Γ S ρ → Prop} (I : List τ → Γ → Prop) : ∀ {xs : List τ} {γ : Γ}, I xs γ → (∀ x xs γ, I (x :: xs) γ → Ev (step x γ) fun r => (∃ γ', r = .nx γ' ∧ I xs γ') ∨ ∃ v s, r = .rt v s ∧ P (.rt v s)) → (∀ γ, I [] γ → P (.nx γ)) → Ev (Vx.forL step xs γ) P
  | [], γ, h0, _, hk => ⟨_, rfl, hk γ h0⟩
  | x :: xs, γ, h0, hs, hk => by
    obtain ⟨r, e, h⟩ := hs x xs γ h0
    rcases h with ⟨γ', e2, h1⟩ | ⟨v, s, e2, h1⟩
    · subst e2
      obtain ⟨y, e3, p⟩ := Ev.forLr I h1 hs hk
      refine ⟨y, ?_, p⟩
      unfold Vx.forL
      rw [e, Option.bind_some]
      exact e3
    · subst e2
      refine ⟨_, ?_, h1⟩
      unfold Vx.forL
      rw [e, Option.bind_some]
      rfl
def lead (B : List (Nat × Nat)) : Nat → Nat → List Nat × Nat
  | 0, k => ([], k)
  | n + 1, k => match fb k B 0 with
    | none => ([], k)
    | some i => (i :: (lead B n (k ||| (B.getD i (0, 0)).2)).1, (lead B n (k ||| (B.getD i (0, 0)).2)).2)
theorem lead_stop {B : List (Nat × Nat)} {n k : Nat} (h : fb k B 0 = none) : lead B n k = ([], k) := by
  cases n with
  | zero => rfl
  | succ n =>
    unfold lead
    rw [h]
theorem lead_go {B : List (Nat × Nat)} {n k i : Nat} (h : fb k B 0 = some i) : lead B (n + 1) k = (i :: (lead B n (k ||| (B.getD i (0, 0)).2)).1, (lead B n (k ||| (B.getD i (0, 0)).2)).2) := by
  rw [lead, h]
theorem fb_at {B : List (Nat × Nat)} {k i : Nat} (h : fb k B 0 = some i) : B.getD i (0, 0) ∈ B ∧ (B.getD i (0, 0)).1 &&& k = (B.getD i (0, 0)).1 ∧ ¬ (B.getD i (0, 0)).2 &&& k = (B.getD i (0, 0)).2 ∧ B[i]? = some (B.getD i (0, 0)) := by
  obtain ⟨j, p, h1, h2, h3, h4, h5⟩ := fb_some h
  have : i = j := by omega
  subst this
  have e : B.getD i (0, 0) = p := by rw [List.getD_eq_getElem?_getD, h2]; rfl
  rw [e]
  exact ⟨h3, h4, h5, h2⟩
theorem grows {l : List Nat} (h : Lets l) {k m : Nat} (hm : m < 2 ^ l.length) (hk : k < 2 ^ l.length) (q : ¬ m &&& k = m) : (sel l k).length < (sel l (k ||| m)).length := by
  have le : k &&& (k ||| m) = k := le_bits.mpr fun i hi => by rw [Nat.testBit_or, hi]; rfl
  obtain ⟨l1, l2⟩ := sel_le_len h.nd le
  refine Nat.lt_of_le_of_ne l1 fun e => q ?_
  have := sel_inj h.nd hk (Nat.or_lt_two_pow hk hm) (l2 e)
  rw [this]
  exact le_bits.mpr fun i hi => by rw [Nat.testBit_or, hi, Bool.or_true]
theorem lead_ok {l : List Nat} (h : Lets l) {B : List (Nat × Nat)} (b : Bok l B) : ∀ (n k : Nat), k < 2 ^ l.length → l.length < n + (sel l k).length →
    (lead B n k).2 < 2 ^ l.length ∧ kp B (lead B n k).2 = true ∧ k &&& (lead B n k).2 = k ∧ ∀ m, m < 2 ^ l.length → kp B m = true → k &&& m = k → (lead B n k).2 &&& m = (lead B n k).2
  | 0, k, hk, hn => by
    have := sel_len l k
    omega
  | n + 1, k, hk, hn => by
    cases e : fb k B 0 with
    | none =>
      rw [lead_stop e]
      exact ⟨hk, fb_none.mp e, by simp, fun m _ _ q => q⟩
    | some i =>
      obtain ⟨h1, h2, h3, h4⟩ := fb_at e
      have p2 := (b.lt _ h1).2
      have g := grows h p2 hk h3
      obtain ⟨i1, i2, i3, i4⟩ := lead_ok h b n (k ||| (B.getD i (0, 0)).2) (Nat.or_lt_two_pow hk p2) (by omega)
      rw [lead_go e]
      refine ⟨i1, i2, le_trans' (le_bits.mpr fun t ht => by rw [Nat.testBit_or, ht]; rfl) i3, fun m hm km q => i4 m hm km (le_bits.mpr fun t ht => ?_)⟩
      rw [Nat.testBit_or, Bool.or_eq_true] at ht
      rcases ht with ht | ht
      · exact le_bits.mp q t ht
      · have := List.all_eq_true.mp km _ h1
        have hq : (B.getD i (0, 0)).1 &&& m = (B.getD i (0, 0)).1 := le_trans' h2 q
        simp only [hq, decide_true, Bool.not_true, Bool.false_or, decide_eq_true_eq] at this
        exact le_bits.mp this t ht
theorem whl_lead {l : List Nat} (h : Lets l) {B : List (Nat × Nat)} (b : Bok l B) {Γ S ρ : Type} {c : Γ → Option Bool} {f : Γ → Option (Fl Γ S ρ)} (st : List Nat → Nat → Γ) (hc : ∀ u k, c (st u k) = some (fb k B 0).isSome) (hf : ∀ u k i, fb k B 0 = some i → u.length + 1 < 100000 → f (st u k) = some (.nx (st (u ++ [i]) (k ||| (B.getD i (0, 0)).2)))) : ∀ (n k : Nat) (u : List Nat), k < 2 ^ l.length → l.length < n + (sel l k).length → u.length + n < 100000 → whl n c f (st u k) = some (.nx (st (u ++ (lead B n k).1) (lead B n k).2))
  | 0, k, u, hk, hn, _ => by
    have := sel_len l k
    omega
  | n + 1, k, u, hk, hn, hu => by
    unfold whl
    rw [hc]
    cases e : fb k B 0 with
    | none =>
      rw [lead_stop e]
      simp
    | some i =>
      obtain ⟨h1, h2, h3, h4⟩ := fb_at e
      have p2 := (b.lt _ h1).2
      have g := grows h p2 hk h3
      simp only [Option.isSome_some, Option.bind_some, if_true]
      rw [hf u k i e (by omega), Option.bind_some]
      show whl n c f _ = _
      rw [whl_lead h b st hc hf n _ _ (Nat.or_lt_two_pow hk p2) (by omega) (by rw [List.length_append, List.length_singleton]; omega), lead_go e]
      simp
theorem T_inj {l : List Nat} (h : Lets l) : ∀ {F G : List Nat}, (∀ k ∈ F, k < 2 ^ l.length) → (∀ k ∈ G, k < 2 ^ l.length) → T l F = T l G → F = G
  | [], [], _, _, _ => rfl
  | [], _ :: _, _, _, e => by cases e
  | _ :: _, [], _, _, e => by cases e
  | a :: F, b :: G, hF, hG, e => by
    unfold T at e
    rw [List.map_cons, List.map_cons] at e
    injection e with e1 e2
    rw [sel_inj h.nd (hF a List.mem_cons_self) (hG b List.mem_cons_self) (S_inj.mp e1), T_inj h (fun k hk => hF k (List.mem_cons_of_mem _ hk)) (fun k hk => hG k (List.mem_cons_of_mem _ hk)) e2]
theorem good_sub {N : Nat} {F G : List Nat} (g : Good N F) (s : G.Sublist F) : Good N G := ⟨g.nd.sublist s, fun k hk => g.lt k (s.subset hk)⟩
def full (l : List Nat) : Nat := 2 ^ l.length - 1
theorem full_lt (l : List Nat) : full l < 2 ^ l.length := by
  have : 0 < 2 ^ l.length := Nat.two_pow_pos _
  unfold full
  omega
def un (l : List Nat) (c : Nat) : Nat := ((List.range (2 ^ l.length)).find? fun k => decide (sel l k = [c])).getD 0
theorem un_ok {l : List Nat} (h : Lets l) {c : Nat} (hc : c ∈ l) : un l c < 2 ^ l.length ∧ sel l (un l c) = [c] := by
  obtain ⟨k, hk, e⟩ := sel_one h hc
  unfold un
  cases q : (List.range (2 ^ l.length)).find? fun k => decide (sel l k = [c]) with
  | none =>
    have := List.find?_eq_none.mp q k (List.mem_range.mpr hk)
    simp [e] at this
  | some j =>
    have h1 := List.find?_some q
    have h2 := List.mem_of_find?_eq_some q
    exact ⟨List.mem_range.mp h2, of_decide_eq_true h1⟩
theorem lcGo_l {α : Type} {t : Str → Option Bool} {e : Str → Option α} {P : Nat → Bool} {E : Nat → α} : ∀ {F : List Nat}, (∀ c ∈ F, t (S [c]) = some (P c)) → (∀ c ∈ F, P c = true → e (S [c]) = some (E c)) → lcGo t e (F.map fun c => S [c]) = some ((F.filter P).map E)
  | [], _, _ => rfl
  | c :: F, h1, h2 => by
    rw [List.map_cons]
    unfold lcGo
    rw [h1 c List.mem_cons_self, Option.bind_some, lcGo_l (fun d hd => h1 d (List.mem_cons_of_mem _ hd)) (fun d hd => h2 d (List.mem_cons_of_mem _ hd))]
    cases hP : P c with
    | true => simp [hP, h2 c List.mem_cons_self hP]
    | false => simp [hP]
def l14 : List Nat := [97, 98, 99, 100, 101, 102, 103, 107, 109, 112, 113, 120, 121, 122]
theorem mem_un {l : List Nat} (h : Lets l) {c k : Nat} (hc : c ∈ l) : c ∈ sel l k ↔ un l c &&& k = un l c := by
  obtain ⟨h1, h2⟩ := un_ok h hc
  rw [← sel_sub h.nd h1, h2]
  simp
theorem repr_any {α : Type} [Rep α] [Dat α] {x : α} {w n : Nat} (h : Sm w n (Dat.d x)) (hw : w ≤ 5000) (hn : n ≤ 50) : ∃ r, rprD (x, ()) = some r := by
  unfold rprD
  rw [fits_of h hw hn]
  exact ⟨_, rfl⟩
def cd (l x : List Nat) : Nat := ((List.range (2 ^ l.length)).find? fun k => decide (sel l k = x)).getD 0
def lf (l : List Nat) (k j : Nat) : Nat := cd l (sel (sel l k) j)
def lw (l : List Nat) (k j : Nat) : Nat := cd (sel l k) (sel l (j &&& k))
theorem sort_set {l : List Nat} (h : Lets l) {F : List Nat} (hF : ∀ k ∈ F, k < 2 ^ l.length) : ∃ A, srt (ded [] (T l F)) = T l A ∧ Fam l A ∧ ∀ k, k ∈ A ↔ k ∈ F := by
  let F2 := (List.range (2 ^ l.length)).filter fun k => decide (k ∈ F)
  have m2 : ∀ k, k ∈ F2 ↔ k ∈ F := fun k => by
    simp only [F2, List.mem_filter, List.mem_range, decide_eq_true_eq]
    exact ⟨fun h => h.2, fun h => ⟨hF k h, h⟩⟩
  have g : Good (2 ^ l.length) F2 := ⟨List.nodup_range.filter _, fun k hk => hF k ((m2 k).mp hk)⟩
  obtain ⟨A, e, f, _, m⟩ := T_srt h g
  refine ⟨A, ?_, f, fun k => (m k).trans (m2 k)⟩
  rw [← e]
  refine srt_eq ?_
  refine (List.perm_ext_iff_of_nodup (ded_nd _ _ List.nodup_nil) ?_).mpr fun s => ?_
  · exact nodup_map g.nd fun a ha b hb e => sel_inj h.nd (g.lt a ha) (g.lt b hb) (S_inj.mp e)
  · rw [mem_T, mem_ded, mem_T]
    constructor
    · rintro (q | ⟨k, hk, rfl⟩)
      · cases q
      · exact ⟨k, (m2 k).mpr hk, rfl⟩
    · rintro ⟨k, hk, rfl⟩
      exact .inr ⟨k, (m2 k).mp hk, rfl⟩
def okR (C l : List Nat) (P : List Nat) (k : Nat) : Bool := P.all fun q => !decide (q &&& k = q) || decide (ar l C q &&& k = ar l C q)
def stL (l C : List Nat) : Nat → List Nat
  | 0 => []
  | n + 1 => if !decide (ar l C n = n) && okR C l (stL l C n) n then stL l C n ++ [n] else stL l C n
def sto (l C : List Nat) : List Nat := stL l C (2 ^ l.length)
theorem stL_lt (l C : List Nat) : ∀ (n k : Nat), k ∈ stL l C n → k < n
  | 0, k, h => by cases h
  | n + 1, k, h => by
    unfold stL at h
    split at h
    · rcases List.mem_append.mp h with q | q
      · have := stL_lt l C n k q
        omega
      · rw [List.mem_singleton.mp q]
        omega
    · have := stL_lt l C n k h
      omega
theorem stL_mono (l C : List Nat) {n m : Nat} (h : n ≤ m) {k : Nat} (hk : k < n) : k ∈ stL l C m ↔ k ∈ stL l C n := by
  induction m with
  | zero => omega
  | succ m ih =>
    by_cases e : n = m + 1
    · rw [e]
    · rw [← ih (by omega)]
      conv => lhs; unfold stL
      split
      · rw [List.mem_append, List.mem_singleton]
        constructor
        · rintro (q | q)
          · exact q
          · omega
        · exact .inl
      · rfl
theorem stL_at (l C : List Nat) (n : Nat) : n ∈ stL l C (n + 1) ↔ ¬ ar l C n = n ∧ okR C l (stL l C n) n = true := by
  have e : stL l C (n + 1) = if (!decide (ar l C n = n) && okR C l (stL l C n) n) = true then stL l C n ++ [n] else stL l C n := rfl
  rw [e]
  constructor
  · intro h
    split at h
    · rename_i q
      simpa using q
    · exact absurd (stL_lt l C n n h) (Nat.lt_irrefl _)
  · rintro ⟨h1, h2⟩
    rw [if_pos (by simp [h1, h2])]
    exact List.mem_append_right _ (List.mem_singleton.mpr rfl)
theorem le_num {a b : Nat} (h : a &&& b = a) : a ≤ b := by
  rw [← h]
  exact Nat.and_le_right
theorem mem_sto {l C : List Nat} {k : Nat} : k ∈ sto l C ↔ k < 2 ^ l.length ∧ ¬ ar l C k = k ∧ ∀ q ∈ sto l C, q ≠ k → q &&& k = q → ar l C q &&& k = ar l C q := by
  constructor
  · intro h
    have hk := stL_lt l C _ k h
    have h2 := (stL_mono l C (n := k + 1) hk (Nat.lt_succ_self k)).mp h
    obtain ⟨h3, h4⟩ := (stL_at l C k).mp h2
    refine ⟨hk, h3, fun q hq hne hle => ?_⟩
    have hql : q < k := Nat.lt_of_le_of_ne (le_num hle) hne
    have hq2 := (stL_mono l C (n := k) (by omega) hql).mp hq
    have := List.all_eq_true.mp h4 q hq2
    simpa [hle] using this
  · rintro ⟨hk, h3, h4⟩
    refine (stL_mono l C (n := k + 1) hk (Nat.lt_succ_self k)).mpr ((stL_at l C k).mpr ⟨h3, List.all_eq_true.mpr fun q hq => ?_⟩)
    have hql := stL_lt l C _ q hq
    by_cases hle : q &&& k = q
    · have := h4 q ((stL_mono l C (n := k) (by omega) hql).mpr hq) (by omega) hle
      simp [this]
    · simp [hle]
theorem first_brokenL_S {l : List Nat} (h : Lets l) {B : List (Nat × Nat)} (b : Bok l B) (k : Nat) : m_first_brokenL ((bk l B).l, S (sel l k), ()) = some ((fb k B 0).map fun (i : Nat) => (i : Int)) := by
  apply Ev.out
  show Ev (runF _ _) _
  unfold runF
  refine Ev.bind ?_
  unfold sseq
  refine Ev.bind ?_
  unfold sfor
  refine Ev.bind (Ev.of rfl ?_)
  refine Ev.forLr (fun xs γ => ∃ (n : Nat) (r : List (Nat × Nat)), xs = enumF n (r.map fun p => rul l p.1 p.2) ∧ (∀ p ∈ r, p ∈ B) ∧ fb k r n = fb k B 0 ∧ γ = ((bk l B).l, S (sel l k), (⟨⟩ : Any), (⟨⟩ : Any), ())) ⟨0, B, rfl, fun _ h => h, rfl, rfl⟩ ?_ ?_
  · rintro x xs γ ⟨n, r, h1, h2, h3, rfl⟩
    cases r with
    | nil => cases h1
    | cons p r =>
      cases h1
      obtain ⟨p1, p2⟩ := b.lt p (h2 p List.mem_cons_self)
      refine Ev.bind ?_
      rw [show fb k (p :: r) n = (if (!decide (p.1 &&& k = p.1) || decide (p.2 &&& k = p.2)) = true then fb k r (n + 1) else some n) from rfl] at h3
      cases hc : (!decide (p.1 &&& k = p.1) || decide (p.2 &&& k = p.2)) with
      | true =>
        rw [hc, if_pos rfl] at h3
        refine Ev.of (y := Fl.nx ((bk l B).l, S (sel l k), (n : Int), rul l p.1 p.2, ())) ?_ (Ev.of rfl (.inl ⟨_, rfl, n + 1, r, rfl, fun q hq => h2 q (List.mem_cons_of_mem _ hq), h3, rfl⟩))
        unfold sif
        have e : (fnot (f1 m_keeps (fcons (fv (gs gz)) (fcons (fv (gs (gs (gs gz)))) fnil)))) ((bk l B).l, S (sel l k), (n : Int), rul l p.1 p.2, ()) = some false := by
          show Option.map _ (m_keeps (S (sel l k), rul l p.1 p.2, ())) = _
          rw [keeps_S h k p1 p2, hc]
          rfl
        exact (congrArg (fun z => Option.bind z _) e).trans rfl
      | false =>
        rw [hc, if_neg (by simp)] at h3
        refine Ev.of (y := Fl.rt (some (n : Int)) ()) ?_ (Ev.of rfl (.inr ⟨_, _, rfl, Ev.of rfl (Ev.of rfl (by rw [← h3]; rfl))⟩))
        unfold sif
        have e : (fnot (f1 m_keeps (fcons (fv (gs gz)) (fcons (fv (gs (gs (gs gz)))) fnil)))) ((bk l B).l, S (sel l k), (n : Int), rul l p.1 p.2, ()) = some true := by
          show Option.map _ (m_keeps (S (sel l k), rul l p.1 p.2, ())) = _
          rw [keeps_S h k p1 p2, hc]
          rfl
        exact (congrArg (fun z => Option.bind z _) e).trans rfl
  · rintro γ ⟨n, r, h1, h2, h3, rfl⟩
    cases r with
    | cons => cases h1
    | nil => exact Ev.of rfl (Ev.of rfl (by rw [← h3]; rfl))
structure Stp (l C A : List Nat) : Prop where
  e : srt (T l (sto l C)) = T l A
  f : Fam l A
  m : ∀ k, k ∈ A ↔ k ∈ sto l C
theorem fam_eq {l F G : List Nat} (h : Lets l) (f : Fam l F) (g : Fam l G) (m : ∀ k, k ∈ F ↔ k ∈ G) : F = G := T_inj h f.lt g.lt (by
  rw [← fam_srt f, ← fam_srt g]
  exact T_ext h (fam_good f) (fam_good g) m)
theorem own {l C A : List Nat} (t : Stp l C A) {a q : Nat} (ha : a ∈ A) (hq : q ∈ A) : (!decide (q &&& a = q) || decide (ar l C q &&& a = ar l C q)) = !decide (q = a) := by
  obtain ⟨h1, h2, h3⟩ := mem_sto.mp ((t.m a).mp ha)
  by_cases e : q = a
  · subst e
    have h4 : ¬ ar l C q &&& q = ar l C q := fun z => h2 (le_anti z (ar_up h1))
    simp [h4]
  · have := h3 q ((t.m q).mp hq) e
    by_cases hl : q &&& a = q
    · simp [hl, this hl, e]
    · simp [hl, e]
def wl (l F : List Nat) : List Nat := F.foldl (step (· &&& ·)) [full l]
theorem wl_full (l F : List Nat) : full l ∈ wl l F := walk_mem F [full l] (by simp)
theorem wl_shut (l F : List Nat) : Shut (wl l F) := shut_walk F [full l] fun x hx y hy => by
  rw [List.mem_singleton.mp hx, List.mem_singleton.mp hy, Nat.and_self]
  simp
theorem wl_good {l F : List Nat} (hF : ∀ k ∈ F, k < 2 ^ l.length) : Good (2 ^ l.length) (wl l F) := walk_good (fun n o _ ho => Nat.and_lt_two_pow _ ho) F [full l] hF ⟨by simp, fun k hk => by
  rw [List.mem_singleton.mp hk]
  exact full_lt l⟩
structure Mt (l F C : List Nat) : Prop where
  lt : ∀ k ∈ F, k < 2 ^ l.length
  e : srt (T l (wl l F)) = T l C
  s : Sys l C
  m : ∀ k, k ∈ C ↔ k ∈ wl l F
theorem mt_ex {l F : List Nat} (h : Lets l) (hF : ∀ k ∈ F, k < 2 ^ l.length) : ∃ C, Mt l F C := by
  obtain ⟨C, e, f, g, m⟩ := T_srt h (wl_good hF)
  exact ⟨C, hF, e, ⟨f, (m _).mpr (wl_full l F), fun x hx y hy => (m _).mpr (wl_shut l F x ((m x).mp hx) y ((m y).mp hy))⟩, m⟩
theorem flat_len {α β : Type} {f : α → List β} {n : Nat} : ∀ {xs : List α}, (∀ x ∈ xs, (f x).length ≤ n) → (xs.map f).flatten.length ≤ n * xs.length
  | [], _ => by simp
  | x :: xs, h => by
    rw [List.map_cons, List.flatten_cons, List.length_append, List.length_cons]
    have h1 := h x List.mem_cons_self
    have h2 := flat_len (xs := xs) fun y hy => h y (List.mem_cons_of_mem _ hy)
    have : n * (xs.length + 1) = n * xs.length + n := Nat.mul_succ _ _
    omega
theorem sIx_S {o : List Nat} (h7 : o.length ≤ 7) {i : Nat} (hi : i < o.length) : sIx (S o) (i : Int) = some (S [o[i]]) := by
  unfold sIx
  rw [if_pos (by rw [len_S]; omega)]
  have : atI (S o).cps.toList (i : Int) = some o[i] := by
    apply atI_nat
    exact List.getElem?_eq_getElem hi
  rw [this]
  rfl
theorem ev_nx {Γ Γ' S ρ : Type} {X : Option (Fl Γ S ρ)} {k : Γ → Option (Fl Γ' S ρ)} {P : Fl Γ' S ρ → Prop} {γ : Γ} (e : X = some (.nx γ)) (h : Ev (k γ) P) : Ev (X.bind fun x => x.bnd k) P := by
  rw [e]
  exact h
theorem cutS_from {x : List Nat} (h : x.length ≤ 1000) (k : Nat) (hk : k ≤ x.length) : cutSt (some (k : Int)) none (S x) = some (S (x.drop k)) := by
  unfold cutSt
  rw [len_S, if_pos (by omega)]
  unfold cutS
  rw [len_S, HT.sIx_nat, show (S x).cps.toList = x from rfl]
  simp only [HT.sIx]
  refine congrArg (fun z => some (S z)) ?_
  rw [Nat.min_eq_left hk, List.take_of_length_le (by rw [List.length_drop]; omega)]
theorem mem_cm {l : List Nat} {c k : Nat} (hc : c ∈ l) (hk : k < 2 ^ l.length) : c ∈ sel l (cm l k) ↔ c ∉ sel l k := by
  rw [mem_sel, mem_sel, cm_bit l hk]
  have := List.idxOf_lt_length_of_mem hc
  simp [hc, this]
theorem ev_no {Γ Γ' S ρ : Type} [EnvR Γ] {c : Γ → Option Bool} {f : Γ → Option (Fl Γ S ρ)} {γ : Γ} {k : Γ → Option (Fl Γ' S ρ)} {P : Fl Γ' S ρ → Prop} (h : c γ = some false) (q : Ev (k γ) P) : Ev ((sif c f (snil wid) γ).bind fun x => x.bnd k) P := by
  rw [sif_no h]
  exact q
theorem ev_yes {Γ Γ1 Γ' S ρ : Type} [EnvR Γ] {c : Γ → Option Bool} {f g : Γ → Option (Fl Γ1 S ρ)} {γ : Γ} {k : Γ1 → Option (Fl Γ' S ρ)} {P : Fl Γ' S ρ → Prop} (h : c γ = some true) (q : Ev (f γ) fun x => Ev (x.bnd k) P) : Ev ((sif c f g γ).bind fun x => x.bnd k) P := by
  rw [sif_yes h]
  exact Ev.bind q
def dl (l : List Nat) (k c : Nat) : Nat := k &&& cm l (un l c)
theorem le_iff {l : List Nat} (h : Lets l) {i j : Nat} (hi : i < 2 ^ l.length) : i &&& j = i ↔ ∀ c ∈ sel l i, c ∈ sel l j := (sel_sub h.nd hi).symm
def en (l C : List Nat) (k : Nat) : List Nat := (sel l k).filter fun c => !decide (c ∈ sel l (ar l C (dl l k c)))
theorem zero_le (k : Nat) : 0 &&& k = 0 := Nat.zero_and k
def ld (l C : List Nat) (c : Nat) : Nat := ar l C (un l c)
def ldsL (l C : List Nat) : List (Nat × Nat) := (l.map fun c => ((sel l (ld l C c)).filter fun d => !decide (d = c)).map fun d => (c, d)).flatten
def txt2 (p : Nat × Nat) : Str := S [p.1, p.2]
theorem mem_lds {l C : List Nat} {p : Nat × Nat} : p ∈ ldsL l C ↔ p.1 ∈ l ∧ p.2 ∈ sel l (ld l C p.1) ∧ p.2 ≠ p.1 := by
  unfold ldsL
  rw [List.mem_flatten]
  constructor
  · rintro ⟨ys, hys, hp⟩
    obtain ⟨c, hc, rfl⟩ := List.mem_map.mp hys
    obtain ⟨d, hd, rfl⟩ := List.mem_map.mp hp
    rw [List.mem_filter, Bool.not_eq_true', decide_eq_false_iff_not] at hd
    exact ⟨hc, hd⟩
  · rintro ⟨h1, h2, h3⟩
    refine ⟨_, List.mem_map.mpr ⟨p.1, h1, rfl⟩, List.mem_map.mpr ⟨p.2, ?_, rfl⟩⟩
    rw [List.mem_filter, Bool.not_eq_true', decide_eq_false_iff_not]
    exact ⟨h2, h3⟩
def lt2 (p q : Nat × Nat) : Prop := p.1 < q.1 ∨ (p.1 = q.1 ∧ p.2 < q.2)
theorem txt_lt {p q : Nat × Nat} : (txt2 p).cps.toList < (txt2 q).cps.toList ↔ lt2 p q := by
  show [p.1, p.2] < [q.1, q.2] ↔ _
  unfold lt2
  rw [List.cons_lt_cons_iff, List.cons_lt_cons_iff]
  simp
theorem lds_asc {l C : List Nat} (h : Lets l) : (ldsL l C).Pairwise lt2 := by
  unfold ldsL
  rw [List.pairwise_flatten]
  constructor
  · intro ys hys
    obtain ⟨c, hc, rfl⟩ := List.mem_map.mp hys
    rw [List.pairwise_map]
    exact ((sel_asc h _).filter _).imp fun q => .inr ⟨rfl, q⟩
  · rw [List.pairwise_map]
    refine h.w.asc.imp fun {a b} hab x hx y hy => ?_
    obtain ⟨d, _, rfl⟩ := List.mem_map.mp hx
    obtain ⟨e, _, rfl⟩ := List.mem_map.mp hy
    exact .inl hab
theorem lds_len {l C : List Nat} (h : Lets l) : (ldsL l C).length ≤ 49 := by
  have n7 := h.n
  have := flat_len (f := fun c => ((sel l (ld l C c)).filter fun d => !decide (d = c)).map fun d => (c, d)) (n := 7) (xs := l) fun c hc => by
    rw [List.length_map]
    have h1 := List.length_filter_le (fun d => !decide (d = c)) (sel l (ld l C c))
    have h2 := sel_len l (ld l C c)
    omega
  unfold ldsL
  omega
theorem two_S {c d : Nat} : sAdd (S [c]) (S [d]) = some (txt2 (c, d)) := by
  unfold sAdd
  rw [len_S, len_S, if_pos (by simp)]
  exact congrArg some (S_add [c] [d])
theorem at0 {p : Nat × Nat} : sIx (txt2 p) 0 = some (S [p.1]) := sIx_S (o := [p.1, p.2]) (by simp) (i := 0) (by simp)
theorem at1 {p : Nat × Nat} : sIx (txt2 p) 1 = some (S [p.2]) := sIx_S (o := [p.1, p.2]) (by simp) (i := 1) (by simp)
theorem leads_of_S {l C : List Nat} (h : Lets l) (s : Sys l C) : m_leads_of (clo l C, ()) = some ⟨(ldsL l C).map txt2⟩ := by
  have n7 := h.n
  have e5 : (Vx.signs (S l)).length ≤ 300 := by rw [signs_S, List.length_map]; omega
  apply Ev.out
  show Ev (runF _ _) _
  unfold runF
  refine Ev.bind ?_
  unfold sseq
  refine Ev.of (y := Fl.rt (⟨(ldsL l C).map txt2⟩ : Tup Str) ()) ?_ (Ev.of rfl rfl)
  have key : catGo (fun x => flc1 (ps (ps pz)) fyes (f1 (fun s => some (Vx.signs s))
                  (f1 m_without
                    (fcons (f1 m_Closer_around (fcons (fv gz) (fcons (fv (gs gz)) fnil))) (fcons (fv (gs gz)) fnil))))
                fyes (f2 sAdd (fv (gs gz)) (fv (gs (gs gz)))) ((ps pz).put (clo l C, (⟨⟩ : Any), (⟨⟩ : Any), ()) x)) (l.map fun c => S [c]) = some ((ldsL l C).map txt2) := by
    unfold ldsL
    rw [List.map_flatten, List.map_map]
    have : ∀ x : List Nat, (∀ c ∈ x, c ∈ l) → catGo (fun x => flc1 (ps (ps pz)) fyes (f1 (fun s => some (Vx.signs s))
                  (f1 m_without
                    (fcons (f1 m_Closer_around (fcons (fv gz) (fcons (fv (gs gz)) fnil))) (fcons (fv (gs gz)) fnil))))
                fyes (f2 sAdd (fv (gs gz)) (fv (gs (gs gz)))) ((ps pz).put (clo l C, (⟨⟩ : Any), (⟨⟩ : Any), ()) x)) (x.map fun c => S [c]) = some ((x.map (List.map txt2 ∘ fun c => ((sel l (ld l C c)).filter fun d => !decide (d = c)).map fun d => (c, d))).flatten) := by
      intro x
      induction x with
      | nil => exact fun _ => rfl
      | cons c x ih =>
        intro hx
        have hc := hx c List.mem_cons_self
        obtain ⟨u1, u2⟩ := un_ok h hc
        have ea : m_Closer_around (clo l C, S [c], ()) = some (S (sel l (ld l C c))) := by
          rw [← u2]
          exact around_S h u1
        have lw := sel_len l (ld l C c)
        have ew : m_without (S (sel l (ld l C c)), S [c], ()) = some (S ((sel l (ld l C c)).filter fun d => !decide (d = c))) := by
          rw [without_S _ _ (by omega)]
          refine congrArg (fun z => some (S z)) (List.filter_congr fun d _ => ?_)
          simp
        have lf := List.length_filter_le (fun d => !decide (d = c)) (sel l (ld l C c))
        have e1 : flc1 (ps (ps pz)) fyes (f1 (fun s => some (Vx.signs s))
                  (f1 m_without
                    (fcons (f1 m_Closer_around (fcons (fv gz) (fcons (fv (gs gz)) fnil))) (fcons (fv (gs gz)) fnil))))
                fyes (f2 sAdd (fv (gs gz)) (fv (gs (gs gz)))) ((ps pz).put (clo l C, (⟨⟩ : Any), (⟨⟩ : Any), ()) (S [c])) = some (((sel l (ld l C c)).filter fun d => !decide (d = c)).map fun d => txt2 (c, d)) := by
          simp only [flc1, fyes, f1, f2, fcons, fnil, fv, gs, gz, ps, pz, Option.bind_some, if_true, ea, ew]
          rw [signs_S, if_pos (by rw [List.length_map]; omega)]
          rw [lcGo_l (P := fun _ => true) (E := fun d => txt2 (c, d)) (fun _ _ => rfl) (fun d _ _ => two_S), filt_true]
        rw [List.map_cons]
        unfold catGo
        rw [e1, Option.bind_some, ih fun d hd => hx d (List.mem_cons_of_mem _ hd)]
        simp
    exact this l fun c hc => hc
  have e6 : (if (Vx.signs (S l)).length ≤ 300 then catGo (fun x => flc1 (ps (ps pz)) fyes (f1 (fun s => some (Vx.signs s))
                  (f1 m_without
                    (fcons (f1 m_Closer_around (fcons (fv gz) (fcons (fv (gs gz)) fnil))) (fcons (fv (gs gz)) fnil))))
                fyes (f2 sAdd (fv (gs gz)) (fv (gs (gs gz)))) ((ps pz).put (clo l C, (⟨⟩ : Any), (⟨⟩ : Any), ()) x)) (Vx.signs (S l)) else none) = some ((ldsL l C).map txt2) := by
    rw [if_pos e5, signs_S, key]
  unfold sret
  have e7 : f1 tupL (fcons (flc2 (ps pz) (ps (ps pz))
                (f1 (fun s => some (Vx.signs s)) (f1 (fun c => m_Closer_things (c, ())) (fv gz))) fyes
                (f1 (fun s => some (Vx.signs s))
                  (f1 m_without
                    (fcons (f1 m_Closer_around (fcons (fv gz) (fcons (fv (gs gz)) fnil))) (fcons (fv (gs gz)) fnil))))
                fyes (f2 sAdd (fv (gs gz)) (fv (gs (gs gz))))) fnil) (clo l C, (⟨⟩ : Any), (⟨⟩ : Any), ()) = some (⟨(ldsL l C).map txt2⟩ : Tup Str) := by
    unfold f1 fcons flc2
    refine (congrArg (fun z => Option.bind (Option.bind z _) _) e6).trans ?_
    rfl
  exact (congrArg (fun z => Option.bind (Option.map _ z) _) e7).trans rfl
theorem whl_ev {Γ S ρ : Type} {c : Γ → Option Bool} {f : Γ → Option (Fl Γ S ρ)} (P Q : Γ → Prop) (μ : Γ → Nat)
    (h : ∀ γ, P γ → (c γ = some false ∧ Q γ) ∨ (c γ = some true ∧ Ev (f γ) fun r => ∃ γ', r = Fl.nx γ' ∧ P γ' ∧ μ γ' < μ γ)) : ∀ (n : Nat) (γ : Γ), P γ → μ γ < n → Ev (whl n c f γ) fun r => ∃ γ', r = Fl.nx γ' ∧ Q γ'
  | 0, γ, _, hn => absurd hn (Nat.not_lt_zero _)
  | n + 1, γ, p, hn => by
    unfold whl
    rcases h γ p with ⟨e, q⟩ | ⟨e, r, er, γ', rfl, p', lt⟩
    · rw [e]
      exact Ev.of rfl ⟨γ, rfl, q⟩
    · rw [e, Option.bind_some, if_pos rfl, er, Option.bind_some]
      exact whl_ev P Q μ h n γ' p' (by omega)
theorem nd_len : ∀ (F D : List Nat), F.Nodup → (∀ x ∈ F, x ∈ D) → F.length ≤ D.length
  | [], _, _, _ => Nat.zero_le _
  | a :: F, D, nd, h => by
    obtain ⟨n1, n2⟩ := List.nodup_cons.mp nd
    have ha := h a List.mem_cons_self
    have := nd_len F (D.erase a) n2 fun x hx => (List.mem_erase_of_ne (show x ≠ a from fun e => n1 (by rw [← e]; exact hx))).mpr (h x (List.mem_cons_of_mem _ hx))
    rw [List.length_erase_of_mem ha] at this
    have := List.length_pos_of_mem ha
    rw [List.length_cons]
    omega
def chn (l C : List Nat) (z : Nat) : List Nat := [z, ar l C z, cm l (ar l C z), ar l C (cm l (ar l C z)), cm l (ar l C (cm l (ar l C z))), ar l C (cm l (ar l C (cm l (ar l C z)))), cm l (ar l C (cm l (ar l C (cm l (ar l C z)))))]
def orb (l C : List Nat) (x : Nat) : List Nat := chn l C x ++ chn l C (cm l x)
section
variable {l C : List Nat}
theorem cm_anti' (h : Lets l) {i j : Nat} (hi : i < 2 ^ l.length) (hj : j < 2 ^ l.length) (e : i &&& j = i) : cm l j &&& cm l i = cm l j := (le_iff h (cm_lt l j)).mpr fun c hc => by
  have cl := (mem_sel.mp hc).1
  exact (mem_cm cl hi).mpr fun q => (mem_cm cl hj).mp hc ((le_iff h hi).mp e c q)
theorem ar_ar' (s : Sys l C) (k : Nat) : ar l C (ar l C k) = ar l C k := (ar_fix s (ar_lt s k)).mpr (ar_mem s k)
theorem kura (h : Lets l) (s : Sys l C) (z : Nat) : ar l C (cm l (ar l C (cm l (ar l C (cm l (ar l C z)))))) = ar l C (cm l (ar l C z)) := by
  have wl := cm_lt l (ar l C z)
  have cz := ar_lt s z
  have c1 := ar_lt s (cm l (ar l C z))
  have k1 := cm_lt l (ar l C (cm l (ar l C z)))
  have c2 := ar_lt s (cm l (ar l C (cm l (ar l C z))))
  have k2 := cm_lt l (ar l C (cm l (ar l C (cm l (ar l C z)))))
  refine le_anti ?_ ?_
  · -- rest of around w is within around of it
    have a1 : cm l (ar l C (cm l (ar l C z))) &&& ar l C (cm l (ar l C (cm l (ar l C z)))) = _ := ar_up k1
    have a2 := cm_anti' h k1 c2 a1
    rw [cm_cm c1] at a2
    have a3 := ar_mono s c1 a2
    rw [ar_ar' s] at a3
    exact a3
  · have b1 := ar_up (C := C) wl
    have b2 := cm_anti' h wl c1 b1
    rw [cm_cm cz] at b2
    have b3 := ar_mono s cz b2
    rw [ar_ar' s] at b3
    have b4 := cm_anti' h c2 cz b3
    have b5 := ar_mono s k2 b4
    exact b5
theorem chn_step (h : Lets l) (s : Sys l C) {z y : Nat} (hz : z < 2 ^ l.length) (hy : y ∈ chn l C z) : ar l C y ∈ chn l C z ∧ (cm l y ∈ chn l C z ∨ y = z) := by
  unfold chn at hy
  simp only [List.mem_cons, List.not_mem_nil, or_false] at hy
  have aa := ar_ar' s (l := l)
  have cc : ∀ k, cm l (cm l (ar l C k)) = ar l C k := fun k => cm_cm (ar_lt s k)
  have ku := kura h s z
  rcases hy with rfl | rfl | rfl | rfl | rfl | rfl | rfl
  · exact ⟨by simp [chn], .inr rfl⟩
  · exact ⟨by rw [aa]; simp [chn], .inl (by simp [chn])⟩
  · exact ⟨by simp [chn], .inl (by rw [cc]; simp [chn])⟩
  · exact ⟨by rw [aa]; simp [chn], .inl (by simp [chn])⟩
  · exact ⟨by simp [chn], .inl (by rw [cc]; simp [chn])⟩
  · exact ⟨by rw [aa]; simp [chn], .inl (by simp [chn])⟩
  · exact ⟨by rw [ku]; simp [chn], .inl (by rw [cc]; simp [chn])⟩
theorem chn_lt (s : Sys l C) {z y : Nat} (hz : z < 2 ^ l.length) (hy : y ∈ chn l C z) : y < 2 ^ l.length := by
  unfold chn at hy
  simp only [List.mem_cons, List.not_mem_nil, or_false] at hy
  rcases hy with rfl | rfl | rfl | rfl | rfl | rfl | rfl
  · exact hz
  all_goals first | exact ar_lt s _ | exact cm_lt _ _
theorem orb_lt (s : Sys l C) {x y : Nat} (hx : x < 2 ^ l.length) (hy : y ∈ orb l C x) : y < 2 ^ l.length := by
  rcases List.mem_append.mp hy with q | q
  · exact chn_lt s hx q
  · exact chn_lt s (cm_lt _ _) q
theorem orb_step (h : Lets l) (s : Sys l C) {x y : Nat} (hx : x < 2 ^ l.length) (hy : y ∈ orb l C x) : ar l C y ∈ orb l C x ∧ cm l y ∈ orb l C x := by
  rcases List.mem_append.mp hy with q | q
  · obtain ⟨a, b⟩ := chn_step h s hx q
    refine ⟨List.mem_append_left _ a, ?_⟩
    rcases b with b | rfl
    · exact List.mem_append_left _ b
    · exact List.mem_append_right _ (by simp [chn])
  · obtain ⟨a, b⟩ := chn_step h s (cm_lt l x) q
    refine ⟨List.mem_append_right _ a, ?_⟩
    rcases b with b | rfl
    · exact List.mem_append_right _ b
    · rw [cm_cm hx]
      exact List.mem_append_left _ (by simp [chn])
theorem orb_least {x : Nat} {F : List Nat} (hx : x ∈ F) (st : ∀ y ∈ F, ar l C y ∈ F ∧ cm l y ∈ F) : ∀ y ∈ orb l C x, y ∈ F := by
  have ch : ∀ z ∈ F, ∀ y ∈ chn l C z, y ∈ F := fun z hz y hy => by
    unfold chn at hy
    simp only [List.mem_cons, List.not_mem_nil, or_false] at hy
    have a := fun y hy => (st y hy).1
    have b := fun y hy => (st y hy).2
    rcases hy with rfl | rfl | rfl | rfl | rfl | rfl | rfl
    · exact hz
    · exact a _ hz
    · exact b _ (a _ hz)
    · exact a _ (b _ (a _ hz))
    · exact b _ (a _ (b _ (a _ hz)))
    · exact a _ (b _ (a _ (b _ (a _ hz))))
    · exact b _ (a _ (b _ (a _ (b _ (a _ hz)))))
  intro y hy
  rcases List.mem_append.mp hy with q | q
  · exact ch x hx y q
  · exact ch _ (st x hx).2 y q
theorem orb_len {x : Nat} {F : List Nat} (nd : F.Nodup) (sub : ∀ y ∈ F, y ∈ orb l C x) : F.length ≤ 14 := by
  exact nd_len F (orb l C x) nd sub
end
section
variable {l C : List Nat}
theorem without_C (h : Lets l) {k : Nat} (hk : k < 2 ^ l.length) : m_without (S l, S (sel l k), ()) = some (S (sel l (cm l k))) := by
  rw [without_S l _ (by have := h.n; omega), sel_cm l hk]
theorem chk_lot_T (h : Lets l) (k : Nat) : m_check_lot (S l, S (sel l k), ()) = some () := chk_lot_S l (sel l k) (sel_word h k) (fun c hc => (mem_sel.mp hc).1) (by have := sel_len l k; have := h.n; omega)
theorem lNotIn_T (h : Lets l) {F : List Nat} (lt : ∀ k ∈ F, k < 2 ^ l.length) {k : Nat} (hk : k < 2 ^ l.length) : lNotIn (S (sel l k)) (T l F) = some (!decide (k ∈ F)) := by
  unfold lNotIn
  exact congrArg (fun z => some (!z)) (decide_eq_decide.mpr (T_mem h lt hk))
theorem words_S (h : Lets l) (s : Sys l C) {x : Nat} (hx : x < 2 ^ l.length) : Ev (m_words (clo l C, S (sel l x), ())) fun r => ∃ F, r = ⟨srt (T l F)⟩ ∧ F.Nodup ∧ ∀ y, y ∈ F ↔ y ∈ orb l C x := by
  have xo : x ∈ orb l C x := List.mem_append_left _ (by simp [chn])
  show Ev (runF _ _) _
  unfold runF
  refine Ev.bind ?_
  unfold sseq
  refine ev_nx (γ := (clo l C, S (sel l x), (⟨⟩ : Any), (⟨⟩ : Any), (⟨⟩ : Any), (⟨⟩ : Any), ())) (by simp only [sex, f1, fcons, fv, fnil, gs, gz, ic, ia, i0, Option.bind_some, Option.map_some, chk_closer_S]) ?_
  refine ev_nx (γ := (clo l C, S (sel l x), (⟨⟩ : Any), (⟨⟩ : Any), (⟨⟩ : Any), (⟨⟩ : Any), ())) (by simp only [sex, f1, fcons, fv, fnil, gs, gz, Option.bind_some, Option.map_some, things_S, chk_lot_T h]) ?_
  refine ev_nx (γ := (clo l C, S (sel l x), (⟨T l [x]⟩ : OL Str), (⟨⟩ : Any), (⟨⟩ : Any), (⟨⟩ : Any), ())) rfl ?_
  refine ev_nx (γ := (clo l C, S (sel l x), (⟨T l [x]⟩ : OL Str), (0 : Int), (⟨⟩ : Any), (⟨⟩ : Any), ())) rfl ?_
  unfold swhl
  refine Ev.bind ?_
  refine Ev.mono (whl_ev (fun γ => ∃ (F : List Nat) (i : Nat), γ = (clo l C, S (sel l x), (⟨T l F⟩ : OL Str), (i : Int), (⟨⟩ : Any), (⟨⟩ : Any), ()) ∧ F.Nodup ∧ (∀ y ∈ F, y ∈ orb l C x) ∧ x ∈ F ∧ i ≤ F.length ∧ ∀ y ∈ F.take i, ar l C y ∈ F ∧ cm l y ∈ F)
    (fun γ => ∃ (F : List Nat) (i : Nat), γ = (clo l C, S (sel l x), (⟨T l F⟩ : OL Str), (i : Int), (⟨⟩ : Any), (⟨⟩ : Any), ()) ∧ F.Nodup ∧ (∀ y, y ∈ F ↔ y ∈ orb l C x)) (fun γ => 14 - γ.2.2.2.1.toNat) ?_ 1000 _ ⟨[x], 0, rfl, by simp, fun y hy => by rw [List.mem_singleton.mp hy]; exact xo, by simp, Nat.zero_le _, fun y hy => by simp at hy⟩ (by show 14 - _ < 1000; omega)) ?_
  · rintro γ ⟨F, i, rfl, nd, sub, xF, hi, st⟩
    have lF := orb_len nd sub
    have lt : ∀ k ∈ F, k < 2 ^ l.length := fun k hk => orb_lt s hx (sub k hk)
    have ec : ∀ j : Nat, (f2 iLt (fv (gs (gs (gs gz)))) fun γ => some (((Vx.os (Vx.os oz)).get γ).length : Int)) (clo l C, S (sel l x), (⟨T l F⟩ : OL Str), (i : Int), (⟨⟩ : Any), (⟨⟩ : Any), ()) = some (decide ((i : Int) < ((T l F).length : Int))) := fun _ => rfl
    by_cases q : i < F.length
    · refine .inr ⟨(ec 0).trans (congrArg some (decide_eq_true (by rw [T_len]; omega))), ?_⟩
      have hyF : F[i] ∈ F := List.getElem_mem q
      have hy := lt _ hyF
      have e1 : lIx (T l F) (i : Int) = some (S (sel l F[i])) := by
        unfold lIx
        apply atI_nat
        unfold T
        rw [List.getElem?_map, List.getElem?_eq_getElem q]
        rfl
      have htk : F.take (i + 1) = F.take i ++ [F[i]] := by
        rw [List.take_succ, List.getElem?_eq_getElem q]
        rfl
      generalize F[i] = y at hyF hy e1 htk
      obtain ⟨o1, o2⟩ := orb_step h s hx (sub y hyF)
      have ea := around_S (C := C) h hy
      have ew := without_C h hy
      refine ev_nx (γ := (clo l C, S (sel l x), (⟨T l F⟩ : OL Str), (i : Int), S (sel l y), (⟨⟩ : Any), ())) (by simp only [sset, f2, fv, fown, gs, gz, ps, pz, Vx.os, Vx.oz, Option.bind_some, Option.map_some, e1]) ?_
      refine ev_nx (γ := (clo l C, S (sel l x), (⟨T l F⟩ : OL Str), ((i + 1 : Nat) : Int), S (sel l y), (⟨⟩ : Any), ())) rfl ?_
      refine Ev.bind ?_
      unfold sfor
      refine Ev.bind ?_
      refine Ev.of (y := T l [ar l C y, cm l y]) (by simp only [f1, f2, fcons, fnil, fv, gs, gz, wid, lcons, lnil, shortT, Option.bind_some, Option.map_some, things_S, ea, ew]; rfl) ?_
      refine Ev.forL (fun xs γ => ∃ Y1 Y2 ex : List Nat, [ar l C y, cm l y] = Y1 ++ Y2 ∧ xs = T l Y2 ∧ γ = (clo l C, S (sel l x), (⟨T l (F ++ ex)⟩ : OL Str), ((i + 1 : Nat) : Int), S (sel l y), (⟨⟩ : Any), ()) ∧ (F ++ ex).Nodup ∧ (∀ z ∈ F ++ ex, z ∈ orb l C x) ∧ ∀ z ∈ Y1, z ∈ F ++ ex) ⟨[], _, [], rfl, rfl, by rw [List.append_nil]; rfl, by rw [List.append_nil]; exact nd, by rw [List.append_nil]; exact sub, fun z hz => by cases hz⟩ ?_ ?_
      · rintro w xs γ ⟨Y1, Y2, ex, r1, r2, rfl, nd2, sub2, in2⟩
        cases Y2 with
        | nil => cases r2
        | cons z Y2 =>
          cases r2
          have hz : z ∈ orb l C x := by
            have : z ∈ [ar l C y, cm l y] := by rw [r1]; exact List.mem_append_right _ List.mem_cons_self
            simp only [List.mem_cons, List.not_mem_nil, or_false] at this
            rcases this with rfl | rfl
            · exact o1
            · exact o2
          have hzl := orb_lt s hx hz
          have en := lNotIn_T h (fun k hk => orb_lt s hx (sub2 k hk)) hzl
          have l14 := orb_len nd2 sub2
          by_cases qz : z ∈ F ++ ex
          · refine ev_no (en.trans (congrArg some (by simp [qz]))) ?_
            refine Ev.of rfl ⟨_, rfl, Y1 ++ [z], Y2, ex, by rw [r1]; simp, rfl, rfl, nd2, sub2, fun u hu => ?_⟩
            rcases List.mem_append.mp hu with v | v
            · exact in2 u v
            · rw [List.mem_singleton.mp v]
              exact qz
          · refine ev_yes (en.trans (congrArg some (by simp [qz]))) ?_
            refine Ev.bind ?_
            refine Ev.of (sapp_ok (γ' := (clo l C, S (sel l x), (⟨T l (F ++ ex)⟩ : OL Str), ((i + 1 : Nat) : Int), S (sel l y), S (sel l z), ())) (y := S (sel l z)) _ rfl (by show (T l (F ++ ex)).length < 100000; rw [T_len]; omega)) ?_
            refine Ev.of rfl (Ev.of rfl ⟨_, rfl, Y1 ++ [z], Y2, ex ++ [z], by rw [r1]; simp, rfl, ?_, ?_, ?_, ?_⟩)
            · show (clo l C, S (sel l x), (⟨T l (F ++ ex) ++ [S (sel l z)]⟩ : OL Str), ((i + 1 : Nat) : Int), S (sel l y), (⟨⟩ : Any), ()) = _
              rw [← List.append_assoc]
              unfold T
              rw [List.map_append (l₁ := F ++ ex)]
              rfl
            · rw [← List.append_assoc]
              exact List.nodup_append.mpr ⟨nd2, by simp, fun u hu v hv e => by
                rw [List.mem_singleton.mp hv] at e
                exact qz (e ▸ hu)⟩
            · intro u hu
              rw [← List.append_assoc] at hu
              rcases List.mem_append.mp hu with v | v
              · exact sub2 u v
              · rw [List.mem_singleton.mp v]
                exact hz
            · intro u hu
              rw [← List.append_assoc]
              rcases List.mem_append.mp hu with v | v
              · exact List.mem_append_left _ (in2 u v)
              · exact List.mem_append_right _ v
      · rintro γ ⟨Y1, Y2, ex, r1, r2, rfl, nd2, sub2, in2⟩
        cases Y2 with
        | cons => cases r2
        | nil =>
          rw [List.append_nil] at r1
          subst r1
          refine Ev.of rfl ⟨_, rfl, ⟨F ++ ex, i + 1, rfl, nd2, sub2, List.mem_append_left _ xF, by rw [List.length_append]; omega, fun u hu => ?_⟩, ?_⟩
          · rw [List.take_append_of_le_length (by omega), htk] at hu
            rcases List.mem_append.mp hu with v | v
            · obtain ⟨v1, v2⟩ := st u v
              exact ⟨List.mem_append_left _ v1, List.mem_append_left _ v2⟩
            · rw [List.mem_singleton.mp v]
              exact ⟨in2 _ (by simp), in2 _ (by simp)⟩
          · show 14 - ((i + 1 : Nat) : Int).toNat < 14 - ((i : Nat) : Int).toNat
            rw [Int.toNat_natCast, Int.toNat_natCast]
            omega
    · refine .inl ⟨(ec 0).trans (congrArg some (decide_eq_false (by rw [T_len]; omega))), F, i, rfl, nd, fun y => ⟨sub y, fun hy => orb_least xF (fun z hz => st z ?_) y hy⟩⟩
      rw [List.take_of_length_le (by omega)]
      exact hz
  · rintro r ⟨γ, rfl, F, i, rfl, nd, mem⟩
    have lF := orb_len nd fun y hy => (mem y).mp hy
    have lT : (T l F).length ≤ 100000 := by rw [T_len]; omega
    refine Ev.of (y := Fl.rt (⟨srt (T l F)⟩ : Tup Str) ()) ?_ (Ev.of rfl ⟨F, rfl, nd, mem⟩)
    simp only [Fl.bnd, sret, f1, fcons, fnil, Vx.os, Vx.oz, lT, if_true, Option.bind_some, Option.map_some, tupL]
end
section
variable {l C : List Nat}
theorem rest_U (h : Lets l) {k : Nat} (hk : k < 2 ^ l.length) : m_rest (S l, S (sel l k), ()) = some (S (sel l (cm l k))) := by
  show runF _ _ = _
  simp only [runF, runU, sseq, Fl.bnd, sret, sset, sif, sex, snever, sfor, snewD, sdput, fkeys, dz, ds, pdz, pds, f1, f2, fv, fc, fif, fand, foor, fnot, fcons, fnil, fch, lcons, lnil, flc, gz, gs, pz, ps, ic, ia, i0, snil, wid, wn, wk, wa, Option.bind_some, Option.map_some, Option.map_map, Function.comp_def, fyes, Option.bind_assoc]
  simp only [chk_things_S l h.w h.n h.p, chk_lot_T h, without_C h hk, Option.bind_some, Option.map_some]
theorem inner_S (h : Lets l) (s : Sys l C) {k : Nat} (hk : k < 2 ^ l.length) : m_inner_of (clo l C, S (sel l k), ()) = some (S (sel l (cm l (ar l C (cm l k))))) := by
  show runF _ _ = _
  simp only [runF, runU, sseq, Fl.bnd, sret, sset, sif, sex, snever, sfor, snewD, sdput, fkeys, dz, ds, pdz, pds, f1, f2, fv, fc, fif, fand, foor, fnot, fcons, fnil, fch, lcons, lnil, flc, gz, gs, pz, ps, ic, ia, i0, snil, wid, wn, wk, wa, Option.bind_some, Option.map_some, Option.map_map, Function.comp_def, fyes, Option.bind_assoc]
  simp only [things_S, without_C h hk, around_S (C := C) h (cm_lt l k), without_C h (ar_lt s (cm l k)), Option.bind_some, Option.map_some]
theorem inner_U (h : Lets l) (s : Sys l C) {k : Nat} (hk : k < 2 ^ l.length) : m_inner (clo l C, S (sel l k), ()) = some (S (sel l (cm l (ar l C (cm l k))))) := by
  show runF _ _ = _
  simp only [runF, runU, sseq, Fl.bnd, sret, sset, sif, sex, snever, sfor, snewD, sdput, fkeys, dz, ds, pdz, pds, f1, f2, fv, fc, fif, fand, foor, fnot, fcons, fnil, fch, lcons, lnil, flc, gz, gs, pz, ps, ic, ia, i0, snil, wid, wn, wk, wa, Option.bind_some, Option.map_some, Option.map_map, Function.comp_def, fyes, Option.bind_assoc]
  simp only [chk_closer_S, things_S, chk_lot_T h, inner_S h s hk, Option.bind_some, Option.map_some]
theorem sel_out (h : Lets l) {i j : Nat} (hj : j < 2 ^ l.length) : (sel l i).filter (fun c => !decide (c ∈ sel l (cm l j))) = sel l (i &&& j) := by
  rw [← sel_and]
  refine List.filter_congr fun c hc => ?_
  have := mem_cm (mem_sel.mp hc).1 hj
  by_cases q : c ∈ sel l j
  · have : ¬ c ∈ sel l (cm l j) := fun z => this.mp z q
    simp [q, this]
  · have : c ∈ sel l (cm l j) := this.mpr q
    simp [q, this]
theorem rim_S (h : Lets l) (s : Sys l C) {k : Nat} (hk : k < 2 ^ l.length) : m_rim (clo l C, S (sel l k), ()) = some (S (sel l (ar l C k &&& ar l C (cm l k)))) := by
  have hw := without_S (sel l (ar l C k)) (sel l (cm l (ar l C (cm l k)))) (by have := sel_len l (ar l C k); have := h.n; omega)
  rw [sel_out h (ar_lt s _)] at hw
  show runF _ _ = _
  simp only [runF, runU, sseq, Fl.bnd, sret, sset, sif, sex, snever, sfor, snewD, sdput, fkeys, dz, ds, pdz, pds, f1, f2, fv, fc, fif, fand, foor, fnot, fcons, fnil, fch, lcons, lnil, flc, gz, gs, pz, ps, ic, ia, i0, snil, wid, wn, wk, wa, Option.bind_some, Option.map_some, Option.map_map, Function.comp_def, fyes, Option.bind_assoc]
  simp only [chk_closer_S, things_S, chk_lot_T h, around_S (C := C) h hk, inner_S h s hk, hw, Option.bind_some, Option.map_some]
end
theorem led_onL_S {l : List Nat} (h : Lets l) {B : List (Nat × Nat)} (b : Bok l B) {k : Nat} (hk : k < 2 ^ l.length) : m_led_onL ((bk l B).l, S (sel l k), ()) = some ⟨⟨Z (lead B 1000 k).1⟩, S (sel l (lead B 1000 k).2)⟩ := by
  have n7 := h.n
  apply Ev.out
  show Ev (runF _ _) _
  unfold runF
  refine Ev.bind ?_
  unfold sseq
  refine Ev.bind (Ev.of rfl ?_)
  refine Ev.bind ?_
  refine Ev.of (sset_ok (a := (fb k B 0).map fun (i : Nat) => (i : Int)) ?_) ?_
  · exact first_brokenL_S h b k
  refine Ev.bind ?_
  unfold swhl
  refine Ev.of (whl_lead h b (fun u k0 => ((bk l B).l, S (sel l k), (⟨Z u⟩ : OL Int), S (sel l k0), (fb k0 B 0).map fun (i : Nat) => (i : Int), ())) ?_ ?_ 1000 k [] hk (by omega) (by simp)) ?_
  · intro u k0
    show some ((fb k0 B 0).map fun (i : Nat) => (i : Int)).isSome = _
    rw [Option.isSome_map]
  · intro u k0 i e hu
    obtain ⟨h1, h2, h3, h4⟩ := fb_at e
    have p2 := (b.lt _ h1).2
    apply Ev.out
    refine Ev.bind ?_
    have ez : Z u ++ [(i : Int)] = Z (u ++ [i]) := by simp [Z]
    refine Ev.of (sapp_ok (γ' := ((bk l B).l, S (sel l k), (⟨Z u⟩ : OL Int), S (sel l k0), (fb k0 B 0).map fun (i : Nat) => (i : Int), ())) (y := (i : Int)) (Vx.os (Vx.os oz)) ?_ ?_) ?_
    · rw [e]
      rfl
    · show (Z u).length < 100000
      simp [Z]
      omega
    show Ev ((sset _ _ ((bk l B).l, S (sel l k), (⟨Z u ++ [(i : Int)]⟩ : OL Int), S (sel l k0), (fb k0 B 0).map fun (i : Nat) => (i : Int), ())).bind _) _
    rw [ez]
    refine Ev.bind ?_
    refine Ev.of (sset_ok (a := S (sel l (k0 ||| (B.getD i (0, 0)).2))) ?_) ?_
    · rw [e]
      have et : lIx (bk l B).l (i : Int) = some (rul l (B.getD i (0, 0)).1 (B.getD i (0, 0)).2) := by
        unfold lIx
        apply atI_nat
        show (B.map fun p => rul l p.1 p.2)[i]? = _
        rw [List.getElem?_map, h4]
        rfl
      have ei := in_either_T h k0 (B.getD i (0, 0)).2
      simp only [runF, runU, runM, im, sseq, Fl.bnd, sret, sretm, sset, ssetm, sif, sifm, sex, sexm, snever, sfor, sform, up, m1, m2, mcons, mdr, mif, mand, moor, mnot, f1, f2, fv, fc, fif, fand, foor, fnot, fcons, fnil, fch, lcons, lnil, flc, gz, gs, pz, ps, ic, ia, i0, snil, wid, wn, wk, wa, Option.bind_some, Option.map_some, fyes]
      rw [et]
      exact ei
    refine Ev.bind ?_
    refine Ev.of (sset_ok (a := (fb (k0 ||| (B.getD i (0, 0)).2) B 0).map fun (i : Nat) => (i : Int)) ?_) ?_
    · exact first_brokenL_S h b _
    exact Ev.of rfl rfl
  · exact Ev.of rfl (Ev.of rfl rfl)
theorem lcGo_m {σ τ α : Type} {t : τ → Option Bool} {e : τ → Option α} {f : σ → τ} {P : σ → Bool} {E : σ → α} : ∀ {F : List σ}, (∀ k ∈ F, t (f k) = some (P k)) → (∀ k ∈ F, P k = true → e (f k) = some (E k)) → lcGo t e (F.map f) = some ((F.filter P).map E)
  | [], _, _ => rfl
  | c :: F, h1, h2 => by
    rw [List.map_cons]
    unfold lcGo
    rw [h1 c List.mem_cons_self, Option.bind_some, lcGo_m (fun d hd => h1 d (List.mem_cons_of_mem _ hd)) (fun d hd => h2 d (List.mem_cons_of_mem _ hd))]
    cases hP : P c with
    | true => simp [hP, h2 c List.mem_cons_self hP]
    | false => simp [hP]
theorem dNe_me {α : Type} [Rep α] [Dat α] [DecidableEq α] (z : α) : dNe z z = some false := by
  unfold dNe
  rw [decide_eq_true rfl]
  rfl
theorem sNe_me {α : Type} [DecidableEq α] (z : α) : sNe z z = some false := by
  unfold sNe
  rw [decide_eq_true rfl]
  rfl
def bw (l C : List Nat) : List (Nat × Nat) := ((ldsL l C).map fun p => (un l p.1, un l p.2)) ++ (ldsL l C).map fun p => (un l p.2, un l p.1)
def pc (l C : List Nat) (c : Nat) : Nat := (lead (bw l C) 1000 (un l c)).2
def Clp (l C : List Nat) (k : Nat) : Prop := ∀ p ∈ ldsL l C, p.1 ∈ sel l k ↔ p.2 ∈ sel l k
section
variable {l C : List Nat}
theorem lds_in (h : Lets l) {p : Nat × Nat} (hp : p ∈ ldsL l C) : p.1 ∈ l ∧ p.2 ∈ l := ⟨(mem_lds.mp hp).1, (mem_sel.mp (mem_lds.mp hp).2.1).1⟩
theorem bw_ok (h : Lets l) : Bok l (bw l C) := by
  refine ⟨fun p hp => ?_, ?_⟩
  · rcases List.mem_append.mp hp with q | q
    · obtain ⟨r, hr, rfl⟩ := List.mem_map.mp q
      obtain ⟨a, b⟩ := lds_in h hr
      exact ⟨(un_ok h a).1, (un_ok h b).1⟩
    · obtain ⟨r, hr, rfl⟩ := List.mem_map.mp q
      obtain ⟨a, b⟩ := lds_in h hr
      exact ⟨(un_ok h b).1, (un_ok h a).1⟩
  · have := lds_len (C := C) h
    unfold bw
    rw [List.length_append, List.length_map, List.length_map]
    omega
theorem kp_bw (h : Lets l) (k : Nat) : kp (bw l C) k = true ↔ Clp l C k := by
  unfold kp bw Clp
  rw [List.all_append, Bool.and_eq_true, List.all_map, List.all_map, List.all_eq_true, List.all_eq_true]
  have key : ∀ p ∈ ldsL l C, ((un l p.1 &&& k = un l p.1) ↔ p.1 ∈ sel l k) ∧ ((un l p.2 &&& k = un l p.2) ↔ p.2 ∈ sel l k) := fun p hp => by
    obtain ⟨a, b⟩ := lds_in h hp
    exact ⟨(mem_un h a).symm, (mem_un h b).symm⟩
  constructor
  · rintro ⟨x, y⟩ p hp
    obtain ⟨k1, k2⟩ := key p hp
    have x := x p hp
    have y := y p hp
    simp only [Function.comp_def, Bool.or_eq_true, Bool.not_eq_true', decide_eq_false_iff_not, decide_eq_true_eq, k1, k2] at x y
    constructor
    · intro z
      exact x.resolve_left fun w => w z
    · intro z
      exact y.resolve_left fun w => w z
  · intro x
    refine ⟨fun p hp => ?_, fun p hp => ?_⟩
    · obtain ⟨k1, k2⟩ := key p hp
      simp only [Function.comp_def, Bool.or_eq_true, Bool.not_eq_true', decide_eq_false_iff_not, decide_eq_true_eq, k1, k2]
      by_cases z : p.1 ∈ sel l k
      · exact .inr ((x p hp).mp z)
      · exact .inl z
    · obtain ⟨k1, k2⟩ := key p hp
      simp only [Function.comp_def, Bool.or_eq_true, Bool.not_eq_true', decide_eq_false_iff_not, decide_eq_true_eq, k1, k2]
      by_cases z : p.2 ∈ sel l k
      · exact .inr ((x p hp).mpr z)
      · exact .inl z
theorem pc_ok (h : Lets l) {c : Nat} (hc : c ∈ l) : pc l C c < 2 ^ l.length ∧ Clp l C (pc l C c) ∧ c ∈ sel l (pc l C c) ∧ ∀ m, m < 2 ^ l.length → Clp l C m → c ∈ sel l m → pc l C c &&& m = pc l C c := by
  have n7 := h.n
  obtain ⟨a1, a2, a3, a4⟩ := lead_ok h (bw_ok (C := C) h) 1000 (un l c) (un_ok h hc).1 (by omega)
  exact ⟨a1, (kp_bw h _).mp a2, (mem_un h hc).mpr a3, fun m hm cl hcm => a4 m hm ((kp_bw h m).mpr cl) ((mem_un h hc).mp hcm)⟩
theorem pc_eq (h : Lets l) {c d : Nat} (hc : c ∈ l) (hd : d ∈ sel l (pc l C c)) : pc l C d = pc l C c := by
  have dl' := (mem_sel.mp hd).1
  obtain ⟨a1, a2, a3, a4⟩ := pc_ok (C := C) h hc
  obtain ⟨b1, b2, b3, b4⟩ := pc_ok (C := C) h dl'
  have le := b4 _ a1 a2 hd
  refine le_anti le ?_
  by_cases q : c ∈ sel l (pc l C d)
  · exact a4 _ b1 b2 q
  · -- what is left of it is shut off too
    have x1 : pc l C c &&& cm l (pc l C d) < 2 ^ l.length := Nat.lt_of_le_of_lt Nat.and_le_left a1
    have mx : ∀ e, e ∈ sel l (pc l C c &&& cm l (pc l C d)) ↔ e ∈ sel l (pc l C c) ∧ e ∉ sel l (pc l C d) := fun e => by
      rw [← sel_and, List.mem_filter, decide_eq_true_eq]
      constructor
      · rintro ⟨u, v⟩
        exact ⟨u, (mem_cm (mem_sel.mp u).1 b1).mp v⟩
      · rintro ⟨u, v⟩
        exact ⟨u, (mem_cm (mem_sel.mp u).1 b1).mpr v⟩
    have cx : Clp l C (pc l C c &&& cm l (pc l C d)) := fun p hp => by
      rw [mx, mx, a2 p hp, b2 p hp]
    have := a4 _ x1 cx ((mx c).mpr ⟨a3, q⟩)
    exact absurd b3 ((mx d).mp ((le_iff h a1).mp this d hd)).2
theorem pieces_S (h : Lets l) (s : Sys l C) : ∃ D, m_pieces (clo l C, ()) = some ⟨T l D⟩ ∧ Fam l D ∧ Good (2 ^ l.length) D ∧ ∀ k, k ∈ D ↔ ∃ c ∈ l, pc l C c = k := by
  have n7 := h.n
  have lt : ∀ k ∈ l.map (pc l C), k < 2 ^ l.length := fun k hk => by
    obtain ⟨c, hc, rfl⟩ := List.mem_map.mp hk
    exact (pc_ok h hc).1
  have ll := lds_len (C := C) h
  have lL : ((ldsL l C).map txt2).length ≤ 100000 := by rw [List.length_map]; omega
  have e1 : lcGo (fun x : Str => some true) (fun x => (sIx x 0).bind fun y => (sIx x 1).bind fun z => pairT (y, z, ())) ((ldsL l C).map txt2) = some ((ldsL l C).map fun p => rul l (un l p.1) (un l p.2)) := by
    rw [lcGo_m (f := txt2) (P := fun _ => true) (E := fun p : Nat × Nat => rul l (un l p.1) (un l p.2)) (fun _ _ => rfl) (fun p hp _ => ?_), filt_true]
    obtain ⟨a, b⟩ := lds_in h hp
    rw [at0, at1, Option.bind_some, Option.bind_some]
    unfold rul
    rw [(un_ok h a).2, (un_ok h b).2]
    rfl
  have e2 : lcGo (fun x : Str => some true) (fun x => (sIx x 1).bind fun y => (sIx x 0).bind fun z => pairT (y, z, ())) ((ldsL l C).map txt2) = some ((ldsL l C).map fun p => rul l (un l p.2) (un l p.1)) := by
    rw [lcGo_m (f := txt2) (P := fun _ => true) (E := fun p : Nat × Nat => rul l (un l p.2) (un l p.1)) (fun _ _ => rfl) (fun p hp _ => ?_), filt_true]
    obtain ⟨a, b⟩ := lds_in h hp
    rw [at0, at1, Option.bind_some, Option.bind_some]
    unfold rul
    rw [(un_ok h a).2, (un_ok h b).2]
    rfl
  have cat : lCat ((ldsL l C).map fun p => rul l (un l p.1) (un l p.2)) ((ldsL l C).map fun p => rul l (un l p.2) (un l p.1)) = some (bk l (bw l C)).l := by
    unfold lCat
    rw [if_pos (by rw [List.length_map, List.length_map]; omega)]
    unfold bw bk
    rw [List.map_append, List.map_map, List.map_map]
    rfl
  have sg : (Vx.signs (S l)).length ≤ 100000 := by rw [signs_S, List.length_map]; omega
  have e3 : lcGo (fun x : Str => some true) (fun x => (m_led_onL ((bk l (bw l C)).l, x, ())).bind fun y => ix1 y 1) (Vx.signs (S l)) = some (T l (l.map (pc l C))) := by
    rw [signs_S, lcGo_l (P := fun _ => true) (E := fun c => S (sel l (pc l C c))) (fun _ _ => rfl) (fun c hc _ => ?_), filt_true]
    · unfold T
      rw [List.map_map]
      rfl
    · have := led_onL_S h (bw_ok (C := C) h) (un_ok h hc).1
      rw [(un_ok h hc).2] at this
      rw [this]
      rfl
  have gF : Good (2 ^ l.length) ((List.range (2 ^ l.length)).filter fun k => decide (k ∈ l.map (pc l C))) := good_sub (range_good _) List.filter_sublist
  obtain ⟨D, eD, fD, gD, mD⟩ := T_srt h gF
  have mF : ∀ k, k ∈ (List.range (2 ^ l.length)).filter (fun k => decide (k ∈ l.map (pc l C))) ↔ k ∈ l.map (pc l C) := fun k => by
    rw [List.mem_filter, List.mem_range, decide_eq_true_eq]
    exact ⟨fun q => q.2, fun q => ⟨lt k q, q⟩⟩
  have es : ss (T l (l.map (pc l C))) = some (T l D) := by
    unfold ss
    rw [if_pos (by rw [T_len, List.length_map]; omega), ← eD]
    refine congrArg some (srt_ext (ded_nd _ _ List.nodup_nil) (T_nd h gF.nd gF.lt) fun x => ?_)
    rw [mem_ded, mem_T]
    constructor
    · rintro (q | q)
      · cases q
      · obtain ⟨k, hk, rfl⟩ := q
        exact mem_T.mpr ⟨k, (mF k).mpr hk, rfl⟩
    · intro q
      obtain ⟨k, hk, rfl⟩ := mem_T.mp q
      exact .inr ⟨k, (mF k).mp hk, rfl⟩
  refine ⟨D, ?_, fD, gD, fun k => by rw [mD, mF, List.mem_map]⟩
  apply Ev.out
  show Ev (runF _ _) _
  have lo := leads_of_S h s
  generalize m_leads_of = LO at lo ⊢
  generalize m_led_onL = LD at e3 ⊢
  unfold runF
  refine Ev.bind ?_
  unfold sseq
  refine ev_nx (γ := (clo l C, (⟨⟩ : Any), (⟨⟩ : Any), (⟨⟩ : Any), (⟨⟩ : Any), ())) (by simp only [sex, f1, fcons, fv, fnil, gs, gz, ic, ia, i0, Option.bind_some, Option.map_some, chk_closer_S]) ?_
  refine ev_nx (γ := (clo l C, (⟨(ldsL l C).map txt2⟩ : Tup Str), (⟨⟩ : Any), (⟨⟩ : Any), (⟨⟩ : Any), ())) (by simp only [sset, f1, fcons, fv, fnil, gs, gz, ps, pz, Option.bind_some, Option.map_some, lo]) ?_
  refine ev_nx (γ := (clo l C, (⟨(ldsL l C).map txt2⟩ : Tup Str), (bk l (bw l C)).l, (⟨⟩ : Any), (⟨⟩ : Any), ())) (by simp only [sset, f1, f2, flc, fyes, fcons, fv, fc, fnil, gs, gz, ps, pz, Option.bind_some, Option.bind_assoc, Option.map_some, lL, if_true, e1, e2, cat]) ?_
  refine Ev.of (y := Fl.rt (⟨T l D⟩ : Tup Str) ()) (by simp only [sret, f1, f2, flc, fyes, fcons, fv, fc, fnil, gs, gz, ps, pz, Option.bind_some, Option.bind_assoc, Option.map_some, things_S, sg, if_true, e3, es, tupL]; rfl) (Ev.of rfl rfl)
end
end K34
namespace K34
open Vx.Rep (rep)
open Vx.EnvR (er)
open PySem PySem.Spec PyProof.Rows L2 Vx
theorem tap_S {n : Int} {s : List Int} (hs : Sk n s) (hn : n < 1000000) (size : Int) (h : 0 < size) (h2 : size < 1073741824) : ∃ r s', m__law_tap s (size, ()) = some (r, s') ∧ 0 ≤ r ∧ r < size ∧ Sk (n + 1) s' := by
  obtain ⟨a, b, c, rfl, c0, cn⟩ := hs
  have i0 : ∀ x y z : Int, lIx [x, y, z] 0 = some x := fun _ _ _ => rfl
  have i1 : ∀ x y z : Int, lIx [x, y, z] 1 = some y := fun _ _ _ => rfl
  have i2 : ∀ x y z : Int, lIx [x, y, z] 2 = some z := fun _ _ _ => rfl
  have x0 : ∀ x y z : Int, ixN [x, y, z].length 0 = some 0 := fun _ _ _ => rfl
  have x1 : ∀ x y z : Int, ixN [x, y, z].length 1 = some 1 := fun _ _ _ => rfl
  have x2 : ∀ x y z : Int, ixN [x, y, z].length 2 = some 2 := fun _ _ _ => rfl
  have u0 : ∀ x y z v : Int, [x, y, z].set 0 v = [v, y, z] := fun _ _ _ _ => rfl
  have u1 : ∀ x y z v : Int, [x, y, z].set 1 v = [x, v, z] := fun _ _ _ _ => rfl
  have u2 : ∀ x y z v : Int, [x, y, z].set 2 v = [x, y, v] := fun _ _ _ _ => rfl
  have m1' : ∀ y : Int, iMul y (y % 29009 + 11003) = some (y * (y % 29009 + 11003)) := fun y => if_pos (.inr (by omega))
  have m2' : ∀ y : Int, iMul 10151 y = some (10151 * y) := fun y => if_pos (.inl (by decide))
  have d0 : ∀ y : Int, iMod y 29009 = some (y % 29009) := fun y => if_pos (by decide)
  have d1 : ∀ y : Int, iMod y 2147482583 = some (y % 2147482583) := fun y => if_pos (by decide)
  have d2 : ∀ y : Int, iDiv y 115 = some (y / 115) := fun y => if_pos (by decide)
  have d3 : ∀ y : Int, iMod y size = some (y % size) := fun y => if_pos h
  have hp : ∀ y : Int, 0 ≤ y % size := fun y => Int.emod_nonneg y (show size ≠ 0 by omega)
  have hl : ∀ y : Int, y % size < size := fun y => Int.emod_lt_of_pos y h
  obtain ⟨b', eb⟩ : ∃ b', b' = (b * (b % 29009 + 11003) + 10151 * (c + 1) + 61) % 2147482583 := ⟨_, rfl⟩
  by_cases ha : 0 < a
  · refine ⟨a % size, [a / size, b', c + 1], ?_, hp _, hl _, _, _, _, rfl, by omega, by omega⟩
    show runM _ _ = _
    simp only [runF, runU, runM, im, sseq, Fl.bnd, sret, sretm, sset, ssetm, sif, sifm, sex, sexm, snever, sfor, sform, sset1, sdm, spar, fown, snewD, sdput, fkeys, up, m1, m2, mcons, mdr, mif, mand, moor, mnot, Vx.oz, Vx.os, f1, f2, fv, fc, fif, fand, foor, fnot, fcons, fnil, fch, lcons, lnil, flc, gz, gs, pz, ps, ic, ia, i0, snil, wid, wn, wk, wa, Option.bind_some, Option.map_some, Option.map_map, Function.comp_def, fyes, Option.bind_assoc]
    simp only [i0, i1, i2, iAdd, x1, x2, u1, u2, m1', m2', d0, d1, intI, iGt, ha, decide_true, if_true, h, h2, and_self, x0, u0, Option.bind_some, Option.map_some, ← eb]
    try rfl
  · refine ⟨b' / 115 % size, [a, b', c + 1], ?_, hp _, hl _, _, _, _, rfl, by omega, by omega⟩
    show runM _ _ = _
    simp only [runF, runU, runM, im, sseq, Fl.bnd, sret, sretm, sset, ssetm, sif, sifm, sex, sexm, snever, sfor, sform, sset1, sdm, spar, fown, snewD, sdput, fkeys, up, m1, m2, mcons, mdr, mif, mand, moor, mnot, Vx.oz, Vx.os, f1, f2, fv, fc, fif, fand, foor, fnot, fcons, fnil, fch, lcons, lnil, flc, gz, gs, pz, ps, ic, ia, i0, snil, wid, wn, wk, wa, Option.bind_some, Option.map_some, Option.map_map, Function.comp_def, fyes, Option.bind_assoc]
    simp only [i0, i1, i2, x1, x2, u1, u2, iGt, ha, decide_false, Bool.false_eq_true, if_false, Option.bind_some, Option.map_some, iAdd, m1', m2', d0, d1, d2, d3, intI, ← eb]
    try rfl
theorem brew_S (zs : List Int) (k : Nat) : ∃ s, m__law_brew (⟨zs⟩, (k : Int), ()) = some s ∧ Sk 0 s := by
  have mA : ∀ y : Int, iMul 9203 y = some (9203 * y) := fun y => if_pos (.inl (by decide))
  have mA2 : ∀ y : Int, iMul 871 y = some (871 * y) := fun y => if_pos (.inl (by decide))
  have mB : ∀ y : Int, iMul y 43003 = some (y * 43003) := fun y => if_pos (.inr (by decide))
  have d1 : ∀ y : Int, iMod y 2147482583 = some (y % 2147482583) := fun y => if_pos (by decide)
  have pw : iPow 10 18 = some (10 ^ 18) := if_pos (by decide)
  have sh1 : ∀ x : Int, short [x] = some [x] := fun _ => rfl
  have sh3 : ∀ x y z : Int, short [x, y, z] = some [x, y, z] := fun _ _ _ => rfl
  have l6 : (cutA none (some 6) zs).length ≤ 6 := by
    unfold cutA
    rw [show (6 : Int) = ((6 : Nat) : Int) from rfl, HT.sIx_nat]
    rw [List.length_take]
    omega
  obtain ⟨o, eo⟩ : ∃ o : Int, fif (f2 iLt (fv (gs gz)) (f1 lenC (fcons (fv gz) fnil))) (f1 intI (fcons (f2 cIx (fv gz) (fv (gs gz))) fnil)) (f2 iAdd (f2 iMul (fc 9203) (fv (gs gz))) (fc 131)) ((⟨zs⟩ : Scr), (k : Int), (⟨⟩ : Any), (⟨⟩ : Any), (⟨⟩ : Any), ()) = some o := by
    simp only [fif, f1, f2, fc, fcons, fnil, fv, gs, gz, lenC, Option.bind_some, iLt, mA, iAdd]
    by_cases q : k < zs.length
    · refine ⟨zs[k], ?_⟩
      have : cIx ⟨zs⟩ (k : Int) = some zs[k] := atI_nat (List.getElem?_eq_getElem q)
      rw [decide_eq_true (by omega), if_pos rfl, this]
      rfl
    · refine ⟨9203 * (k : Int) + 131, ?_⟩
      rw [decide_eq_false (by omega), if_neg (by simp)]
  have cat : lCat (cutA none (some 6) zs) [o] = some (cutA none (some 6) zs ++ [o]) := by
    unfold lCat
    rw [if_pos (by rw [List.length_singleton]; omega)]
  have : Ev (m__law_brew (⟨zs⟩, (k : Int), ())) fun r => Sk 0 r := by
    delta m__law_brew P__law_brew
    dsimp only
    unfold runF
    refine Ev.bind ?_
    unfold sseq
    refine ev_nx (γ := ((⟨zs⟩ : Scr), (k : Int), o, (⟨⟩ : Any), (⟨⟩ : Any), ())) (by
      show Option.map _ (fif _ _ _ ((⟨zs⟩ : Scr), (k : Int), (⟨⟩ : Any), (⟨⟩ : Any), (⟨⟩ : Any), ())) = _
      rw [eo]
      rfl) ?_
    refine ev_nx (γ := ((⟨zs⟩ : Scr), (k : Int), o, 210011 + 871 * (k : Int), (⟨⟩ : Any), ())) (by simp only [sset, f2, fc, fv, gs, gz, ps, pz, Option.bind_some, Option.map_some, mA2, iAdd]) ?_
    unfold sfor
    refine Ev.bind ?_
    refine Ev.bind ?_
    refine Ev.of (y := cutA none (some 6) zs ++ [o]) (by simp only [f1, f2, fc, lcons, lnil, fv, gs, gz, Option.bind_some, cutC, sh1, cat]) ?_
    refine Ev.forL (fun xs γ => ∃ st : Int, γ = ((⟨zs⟩ : Scr), (k : Int), o, st, (⟨⟩ : Any), ())) ⟨_, rfl⟩ ?_ ?_
    · rintro x xs γ ⟨st, rfl⟩
      refine ev_nx (γ := ((⟨zs⟩ : Scr), (k : Int), o, (st * 43003 + x) % 2147482583, x, ())) (by simp only [sset, f1, f2, fc, fcons, fnil, fv, gs, gz, ps, pz, Option.bind_some, Option.map_some, mB, d1, iAdd, intI]) ?_
      exact Ev.of rfl ⟨_, rfl, _, rfl⟩
    · rintro γ ⟨st, rfl⟩
      refine Ev.of (y := Fl.rt [if (if o < 0 then true else decide ((10 : Int) ^ 18 ≤ o)) = true then (if o < 0 then -o else o) else 0, st, 0] ()) ?_ (Ev.of rfl ⟨_, _, _, rfl, by omega, by omega⟩)
      simp only [sret, fif, foor, f1, f2, fc, fcons, fnil, lcons, lnil, fv, gs, gz, Option.bind_some, Option.map_some, iLt, iGe, pw, absI]
      by_cases q : o < 0
      · simp only [q, decide_true, if_true, Option.bind_some, sh3, Option.map_some, Fl.bnd]
      · by_cases q2 : (10 : Int) ^ 18 ≤ o
        · simp only [q, q2, decide_false, decide_true, Bool.false_eq_true, if_false, if_true, Option.bind_some, sh3, Option.map_some, Fl.bnd]
        · simp only [q, q2, decide_false, Bool.false_eq_true, if_false, Option.bind_some, sh3, Option.map_some, Fl.bnd]
  obtain ⟨s, e, h⟩ := this
  exact ⟨s, e, h⟩
theorem lenS_l {x : List Nat} (h : x.length ≤ 1000) : lenS (S x, ()) = some ((x.length : Nat) : Int) := by
  unfold lenS
  rw [len_S, if_pos (by omega)]
theorem of_S {n : Int} {s : List Int} (hs : Sk n s) (hn : n < 900000) {l : List Nat} (h : Lets l) : ∃ c s', m__law_of s (S l, ()) = some (S [c], s') ∧ c ∈ l ∧ Sk (n + 1) s' := by
  have n7 := h.n
  have n0 : 0 < l.length := List.length_pos_iff.mpr h.p
  obtain ⟨r, s1, e, r0, r1, h1⟩ := tap_S hs (by omega) (l.length : Int) (by omega) (by omega)
  obtain ⟨j, rfl⟩ : ∃ j : Nat, r = (j : Int) := ⟨r.toNat, by omega⟩
  have hj : j < l.length := by omega
  have ll : lenS (S l, ()) = some (l.length : Int) := lenS_l (by omega)
  refine ⟨l[j], s1, ?_, List.getElem_mem hj, h1⟩
  have ix : sIx (S l) (j : Int) = some (S [l[j]]) := by
    unfold sIx
    rw [if_pos (by rw [len_S]; omega)]
    have : atI (S l).cps.toList (j : Int) = some l[j] := by
      refine atI_nat ?_
      show (l.toArray.toList)[j]? = _
      rw [List.getElem?_eq_getElem hj]
    rw [this]
    rfl
  show runM _ _ = _
  simp only [runF, runU, runM, im, sseq, Fl.bnd, sret, sretm, sset, ssetm, sif, sifm, sex, sexm, snever, sfor, sform, sset1, sdm, spar, fown, snewD, sdput, fkeys, up, m1, m2, mcons, mdr, mif, mand, moor, mnot, Vx.oz, Vx.os, f1, f2, fv, fc, fif, fand, foor, fnot, fcons, fnil, fch, lcons, lnil, flc, gz, gs, pz, ps, ic, ia, i0, snil, wid, wn, wk, wa, Option.bind_some, Option.map_some, Option.map_map, Function.comp_def, fyes, Option.bind_assoc]
  simp only [ll, Option.bind_some, Option.map_some, e, ix]
  try rfl
def w10 : List Nat := [97, 98, 99, 100, 101, 102, 103, 104, 109, 122]
theorem some10 {o r : List Nat} (p : (o ++ r).Perm w10) (h0 : 1 ≤ o.length) (h4 : o.length ≤ 4) : ∃ m, Lets m ∧ o.Perm m ∧ m.length = o.length := by
  have nor : (o ++ r).Nodup := p.nodup_iff.mpr (by decide)
  have no : o.Nodup := (List.nodup_append.mp nor).1
  have sub : ∀ c ∈ o, c ∈ w10 := fun c hc => p.mem_iff.mp (List.mem_append_left _ hc)
  have pm : o.Perm (w10.filter fun c => decide (c ∈ o)) := (List.perm_ext_iff_of_nodup no ((show w10.Nodup by decide).sublist List.filter_sublist)).mpr fun c => by
    rw [List.mem_filter, decide_eq_true_eq]
    exact ⟨fun hc => ⟨sub c hc, hc⟩, fun hc => hc.2⟩
  refine ⟨_, ⟨⟨(show w10.Pairwise (· < ·) by decide).sublist List.filter_sublist, fun c hc => ?_⟩, ?_, ?_⟩, pm, pm.length_eq.symm⟩
  · have : ∀ c ∈ w10, 97 ≤ c ∧ c ≤ 122 := by decide
    exact this c (List.mem_filter.mp hc).1
  · rw [← pm.length_eq]
    omega
  · intro e
    have z : o.length = 0 := by rw [pm.length_eq, e]; rfl
    omega
theorem crew_S {n : Int} {s : List Int} (hs : Sk n s) (hn : n < 900000) : Ev (m__law_crew s (4, ())) fun r => ∃ l, r.1 = S l ∧ Lets l ∧ l.length ≤ 4 ∧ Sk (n + 5) r.2 := by
  have eK : listS (Str.ofString "abcdefghmz", ()) = some (w10.map fun c => S [c]) := rfl
  have zl : ∀ n : Nat, (Z (List.range n)).length = n := fun n => by simp [Z]
  obtain ⟨x, s1, e1, x0, x1, h1⟩ := tap_S hs (by omega) 4 (by omega) (by omega)
  obtain ⟨m, em, hm1, hm4⟩ : ∃ m : Nat, 1 + x = (m : Int) ∧ 1 ≤ m ∧ m ≤ 4 := ⟨(1 + x).toNat, by omega, by omega, by omega⟩
  have er := rng_n m (by omega)
  delta m__law_crew P__law_crew
  dsimp only
  generalize rangeOf1 = R at er ⊢
  unfold runM
  refine Ev.bind ?_
  unfold sseq
  refine ev_nx (γ := ((⟨s⟩ : OL Int), (4 : Int), (⟨⟩ : Any), (⟨w10.map fun c => S [c]⟩ : OL Str), (⟨([] : List Nat).map fun c => S [c]⟩ : OL Str), ())) rfl ?_
  unfold sform
  refine Ev.bind ?_
  refine Ev.bind ?_
  refine Ev.of (y := (Z (List.range m), ((⟨s1⟩ : OL Int), (4 : Int), (⟨⟩ : Any), (⟨w10.map fun c => S [c]⟩ : OL Str), (⟨([] : List Nat).map fun c => S [c]⟩ : OL Str), ()))) (by
    have : mdr m__law_tap (up (fcons (fv (gs gz)) fnil)) ((⟨s⟩ : OL Int), (4 : Int), (⟨⟩ : Any), (⟨w10.map fun c => S [c]⟩ : OL Str), (⟨([] : List Nat).map fun c => S [c]⟩ : OL Str), ()) = some (x, ((⟨s1⟩ : OL Int), (4 : Int), (⟨⟩ : Any), (⟨w10.map fun c => S [c]⟩ : OL Str), (⟨([] : List Nat).map fun c => S [c]⟩ : OL Str), ())) := by
      simp only [mdr, up, fcons, fnil, fv, gs, gz, Option.bind_some, Option.map_some, e1]
    simp only [m1, m2, up, fc, Option.bind_some, Option.map_some, this, iAdd, em, er]) ?_
  refine Ev.forL (fun xs γ => ∃ (g : List Int) (lf fd : List Nat), γ = ((⟨g⟩ : OL Int), (4 : Int), (⟨⟩ : Any), (⟨lf.map fun c => S [c]⟩ : OL Str), (⟨fd.map fun c => S [c]⟩ : OL Str), ()) ∧ Sk (n + 1 + fd.length) g ∧ (fd ++ lf).Perm w10 ∧ xs.length + fd.length = m) ⟨s1, w10, [], rfl, h1.mono (by simp), List.Perm.refl _, by simp [Z]⟩ ?_ ?_
  · rintro x xs γ ⟨g, lf, fd, rfl, hg, hp, hl⟩
    rw [List.length_cons] at hl
    have h7 : fd.length + lf.length = 10 := by
      have := hp.length_eq
      rw [List.length_append] at this
      exact this
    obtain ⟨r', s2, e3, q0, q1, h2⟩ := tap_S hg (by omega) (lf.length : Int) (by omega) (by omega)
    obtain ⟨i, rfl⟩ : ∃ i : Nat, r' = (i : Int) := ⟨r'.toNat, by omega⟩
    have hi : i < lf.length := by omega
    have ep : (mpop (Vx.os (Vx.os (Vx.os oz))) (mdr m__law_tap (up (fcons (fun γ => some (((Vx.os (Vx.os (Vx.os oz))).get γ).length : Int)) fnil)))) ((⟨g⟩ : OL Int), (4 : Int), x, (⟨lf.map fun c => S [c]⟩ : OL Str), (⟨fd.map fun c => S [c]⟩ : OL Str), ()) =
        some (S [lf[i]], ((⟨s2⟩ : OL Int), (4 : Int), x, (⟨(lf.eraseIdx i).map fun c => S [c]⟩ : OL Str), (⟨fd.map fun c => S [c]⟩ : OL Str), ())) := by
      have ed' : m__law_tap g (((lf.map fun c => S [c]).length : Int), ()) = some ((i : Int), s2) := by
        rw [List.length_map]
        exact e3
      unfold mpop
      simp only [mdr, up, fcons, fnil, Option.bind_some, Option.map_some]
      show ((Option.map _ (m__law_tap g (((lf.map fun c => S [c]).length : Int), ()))).bind _) = _
      rw [ed', Option.map_some, Option.bind_some]
      show (if (0 : Int) ≤ (i : Int) ∧ (i : Int) ≤ 1000000 then ((lf.map fun c => S [c])[(i : Int).toNat]?).map _ else none) = _
      rw [if_pos (by omega), Int.toNat_natCast, List.getElem?_map, List.getElem?_eq_getElem hi]
      show some (S [lf[i]], ((⟨s2⟩ : OL Int), (4 : Int), x, (⟨(lf.map fun c => S [c]).eraseIdx (i : Int).toNat⟩ : OL Str), (⟨fd.map fun c => S [c]⟩ : OL Str), ())) = _
      rw [Int.toNat_natCast, erase_map]
    refine ev_nx (γ := ((⟨s2⟩ : OL Int), (4 : Int), x, (⟨(lf.eraseIdx i).map fun c => S [c]⟩ : OL Str), (⟨(fd ++ [lf[i]]).map fun c => S [c]⟩ : OL Str), ())) ?_ ?_
    · have sa := sapp_ok (S := List Int) (ρ := Str) (Vx.os (Vx.os (Vx.os (Vx.os oz)))) ep (by show (fd.map fun c => S [c]).length < 100000; rw [List.length_map]; omega)
      rw [List.map_append]
      exact sa.trans rfl
    · refine Ev.of rfl ⟨_, rfl, s2, lf.eraseIdx i, fd ++ [lf[i]], rfl, ?_, ?_, ?_⟩
      · rw [List.length_append, List.length_singleton]
        exact h2.mono (by omega)
      · refine List.Perm.trans ?_ hp
        rw [List.append_assoc]
        exact List.Perm.append_left fd (erase_perm lf i hi)
      · rw [List.length_append, List.length_singleton]
        omega
  · rintro γ ⟨g, lf, fd, rfl, hg, hp, hl⟩
    have hl : fd.length = m := by simpa using hl
    obtain ⟨l, hL, pl, ll⟩ := some10 hp (by omega) (by omega)
    have l7 := hL.n
    have e2 : srtL (fd.map (fun c => S [c]), ()) = some (l.map fun c => S [c]) := by
      unfold srtL
      rw [if_pos (by rw [List.length_map]; omega), srt_eq (pl.map fun c => S [c]), sign_srt hL.w.asc]
    have e3 : jn (Str.ofString "") (l.map fun c => S [c]) = some (S l) := jn_S l (by omega)
    refine Ev.of (y := .rt (S l) g) ?_ ?_
    rotate_left
    · exact Ev.of rfl ⟨l, rfl, hL, by omega, hg.mono (by omega)⟩
    simp only [Fl.bnd, sfrz, fs, fz, sret, f1, f2, fc, fcons, fnil, fv, gs, gz, Option.bind_some, Option.map_some, e2, e3]
    rfl
theorem pack_S {n : Int} {s : List Int} (hs : Sk n s) (hn : n < 900000) {l : List Nat} (h : Lets l) : Ev (m__law_pack s (S l, ())) fun r => ∃ k, r.1 = S (sel l k) ∧ k < 2 ^ l.length ∧ Sk (n + 7) r.2 := by
  have n7 := h.n
  delta m__law_pack P__law_pack
  dsimp only
  unfold runM
  refine Ev.bind ?_
  unfold sseq
  refine Ev.bind ?_
  unfold sretm
  refine Ev.map ?_
  unfold m2
  refine Ev.bind (Ev.of rfl ?_)
  refine Ev.bind ?_
  refine Ev.mlc (fun i γ => ∃ g, γ = ((⟨g⟩ : OL Int), S l, (⟨⟩ : Any), ()) ∧ Sk (n + i) g) (fun x y => x = y) ?_
  refine Ev.of (y := (l.map (fun c => S [c]), ((⟨s⟩ : OL Int), S l, (⟨⟩ : Any), ()))) (by show some (Vx.signs (S l), _) = _; rw [signs_S]; rfl) ⟨?_, ⟨s, rfl, hs.mono (by omega)⟩, ?_, ?_⟩
  · rw [List.length_map]
    omega
  · rintro z i _ hi ⟨g4, rfl, hg4⟩ hz
    rw [List.length_map] at hi
    refine Ev.bind ?_
    obtain ⟨r5, s5, e5, _, _, h5⟩ := tap_S hg4 (by omega) 2 (by omega) (by omega)
    refine Ev.bind (Ev.of rfl (Ev.map (Ev.of e5 ?_)))
    refine Ev.bind (Ev.of rfl (Ev.map (Ev.of rfl ?_)))
    show (if decide (r5 = 0) = true then _ else _)
    split
    · exact Ev.of rfl ⟨rfl, s5, rfl, h5.mono (by omega)⟩
    · exact ⟨s5, rfl, h5.mono (by omega)⟩
  · rintro ys zs _ hsub hp ⟨g6, rfl, hg6⟩
    have := paired_id hp
    subst this
    obtain ⟨x6, hx6, rfl⟩ := sub_signs hsub
    obtain ⟨k6, lk6, ek6⟩ := sub_sel hx6 h.nd
    have l6 := sel_len l k6
    subst ek6
    refine Ev.map (Ev.of (jn_S _ (by omega)) ?_)
    rw [List.length_map] at hg6
    exact Ev.of rfl (Ev.of rfl ⟨k6, rfl, lk6, hg6.mono (by omega)⟩)
theorem line_S {n : Int} {s : List Int} (hs : Sk n s) (hn : n < 900000) {l : List Nat} (h : Lets l) : Ev (m__law_line s (S l, ())) fun r => ∃ o, r.1 = S o ∧ o.Perm l ∧ Sk (n + 7) r.2 := by
  have n7 := h.n
  have er := rng_n l.length (by omega)
  have ll : lenS (S l, ()) = some (l.length : Int) := lenS_l (by omega)
  have eK : listS (S l, ()) = some (l.map fun c => S [c]) := by
    unfold listS
    rw [if_pos (by show (S l).cps.size ≤ _; have := len_S l; unfold Str.length at this; omega), signs_S]
  have zl : ∀ n : Nat, (Z (List.range n)).length = n := fun n => by simp [Z]
  delta m__law_line P__law_line
  dsimp only
  generalize rangeOf1 = R at er ⊢
  unfold runM
  refine Ev.bind ?_
  unfold sseq
  refine ev_nx (γ := ((⟨s⟩ : OL Int), S l, (⟨⟩ : Any), (⟨l.map fun c => S [c]⟩ : OL Str), S [], ())) (by simp only [sunpO, f1, fcons, fc, fnil, fv, gs, gz, im, ic, ia, i0, Option.bind_some, Option.map_some, eK]; rfl) ?_
  unfold sfor
  refine Ev.bind ?_
  refine Ev.bind ?_
  refine Ev.of (y := Z (List.range l.length)) (by simp only [f1, fcons, fnil, fv, gs, gz, wid, Option.bind_some, ll, er]) ?_
  refine Ev.forL (fun xs γ => ∃ (g : List Int) (o r : List Nat), γ = ((⟨g⟩ : OL Int), S l, (⟨⟩ : Any), (⟨r.map fun c => S [c]⟩ : OL Str), S o, ()) ∧ Sk (n + o.length) g ∧ (o ++ r).Perm l ∧ xs.length + o.length = l.length) ⟨s, [], l, rfl, hs.mono (by simp), List.Perm.refl _, by simp [Z]⟩ ?_ ?_
  · rintro x xs γ ⟨g, o, r, rfl, hg, pm, hl⟩
    rw [List.length_cons] at hl
    have lo : o.length + r.length = l.length := by
      have := pm.length_eq
      rw [List.length_append] at this
      exact this
    obtain ⟨d, s3, ed, d0, d1, l3⟩ := tap_S hg (by omega) (r.length : Int) (by omega) (by omega)
    obtain ⟨a, rfl⟩ : ∃ a : Nat, d = (a : Int) := ⟨d.toNat, by omega⟩
    have ha : a < r.length := by omega
    have ep : (mpop (Vx.os (Vx.os (Vx.os oz))) (mdr m__law_tap (up (fcons (fun γ => some (((Vx.os (Vx.os (Vx.os oz))).get γ).length : Int)) fnil)))) ((⟨g⟩ : OL Int), S l, x, (⟨r.map fun c => S [c]⟩ : OL Str), S o, ()) =
        some (S [r[a]], ((⟨s3⟩ : OL Int), S l, x, (⟨(r.eraseIdx a).map fun c => S [c]⟩ : OL Str), S o, ())) := by
      have ed' : m__law_tap g (((r.map fun c => S [c]).length : Int), ()) = some ((a : Int), s3) := by
        rw [List.length_map]
        exact ed
      unfold mpop
      simp only [mdr, up, fcons, fnil, Option.bind_some, Option.map_some]
      show ((Option.map _ (m__law_tap g (((r.map fun c => S [c]).length : Int), ()))).bind _) = _
      rw [ed', Option.map_some, Option.bind_some]
      show (if (0 : Int) ≤ (a : Int) ∧ (a : Int) ≤ 1000000 then ((r.map fun c => S [c])[(a : Int).toNat]?).map _ else none) = _
      rw [if_pos (by omega), Int.toNat_natCast, List.getElem?_map, List.getElem?_eq_getElem ha]
      show some (S [r[a]], ((⟨s3⟩ : OL Int), S l, x, (⟨(r.map fun c => S [c]).eraseIdx (a : Int).toNat⟩ : OL Str), S o, ())) = _
      rw [Int.toNat_natCast, erase_map]
    have ad : sAdd (S o) (S [r[a]]) = some (S (o ++ [r[a]])) := by
      unfold sAdd
      rw [len_S, len_S, if_pos (by rw [List.length_singleton]; omega)]
      exact congrArg some (S_add o [r[a]])
    refine ev_nx (γ := ((⟨s3⟩ : OL Int), S l, x, (⟨(r.eraseIdx a).map fun c => S [c]⟩ : OL Str), S (o ++ [r[a]]), ())) ?_ ?_
    · unfold ssetm
      refine (congrArg (Option.map _) (show m2 sAdd (up (fv (gs (gs (gs (gs gz)))))) _ _ = some (S (o ++ [r[a]]), ((⟨s3⟩ : OL Int), S l, x, (⟨(r.eraseIdx a).map fun c => S [c]⟩ : OL Str), S o, ())) from ?_)).trans ?_
      · unfold m2
        refine (congrArg (fun z => Option.bind z _) ep).trans ?_
        show (sAdd (S o) (S [r[a]])).map _ = _
        rw [ad]
        rfl
      · rfl
    · refine Ev.of rfl ⟨_, rfl, s3, o ++ [r[a]], r.eraseIdx a, rfl, ?_, ?_, ?_⟩
      · rw [List.length_append, List.length_singleton]
        exact l3.mono (by omega)
      · refine List.Perm.trans ?_ pm
        rw [List.append_assoc]
        exact List.Perm.append_left _ (erase_perm r a ha)
      · rw [List.length_append, List.length_singleton]
        omega
  · rintro γ ⟨g, o, r, rfl, hg, pm, hl⟩
    have hl : o.length = l.length := by simpa using hl
    have hr : r = [] := by
      have := pm.length_eq
      rw [List.length_append] at this
      exact List.length_eq_zero_iff.mp (by omega)
    rw [hr, List.append_nil] at pm
    exact Ev.of rfl (Ev.of rfl ⟨o, rfl, pm, hg.mono (by omega)⟩)
end K34
namespace K34
open Vx.Rep (rep)
open Vx.EnvR (er)
open PySem PySem.Spec PyProof.Rows L2 Vx
theorem lcGo_mp {α β γ : Type} {t : β → Option Bool} {e : β → Option α} {f : γ → β} {P : γ → Bool} {E : γ → α} : ∀ {F : List γ}, (∀ c ∈ F, t (f c) = some (P c)) → (∀ c ∈ F, P c = true → e (f c) = some (E c)) → lcGo t e (F.map f) = some ((F.filter P).map E)
  | [], _, _ => rfl
  | c :: F, ht, he => by
    have ih := lcGo_mp (F := F) (fun d hd => ht d (List.mem_cons_of_mem _ hd)) fun d hd => he d (List.mem_cons_of_mem _ hd)
    rw [List.map_cons, lcGo, ht c List.mem_cons_self, Option.bind_some]
    cases hP : P c with
    | true => rw [if_pos rfl, he c List.mem_cons_self hP, Option.bind_some, ih, List.filter_cons_of_pos hP]; rfl
    | false => rw [if_neg (by decide), ih, List.filter_cons_of_neg (by rw [hP]; decide)]
theorem T_app (l A B : List Nat) : T l A ++ T l B = T l (A ++ B) := by
  unfold T
  rw [List.map_append]
theorem is_in_T {l : List Nat} (h : Lets l) {i : Nat} (hi : i < 2 ^ l.length) (j : Nat) : m__law_is_in (S (sel l i), S (sel l j), ()) = some (decide (i &&& j = i)) := by
  have n7 := h.n
  have ls := sel_len l i
  have e : lcGo (fun _ => some true) (fun x => sIn x (S (sel l j))) ((sel l i).map fun c => S [c]) = some ((sel l i).map fun c => decide (c ∈ sel l j)) := by
    rw [lcGo_mp (f := fun c => S [c]) (P := fun _ => true) (E := fun c => decide (c ∈ sel l j)) (fun _ _ => rfl) fun _ _ _ => rfl, filt_true]
  apply Ev.out
  delta m__law_is_in P__law_is_in
  dsimp only
  unfold runF
  refine Ev.bind ?_
  unfold sseq
  refine Ev.of (y := .rt (decide (i &&& j = i)) ()) ?_ ?_
  rotate_left
  · exact Ev.of rfl rfl
  simp only [sret, flc, fyes, f1, f2, fcons, fnil, fv, gs, gz, ps, pz, ic, ia, i0, Option.bind_some, signs_S]
  rw [if_pos (by rw [List.length_map]; omega), e]
  simp only [Option.bind_some, Vx.allB, List.all_map, Option.map_some]
  have q : ((sel l i).all (id ∘ fun c => decide (c ∈ sel l j))) = decide (i &&& j = i) := by
    rw [Bool.eq_iff_iff, decide_eq_true_eq, List.all_eq_true, le_iff h hi]
    exact ⟨fun z c hc => of_decide_eq_true (z c hc), fun z c hc => decide_eq_true (z c hc)⟩
  rw [q]
  rfl
theorem law_meeting_S {l : List Nat} (h : Lets l) {F C : List Nat} (t : Mt l F C) : m__law_meeting (S l, T l F, ()) = some ⟨T l C⟩ := by
  have n7 := p7 h
  apply Ev.out
  delta m__law_meeting P__law_meeting
  dsimp only
  unfold runF
  refine Ev.bind ?_
  unfold sseq
  have f1l : Fam l [full l] := ⟨fun j hj => by rw [List.mem_singleton.mp hj]; exact full_lt l, List.pairwise_singleton _ _, by simp⟩
  refine ev_nx (γ := (S l, T l F, T l [full l], (⟨⟩ : Any), (⟨⟩ : Any), ())) (by
    rw [show T l [full l] = [S l] by unfold T; rw [List.map_singleton, show sel l (full l) = l from sel_full l]]
    rfl) ?_
  unfold sfor
  refine Ev.bind ?_
  refine Ev.bind ?_
  refine Ev.of (y := T l F) rfl ?_
  refine Ev.forL (fun xs γ => ∃ p r A : List Nat, F = p ++ r ∧ xs = T l r ∧ Fam l A ∧ (∀ x, x ∈ A ↔ x ∈ wl l p) ∧ γ = (S l, T l F, T l A, (⟨⟩ : Any), (⟨⟩ : Any), ()))
    ⟨[], F, [full l], rfl, rfl, f1l, fun x => Iff.rfl, rfl⟩ ?_ ?_
  · rintro x xs γ ⟨p, r, A, q1, q2, fA, mA, rfl⟩
    cases r with
    | nil => cases q2
    | cons k r =>
      cases q2
      have hk : k < 2 ^ l.length := t.lt k (by rw [q1]; simp)
      have nA := (fam_good fA).len
      have lt : ∀ j, k &&& j < 2 ^ l.length := fun j => Nat.lt_of_le_of_lt Nat.and_le_left hk
      have e1 : lcGo (fun _ => some true) (fun y => m__law_both (y, S (sel l k), ())) (T l A) = some (T l (A.map (k &&& ·))) := by
        rw [lcGo_T h (P := fun _ => true) (E := fun j => S (sel l (k &&& j))) (fun _ _ => rfl) (fun j _ _ => by rw [law_both_T h j k, Nat.and_comm]), filt_true]
        unfold T
        rw [List.map_map]
        rfl
      have lt2 : ∀ j ∈ A ++ A.map (k &&& ·), j < 2 ^ l.length := fun j hj => by
        rcases List.mem_append.mp hj with z | z
        · exact fA.lt j z
        · obtain ⟨i, _, rfl⟩ := List.mem_map.mp z
          exact lt i
      obtain ⟨B, eB, fB, mB⟩ := sort_set h lt2
      have e2 : ss (T l (A ++ A.map (k &&& ·))) = some (T l B) := by
        unfold ss
        rw [if_pos (by rw [T_len, List.length_append, List.length_map]; omega), eB]
      have cat : lCat (T l A) (T l (A.map (k &&& ·))) = some (T l (A ++ A.map (k &&& ·))) := by
        unfold lCat
        rw [if_pos (by rw [T_len, T_len, List.length_map]; omega), T_app]
      refine ev_nx (γ := (S l, T l F, T l B, S (sel l k), (⟨⟩ : Any), ())) ?_ ?_
      · simp only [sset, flc, fyes, f1, f2, fcons, fnil, fv, gs, gz, ps, pz, Option.bind_some]
        rw [if_pos (by rw [T_len]; omega), e1, Option.bind_some, cat, Option.bind_some, e2]
        rfl
      · refine Ev.of rfl ⟨_, rfl, p ++ [k], r, B, by rw [q1]; simp, rfl, fB, fun x => ?_, rfl⟩
        rw [mB, show wl l (p ++ [k]) = step (· &&& ·) (wl l p) k by unfold wl; rw [List.foldl_append]; rfl, mem_step, List.mem_append, List.mem_map]
        constructor
        · rintro (z | ⟨j, hj, rfl⟩)
          · exact .inl ((mA x).mp z)
          · exact .inr ⟨j, (mA j).mp hj, rfl⟩
        · rintro (z | ⟨j, hj, rfl⟩)
          · exact .inl ((mA x).mpr z)
          · exact .inr ⟨j, (mA j).mpr hj, rfl⟩
  · rintro γ ⟨p, r, A, q1, q2, fA, mA, rfl⟩
    obtain rfl : r = [] := by
      cases r with
      | nil => rfl
      | cons k r => cases q2
    rw [List.append_nil] at q1
    subst q1
    have eC : A = C := fam_eq h fA t.s.toFam fun k => (mA k).trans (t.m k).symm
    rw [eC]
    have nC := (fam_good t.s.toFam).len
    have e3 : srtL (T l C, ()) = some (T l C) := by
      unfold srtL
      rw [if_pos (by rw [T_len]; omega), fam_srt t.s.toFam]
    refine Ev.of (y := .rt (⟨T l C⟩ : Tup Str) ()) ?_ ?_
    rotate_left
    · exact Ev.of rfl rfl
    simp only [Fl.bnd, sret, f1, fcons, fnil, fv, gs, gz, Option.bind_some, e3, tupL, Option.map_some]
/-! ties -/
def tj (B : List (Nat × Nat)) : List (Key × Bool) := B.map fun p => (KeyOf.key (S [p.1, p.2]), true)
theorem two_key {a b c d : Nat} : (KeyOf.key (S [a, b]) : Key) = KeyOf.key (S [c, d]) ↔ a = c ∧ b = d := by
  constructor
  · intro e
    have e := S_inj.mp (Sum.inr.inj (show (Sum.inr (S [a, b]) : Key) = Sum.inr (S [c, d]) from e))
    simp at e
    exact e
  · rintro ⟨rfl, rfl⟩
    rfl
theorem tj_put (B : List (Nat × Nat)) (hB : B.Nodup) (a b : Nat) : ∃ B', putB (tj B) (KeyOf.key (S [a, b])) true = tj B' ∧ B'.Nodup ∧ ∀ p ∈ B', p ∈ B ∨ p = (a, b) := by
  by_cases q : (a, b) ∈ B
  · refine ⟨B, ?_, hB, fun p hp => .inl hp⟩
    unfold putB
    have ea : ((tj B).any fun kv => decide (kv.1 = (KeyOf.key (S [a, b]) : Key))) = true := List.any_eq_true.mpr ⟨(KeyOf.key (S [a, b]), true), List.mem_map.mpr ⟨(a, b), q, rfl⟩, decide_eq_true rfl⟩
    rw [if_pos ea]
    unfold tj
    rw [List.map_map]
    refine List.map_congr_left fun p _ => ?_
    show (if (KeyOf.key (S [p.1, p.2]) : Key) = KeyOf.key (S [a, b]) then ((KeyOf.key (S [p.1, p.2]) : Key), true) else _) = _
    split <;> rfl
  · refine ⟨B ++ [(a, b)], ?_, ?_, fun p hp => ?_⟩
    · unfold putB
      rw [if_neg]
      · unfold tj
        rw [List.map_append]
        rfl
      · intro e
        obtain ⟨kv, hkv, e⟩ := List.any_eq_true.mp e
        obtain ⟨p, hp, rfl⟩ := List.mem_map.mp hkv
        have := two_key.mp (of_decide_eq_true e)
        exact q (by rw [show (a, b) = p from Prod.ext this.1.symm this.2.symm]; exact hp)
    · rw [List.nodup_append]
      exact ⟨hB, by simp, fun c hc d hd => by rw [List.mem_singleton.mp hd]; exact fun z => q (by rw [← z]; exact hc)⟩
    · rcases List.mem_append.mp hp with z | z
      · exact .inl z
      · exact .inr (List.mem_singleton.mp z)
structure Ties (l : List Nat) (B : List (Nat × Nat)) : Prop where
  nd : B.Nodup
  i : ∀ p ∈ B, p.1 ∈ l ∧ p.2 ∈ l
theorem Ties.len {l : List Nat} {B : List (Nat × Nat)} (t : Ties l B) (h : Lets l) : B.length ≤ 49 := by
  have n7 := h.n
  have := List.Nodup.length_le_of_subset t.nd (l₂ := l.flatMap fun a => l.map fun b => (a, b)) fun p hp => by
    rw [List.mem_flatMap]
    exact ⟨p.1, (t.i p hp).1, List.mem_map.mpr ⟨p.2, (t.i p hp).2, rfl⟩⟩
  have e : ∀ m : List Nat, (m.flatMap fun a => l.map fun b => (a, b)).length = m.length * l.length := by
    intro m
    induction m with
    | nil => simp
    | cons a m ih => rw [List.flatMap_cons, List.length_append, ih, List.length_map, List.length_cons, Nat.succ_mul]; omega
  rw [e] at this
  have : l.length * l.length ≤ 7 * 7 := Nat.mul_le_mul n7 n7
  omega
theorem add2 (a b : Nat) : sAdd (S [a]) (S [b]) = some (S [a, b]) := by
  unfold sAdd
  rw [len_S, len_S, if_pos (by simp)]
  exact congrArg some (S_add [a] [b])
theorem put_S {l : List Nat} (h : Lets l) {B : List (Nat × Nat)} (t : Ties l B) {a b : Nat} (ha : a ∈ l) (hb : b ∈ l) : ∃ B', Ties l B' ∧ (tj B).length < 100000 ∧ putB (tj B) (KeyOf.key (S [a, b])) true = tj B' := by
  obtain ⟨B', e, nd, m⟩ := tj_put B t.nd a b
  refine ⟨B', ⟨nd, fun p hp => ?_⟩, ?_, e⟩
  · rcases m p hp with z | z
    · exact t.i p z
    · rw [z]
      exact ⟨ha, hb⟩
  · have := t.len h
    unfold tj
    rw [List.length_map]
    omega
theorem signs_mem {l : List Nat} {y : Str} {ys : List Str} {p : List Nat} (e : y :: ys = p.map fun c => S [c]) : ∃ c r, p = c :: r ∧ y = S [c] ∧ ys = r.map fun c => S [c] := by
  cases p with
  | nil => cases e
  | cons c r => cases e; exact ⟨c, r, rfl, rfl, rfl⟩
theorem drawn_leads_S {n : Int} {s : List Int} (hs : Sk n s) (hn : n < 800000) {l : List Nat} (h : Lets l) {m : Nat} (hm : m ≤ 10) : Ev (m__law_drawn_leads s (S l, (m : Int), ())) fun r => ∃ B, r.1 = (⟨tj B⟩ : Lk Bool) ∧ Ties l B ∧ Sk (n + 20) r.2 := by
  have er := rng_n m (by omega)
  have zl : ∀ n : Nat, (Z (List.range n)).length = n := fun n => by simp [Z]
  delta m__law_drawn_leads P__law_drawn_leads
  dsimp only
  generalize rangeOf1 = R at er ⊢
  unfold runM
  refine Ev.bind ?_
  unfold sseq
  refine ev_nx (γ := ((⟨s⟩ : OL Int), S l, (m : Int), (⟨tj []⟩ : OD Bool), (⟨⟩ : Any), (⟨⟩ : Any), (⟨⟩ : Any), (⟨⟩ : Any), ())) rfl ?_
  unfold sfor
  refine Ev.bind ?_
  refine Ev.bind ?_
  refine Ev.of (y := Z (List.range m)) (by simp only [f1, fv, gs, gz, wid, Option.bind_some, er]) ?_
  refine Ev.forL (fun xs γ => ∃ (g : List Int) (B : List (Nat × Nat)) (i : Nat), γ = ((⟨g⟩ : OL Int), S l, (m : Int), (⟨tj B⟩ : OD Bool), (⟨⟩ : Any), (⟨⟩ : Any), (⟨⟩ : Any), (⟨⟩ : Any), ()) ∧ Ties l B ∧ i + xs.length = m ∧ Sk (n + 2 * i) g) ⟨s, [], 0, rfl, ⟨by simp, fun _ z => by cases z⟩, by rw [zl]; omega, hs.mono (by omega)⟩ ?_ ?_
  · rintro x xs γ ⟨g, B, i, rfl, t, hi, hg⟩
    rw [List.length_cons] at hi
    obtain ⟨a, g1, e1, ha, h1⟩ := of_S hg (by omega) h
    obtain ⟨b, g2, e2, hb, h2⟩ := of_S h1 (by omega) h
    refine ev_nx (γ := ((⟨g2⟩ : OL Int), S l, (m : Int), (⟨tj B⟩ : OD Bool), x, (⟨⟩ : Any), S [a], S [b], ())) (by
      simp only [spar, mcons, m2, mdr, up, fcons, fnil, fv, gs, gz, ps, pz, Option.bind_some, Option.map_some, e1, e2]) ?_
    by_cases q : S [a] = S [b]
    · refine ev_nx (γ := ((⟨g2⟩ : OL Int), S l, (m : Int), (⟨tj B⟩ : OD Bool), x, (⟨⟩ : Any), S [a], S [b], ())) (by
        simp only [sif, f2, fv, gs, gz, Option.bind_some, sNe, decide_eq_true q, Bool.not_true, Bool.false_eq_true, if_false]
        rfl) ?_
      exact Ev.of rfl ⟨_, rfl, g2, B, i + 1, rfl, t, by omega, h2.mono (by omega)⟩
    · obtain ⟨B', t', lt, eB⟩ := put_S h t ha hb
      refine ev_nx (γ := ((⟨g2⟩ : OL Int), S l, (m : Int), (⟨tj B'⟩ : OD Bool), x, (⟨⟩ : Any), S [a], S [b], ())) (by
        simp only [sif, sdput, f2, fc, fv, gs, gz, ds, dz, Option.bind_some, sNe, decide_eq_false q, Bool.not_false, if_true, add2, lt, eB]
        rfl) ?_
      exact Ev.of rfl ⟨_, rfl, g2, B', i + 1, rfl, t', by omega, h2.mono (by omega)⟩
  rintro γ ⟨g, B, i, rfl, t, hi, hg⟩
  have hi : i = m := by simpa using hi
  have hg : Sk (n + 20) g := hg.mono (by omega)
  refine Ev.bind ?_
  refine Ev.bind ?_
  refine Ev.of (y := l.map fun c => S [c]) (by simp only [f1, fv, gs, gz, wid, Option.bind_some, signs_S]) ?_
  refine Ev.forL (fun xs γ => ∃ (B : List (Nat × Nat)) (p : List Nat), xs = (p.map fun c => S [c]) ∧ (∀ c ∈ p, c ∈ l) ∧ γ = ((⟨g⟩ : OL Int), S l, (m : Int), (⟨tj B⟩ : OD Bool), (⟨⟩ : Any), (⟨⟩ : Any), (⟨⟩ : Any), (⟨⟩ : Any), ()) ∧ Ties l B) ⟨B, l, rfl, fun _ z => z, rfl, t⟩ ?_ ?_
  · rintro y ys γ ⟨B, p, ep, hp, rfl, t⟩
    obtain ⟨z, pr, rfl, rfl, rfl⟩ := signs_mem (l := l) ep
    have hz := hp z List.mem_cons_self
    refine Ev.bind ?_
    refine Ev.bind ?_
    refine Ev.of (y := l.map fun c => S [c]) (by simp only [f1, fv, gs, gz, ps, pz, wid, Option.bind_some, signs_S]) ?_
    refine Ev.forL (fun xs γ => ∃ (B : List (Nat × Nat)) (p : List Nat), xs = (p.map fun c => S [c]) ∧ (∀ c ∈ p, c ∈ l) ∧ γ = ((⟨g⟩ : OL Int), S l, (m : Int), (⟨tj B⟩ : OD Bool), (⟨⟩ : Any), S [z], (⟨⟩ : Any), (⟨⟩ : Any), ()) ∧ Ties l B) ⟨B, l, rfl, fun _ z => z, rfl, t⟩ ?_ ?_
    · rintro y ys γ ⟨B, p, ep, hp, rfl, t⟩
      obtain ⟨x, px, rfl, rfl, rfl⟩ := signs_mem (l := l) ep
      have hx := hp x List.mem_cons_self
      refine Ev.bind ?_
      refine Ev.bind ?_
      refine Ev.of (y := l.map fun c => S [c]) (by simp only [f1, fv, gs, gz, ps, pz, wid, Option.bind_some, signs_S]) ?_
      refine Ev.forL (fun xs γ => ∃ (B : List (Nat × Nat)) (p : List Nat), xs = (p.map fun c => S [c]) ∧ (∀ c ∈ p, c ∈ l) ∧ γ = ((⟨g⟩ : OL Int), S l, (m : Int), (⟨tj B⟩ : OD Bool), (⟨⟩ : Any), S [z], S [x], (⟨⟩ : Any), ()) ∧ Ties l B) ⟨B, l, rfl, fun _ z => z, rfl, t⟩ ?_ ?_
      · rintro y ys γ ⟨B, p, ep, hp, rfl, t⟩
        obtain ⟨y, py, rfl, rfl, rfl⟩ := signs_mem (l := l) ep
        have hy := hp y List.mem_cons_self
        obtain ⟨c, ec⟩ : ∃ c : Bool, fand (f2 sNe (fv (gs (gs (gs (gs (gs (gs gz))))))) (fv (gs (gs (gs (gs (gs (gs (gs gz))))))))) (fand (f2 inOD (f2 sAdd (fv (gs (gs (gs (gs (gs (gs gz))))))) (fv (gs (gs (gs (gs (gs gz))))))) fun γ => some ((ds (ds (ds dz))).get γ)) (f2 inOD (f2 sAdd (fv (gs (gs (gs (gs (gs gz)))))) (fv (gs (gs (gs (gs (gs (gs (gs gz)))))))) ) fun γ => some ((ds (ds (ds dz))).get γ)))
            ((⟨g⟩ : OL Int), S l, (m : Int), (⟨tj B⟩ : OD Bool), (⟨⟩ : Any), S [z], S [x], S [y], ()) = some c := by
          simp only [fand, f2, fv, gs, gz, ds, dz, Option.bind_some, add2, sNe, inOD]
          split
          · split <;> exact ⟨_, rfl⟩
          · exact ⟨_, rfl⟩
        cases c with
        | false =>
          refine ev_nx (γ := ((⟨g⟩ : OL Int), S l, (m : Int), (⟨tj B⟩ : OD Bool), (⟨⟩ : Any), S [z], S [x], S [y], ())) (by
            unfold sif
            refine (congrArg (fun z => Option.bind z _) ec).trans ?_
            rfl) ?_
          exact Ev.of rfl ⟨_, rfl, B, py, rfl, fun c hc => hp c (List.mem_cons_of_mem _ hc), rfl, t⟩
        | true =>
          obtain ⟨B', t', lt, eB⟩ := put_S h t hx hy
          refine ev_nx (γ := ((⟨g⟩ : OL Int), S l, (m : Int), (⟨tj B'⟩ : OD Bool), (⟨⟩ : Any), S [z], S [x], S [y], ())) (by
            unfold sif
            refine (congrArg (fun z => Option.bind z _) ec).trans ?_
            simp only [Option.bind_some, if_true, sdput, f2, fc, fv, gs, gz, ps, pz, ds, dz, add2, lt, eB]
            rfl) ?_
          exact Ev.of rfl ⟨_, rfl, B', py, rfl, fun c hc => hp c (List.mem_cons_of_mem _ hc), rfl, t'⟩
      · rintro γ ⟨B, p, ep, hp', rfl, t⟩
        exact Ev.of rfl ⟨_, rfl, B, px, rfl, fun c hc => hp c (List.mem_cons_of_mem _ hc), rfl, t⟩
    · rintro γ ⟨B, p, ep, hp', rfl, t⟩
      exact Ev.of rfl ⟨_, rfl, B, pr, rfl, fun c hc => hp c (List.mem_cons_of_mem _ hc), rfl, t⟩
  · rintro γ ⟨B, p, ep, hp', rfl, t⟩
    exact Ev.of rfl (Ev.of rfl ⟨B, rfl, t, hg⟩)
end K34
namespace K34
open Vx.Rep (rep)
open Vx.EnvR (er)
open PySem PySem.Spec PyProof.Rows L2 Vx
def tb (l : List Nat) (B : List (Nat × Nat)) : List (Nat × Nat) := B.map fun p => (un l p.1, un l p.2)
theorem un_in {l : List Nat} (h : Lets l) {c : Nat} (hc : c ∈ l) (k : Nat) : un l c &&& k = un l c ↔ c ∈ sel l k := by
  rw [le_iff h (un_ok h hc).1, (un_ok h hc).2]
  exact ⟨fun z => z c List.mem_cons_self, fun z x hx => by rw [List.mem_singleton.mp hx]; exact z⟩
theorem tb_ok {l : List Nat} (h : Lets l) {B : List (Nat × Nat)} (t : Ties l B) : Bok l (tb l B) := by
  refine ⟨fun p hp => ?_, ?_⟩
  · obtain ⟨q, hq, rfl⟩ := List.mem_map.mp hp
    exact ⟨(un_ok h (t.i q hq).1).1, (un_ok h (t.i q hq).2).1⟩
  · have := t.len h
    unfold tb
    rw [List.length_map]
    omega
theorem ties_keys (B : List (Nat × Nat)) : lkeys Str (⟨tj B⟩ : Lk Bool) = some (B.map fun p => S [p.1, p.2]) := by
  have : ∀ B : List (Nat × Nat), (keysOf (tj B) : Option (List Str)) = some (B.map fun p => S [p.1, p.2]) := by
    intro B
    induction B with
    | nil => rfl
    | cons p B ih =>
      show ((KeyOf.ofK (Sum.inr (S [p.1, p.2]))).bind fun k => (keysOf (tj B)).map (k :: ·)) = _
      rw [ih]
      rfl
  exact this B
theorem ix2 (a b : Nat) : sIx (S [a, b]) 0 = some (S [a]) ∧ sIx (S [a, b]) 1 = some (S [b]) := ⟨rfl, rfl⟩
theorem led_halls_S {l : List Nat} (h : Lets l) {B : List (Nat × Nat)} (t : Ties l B) : ∃ C, m__law_led_halls (S l, (⟨tj B⟩ : Lk Bool), ()) = some ⟨T l C⟩ ∧ Sys l C := by
  have n7 := p7 h
  obtain ⟨E, eE, aE⟩ := all_ex h
  have nE := (fam_good aE.f).len
  have lB := t.len h
  have s0 : short ([] : List Str) = some [] := rfl
  refine ⟨E.filter (kp (tb l B)), ?_, kept_sys h aE (tb_ok h t)⟩
  apply Ev.out
  delta m__law_led_halls P__law_led_halls
  dsimp only
  unfold runF
  refine Ev.bind ?_
  unfold sseq
  refine ev_nx (γ := (S l, (⟨tj B⟩ : Lk Bool), (⟨T l []⟩ : OL Str), (⟨⟩ : Any), (⟨⟩ : Any), ())) rfl ?_
  unfold sfor
  refine Ev.bind ?_
  refine Ev.bind ?_
  refine Ev.of (y := T l E) (by simp only [f1, fcons, fnil, fv, gs, gz, wid, Option.bind_some, eE]) ?_
  refine Ev.forL (fun xs γ => ∃ p r : List Nat, E = p ++ r ∧ xs = T l r ∧ γ = (S l, (⟨tj B⟩ : Lk Bool), (⟨T l (p.filter (kp (tb l B)))⟩ : OL Str), (⟨⟩ : Any), (⟨⟩ : Any), ())) ⟨[], E, rfl, rfl, rfl⟩ ?_ ?_
  · rintro x xs γ ⟨p, r, r1, r2, rfl⟩
    cases r with
    | nil => cases r2
    | cons k r =>
      cases r2
      have lp : p.length ≤ 128 := by
        have := congrArg List.length r1
        rw [List.length_append] at this
        omega
      have lf := List.length_filter_le (kp (tb l B)) p
      have e1 : lcGo (fun x => ((sIx x 0).bind fun y => sIn y (S (sel l k))).bind fun b => if b = true then (sIx x 1).bind fun y => sNotIn y (S (sel l k)) else some false) (fun x => some x) (B.map fun p => S [p.1, p.2]) = some ((B.filter fun p => decide (p.1 ∈ sel l k) && !decide (p.2 ∈ sel l k)).map fun p => S [p.1, p.2]) := by
        refine lcGo_mp (f := fun p : Nat × Nat => S [p.1, p.2]) (P := fun p => decide (p.1 ∈ sel l k) && !decide (p.2 ∈ sel l k)) (E := fun p => S [p.1, p.2]) (fun p hp => ?_) fun _ _ _ => rfl
        rw [(ix2 p.1 p.2).1, (ix2 p.1 p.2).2]
        show (if decide (p.1 ∈ sel l k) = true then some (!decide (p.2 ∈ sel l k)) else some false) = _
        cases decide (p.1 ∈ sel l k) <;> rfl
      have e2 : dEq ((B.filter fun p => decide (p.1 ∈ sel l k) && !decide (p.2 ∈ sel l k)).map fun p => S [p.1, p.2]) [] = some (kp (tb l B) k) := by
        unfold dEq
        refine congrArg some ?_
        rw [Bool.eq_iff_iff, decide_eq_true_eq, List.map_eq_nil_iff, List.filter_eq_nil_iff]
        unfold kp tb
        rw [List.all_eq_true]
        constructor
        · intro z q hq
          obtain ⟨p, hp, rfl⟩ := List.mem_map.mp hq
          have := z p hp
          rw [Bool.or_eq_true, Bool.not_eq_true', decide_eq_false_iff_not, decide_eq_true_eq]
          show ¬ un l p.1 &&& k = un l p.1 ∨ un l p.2 &&& k = un l p.2
          rw [un_in h (t.i p hp).1, un_in h (t.i p hp).2]
          simp only [Bool.and_eq_true, decide_eq_true_eq, Bool.not_eq_true', decide_eq_false_iff_not, not_and, Classical.not_not] at this
          exact Classical.or_iff_not_imp_left.mpr fun y => this (Classical.not_not.mp y)
        · intro z p hp
          have := z _ (List.mem_map.mpr ⟨p, hp, rfl⟩)
          rw [Bool.or_eq_true, Bool.not_eq_true', decide_eq_false_iff_not, decide_eq_true_eq] at this
          have this : ¬ un l p.1 &&& k = un l p.1 ∨ un l p.2 &&& k = un l p.2 := this
          rw [un_in h (t.i p hp).1, un_in h (t.i p hp).2] at this
          simp only [Bool.and_eq_true, decide_eq_true_eq, Bool.not_eq_true', decide_eq_false_iff_not, not_and, Classical.not_not]
          intro y
          exact this.resolve_left fun w => w y
      have cond : f2 dEq (flc (ps (ps (ps (ps pz)))) (f1 (lkeys Str) (fv (gs gz))) (fand (f2 sIn (f2 sIx (fv (gs (gs (gs (gs gz))))) (fc 0)) (fv (gs (gs (gs gz))))) (f2 sNotIn (f2 sIx (fv (gs (gs (gs (gs gz))))) (fc 1)) (fv (gs (gs (gs gz)))))) (fv (gs (gs (gs (gs gz)))))) (f1 short lnil)
          (S l, (⟨tj B⟩ : Lk Bool), (⟨T l (p.filter (kp (tb l B)))⟩ : OL Str), S (sel l k), (⟨⟩ : Any), ()) = some (kp (tb l B) k) := by
        simp only [flc, fand, f1, f2, fc, lnil, fv, gs, gz, ps, pz, Option.bind_some, ties_keys, s0]
        rw [if_pos (by rw [List.length_map]; omega), e1, Option.bind_some, e2]
      have efl : ((p ++ [k]).filter (kp (tb l B))) = if kp (tb l B) k = true then (p.filter (kp (tb l B))) ++ [k] else p.filter (kp (tb l B)) := by
        rw [List.filter_append]
        cases q : kp (tb l B) k <;> simp [q]
      refine ev_nx (γ := (S l, (⟨tj B⟩ : Lk Bool), (⟨T l ((p ++ [k]).filter (kp (tb l B)))⟩ : OL Str), S (sel l k), (⟨⟩ : Any), ())) ?_ ?_
      · unfold sif
        refine (congrArg (fun z => Option.bind z _) cond).trans ?_
        rw [efl]
        cases q : kp (tb l B) k
        · rfl
        · have sa := sapp_ok (S := Unit) (ρ := Tup Str) (Vx.os (Vx.os oz)) (f := up (fv (gs (gs (gs gz))))) (γ := (S l, (⟨tj B⟩ : Lk Bool), (⟨T l (p.filter (kp (tb l B)))⟩ : OL Str), S (sel l k), (⟨⟩ : Any), ())) rfl (by show (T l (p.filter (kp (tb l B)))).length < 100000; rw [T_len]; omega)
          rw [if_pos rfl, ← T_app]
          exact (congrArg (fun z => Option.bind z _) sa).trans rfl
      · exact Ev.of rfl ⟨_, rfl, p ++ [k], r, by rw [r1]; simp, rfl, rfl⟩
  · rintro γ ⟨p, r, r1, r2, rfl⟩
    obtain rfl : r = [] := by
      cases r with
      | nil => rfl
      | cons c r => cases r2
    rw [List.append_nil] at r1
    rw [← r1]
    exact Ev.of rfl (Ev.of rfl rfl)
/-- the lot of some letters -/
theorem sort_lot {l x : List Nat} (h : Lets l) (nd : x.Nodup) (hx : ∀ c ∈ x, c ∈ l) : ∃ k, k < 2 ^ l.length ∧ srt (x.map fun c => S [c]) = (sel l k).map (fun c => S [c]) ∧ ∀ c, c ∈ sel l k ↔ c ∈ x := by
  have p : x.Perm (l.filter fun c => decide (c ∈ x)) := (List.perm_ext_iff_of_nodup nd (h.nd.filter _)).mpr fun c => by
    rw [List.mem_filter, decide_eq_true_eq]
    exact ⟨fun hc => ⟨hx c hc, hc⟩, fun hc => hc.2⟩
  obtain ⟨k, hk, ek⟩ := sub_sel (x := l.filter fun c => decide (c ∈ x)) List.filter_sublist h.nd
  rw [ek] at p
  refine ⟨k, hk, ?_, fun c => (p.mem_iff).symm⟩
  rw [srt_eq (p.map fun c => S [c]), sign_srt (h.w.asc.sublist (by rw [← ek]; exact List.filter_sublist))]
theorem srtS_lot {l x : List Nat} {k : Nat} (n : x.length ≤ 1000) (e : srt (x.map fun c => S [c]) = (sel l k).map fun c => S [c]) : srtS (S x, ()) = some ((sel l k).map fun c => S [c]) := by
  unfold srtS
  have : (S x).cps.size ≤ 100000 := by have := len_S x; unfold Str.length at this; omega
  rw [if_pos this, signs_S, e]
theorem tail_at {l o : List Nat} {i k : Nat} (n : o.length ≤ 1000) (hi : i ≤ o.length) (lk : (sel l k).length ≤ 7) (e : srt ((o.drop i).map fun c => S [c]) = (sel l k).map fun c => S [c]) :
    ((((cutSt (some (i : Int)) none (S o)).bind fun x => some (x, ())).bind srtS).bind fun y => jn (Str.ofString "") y) = some (S (sel l k)) := by
  rw [cutS_from n i hi, Option.bind_some, Option.bind_some, srtS_lot (by rw [List.length_drop]; omega) e, Option.bind_some]
  exact jn_S _ (by omega)
theorem tails_go {l o : List Nat} {mm : Nat → Nat} (n : o.length ≤ 1000) (lk : ∀ i, (sel l (mm i)).length ≤ 7) (hm : ∀ i, srt ((o.drop i).map fun c => S [c]) = (sel l (mm i)).map fun c => S [c]) :
    lcGo (fun _ => some true) (fun x => (((cutSt (some x) none (S o)).bind fun x => some (x, ())).bind srtS).bind fun y => jn (Str.ofString "") y) (Z (List.range (o.length + 1))) = some (T l ((List.range (o.length + 1)).map mm)) := by
  show lcGo _ _ ((List.range (o.length + 1)).map fun j : Nat => (j : Int)) = _
  rw [lcGo_mp (f := fun j : Nat => (j : Int)) (P := fun _ => true) (E := fun j => S (sel l (mm j))) (fun _ _ => rfl) (fun i hi _ => tail_at n (by have := List.mem_range.mp hi; omega) (lk i) (hm i)), filt_true]
  unfold T
  rw [List.map_map]
  rfl
theorem tails_ev {l o : List Nat} {F : List Nat} {R : Int → Option (List Int)} (er' : R ((o.length : Int) + 1) = some (Z (List.range (o.length + 1)))) (n : o.length ≤ 1000) (e : lcGo (fun _ => some true) (fun x => (((cutSt (some x) none (S o)).bind fun x => some (x, ())).bind srtS).bind fun y => jn (Str.ofString "") y) (Z (List.range (o.length + 1))) = some (T l F)) :
    flc (ps pz) (f1 R (f2 iAdd (f1 lenS (fcons (fv gz) fnil)) (fc 1))) fyes (f2 jn (fc (Str.ofString "")) (f1 srtS (fcons (f2 (fun z i => cutSt (some i) none z) (fv gz) (fv (gs gz))) fnil))) (S o, (⟨⟩ : Any), ()) = some (T l F) := by
  have ll : lenS (S o, ()) = some (o.length : Int) := lenS_l n
  simp only [flc, fyes, f1, f2, fc, fcons, fnil, fv, gs, gz, ps, pz, Option.bind_some, ll, iAdd, er']
  rw [if_pos (by simp only [Z, List.length_map, List.length_range]; omega), e]
theorem tails_S {l o : List Nat} (h : Lets l) (p : o.Perm l) : ∃ F, m__law_tails (S o, ()) = some (T l F) ∧ (∀ k ∈ F, k < 2 ^ l.length) ∧ F.length ≤ 8 := by
  have n7 := h.n
  have lo := p.length_eq
  have er := rng_n (o.length + 1) (by omega)
  have nd : o.Nodup := p.nodup_iff.mpr h.nd
  have ex : ∀ i, ∃ k, k < 2 ^ l.length ∧ srt ((o.drop i).map fun c => S [c]) = (sel l k).map (fun c => S [c]) := fun i => by
    obtain ⟨k, h1, h2, _⟩ := sort_lot h (nd.sublist (List.drop_sublist i o)) fun c hc => p.mem_iff.mp ((List.drop_sublist i o).subset hc)
    exact ⟨k, h1, h2⟩
  obtain ⟨mm, hm⟩ : ∃ mm : Nat → Nat, ∀ i, mm i < 2 ^ l.length ∧ srt ((o.drop i).map fun c => S [c]) = (sel l (mm i)).map fun c => S [c] := ⟨fun i => Classical.choose (ex i), fun i => Classical.choose_spec (ex i)⟩
  refine ⟨(List.range (o.length + 1)).map mm, ?_, fun k hk => ?_, by rw [List.length_map, List.length_range]; omega⟩
  · have e := tails_go (l := l) (o := o) (mm := mm) (by omega) (fun i => by have := sel_len l (mm i); omega) fun i => (hm i).2
    obtain ⟨F, eF⟩ : ∃ F, F = (List.range (o.length + 1)).map mm := ⟨_, rfl⟩
    rw [← eF] at e ⊢
    apply Ev.out
    delta m__law_tails P__law_tails
    dsimp only
    generalize rangeOf1 = R at er ⊢
    have er' : R ((o.length : Int) + 1) = some (Z (List.range (o.length + 1))) := by
      rw [show ((o.length : Int) + 1) = ((o.length + 1 : Nat) : Int) by omega]
      exact er
    have ev := tails_ev er' (by omega) e
    unfold runF
    refine Ev.bind ?_
    unfold sseq
    refine Ev.of (y := .rt (T l F) ()) ?_ ?_
    rotate_left
    · exact Ev.of rfl rfl
    unfold sret
    refine (congrArg (fun z => Option.bind (Option.map _ z) _) ev).trans ?_
    rfl
  · obtain ⟨i, _, rfl⟩ := List.mem_map.mp hk
    exact (hm i).1
end K34
namespace K34
open Vx.Rep (rep)
open Vx.EnvR (er)
open PySem PySem.Spec PyProof.Rows L2 Vx
def pq (l : List Nat) (p : Nat × Nat) : T2 Str Str := ⟨S (sel l p.1), S [p.2]⟩
theorem back_map {α β : Type} {P : α → Prop} {f : α → β} : ∀ {ys : List β}, (∀ y ∈ ys, ∃ a, P a ∧ f a = y) → ∃ F : List α, ys = F.map f ∧ ∀ a ∈ F, P a
  | [], _ => ⟨[], rfl, fun _ h => by cases h⟩
  | y :: ys, h => by
    obtain ⟨a, ha, ea⟩ := h y List.mem_cons_self
    obtain ⟨F, eF, hF⟩ := back_map fun z hz => h z (List.mem_cons_of_mem _ hz)
    refine ⟨a :: F, by rw [List.map_cons, ea, eF], fun b hb => ?_⟩
    rcases List.mem_cons.mp hb with rfl | hb
    · exact ha
    · exact hF b hb
theorem halls_S {n : Int} {s : List Int} (hs : Sk n s) (hn : n < 700000) {l : List Nat} (h : Lets l) (l4 : l.length ≤ 4) : Ev (m__law_halls s (S l, ())) fun r => ∃ C, r.1 = (⟨T l C⟩ : Tup Str) ∧ Sys l C ∧ Sk (n + 60) r.2 := by
  have n7 := h.n
  have N7 := p7 h
  have er : ∀ n : Nat, n ≤ 1000 → rangeOf1 (n : Int) = some (Z (List.range n)) := fun n hn => rng_n n (by omega)
  have zl : ∀ n : Nat, (Z (List.range n)).length = n := fun n => by simp [Z]
  obtain ⟨E, eE, aE⟩ := all_ex h
  have nE := (fam_good aE.f).len
  obtain ⟨w, g1, e1, w0, w1, h1⟩ := tap_S hs (by omega) 5 (by omega) (by omega)
  delta m__law_halls P__law_halls
  dsimp only
  generalize rangeOf1 = RG at er ⊢
  unfold runM
  refine Ev.bind ?_
  unfold sseq
  refine ev_nx (γ := ((⟨g1⟩ : OL Int), S l, w, (⟨⟩ : Any), (⟨⟩ : Any), (⟨⟩ : Any), (⟨⟩ : Any), (⟨⟩ : Any), (⟨⟩ : Any), ())) (by
    show Option.map _ (Option.map _ (m__law_tap s (5, ()))) = _
    rw [e1]
    rfl) ?_
  by_cases q0 : w = 0
  · refine ev_yes (by simp only [f2, fc, fv, gs, gz, Option.bind_some, sEq, q0, decide_true]) ?_
    obtain ⟨d, g2, e2, d0, d1, h2⟩ := tap_S h1 (by omega) 5 (by omega) (by omega)
    obtain ⟨m, rfl⟩ : ∃ m : Nat, d = (m : Int) := ⟨d.toNat, by omega⟩
    have pk : Ev (Vx.mlc (cs (cs (cs (cs cz)))).p (cs (cs (cs (cs cz)))).b (m1 RG (mdr m__law_tap (up (fcons (fc 5) fnil)))) (up fyes) (mdr m__law_pack (up (fcons (fv (gs gz)) fnil))) ((⟨g1⟩ : OL Int), S l, w, (⟨⟩ : Any), (⟨⟩ : Any), (⟨⟩ : Any), (⟨⟩ : Any), (⟨⟩ : Any), (⟨⟩ : Any), ())) fun r => ∃ (F : List Nat) (g : List Int), r = (T l F, ((⟨g⟩ : OL Int), S l, w, (⟨⟩ : Any), (⟨⟩ : Any), (⟨⟩ : Any), (⟨⟩ : Any), (⟨⟩ : Any), (⟨⟩ : Any), ())) ∧ (∀ k ∈ F, k < 2 ^ l.length) ∧ Sk (n + 50) g := by
      refine Ev.mlcA (fun i γ => ∃ g, γ = ((⟨g⟩ : OL Int), S l, w, (⟨⟩ : Any), (⟨⟩ : Any), (⟨⟩ : Any), (⟨⟩ : Any), (⟨⟩ : Any), (⟨⟩ : Any), ()) ∧ Sk (n + 2 + 7 * i) g) (fun _ y => ∃ k, k < 2 ^ l.length ∧ S (sel l k) = y) ?_
      refine Ev.of (y := (Z (List.range m), ((⟨g2⟩ : OL Int), S l, w, (⟨⟩ : Any), (⟨⟩ : Any), (⟨⟩ : Any), (⟨⟩ : Any), (⟨⟩ : Any), (⟨⟩ : Any), ()))) ?_ ⟨by rw [zl]; omega, ⟨g2, rfl, h2.mono (by omega)⟩, ?_, ?_⟩
      · simp only [m1, mdr, up, fc, fcons, fnil, Option.bind_some, Option.map_some, e2, er m (by omega)]
      · rintro y i _ hi ⟨g, rfl, hg⟩ hy
        rw [zl] at hi
        refine Ev.of rfl ⟨rfl, ?_⟩
        refine Ev.bind (Ev.of rfl (Ev.map ?_))
        refine (pack_S hg (by omega) h).mono ?_
        rintro ⟨_, g3⟩ ⟨k, hk, lk, hg3⟩
        exact ⟨⟨k, lk, hk.symm⟩, g3, rfl, hg3.mono (by omega)⟩
      · rintro ys _ hp ⟨g4, rfl, hg4⟩
        obtain ⟨F, eF, lF⟩ := T_back (l := l) (ys := ys) (paired_all hp)
        subst eF
        rw [zl] at hg4
        exact ⟨F, g4, rfl, lF, hg4.mono (by omega)⟩
    obtain ⟨r, ek, F, g3, rfl, lF, h3⟩ := pk
    obtain ⟨C, t⟩ := mt_ex h lF
    have me := law_meeting_S h t
    refine Ev.bind (Ev.of (y := .rt (⟨T l C⟩ : Tup Str) g3) ?_ ?_)
    · unfold sretm m1 mcons m2
      simp only [up, fv, gs, gz, Option.bind_some, Option.map_some]
      refine (congrArg (fun z => Option.map _ (Option.bind (Option.bind (Option.bind z _) _) _)) ek).trans ?_
      simp only [Option.bind_some, up, fnil, Option.map_some, me]
      rfl
    · exact Ev.of rfl (Ev.of rfl (Ev.of rfl ⟨C, rfl, t.s, h3.mono (by omega)⟩))
  refine ev_no (by simp only [f2, fc, fv, gs, gz, Option.bind_some, sEq, decide_eq_false q0]) ?_
  by_cases q1 : w < 3
  · refine ev_yes (by simp only [f2, fc, fv, gs, gz, Option.bind_some, iLt, decide_eq_true q1]) ?_
    obtain ⟨d, g2, e2, d0, d1, h2⟩ := tap_S h1 (by omega) 4 (by omega) (by omega)
    obtain ⟨m, rfl⟩ : ∃ m : Nat, d = (m : Int) := ⟨d.toNat, by omega⟩
    have pk : Ev (Vx.mlc (cs (cs (cs (cs cz)))).p (cs (cs (cs (cs cz)))).b (m1 RG (mdr m__law_tap (up (fcons (fc 4) fnil)))) (up fyes) (m1 pairT (mcons (mdr m__law_pack (up (fcons (fv (gs gz)) fnil))) (mcons (mdr m__law_of (up (fcons (fv (gs gz)) fnil))) (up fnil)))) ((⟨g1⟩ : OL Int), S l, w, (⟨⟩ : Any), (⟨⟩ : Any), (⟨⟩ : Any), (⟨⟩ : Any), (⟨⟩ : Any), (⟨⟩ : Any), ())) fun r => ∃ (F : List (Nat × Nat)) (g : List Int), r = (F.map (pq l), ((⟨g⟩ : OL Int), S l, w, (⟨⟩ : Any), (⟨⟩ : Any), (⟨⟩ : Any), (⟨⟩ : Any), (⟨⟩ : Any), (⟨⟩ : Any), ())) ∧ (∀ p ∈ F, p.1 < 2 ^ l.length ∧ p.2 ∈ l) ∧ F.length ≤ 4 ∧ Sk (n + 50) g := by
      refine Ev.mlcA (fun i γ => ∃ g, γ = ((⟨g⟩ : OL Int), S l, w, (⟨⟩ : Any), (⟨⟩ : Any), (⟨⟩ : Any), (⟨⟩ : Any), (⟨⟩ : Any), (⟨⟩ : Any), ()) ∧ Sk (n + 2 + 8 * i) g) (fun _ y => ∃ p : Nat × Nat, (p.1 < 2 ^ l.length ∧ p.2 ∈ l) ∧ pq l p = y) ?_
      refine Ev.of (y := (Z (List.range m), ((⟨g2⟩ : OL Int), S l, w, (⟨⟩ : Any), (⟨⟩ : Any), (⟨⟩ : Any), (⟨⟩ : Any), (⟨⟩ : Any), (⟨⟩ : Any), ()))) ?_ ⟨by rw [zl]; omega, ⟨g2, rfl, h2.mono (by omega)⟩, ?_, ?_⟩
      · simp only [m1, mdr, up, fc, fcons, fnil, Option.bind_some, Option.map_some, e2, er m (by omega)]
      · rintro y i _ hi ⟨g, rfl, hg⟩ hy
        rw [zl] at hi
        refine Ev.of rfl ⟨rfl, ?_⟩
        obtain ⟨⟨z, g3⟩, e3, k, ez, lk, h3⟩ := pack_S hg (by omega) h
        obtain rfl : z = S (sel l k) := ez
        have h3 : Sk (n + 2 + 8 * i + 7) g3 := h3
        obtain ⟨c, g4, e4, hc, h4⟩ := of_S h3 (by omega) h
        refine Ev.of (y := (pq l (k, c), ((⟨g4⟩ : OL Int), S l, w, (⟨⟩ : Any), y, (⟨⟩ : Any), (⟨⟩ : Any), (⟨⟩ : Any), (⟨⟩ : Any), ()))) ?_ ⟨⟨(k, c), ⟨lk, hc⟩, rfl⟩, g4, rfl, h4.mono (by omega)⟩
        simp only [m1, m2, mcons, mdr, up, fcons, fnil, fv, gs, gz, cs, cz, bs, bz, ps, pz, Option.bind_some, Option.map_some, e3, e4]
        rfl
      · rintro ys _ hp ⟨g4, rfl, hg4⟩
        have hl := paired_len' hp
        obtain ⟨F, eF, lF⟩ := back_map (f := pq l) (ys := ys) (paired_all hp)
        subst eF
        rw [zl] at hg4 hl
        rw [List.length_map] at hl
        exact ⟨F, g4, rfl, lF, by omega, hg4.mono (by omega)⟩
    obtain ⟨r, ek, F, g3, rfl, lF, nF, h3⟩ := pk
    obtain ⟨B, eB⟩ : ∃ B, B = F.map fun p => (p.1, un l p.2) := ⟨_, rfl⟩
    have bB : Bok l B := by
      rw [eB]
      refine ⟨fun p hp => ?_, by rw [List.length_map]; omega⟩
      obtain ⟨q, hq, rfl⟩ := List.mem_map.mp hp
      exact ⟨(lF q hq).1, (un_ok h (lF q hq).2).1⟩
    have sC := kept_sys h aE bB
    have s0 : short ([] : List Int) = some [] := rfl
    have inner : ∀ k, lcGo (fun x : T2 Str Str => (m__law_is_in (x.a, S (sel l k), ())).bind fun b => if b = true then sNotIn x.b (S (sel l k)) else some false) (fun _ => some (1 : Int)) (F.map (pq l)) = some ((F.filter fun p => decide (p.1 &&& k = p.1) && !decide (p.2 ∈ sel l k)).map fun _ => (1 : Int)) := fun k => by
      refine lcGo_mp (f := pq l) (P := fun p => decide (p.1 &&& k = p.1) && !decide (p.2 ∈ sel l k)) (E := fun _ => (1 : Int)) (fun p hp => ?_) fun _ _ _ => rfl
      show ((m__law_is_in (S (sel l p.1), S (sel l k), ())).bind fun b => if b = true then some (!decide (p.2 ∈ sel l k)) else some false) = _
      rw [is_in_T h (lF p hp).1, Option.bind_some]
      cases decide (p.1 &&& k = p.1) <;> rfl
    have kq : ∀ k, dEq ((F.filter fun p => decide (p.1 &&& k = p.1) && !decide (p.2 ∈ sel l k)).map fun _ => (1 : Int)) [] = some (kp B k) := fun k => by
      unfold dEq
      refine congrArg some ?_
      rw [Bool.eq_iff_iff, decide_eq_true_eq, List.map_eq_nil_iff, List.filter_eq_nil_iff, eB]
      unfold kp
      rw [List.all_eq_true]
      constructor
      · intro z q hq
        obtain ⟨p, hp, rfl⟩ := List.mem_map.mp hq
        have := z p hp
        rw [Bool.or_eq_true, Bool.not_eq_true', decide_eq_false_iff_not, decide_eq_true_eq]
        show ¬ p.1 &&& k = p.1 ∨ un l p.2 &&& k = un l p.2
        rw [un_in h (lF p hp).2]
        simp only [Bool.and_eq_true, decide_eq_true_eq, Bool.not_eq_true', decide_eq_false_iff_not, not_and, Classical.not_not] at this
        exact Classical.or_iff_not_imp_left.mpr fun y => this (Classical.not_not.mp y)
      · intro z p hp
        have := z _ (List.mem_map.mpr ⟨p, hp, rfl⟩)
        rw [Bool.or_eq_true, Bool.not_eq_true', decide_eq_false_iff_not, decide_eq_true_eq] at this
        have this : ¬ p.1 &&& k = p.1 ∨ un l p.2 &&& k = un l p.2 := this
        rw [un_in h (lF p hp).2] at this
        simp only [Bool.and_eq_true, decide_eq_true_eq, Bool.not_eq_true', decide_eq_false_iff_not, not_and, Classical.not_not]
        intro y
        exact this.resolve_left fun w => w y
    have outer : lcGo (fun x => (if (F.map (pq l)).length ≤ 100000 then lcGo (fun y : T2 Str Str => (m__law_is_in (y.a, x, ())).bind fun b => if b = true then sNotIn y.b x else some false) (fun _ => some (1 : Int)) (F.map (pq l)) else none).bind fun y => dEq y []) (fun x => some x) (T l E) = some (T l (E.filter (kp B))) := by
      rw [lcGo_T h (P := kp B) (E := fun k => S (sel l k)) (fun k hk => ?_) fun _ _ _ => rfl]
      · rfl
      · rw [if_pos (by rw [List.length_map]; omega), inner k, Option.bind_some, kq k]
    refine ev_nx (γ := ((⟨g3⟩ : OL Int), S l, w, (⟨⟩ : Any), (⟨⟩ : Any), F.map (pq l), (⟨⟩ : Any), (⟨⟩ : Any), (⟨⟩ : Any), ())) (by
      unfold ssetm
      refine (congrArg (Option.map _) ek).trans ?_
      rfl) ?_
    refine Ev.of (y := .rt (⟨T l (E.filter (kp B))⟩ : Tup Str) g3) ?_ ?_
    rotate_left
    · exact Ev.of rfl (Ev.of rfl ⟨_, rfl, sC, h3.mono (by omega)⟩)
    simp only [sret, flc, flcp, fand, f1, f2, fc, lnil, fcons, fnil, fv, gs, gz, ps, pz, Option.bind_some, eE, s0]
    rw [if_pos (by rw [T_len]; omega), outer]
    rfl
  refine ev_no (by simp only [f2, fc, fv, gs, gz, Option.bind_some, iLt, decide_eq_false q1]) ?_
  by_cases q2 : w = 3
  · refine ev_yes (by simp only [f2, fc, fv, gs, gz, Option.bind_some, sEq, decide_eq_true q2]) ?_
    obtain ⟨d, g2, e2, d0, d1, h2⟩ := tap_S h1 (by omega) 5 (by omega) (by omega)
    obtain ⟨m, rfl⟩ : ∃ m : Nat, d = (m : Int) := ⟨d.toNat, by omega⟩
    obtain ⟨⟨z, g3⟩, e3, B, ez, t, h3⟩ := drawn_leads_S h2 (by omega) h (m := m) (by omega)
    obtain rfl : z = (⟨tj B⟩ : Lk Bool) := ez
    have h3 : Sk (n + 1 + 1 + 20) g3 := h3
    obtain ⟨C, eC, sC⟩ := led_halls_S h t
    refine Ev.bind (Ev.of (y := .rt (⟨T l C⟩ : Tup Str) g3) ?_ ?_)
    · simp only [sretm, m1, m2, mcons, mdr, up, fc, fcons, fnil, fv, gs, gz, Option.bind_some, Option.map_some, e2, e3, eC]
      rfl
    · exact Ev.of rfl (Ev.of rfl (Ev.of rfl ⟨C, rfl, sC, h3.mono (by omega)⟩))
  refine ev_no (by simp only [f2, fc, fv, gs, gz, Option.bind_some, sEq, decide_eq_false q2]) ?_
  refine ev_nx (γ := ((⟨g1⟩ : OL Int), S l, w, T l [], (⟨⟩ : Any), (⟨⟩ : Any), (⟨⟩ : Any), (⟨⟩ : Any), (⟨⟩ : Any), ())) rfl ?_
  obtain ⟨d, g2, e2, d0, d1, h2⟩ := tap_S h1 (by omega) 3 (by omega) (by omega)
  obtain ⟨m, em, lm⟩ : ∃ m : Nat, 1 + d = (m : Int) ∧ m ≤ 3 := ⟨(1 + d).toNat, by omega, by omega⟩
  unfold sform
  refine Ev.bind ?_
  refine Ev.bind ?_
  refine Ev.of (y := (Z (List.range m), ((⟨g2⟩ : OL Int), S l, w, T l [], (⟨⟩ : Any), (⟨⟩ : Any), (⟨⟩ : Any), (⟨⟩ : Any), (⟨⟩ : Any), ()))) (by
    simp only [m1, m2, mdr, up, fc, fcons, fnil, Option.bind_some, Option.map_some, e2, iAdd, em, er m (by omega)]) ?_
  refine Ev.forL (fun xs γ => ∃ (g : List Int) (F : List Nat) (i : Nat), γ = ((⟨g⟩ : OL Int), S l, w, T l F, (⟨⟩ : Any), (⟨⟩ : Any), (⟨⟩ : Any), (⟨⟩ : Any), (⟨⟩ : Any), ()) ∧ (∀ k ∈ F, k < 2 ^ l.length) ∧ F.length ≤ 8 * i ∧ i + xs.length = m ∧ Sk (n + 2 + 7 * i) g) ⟨g2, [], 0, rfl, (fun _ z => by cases z), by simp, by rw [zl]; omega, h2.mono (by omega)⟩ ?_ ?_
  · rintro x xs γ ⟨g, F, i, rfl, lF, nF, hi, hg⟩
    rw [List.length_cons] at hi
    obtain ⟨⟨z, g3⟩, e3, o, ez, po, h3⟩ := line_S hg (by omega) h
    obtain rfl : z = S o := ez
    have h3 : Sk (n + 2 + 7 * i + 7) g3 := h3
    obtain ⟨F2, eF, lF2, nF2⟩ := tails_S h po
    have cat : lCat (T l F) (T l F2) = some (T l (F ++ F2)) := by
      unfold lCat
      rw [if_pos (by rw [T_len, T_len]; omega), T_app]
    refine ev_nx (γ := ((⟨g3⟩ : OL Int), S l, w, T l (F ++ F2), x, (⟨⟩ : Any), (⟨⟩ : Any), (⟨⟩ : Any), (⟨⟩ : Any), ())) (by
      simp only [ssetm, m1, m2, mcons, mdr, up, fcons, fnil, fv, gs, gz, ps, pz, Option.bind_some, Option.map_some, e3, eF, cat]) ?_
    refine Ev.of rfl ⟨_, rfl, g3, F ++ F2, i + 1, rfl, fun k hk => ?_, by rw [List.length_append]; omega, by omega, h3.mono (by omega)⟩
    rcases List.mem_append.mp hk with z | z
    · exact lF k z
    · exact lF2 k z
  · rintro γ ⟨g, F, i, rfl, lF, nF, hi, hg⟩
    have hi : i = m := by simpa using hi
    obtain ⟨C, t⟩ := mt_ex h lF
    have me := law_meeting_S h t
    refine Ev.of (y := .rt (⟨T l C⟩ : Tup Str) g) ?_ ?_
    rotate_left
    · exact Ev.of rfl ⟨C, rfl, t.s, hg.mono (by omega)⟩
    simp only [Fl.bnd, sret, f1, fcons, fnil, fv, gs, gz, Option.bind_some, me, Option.map_some]
    rfl
def crd (l : List Nat) (k : Nat) : Nat := (sel l k).length
theorem mx1 (a b : Int) (s t : Str) (h : a < b) : PySem.W.dataLt (Dat.d (⟨a, s⟩ : T2 Int Str)) (Dat.d (⟨b, t⟩ : T2 Int Str)) = true := by
  simp only [Dat.d]
  have h2 : ¬ b < a := by omega
  have h3 : a ≠ b := by omega
  simp [PySem.W.dataLt, PySem.W.keyToks, PySem.W.keyToksAll, PyProof.Rows.lexLt, PyProof.Rows.itemLt, h, h2, h3, h3.symm]
theorem mx2 (a b : Int) (s t : Str) (h : a < b) : PySem.W.dataLt (Dat.d (⟨b, t⟩ : T2 Int Str)) (Dat.d (⟨a, s⟩ : T2 Int Str)) = false := by
  simp only [Dat.d]
  have h2 : ¬ b < a := by omega
  have h3 : a ≠ b := by omega
  simp [PySem.W.dataLt, PySem.W.keyToks, PySem.W.keyToksAll, PyProof.Rows.lexLt, PyProof.Rows.itemLt, h, h2, h3, h3.symm]
theorem mn_or {α : Type} [Rep α] [Dat α] (a m : α) : mnf a m = a ∨ mnf a m = m := by
  unfold mnf
  split
  · exact .inr rfl
  · exact .inl rfl
def ms (l : List Nat) (k : Nat) : T2 Int Str := ⟨(crd l k : Int), S (sel l k)⟩
theorem about_S {l C : List Nat} (h : Lets l) (s : Sys l C) {k : Nat} (hk : k < 2 ^ l.length) : m__law_about ((⟨T l C⟩ : Tup Str), S (sel l k), ()) = some (S (sel l (ar l C k))) := by
  have nC := (fam_good s.toFam).len
  have N7 := p7 h
  have n7 := h.n
  obtain ⟨D, eD⟩ : ∃ D, D = C.filter fun m => decide (k &&& m = k) := ⟨_, rfl⟩
  have aD : ar l C k ∈ D := by rw [eD]; exact List.mem_filter.mpr ⟨ar_mem s k, decide_eq_true (ar_up hk)⟩
  have e1 : lcGo (fun x => m__law_is_in (S (sel l k), x, ())) (fun x => ((lenS (x, ())).bind fun y => some (y, x, ())).bind pairT) (T l C) = some (D.map (ms l)) := by
    rw [eD, lcGo_T h (P := fun m => decide (k &&& m = k)) (E := ms l) (fun m _ => is_in_T h hk m) fun m _ _ => ?_]
    rw [lenS_l (by have := sel_len l m; omega)]
    rfl
  have lt : ∀ m ∈ D, m < 2 ^ l.length := fun m hm => s.lt m (List.mem_filter.mp (by rw [← eD]; exact hm)).1
  have least : ∀ m ∈ D, m ≠ ar l C k → crd l (ar l C k) < crd l m := fun m hm ne => by
    have hm' := List.mem_filter.mp (show m ∈ C.filter fun m => decide (k &&& m = k) by rw [← eD]; exact hm)
    have sub := ar_le (l := l) hm'.1 (of_decide_eq_true hm'.2)
    have hs := (le_iff h (ar_lt s k)).mp sub
    have sl : (sel l (ar l C k)).Sublist (sel l m) := by
      have : sel l (ar l C k) = (sel l m).filter fun c => decide (c ∈ sel l (ar l C k)) := by
        rw [sel_and, Nat.and_comm, sub]
      rw [this]
      exact List.filter_sublist
    exact Nat.lt_of_not_le fun z => ne (sel_inj h.nd (lt m hm) (ar_lt s k) (sl.eq_of_length_le z).symm)
  have step : ∀ (a m : Nat), crd l a < crd l m → mnf (ms l a) (ms l m) = ms l a ∧ mnf (ms l m) (ms l a) = ms l a := fun a m q => by
    unfold mnf ms
    rw [mx2 _ _ _ _ (show ((crd l a : Nat) : Int) < ((crd l m : Nat) : Int) by omega), mx1 _ _ _ _ (show ((crd l a : Nat) : Int) < ((crd l m : Nat) : Int) by omega)]
    exact ⟨rfl, rfl⟩
  have go : ∀ (xs : List Nat) (a : Nat), (∀ m ∈ a :: xs, m ∈ D) → ar l C k ∈ a :: xs → (xs.map (ms l)).foldl mnf (ms l a) = ms l (ar l C k) := by
    intro xs
    induction xs with
    | nil =>
      intro a _ ha
      rw [List.mem_singleton.mp ha]
      rfl
    | cons m xs ih =>
      intro a hD ha
      rw [List.map_cons, List.foldl_cons]
      have hD2 : ∀ z, z = a ∨ z = m → ∀ y ∈ z :: xs, y ∈ D := fun z hz y hy => by
        rcases List.mem_cons.mp hy with rfl | hy
        · rcases hz with rfl | rfl
          · exact hD _ List.mem_cons_self
          · exact hD _ (List.mem_cons_of_mem _ List.mem_cons_self)
        · exact hD y (List.mem_cons_of_mem _ (List.mem_cons_of_mem _ hy))
      by_cases qa : a = ar l C k
      · have : mnf (ms l a) (ms l m) = ms l a := by
          by_cases qm : m = a
          · rw [qm]
            exact (mn_or (ms l a) (ms l a)).elim id id
          · exact (step a m (by rw [qa]; exact least m (hD m (List.mem_cons_of_mem _ List.mem_cons_self)) (by rw [← qa]; exact qm))).1
        rw [this]
        exact ih a (hD2 a (.inl rfl)) (by rw [qa]; exact List.mem_cons_self)
      · by_cases qm : m = ar l C k
        · have : mnf (ms l a) (ms l m) = ms l m := (step m a (by rw [qm]; exact least a (hD a List.mem_cons_self) qa)).2
          rw [this]
          exact ih m (hD2 m (.inr rfl)) (by rw [qm]; exact List.mem_cons_self)
        · have hx : ar l C k ∈ xs := by
            rcases List.mem_cons.mp ha with z | z
            · exact absurd z.symm qa
            · rcases List.mem_cons.mp z with y | y
              · exact absurd y.symm qm
              · exact y
          rcases mn_or (ms l a) (ms l m) with z | z
          · rw [z]
            exact ih a (hD2 a (.inl rfl)) (List.mem_cons_of_mem _ hx)
          · rw [z]
            exact ih m (hD2 m (.inr rfl)) (List.mem_cons_of_mem _ hx)
  have e2 : minP (D.map (ms l), ()) = some (ms l (ar l C k)) := by
    cases D with
    | nil => cases aD
    | cons d D =>
      unfold minP
      simp only [List.map_cons]
      have ld : (d :: D).length ≤ C.length := by rw [eD]; exact List.length_filter_le _ _
      rw [List.length_cons] at ld
      rw [if_pos (by rw [List.length_map]; omega), go D d (fun m hm => hm) aD]
  apply Ev.out
  delta m__law_about P__law_about
  dsimp only
  unfold runF
  refine Ev.bind ?_
  unfold sseq
  refine Ev.of (y := .rt (S (sel l (ar l C k))) ()) ?_ ?_
  rotate_left
  · exact Ev.of rfl rfl
  simp only [sret, flc, f1, f2, fc, fcons, fnil, fv, gs, gz, ps, pz, ic, ia, i0, Option.bind_some]
  rw [if_pos (by rw [T_len]; omega), e1]
  simp only [Option.bind_some, e2]
  rfl
end K34
namespace K34
open Vx.Rep (rep)
open Vx.EnvR (er)
open PySem PySem.Spec PyProof.Rows L2 Vx
theorem left_T {l : List Nat} (h : Lets l) {k : Nat} (hk : k < 2 ^ l.length) : m__law_left (S l, S (sel l k), ()) = some (S (sel l (cm l k))) := by
  rw [left_S _ _ (by have := h.n; omega), sel_cm l hk]
def fl (l C : List Nat) (c : Nat) : List (Nat × Nat) := ((sel l (ld l C c)).filter fun d => !decide (d = c)).map fun d => (c, d)
theorem law_leads_of_S {l C : List Nat} (h : Lets l) (s : Sys l C) : m__law_leads_of (S l, (⟨T l C⟩ : Tup Str), ()) = some ⟨(ldsL l C).map txt2⟩ := by
  have n7 := h.n
  have l49 := lds_len (C := C) h
  apply Ev.out
  delta m__law_leads_of P__law_leads_of
  dsimp only
  unfold runF
  refine Ev.bind ?_
  unfold sseq
  refine ev_nx (γ := (S l, (⟨T l C⟩ : Tup Str), (([] : List Nat).map (fl l C)).flatten.map txt2, (⟨⟩ : Any), (⟨⟩ : Any), ())) rfl ?_
  unfold sfor
  refine Ev.bind ?_
  refine Ev.bind ?_
  refine Ev.of (y := l.map fun c => S [c]) (by simp only [f1, fv, gs, gz, wid, Option.bind_some, signs_S]) ?_
  refine Ev.forL (fun xs γ => ∃ p r : List Nat, l = p ++ r ∧ xs = (r.map fun c => S [c]) ∧ γ = (S l, (⟨T l C⟩ : Tup Str), (p.map (fl l C)).flatten.map txt2, (⟨⟩ : Any), (⟨⟩ : Any), ())) ⟨[], l, rfl, rfl, rfl⟩ ?_ ?_
  · rintro x xs γ ⟨p, r, r1, r2, rfl⟩
    cases r with
    | nil => cases r2
    | cons c r =>
      cases r2
      have hc : c ∈ l := by rw [r1]; simp
      have ab := about_S h s (un_ok h hc).1
      rw [(un_ok h hc).2] at ab
      have ls := sel_len l (ar l C (un l c))
      have e1 : lcGo (fun x => sNe x (S [c])) (fun x => sAdd (S [c]) x) ((sel l (ar l C (un l c))).map fun d => S [d]) = some ((fl l C c).map txt2) := by
        rw [lcGo_mp (f := fun d => S [d]) (P := fun d => !decide (d = c)) (E := fun d => txt2 (c, d)) (fun d _ => ?_) (fun d _ _ => two_S)]
        · unfold fl
          rw [List.map_map]
          rfl
        · unfold sNe
          refine congrArg (fun z => some (!z)) (decide_eq_decide.mpr ⟨fun z => List.singleton_inj.mp (S_inj.mp z), fun z => by rw [z]⟩)
      have lens : ((p.map (fl l C)).flatten.map txt2).length + ((fl l C c).map txt2).length ≤ 49 := by
        have : (ldsL l C).length = ((p.map (fl l C)).flatten).length + (fl l C c).length + ((r.map (fl l C)).flatten).length := by
          show ((l.map (fl l C)).flatten).length = _
          rw [show l.map (fl l C) = p.map (fl l C) ++ fl l C c :: r.map (fl l C) by rw [← List.map_cons, ← List.map_append, ← r1], List.flatten_append, List.flatten_cons, List.length_append, List.length_append]
          omega
        rw [List.length_map, List.length_map]
        omega
      have cat : lCat ((p.map (fl l C)).flatten.map txt2) ((fl l C c).map txt2) = some (((p ++ [c]).map (fl l C)).flatten.map txt2) := by
        unfold lCat
        rw [if_pos (by omega), List.map_append, List.flatten_append, List.map_append]
        simp
      refine ev_nx (γ := (S l, (⟨T l C⟩ : Tup Str), ((p ++ [c]).map (fl l C)).flatten.map txt2, S [c], (⟨⟩ : Any), ())) ?_ ?_
      · simp only [sset, flc, f1, f2, fcons, fnil, fv, gs, gz, ps, pz, Option.bind_some, ab, signs_S]
        rw [if_pos (by rw [List.length_map]; omega), e1, Option.bind_some, cat]
        rfl
      · exact Ev.of rfl ⟨_, rfl, p ++ [c], r, by rw [r1]; simp, rfl, rfl⟩
  · rintro γ ⟨p, r, r1, r2, rfl⟩
    obtain rfl : r = [] := by
      cases r with
      | nil => rfl
      | cons c r => cases r2
    rw [List.append_nil] at r1
    rw [← r1]
    have e9 : srtL ((ldsL l C).map txt2, ()) = some ((ldsL l C).map txt2) := by
      unfold srtL
      rw [if_pos (by rw [List.length_map]; omega), srt_id (List.pairwise_map.mpr ((lds_asc h).imp fun q => decide_eq_true (List.le_of_lt (txt_lt.mpr q))))]
    refine Ev.of (y := .rt (⟨(ldsL l C).map txt2⟩ : Tup Str) ()) ?_ ?_
    rotate_left
    · exact Ev.of rfl rfl
    show (sret _ (S l, (⟨T l C⟩ : Tup Str), (ldsL l C).map txt2, (⟨⟩ : Any), (⟨⟩ : Any), ())).bind _ = _
    simp only [sret, f1, fcons, fnil, fv, gs, gz, Option.bind_some, e9, tupL, Option.map_some]
    rfl
theorem law_words_S {l C : List Nat} (h : Lets l) (s : Sys l C) {x : Nat} (hx : x < 2 ^ l.length) : Ev (m__law_words (S l, (⟨T l C⟩ : Tup Str), S (sel l x), ())) fun r => ∃ F, r = ⟨srt (T l F)⟩ ∧ F.Nodup ∧ ∀ y, y ∈ F ↔ y ∈ orb l C x := by
  have n7 := h.n
  have er := rng_n 20 (by omega)
  have xo : x ∈ orb l C x := List.mem_append_left _ (by simp [chn])
  delta m__law_words P__law_words
  dsimp only
  generalize rangeOf1 = R at er ⊢
  unfold runF
  refine Ev.bind ?_
  unfold sseq
  refine ev_nx (γ := (S l, (⟨T l C⟩ : Tup Str), S (sel l x), (⟨⟩ : Any), T l [x], T l [x], (⟨⟩ : Any), (⟨⟩ : Any), ())) rfl ?_
  unfold sfor
  refine Ev.bind ?_
  refine Ev.bind ?_
  refine Ev.of (y := Z (List.range 20)) er ?_
  refine Ev.forL (fun xs γ => ∃ (F fr : List Nat) (i : Nat), i + xs.length = 20 ∧ γ = (S l, (⟨T l C⟩ : Tup Str), S (sel l x), (⟨⟩ : Any), T l F, T l fr, (⟨⟩ : Any), (⟨⟩ : Any), ()) ∧ F.Nodup ∧ (∀ y ∈ F, y ∈ orb l C x) ∧ x ∈ F ∧ (∀ y ∈ fr, y ∈ F) ∧ fr.Nodup ∧ (∀ y ∈ F, y ∉ fr → ar l C y ∈ F ∧ cm l y ∈ F) ∧ (fr = [] ∨ i + 1 ≤ F.length))
    ⟨[x], [x], 0, rfl, rfl, by simp, fun y hy => by rw [List.mem_singleton.mp hy]; exact xo, by simp, fun _ z => z, by simp, fun y hy n => absurd hy n, .inr (by simp)⟩ ?_ ?_
  · rintro t xs γ ⟨F, fr, i, hi, rfl, nd, sub, xF, fF, nf, cl, st⟩
    rw [List.length_cons] at hi
    have lF := orb_len nd sub
    have lf : fr.length ≤ F.length := List.Nodup.length_le_of_subset nf fF
    have lt : ∀ k ∈ F, k < 2 ^ l.length := fun k hk => orb_lt s hx (sub k hk)
    obtain ⟨A, eA⟩ : ∃ A, A = fr.map (fun k => ar l C k) ++ fr.map fun k => cm l k := ⟨_, rfl⟩
    have ltA : ∀ k ∈ A, k < 2 ^ l.length := fun k hk => by
      rw [eA] at hk
      rcases List.mem_append.mp hk with z | z
      · obtain ⟨j, _, rfl⟩ := List.mem_map.mp z
        exact ar_lt s j
      · obtain ⟨j, _, rfl⟩ := List.mem_map.mp z
        exact cm_lt l j
    have e1 : lcGo (fun _ => some true) (fun y => m__law_about ((⟨T l C⟩ : Tup Str), y, ())) (T l fr) = some (T l (fr.map fun k => ar l C k)) := by
      rw [lcGo_T h (P := fun _ => true) (E := fun k => S (sel l (ar l C k))) (fun _ _ => rfl) (fun k hk _ => about_S h s (lt k (fF k hk))), filt_true]
      unfold T
      rw [List.map_map]
      rfl
    have e2 : lcGo (fun _ => some true) (fun y => m__law_left (S l, y, ())) (T l fr) = some (T l (fr.map fun k => cm l k)) := by
      rw [lcGo_T h (P := fun _ => true) (E := fun k => S (sel l (cm l k))) (fun _ _ => rfl) (fun k hk _ => left_T h (lt k (fF k hk))), filt_true]
      unfold T
      rw [List.map_map]
      rfl
    have cat : lCat (T l (fr.map fun k => ar l C k)) (T l (fr.map fun k => cm l k)) = some (T l A) := by
      unfold lCat
      rw [if_pos (by rw [T_len, T_len, List.length_map, List.length_map]; omega), T_app, eA]
    have lA : A.length ≤ 28 := by
      rw [eA, List.length_append, List.length_map, List.length_map]
      omega
    have e3 : lcGo (fun y => lNotIn y (T l F)) (fun y => some y) (T l A) = some (T l (A.filter fun k => !decide (k ∈ F))) := by
      rw [lcGo_T h (P := fun k => !decide (k ∈ F)) (E := fun k => S (sel l k)) (fun k hk => lNotIn_T h lt (ltA k hk)) fun _ _ _ => rfl]
      rfl
    obtain ⟨D, eD, fD, mD⟩ := sort_set h (F := A.filter fun k => !decide (k ∈ F)) fun k hk => ltA k (List.mem_filter.mp hk).1
    have e4 : ss (T l (A.filter fun k => !decide (k ∈ F))) = some (T l D) := by
      unfold ss
      have := List.length_filter_le (fun k => !decide (k ∈ F)) A
      rw [if_pos (by rw [T_len]; omega), eD]
    have gD := fam_good fD
    have N7 := p7 h
    have mD' : ∀ k, k ∈ D ↔ k ∈ A ∧ k ∉ F := fun k => by
      rw [mD, List.mem_filter, Bool.not_eq_true', decide_eq_false_iff_not]
    have ld := gD.len
    have cat2 : lCat (T l F) (T l D) = some (T l (F ++ D)) := by
      unfold lCat
      rw [if_pos (by rw [T_len, T_len]; omega), T_app]
    refine ev_nx (γ := (S l, (⟨T l C⟩ : Tup Str), S (sel l x), t, T l F, T l fr, T l A, (⟨⟩ : Any), ())) ?_ ?_
    · have z : (T l fr).length ≤ 100000 := by rw [T_len]; omega
      simp only [sset, flc, fyes, f1, f2, fcons, fnil, fv, gs, gz, ps, pz, Option.bind_some, z, if_true, e1, e2, cat]
      rfl
    refine ev_nx (γ := (S l, (⟨T l C⟩ : Tup Str), S (sel l x), t, T l F, T l D, T l A, (⟨⟩ : Any), ())) ?_ ?_
    · simp only [sset, flc, f1, f2, fv, gs, gz, ps, pz, Option.bind_some]
      rw [if_pos (by rw [T_len]; omega), e3, Option.bind_some, e4]
      rfl
    refine ev_nx (γ := (S l, (⟨T l C⟩ : Tup Str), S (sel l x), t, T l (F ++ D), T l D, T l A, (⟨⟩ : Any), ())) ?_ ?_
    · simp only [sset, f2, fv, gs, gz, ps, pz, Option.bind_some, cat2]
      rfl
    refine Ev.of rfl ⟨_, rfl, F ++ D, D, i + 1, by omega, rfl, ?_, ?_, List.mem_append_left _ xF, fun y hy => List.mem_append_right _ hy, gD.nd, ?_, ?_⟩
    · rw [List.nodup_append]
      exact ⟨nd, gD.nd, fun a ha b hb z => ((mD' b).mp hb).2 (by rw [← z]; exact ha)⟩
    · intro y hy
      rcases List.mem_append.mp hy with z | z
      · exact sub y z
      · have q := ((mD' y).mp z).1
        rw [eA] at q
        rcases List.mem_append.mp q with q | q
        · obtain ⟨j, hj, rfl⟩ := List.mem_map.mp q
          exact (orb_step h s hx (sub j (fF j hj))).1
        · obtain ⟨j, hj, rfl⟩ := List.mem_map.mp q
          exact (orb_step h s hx (sub j (fF j hj))).2
    · intro y hy ny
      have hyF : y ∈ F := (List.mem_append.mp hy).resolve_right ny
      have into : ∀ z, z ∈ A → z ∈ F ++ D := fun z hz => by
        by_cases q : z ∈ F
        · exact List.mem_append_left _ q
        · exact List.mem_append_right _ ((mD' z).mpr ⟨hz, q⟩)
      by_cases q : y ∈ fr
      · exact ⟨into _ (by rw [eA]; exact List.mem_append_left _ (List.mem_map.mpr ⟨y, q, rfl⟩)), into _ (by rw [eA]; exact List.mem_append_right _ (List.mem_map.mpr ⟨y, q, rfl⟩))⟩
      · have := cl y hyF q
        exact ⟨List.mem_append_left _ this.1, List.mem_append_left _ this.2⟩
    · by_cases q : D = []
      · exact .inl q
      · refine .inr ?_
        have dp := List.length_pos_iff.mpr q
        have : fr ≠ [] := fun z => by
          obtain ⟨d, hd⟩ := List.exists_mem_of_ne_nil D q
          have := ((mD' d).mp hd).1
          rw [eA, z] at this
          simp at this
        have := st.resolve_left this
        rw [List.length_append]
        omega
  · rintro γ ⟨F, fr, i, hi, rfl, nd, sub, xF, fF, nf, cl, st⟩
    have hi : i = 20 := by simpa using hi
    have lF := orb_len nd sub
    have f0 : fr = [] := st.resolve_right (by omega)
    have full : ∀ y, y ∈ F ↔ y ∈ orb l C x := fun y => ⟨sub y, fun hy => orb_least xF (fun z hz => cl z hz (by rw [f0]; simp)) y hy⟩
    have e9 : srtL (T l F, ()) = some (srt (T l F)) := by
      unfold srtL
      rw [if_pos (by rw [T_len]; omega)]
    refine Ev.of (y := .rt (⟨srt (T l F)⟩ : Tup Str) ()) ?_ ?_
    rotate_left
    · exact Ev.of rfl ⟨F, rfl, nd, full⟩
    simp only [Fl.bnd, sret, f1, fcons, fnil, fv, gs, gz, Option.bind_some, e9, tupL, Option.map_some]
end K34
namespace K34
open Vx.Rep (rep)
open Vx.EnvR (er)
open PySem PySem.Spec PyProof.Rows L2 Vx
theorem sum_S : ∀ L : List (List Nat), ((L.map S).map (·.length)).sum = L.flatten.length
  | [] => rfl
  | a :: L => by
    have := sum_S L
    simp only [List.map_cons, List.sum_cons, len_S, List.flatten_cons, List.length_append] at this ⊢
    omega
theorem jn_texts (X : List (List Nat)) (n : X.flatten.length ≤ 100000) : jn (Str.ofString "") (X.map S) = some (S X.flatten) := by
  unfold jn
  have z : (Str.ofString "").length = 0 := by decide
  rw [sum_S, z, Nat.mul_zero, Nat.add_zero, if_pos n]
  exact congrArg some (join_S X)
theorem flat_nd {l : List Nat} (nd : l.Nodup) : ∀ {D : List Nat}, D.Nodup → (∀ i ∈ D, ∀ j ∈ D, i ≠ j → ∀ c, c ∈ sel l i → c ∉ sel l j) → (D.map (sel l)).flatten.Nodup
  | [], _, _ => List.nodup_nil
  | k :: D, h1, h2 => by
    obtain ⟨n1, n2⟩ := List.nodup_cons.mp h1
    rw [List.map_cons, List.flatten_cons]
    refine List.nodup_append.mpr ⟨nd.sublist List.filter_sublist, flat_nd nd n2 fun i hi j hj => h2 i (List.mem_cons_of_mem _ hi) j (List.mem_cons_of_mem _ hj), fun a ha b hb e => ?_⟩
    subst e
    obtain ⟨x, hx, hax⟩ := List.mem_flatten.mp hb
    obtain ⟨j, hj, rfl⟩ := List.mem_map.mp hx
    exact h2 k List.mem_cons_self j (List.mem_cons_of_mem _ hj) (fun e => n1 (e ▸ hj)) a ha hax
/-- the letters of some lots that share none, put in order -/
theorem merged {l : List Nat} (h : Lets l) {N : List Nat} (nd : N.Nodup) (dis : ∀ i ∈ N, ∀ j ∈ N, ∀ c, c ∈ sel l i → c ∈ sel l j → i = j) :
    ∃ j, j < 2 ^ l.length ∧ (((jn (Str.ofString "") (T l N)).bind fun x => some (x, ())).bind srtS).bind (fun y => jn (Str.ofString "") y) = some (S (sel l j)) ∧ ∀ c, c ∈ sel l j ↔ ∃ k ∈ N, c ∈ sel l k := by
  have n7 := h.n
  obtain ⟨x, ex⟩ : ∃ x, x = (N.map (sel l)).flatten := ⟨_, rfl⟩
  have xn : x.Nodup := by
    rw [ex]
    exact flat_nd h.nd nd fun i hi j hj ne c a b => ne (dis i hi j hj c a b)
  have xl : ∀ c ∈ x, c ∈ l := fun c hc => by
    rw [ex] at hc
    obtain ⟨y, hy, hc⟩ := List.mem_flatten.mp hc
    obtain ⟨k, _, rfl⟩ := List.mem_map.mp hy
    exact sel_in l k c hc
  have lx : x.length ≤ l.length := List.Nodup.length_le_of_subset xn xl
  obtain ⟨j, hj, ej, mj⟩ := sort_lot h xn xl
  have lj := sel_len l j
  refine ⟨j, hj, ?_, fun c => ?_⟩
  · have e1 : T l N = (N.map (sel l)).map S := by
      unfold T
      rw [List.map_map]
      rfl
    rw [e1, jn_texts _ (by rw [← ex]; omega), ← ex, Option.bind_some, Option.bind_some, srtS_lot (by omega) ej, Option.bind_some]
    exact jn_S _ (by omega)
  · rw [mj, ex, List.mem_flatten]
    constructor
    · rintro ⟨y, hy, hc⟩
      obtain ⟨k, hk, rfl⟩ := List.mem_map.mp hy
      exact ⟨k, hk, hc⟩
    · rintro ⟨k, hk, hc⟩
      exact ⟨_, List.mem_map.mpr ⟨k, hk, rfl⟩, hc⟩
structure Herd (l C : List Nat) (p : List (Nat × Nat)) (H : List Nat) : Prop where
  nd : H.Nodup
  lt : ∀ k ∈ H, k < 2 ^ l.length
  co : ∀ c ∈ l, ∃ k ∈ H, c ∈ sel l k
  di : ∀ i ∈ H, ∀ j ∈ H, ∀ c, c ∈ sel l i → c ∈ sel l j → i = j
  ne : ∀ k ∈ H, sel l k ≠ []
  cl : ∀ q ∈ p, ∀ k ∈ H, q.1 ∈ sel l k ↔ q.2 ∈ sel l k
  le : ∀ k ∈ H, ∀ m, m < 2 ^ l.length → Clp l C m → (∃ c, c ∈ sel l k ∧ c ∈ sel l m) → k &&& m = k
theorem Herd.start {l C : List Nat} (h : Lets l) : Herd l C [] (l.map (un l)) where
  nd := nodup_map h.nd fun a ha b hb e => by
    have : sel l (un l a) = sel l (un l b) := by rw [e]
    rw [(un_ok h ha).2, (un_ok h hb).2] at this
    exact List.singleton_inj.mp this
  lt := fun k hk => by
    obtain ⟨c, hc, rfl⟩ := List.mem_map.mp hk
    exact (un_ok h hc).1
  co := fun c hc => ⟨un l c, List.mem_map.mpr ⟨c, hc, rfl⟩, by rw [(un_ok h hc).2]; simp⟩
  di := fun i hi j hj c => by
    obtain ⟨a, ha, rfl⟩ := List.mem_map.mp hi
    obtain ⟨b, hb, rfl⟩ := List.mem_map.mp hj
    rw [(un_ok h ha).2, (un_ok h hb).2, List.mem_singleton, List.mem_singleton]
    rintro rfl rfl
    rfl
  ne := fun k hk => by
    obtain ⟨c, hc, rfl⟩ := List.mem_map.mp hk
    rw [(un_ok h hc).2]
    simp
  cl := fun q hq => by cases hq
  le := fun k hk m _ _ => by
    obtain ⟨a, ha, rfl⟩ := List.mem_map.mp hk
    rw [(un_ok h ha).2]
    rintro ⟨c, q, w⟩
    rw [List.mem_singleton.mp q] at w
    exact (un_in h ha m).mpr w
theorem Herd.len {l C : List Nat} {p : List (Nat × Nat)} {H : List Nat} (h : Lets l) (a : Herd l C p H) : H.length ≤ 128 := by
  have := (show Good (2 ^ l.length) H from ⟨a.nd, a.lt⟩).len
  have := p7 h
  omega
/-- the lots of a row that meet a pair -/
def nr (l : List Nat) (q : Nat × Nat) (k : Nat) : Bool := decide (q.1 ∈ sel l k) || decide (q.2 ∈ sel l k)
theorem Herd.step {l C : List Nat} (h : Lets l) {p : List (Nat × Nat)} {H : List Nat} (a : Herd l C p H) {q : Nat × Nat} (hq : q ∈ ldsL l C) {j : Nat} (hj : j < 2 ^ l.length) (mj : ∀ c, c ∈ sel l j ↔ ∃ k ∈ H.filter (nr l q), c ∈ sel l k) :
    Herd l C (p ++ [q]) (H.filter (fun k => !nr l q k) ++ [j]) := by
  obtain ⟨q1, q2⟩ := lds_in h hq
  obtain ⟨k1, hk1, c1⟩ := a.co q.1 q1
  obtain ⟨k2, hk2, c2⟩ := a.co q.2 q2
  have near : ∀ k, k ∈ H.filter (nr l q) ↔ k ∈ H ∧ (q.1 ∈ sel l k ∨ q.2 ∈ sel l k) := fun k => by
    rw [List.mem_filter]
    unfold nr
    rw [Bool.or_eq_true, decide_eq_true_eq, decide_eq_true_eq]
  have far : ∀ k, k ∈ H.filter (fun k => !nr l q k) ↔ k ∈ H ∧ q.1 ∉ sel l k ∧ q.2 ∉ sel l k := fun k => by
    rw [List.mem_filter]
    unfold nr
    rw [Bool.not_eq_true', Bool.or_eq_false_iff, decide_eq_false_iff_not, decide_eq_false_iff_not]
  have j1 : q.1 ∈ sel l j := (mj _).mpr ⟨k1, (near _).mpr ⟨hk1, .inl c1⟩, c1⟩
  have j2 : q.2 ∈ sel l j := (mj _).mpr ⟨k2, (near _).mpr ⟨hk2, .inr c2⟩, c2⟩
  have apart : ∀ k ∈ H.filter (fun k => !nr l q k), ∀ c, c ∈ sel l k → c ∉ sel l j := fun k hk c hc z => by
    obtain ⟨i, hi, w⟩ := (mj c).mp z
    have fk := (far k).mp hk
    have ni := (near i).mp hi
    have := a.di k fk.1 i ni.1 c hc w
    subst this
    exact ni.2.elim fk.2.1 fk.2.2
  have into : ∀ k, k ∈ H.filter (fun k => !nr l q k) ++ [j] ↔ k ∈ H.filter (fun k => !nr l q k) ∨ k = j := fun k => by rw [List.mem_append, List.mem_singleton]
  refine ⟨?_, fun k hk => ?_, fun c hc => ?_, fun x hx y hy c cx cy => ?_, fun k hk => ?_, fun r hr k hk => ?_, fun k hk m hm cm => ?_⟩
  · rw [List.nodup_append]
    refine ⟨a.nd.filter _, by simp, fun x hx y hy e => ?_⟩
    rw [List.mem_singleton.mp hy] at e
    subst e
    exact ((far _).mp hx).2.1 j1
  · rcases (into k).mp hk with z | rfl
    · exact a.lt k ((far k).mp z).1
    · exact hj
  · obtain ⟨k, hk, w⟩ := a.co c hc
    by_cases z : q.1 ∈ sel l k ∨ q.2 ∈ sel l k
    · exact ⟨j, (into j).mpr (.inr rfl), (mj c).mpr ⟨k, (near k).mpr ⟨hk, z⟩, w⟩⟩
    · exact ⟨k, (into k).mpr (.inl ((far k).mpr ⟨hk, fun y => z (.inl y), fun y => z (.inr y)⟩)), w⟩
  · rcases (into x).mp hx with zx | rfl
    · rcases (into y).mp hy with zy | rfl
      · exact a.di x ((far x).mp zx).1 y ((far y).mp zy).1 c cx cy
      · exact absurd cy (apart x zx c cx)
    · rcases (into y).mp hy with zy | rfl
      · exact absurd cx (apart y zy c cy)
      · rfl
  · rcases (into k).mp hk with z | rfl
    · exact a.ne k ((far k).mp z).1
    · intro z
      rw [z] at j1
      cases j1
  · rcases List.mem_append.mp hr with hr | hr
    · rcases (into k).mp hk with z | rfl
      · exact a.cl r hr k ((far k).mp z).1
      · rw [mj, mj]
        constructor
        · rintro ⟨i, hi, w⟩
          exact ⟨i, hi, (a.cl r hr i ((near i).mp hi).1).mp w⟩
        · rintro ⟨i, hi, w⟩
          exact ⟨i, hi, (a.cl r hr i ((near i).mp hi).1).mpr w⟩
    · rw [List.mem_singleton.mp hr]
      rcases (into k).mp hk with z | rfl
      · have := (far k).mp z
        exact ⟨fun w => absurd w this.2.1, fun w => absurd w this.2.2⟩
      · exact ⟨fun _ => j2, fun _ => j1⟩
  · rintro ⟨c, w, v⟩
    rcases (into k).mp hk with z | rfl
    · exact a.le k ((far k).mp z).1 m hm cm ⟨c, w, v⟩
    · obtain ⟨i, hi, wi⟩ := (mj c).mp w
      have ni := (near i).mp hi
      have lei := (le_iff h (a.lt i ni.1)).mp (a.le i ni.1 m hm cm ⟨c, wi, v⟩)
      have qm : q.1 ∈ sel l m ∧ q.2 ∈ sel l m := by
        rcases ni.2 with y | y
        · exact ⟨lei _ y, (cm q hq).mp (lei _ y)⟩
        · exact ⟨(cm q hq).mpr (lei _ y), lei _ y⟩
      refine (le_iff h hj).mpr fun d hd => ?_
      obtain ⟨u, hu, du⟩ := (mj d).mp hd
      have nu := (near u).mp hu
      have : u &&& m = u := by
        refine a.le u nu.1 m hm cm ?_
        rcases nu.2 with y | y
        · exact ⟨_, y, qm.1⟩
        · exact ⟨_, y, qm.2⟩
      exact (le_iff h (a.lt u nu.1)).mp this d du
theorem Herd.fin {l C : List Nat} (h : Lets l) {H : List Nat} (a : Herd l C (ldsL l C) H) : ∀ k, k ∈ H ↔ ∃ c ∈ l, pc l C c = k := by
  have one : ∀ k ∈ H, ∀ c ∈ sel l k, pc l C c = k := fun k hk c hc => by
    obtain ⟨p1, p2, p3, p4⟩ := pc_ok (C := C) h (sel_in l k c hc)
    have w := p4 k (a.lt k hk) (fun q hq => a.cl q hq k hk) hc
    have v := a.le k hk _ p1 p2 ⟨c, hc, p3⟩
    rw [Nat.and_comm] at v
    rw [← w, v]
  intro k
  constructor
  · intro hk
    obtain ⟨c, hc⟩ := List.exists_mem_of_ne_nil _ (a.ne k hk)
    exact ⟨c, sel_in l k c hc, one k hk c hc⟩
  · rintro ⟨c, hc, rfl⟩
    obtain ⟨k, hk, w⟩ := a.co c hc
    rw [one k hk c w]
    exact hk
theorem law_pieces_S {l C D : List Nat} (h : Lets l) (fD : Fam l D) (mD : ∀ k, k ∈ D ↔ ∃ c ∈ l, pc l C c = k) : m__law_pieces (S l, (⟨(ldsL l C).map txt2⟩ : Tup Str), ()) = some ⟨T l D⟩ := by
  have n7 := h.n
  have l49 := lds_len (C := C) h
  apply Ev.out
  delta m__law_pieces P__law_pieces
  dsimp only
  unfold runF
  refine Ev.bind ?_
  unfold sseq
  have e0 : listS (S l, ()) = some (T l (l.map (un l))) := by
    unfold listS
    rw [if_pos (by show l.toArray.size ≤ 100000; rw [List.size_toArray]; omega), signs_S]
    unfold T
    rw [List.map_map]
    refine congrArg some (List.map_congr_left fun c hc => ?_)
    show S [c] = S (sel l (un l c))
    rw [(un_ok h hc).2]
  refine ev_nx (γ := (S l, (⟨(ldsL l C).map txt2⟩ : Tup Str), T l (l.map (un l)), (⟨⟩ : Any), (⟨⟩ : Any), (⟨⟩ : Any), ())) (by
    show Option.map _ (Option.bind (some (S l, ())) listS) = _
    rw [Option.bind_some, e0]
    rfl) ?_
  unfold sfor
  refine Ev.bind ?_
  refine Ev.bind ?_
  refine Ev.of (y := (ldsL l C).map txt2) rfl ?_
  refine Ev.forL (fun xs γ => ∃ (p r : List (Nat × Nat)) (H : List Nat), ldsL l C = p ++ r ∧ xs = r.map txt2 ∧ γ = (S l, (⟨(ldsL l C).map txt2⟩ : Tup Str), T l H, (⟨⟩ : Any), (⟨⟩ : Any), (⟨⟩ : Any), ()) ∧ Herd l C p H) ⟨[], _, _, rfl, rfl, rfl, Herd.start h⟩ ?_ ?_
  · rintro x xs γ ⟨p, r, H, r1, r2, rfl, a⟩
    cases r with
    | nil => cases r2
    | cons q r =>
      cases r2
      have hq : q ∈ ldsL l C := by rw [r1]; simp
      have lH := a.len h
      obtain ⟨j, hj, ej, mj⟩ := merged h (N := H.filter (nr l q)) (a.nd.filter _) fun x hx y hy => a.di x (List.mem_filter.mp hx).1 y (List.mem_filter.mp hy).1
      have e1 : lcGo (fun y => ((sIx (txt2 q) 0).bind fun z => sIn z y).bind fun b => if b = true then some true else (sIx (txt2 q) 1).bind fun z => sIn z y) (fun y => some y) (T l H) = some (T l (H.filter (nr l q))) := by
        rw [lcGo_T h (P := nr l q) (E := fun k => S (sel l k)) (fun k _ => ?_) fun _ _ _ => rfl]
        · rfl
        · rw [at0, at1, Option.bind_some, Option.bind_some, sIn_S, sIn_S, Option.bind_some]
          unfold nr
          cases decide (q.1 ∈ sel l k) <;> simp
      have e2 : lcGo (fun y => lNotIn y (T l (H.filter (nr l q)))) (fun y => some y) (T l H) = some (T l (H.filter fun k => !nr l q k)) := by
        rw [lcGo_T h (P := fun k => !nr l q k) (E := fun k => S (sel l k)) (fun k hk => ?_) fun _ _ _ => rfl]
        · rfl
        · rw [lNotIn_T h (fun x hx => a.lt x (List.mem_filter.mp hx).1) (a.lt k hk)]
          refine congrArg (fun z => some (!z)) ?_
          rw [Bool.eq_iff_iff, decide_eq_true_eq, List.mem_filter]
          exact ⟨fun z => z.2, fun z => ⟨hk, z⟩⟩
      have lF := List.length_filter_le (fun k => !nr l q k) H
      have sh : short [S (sel l j)] = some (T l [j]) := rfl
      have cat : lCat (T l (H.filter fun k => !nr l q k)) (T l [j]) = some (T l ((H.filter fun k => !nr l q k) ++ [j])) := by
        unfold lCat
        rw [if_pos (by rw [T_len, T_len, List.length_singleton]; omega), T_app]
      refine ev_nx (γ := (S l, (⟨(ldsL l C).map txt2⟩ : Tup Str), T l H, txt2 q, T l (H.filter (nr l q)), (⟨⟩ : Any), ())) (by
        simp only [sset, flc, foor, f1, f2, fc, fv, gs, gz, ps, pz, Option.bind_some]
        rw [if_pos (by rw [T_len]; omega)]
        refine (congrArg (Option.map _) e1).trans ?_
        rfl) ?_
      refine ev_nx (γ := (S l, (⟨(ldsL l C).map txt2⟩ : Tup Str), T l ((H.filter fun k => !nr l q k) ++ [j]), txt2 q, T l (H.filter (nr l q)), (⟨⟩ : Any), ())) (by
        simp only [sset, flc, f1, f2, fc, fcons, fnil, lcons, lnil, fv, gs, gz, ps, pz, Option.bind_some]
        rw [if_pos (by rw [T_len]; omega), e2, Option.bind_some, ej]
        simp only [Option.bind_some, sh, cat]
        rfl) ?_
      exact Ev.of rfl ⟨_, rfl, p ++ [q], r, _, by rw [r1]; simp, rfl, rfl, a.step h hq hj mj⟩
  · rintro γ ⟨p, r, H, r1, r2, rfl, a⟩
    obtain rfl : r = [] := by
      cases r with
      | nil => rfl
      | cons q r => cases r2
    rw [List.append_nil] at r1
    rw [← r1] at a
    have lH := a.len h
    have same : srt (T l H) = T l D := by
      rw [← fam_srt fD]
      refine srt_ext (T_nd h a.nd a.lt) (T_nd h (fam_good fD).nd fD.lt) fun x => ?_
      rw [mem_T, mem_T]
      constructor
      · rintro ⟨y, hy, e⟩
        exact ⟨y, (mD y).mpr ((a.fin h y).mp hy), e⟩
      · rintro ⟨y, hy, e⟩
        exact ⟨y, (a.fin h y).mpr ((mD y).mp hy), e⟩
    have e9 : srtL (T l H, ()) = some (T l D) := by
      unfold srtL
      rw [if_pos (by rw [T_len]; omega), same]
    refine Ev.of (y := .rt (⟨T l D⟩ : Tup Str) ()) ?_ ?_
    rotate_left
    · exact Ev.of rfl rfl
    simp only [Fl.bnd, sret, f1, fcons, fnil, fv, gs, gz, Option.bind_some, e9, tupL, Option.map_some]
end K34
namespace K34
open Vx.Rep (rep)
open Vx.EnvR (er)
open PySem PySem.Spec PyProof.Rows L2 Vx
theorem rep_two {α : Type} (x : α) : lRep [x] 2 = some [x, x] := by
  unfold lRep
  rw [if_pos ⟨by decide, by decide, by simp⟩]
  rfl
theorem s1 {α : Type} (x : α) : short [x] = some [x] := rfl
theorem s2 {α : Type} (x y : α) : short [x, y] = some [x, y] := rfl
theorem repr_two {l : List Nat} (h : Lets l) (k : Nat) : ∃ r, rprD (([S (sel l k), S (sel l k)] : List Str), ()) = some r := by
  refine repr_any (w := 2 * (7 + 1) + 1) (n := 1) (sm_list (m := 2) (n := 0) (fun d hd => ?_) (Nat.le_refl 2)) (by decide) (by decide)
  obtain ⟨x, hx, rfl⟩ := List.mem_map.mp hd
  have : x = S (sel l k) := by simpa using hx
  rw [this]
  exact sm_str (fun c hc => (h.w.let_ c (sel_in l k c hc)).2) (by have := sel_len l k; have := h.n; omega)
theorem repr_words {l : List Nat} (h : Lets l) {F : List Nat} (n : F.length ≤ 128) : ∃ r, rprD (([⟨srt (T l F)⟩, ⟨srt (T l F)⟩] : List (Tup Str)), ()) = some r := by
  refine repr_any (w := 2 * (128 * (7 + 1) + 1 + 1) + 1) (n := 2) (sm_list (m := 2) (n := 1) (fun d hd => ?_) (Nat.le_refl 2)) (by decide) (by decide)
  obtain ⟨x, hx, rfl⟩ := List.mem_map.mp hd
  have : x = ⟨srt (T l F)⟩ := by simpa using hx
  rw [this]
  refine sm_tup (m := 128) (n := 0) (fun d hd => ?_) (by rw [List.length_map, (srt_perm (T l F)).length_eq, T_len]; exact n)
  obtain ⟨y, hy, rfl⟩ := List.mem_map.mp hd
  obtain ⟨k, _, rfl⟩ := List.mem_map.mp ((srt_perm (T l F)).mem_iff.mp hy)
  exact sm_str (fun c hc => (h.w.let_ c (sel_in l k c hc)).2) (by have := sel_len l k; have := h.n; omega)
theorem is_among_S {t u : List Str} (n : t.length ≤ 1000) (s : ∀ x ∈ t, x ∈ u) : m__law_is_among ((⟨t⟩ : Tup Str), (⟨u⟩ : Tup Str), ()) = some true := by
  have e1 : lcGo (fun x => tNotIn x (⟨u⟩ : Tup Str)) (fun x => some x) t = some [] := by
    rw [lcGo_of (T := fun _ => false) (E := fun x => x) (fun x hx => ?_) fun _ _ _ => rfl]
    · rw [List.filter_eq_nil_iff.mpr fun _ _ => by simp]
      rfl
    · unfold tNotIn
      exact congrArg (fun z => some (!z)) (decide_eq_true (s x hx))
  have s0 : short ([] : List Str) = some [] := rfl
  have de : dEq ([] : List Str) [] = some true := rfl
  apply Ev.out
  delta m__law_is_among P__law_is_among
  dsimp only
  unfold runF
  refine Ev.bind ?_
  unfold sseq
  refine Ev.of (y := .rt true ()) ?_ ?_
  rotate_left
  · exact Ev.of rfl rfl
  simp only [sret, flc, f1, f2, lnil, fv, gs, gz, ps, pz, ic, ia, i0, Option.bind_some, s0]
  rw [if_pos (by omega), e1]
  simp only [Option.bind_some, de, Option.map_some]
  rfl
section
variable {l C : List Nat}
theorem orb_sub (h : Lets l) (s : Sys l C) {x y : Nat} (hx : x < 2 ^ l.length) (hy : y ∈ orb l C x) : ∀ z ∈ orb l C y, z ∈ orb l C x :=
  orb_least hy fun z hz => orb_step h s hx hz
theorem orb_srt (h : Lets l) (s : Sys l C) {x : Nat} (hx : x < 2 ^ l.length) {F G : List Nat} (nF : F.Nodup) (nG : G.Nodup) (mF : ∀ y, y ∈ F ↔ y ∈ orb l C x) (mG : ∀ y, y ∈ G ↔ y ∈ orb l C x) : srt (T l F) = srt (T l G) :=
  srt_ext (T_nd h nF fun y hy => orb_lt s hx ((mF y).mp hy)) (T_nd h nG fun y hy => orb_lt s hx ((mG y).mp hy)) fun z => by
    rw [mem_T, mem_T]
    constructor
    · rintro ⟨y, hy, e⟩
      exact ⟨y, (mG y).mpr ((mF y).mp hy), e⟩
    · rintro ⟨y, hy, e⟩
      exact ⟨y, (mF y).mpr ((mG y).mp hy), e⟩
theorem orb_in (h : Lets l) (s : Sys l C) {k : Nat} (hk : k < 2 ^ l.length) {F : List Nat} (nF : F.Nodup) (mF : ∀ y, y ∈ F ↔ y ∈ orb l C k) {y : Str} (hy : y ∈ srt (T l F)) :
    ((m_words (clo l C, y, ())).bind fun t => m__law_is_among (t, (⟨srt (T l F)⟩ : Tup Str), ())) = some true := by
  obtain ⟨j, hj, rfl⟩ := List.mem_map.mp ((srt_perm (T l F)).mem_iff.mp hy)
  have oj := (mF j).mp hj
  obtain ⟨t, e, G, rfl, nG, mG⟩ := words_S h s (orb_lt s hk oj)
  have e : m_words (clo l C, S (sel l j), ()) = some ⟨srt (T l G)⟩ := e
  rw [e, Option.bind_some]
  have lG := orb_len (l := l) (C := C) nG fun y hy => (mG y).mp hy
  refine is_among_S (by rw [(srt_perm (T l G)).length_eq, T_len]; omega) fun x hx => ?_
  obtain ⟨i, hi, rfl⟩ := List.mem_map.mp ((srt_perm (T l G)).mem_iff.mp hx)
  exact (srt_perm (T l F)).mem_iff.mpr (List.mem_map.mpr ⟨i, (mF i).mpr (orb_sub h s hk oj i ((mG i).mp hi)), rfl⟩)
theorem lot_right_S (h : Lets l) (s : Sys l C) {k : Nat} (hk : k < 2 ^ l.length) : m__law_lot_right (clo l C, S l, (⟨T l C⟩ : Tup Str), S (sel l k), ()) = some true := by
  have n7 := h.n
  obtain ⟨_, w1, F, rfl, nd1, m1'⟩ := words_S h s hk
  obtain ⟨_, w2, F2, rfl, nd2, m2'⟩ := law_words_S h s hk
  have w1 : m_words (clo l C, S (sel l k), ()) = some ⟨srt (T l F)⟩ := w1
  have w2 : m__law_words (S l, (⟨T l C⟩ : Tup Str), S (sel l k), ()) = some ⟨srt (T l F2)⟩ := w2
  have lF := orb_len (l := l) (C := C) nd1 fun y hy => (m1' y).mp hy
  rw [orb_srt h s hk nd2 nd1 m2' m1'] at w2
  have each := fun y hy => orb_in h s hk nd1 m1' (y := y) hy
  have g14 : iGt (((srt (T l F)).length : Int)) 14 = some false := by
    unfold iGt
    rw [(srt_perm (T l F)).length_eq, T_len]
    exact congrArg some (decide_eq_false (by omega))
  have wl := cm_lt l (ar l C (cm l k))
  have a1 := left_T h hk
  have a2 := about_S h s (cm_lt l k)
  have a3 := left_T h (ar_lt (C := C) s (cm l k))
  have a4 := about_S h s hk
  have inn := inner_U h s hk
  have rim1 := rim_S h s hk
  have rk := rest_U h hk
  have ak := around_S (C := C) h (cm_lt l k)
  have rw1 := rest_U h (ar_lt (C := C) s (cm l k))
  obtain ⟨r1, er1⟩ := repr_two h (cm l (ar l C (cm l k)))
  obtain ⟨r2, er2⟩ := repr_two h (ar l C k &&& ar l C (cm l k))
  obtain ⟨r3, er3⟩ := repr_words h (F := F) (by omega)
  have sg : ((sel l (ar l C k)).map fun c => S [c]).length ≤ 100000 := by
    rw [List.length_map]
    have := sel_len l (ar l C k)
    omega
  have edge : lcGo (fun x => sNotIn x (S (sel l (cm l (ar l C (cm l k)))))) (fun x => some x) ((sel l (ar l C k)).map fun c => S [c]) = some ((sel l (ar l C k &&& ar l C (cm l k))).map fun c => S [c]) := by
    rw [lcGo_mp (f := fun c => S [c]) (P := fun c => !decide (c ∈ sel l (cm l (ar l C (cm l k))))) (E := fun c => S [c]) (fun _ _ => rfl) fun _ _ _ => rfl, sel_out h (ar_lt s _)]
  have je := jn_S (sel l (ar l C k &&& ar l C (cm l k))) (by have := sel_len l (ar l C k &&& ar l C (cm l k)); omega)
  obtain ⟨W, eW⟩ : ∃ W, W = srt (T l F) := ⟨_, rfl⟩
  rw [← eW] at w1 w2 each g14 er3
  have lW : W.length ≤ 14 := by rw [eW, (srt_perm (T l F)).length_eq, T_len]; exact lF
  have l3 : (cutA none (some 3) W).length ≤ 100000 := by
    unfold cutA
    have := List.length_take_le (HT.sIx W.length W.length (some 3) - HT.sIx W.length 0 none) (W.drop (HT.sIx W.length 0 none))
    have q := (List.take_sublist (HT.sIx W.length W.length (some 3) - HT.sIx W.length 0 none) (W.drop (HT.sIx W.length 0 none))).trans (List.drop_sublist _ _)
    have := q.length_le
    omega
  have al : lcGo (fun _ => some true) (fun y => ((m_words (clo l C, y, ())).bind fun t => some (t, (⟨W⟩ : Tup Str), ())).bind m__law_is_among) (cutA none (some 3) W) = some ((cutA none (some 3) W).map fun _ => true) := by
    rw [lcGo_of (T := fun _ => true) (E := fun _ => true) (fun _ _ => rfl) fun y hy _ => ?_, filt_true]
    rw [Option.bind_assoc]
    refine each y ?_
    unfold cutA at hy
    exact (List.drop_sublist _ _).subset ((List.take_sublist _ _).subset hy)
  have ab : Vx.allB ((cutA none (some 3) W).map fun _ => true, ()) = some true := by
    unfold Vx.allB
    congr 1
    rw [List.all_map]
    simp
  have lt : lenT ((⟨W⟩ : Tup Str), ()) = some (W.length : Int) := rfl
  have sg0 : ∀ x : List Nat, Vx.signs (S x) = x.map fun c => S [c] := signs_S
  apply Ev.out
  delta m__law_lot_right P__law_lot_right
  dsimp only
  generalize m_words = WO at w1 al ⊢
  generalize m__law_words = CO at w2 ⊢
  generalize m_Closer_around = AR at ak ⊢
  generalize m_rest = RS at rk rw1 ⊢
  generalize m_inner = IN at inn ⊢
  generalize m_rim = RI at rim1 ⊢
  generalize m__law_about = LA at a2 a4 ⊢
  generalize m__law_left = LL at a1 a3 ⊢
  generalize m__law_is_among = IA at al ⊢
  unfold runF
  refine Ev.bind ?_
  unfold sseq
  refine ev_nx (γ := (clo l C, S l, (⟨T l C⟩ : Tup Str), S (sel l k), S (sel l (cm l (ar l C (cm l k)))), (⟨⟩ : Any), (⟨⟩ : Any), (⟨⟩ : Any), (⟨⟩ : Any), ())) (by
    simp only [sset, f1, fcons, fnil, fv, gs, gz, ps, pz, ic, ia, i0, Option.bind_some, Option.map_some, a1, a2, a3]) ?_
  refine ev_nx (γ := (clo l C, S l, (⟨T l C⟩ : Tup Str), S (sel l k), S (sel l (cm l (ar l C (cm l k)))), S (sel l (ar l C k &&& ar l C (cm l k))), (⟨⟩ : Any), (⟨⟩ : Any), (⟨⟩ : Any), ())) (by
    simp only [sset, flc, f1, f2, fc, fcons, fnil, fv, gs, gz, ps, pz, Option.bind_some, Option.map_some, a4, sg0, sg, if_true, edge, je]) ?_
  refine ev_no (by simp only [f1, f2, fc, fkw, kA10, lcons, lnil, fcons, fnil, fv, gs, gz, Option.bind_some, Option.map_some, inn, s2, s1, rep_two, er1, sNe_me]) ?_
  refine ev_no (by simp only [f1, f2, fc, fkw, kA10, lcons, lnil, fcons, fnil, fv, gs, gz, Option.bind_some, Option.map_some, rim1, s2, s1, rep_two, er2, sNe_me]) ?_
  refine ev_nx (γ := (clo l C, S l, (⟨T l C⟩ : Tup Str), S (sel l k), S (sel l (cm l (ar l C (cm l k)))), S (sel l (ar l C k &&& ar l C (cm l k))), (⟨W⟩ : Tup Str), (⟨⟩ : Any), (⟨⟩ : Any), ())) (by
    simp only [sset, f1, fcons, fnil, fv, gs, gz, ps, pz, Option.bind_some, Option.map_some, w2]) ?_
  refine ev_nx (γ := (clo l C, S l, (⟨T l C⟩ : Tup Str), S (sel l k), S (sel l (cm l (ar l C (cm l k)))), S (sel l (ar l C k &&& ar l C (cm l k))), (⟨W⟩ : Tup Str), (⟨W⟩ : Tup Str), (⟨⟩ : Any), ())) (by
    simp only [sset, f1, fcons, fnil, fv, gs, gz, ps, pz, Option.bind_some, Option.map_some, w1]) ?_
  refine ev_no (by simp only [foor, f1, f2, fc, fkw, kA10, lcons, lnil, fcons, fnil, fv, gs, gz, Option.bind_some, Option.map_some, w1, s2, s1, rep_two, er3, sNe_me, Bool.false_eq_true, if_false, lt, g14]) ?_
  refine ev_no (by simp only [f1, f2, fcons, fnil, fv, gs, gz, Option.bind_some, Option.map_some, inn, rk, ak, rw1, sNe_me]) ?_
  refine Ev.of (y := Fl.rt true ()) ?_ ?_
  rotate_left
  · exact Ev.of rfl rfl
  simp only [sret, flc, fyes, f1, f2, fc, fcons, fnil, fv, gs, gz, ps, pz, cutT, Option.bind_some, Option.map_some, l3, if_true, al, ab]
  rfl
end
end K34
namespace K34
open Vx.Rep (rep)
open Vx.EnvR (er)
open PySem PySem.Spec PyProof.Rows L2 Vx
theorem all_once {l C : List Nat} (h : Lets l) {D : List Nat} (nd : D.Nodup) (mD : ∀ k, k ∈ D ↔ ∃ c ∈ l, pc l C c = k) : (D.map (sel l)).flatten.Perm l := by
  refine (List.perm_ext_iff_of_nodup (flat_nd h.nd nd fun i hi j hj ne c hc hc2 => ne ?_) h.nd).mpr fun c => ?_
  · obtain ⟨a, ha, rfl⟩ := (mD i).mp hi
    obtain ⟨b, hb, rfl⟩ := (mD j).mp hj
    rw [← pc_eq h ha hc, ← pc_eq h hb hc2]
  · constructor
    · intro q
      obtain ⟨x, hx, hc⟩ := List.mem_flatten.mp q
      obtain ⟨k, hk, rfl⟩ := List.mem_map.mp hx
      exact (mem_sel.mp hc).1
    · intro hc
      exact List.mem_flatten.mpr ⟨_, List.mem_map.mpr ⟨pc l C c, (mD _).mpr ⟨c, hc, rfl⟩, rfl⟩, (pc_ok h hc).2.2.1⟩
theorem joined {l C : List Nat} (h : Lets l) {D : List Nat} (nd : D.Nodup) (mD : ∀ k, k ∈ D ↔ ∃ c ∈ l, pc l C c = k) : ∃ x, jnT (Str.ofString "") ⟨T l D⟩ = some (S x) ∧ srtS (S x, ()) = some (l.map fun c => S [c]) := by
  have pm := all_once h nd mD
  have n7 := h.n
  have lx := pm.length_eq
  refine ⟨(D.map (sel l)).flatten, ?_, ?_⟩
  · have e : T l D = (D.map (sel l)).map S := by
      unfold T
      rw [List.map_map]
      rfl
    show jn (Str.ofString "") (T l D) = _
    rw [e]
    exact jn_texts _ (by omega)
  · unfold srtS
    have sz : (S (D.map (sel l)).flatten).cps.size ≤ 100000 := by
      show (D.map (sel l)).flatten.toArray.size ≤ 100000
      rw [List.size_toArray]
      omega
    rw [if_pos sz]
    refine congrArg some ?_
    rw [signs_S, srt_eq (pm.map fun c => S [c]), sign_srt h.w.asc]
theorem right_S {s : List Int} (hs : Sk 0 s) : Ev (m__law_right s ()) fun r => r.1 = true := by
  have er := rng_n 2 (by omega)
  have zl : ∀ n : Nat, (Z (List.range n)).length = n := fun n => by simp [Z]
  delta m__law_right P__law_right
  dsimp only
  generalize rangeOf1 = R at er ⊢
  unfold runM
  refine Ev.bind ?_
  unfold sseq
  unfold sfor
  refine Ev.bind ?_
  refine Ev.bind ?_
  refine Ev.of (y := Z (List.range 2)) (by simp only [f1, fc, fcons, fnil, Option.bind_some]; exact er) ?_
  refine Ev.forL (fun xs γ => ∃ (g : List Int) (i : Nat), γ = ((⟨g⟩ : OL Int), (⟨⟩ : Any), (⟨⟩ : Any), (⟨⟩ : Any), (⟨⟩ : Any), (⟨⟩ : Any), (⟨⟩ : Any), ()) ∧ i + xs.length = 2 ∧ Sk (65 * i) g) ⟨s, 0, rfl, by rw [zl], hs.mono (by omega)⟩ ?_ ?_
  · rintro x xs γ ⟨g, i, rfl, hi, hg⟩
    rw [List.length_cons] at hi
    obtain ⟨⟨w, g1⟩, e1, l, q1, h, l4, h1⟩ := crew_S hg (by omega)
    obtain rfl : w = S l := q1
    have h1 : Sk (65 * i + 5) g1 := h1
    obtain ⟨⟨w, g2⟩, e2, C, q2, sC, h2⟩ := halls_S h1 (by omega) h l4
    obtain rfl : w = (⟨T l C⟩ : Tup Str) := q2
    have h2 : Sk (65 * i + 5 + 60) g2 := h2
    have n7 := h.n
    have mk := make_S h sC
    have le := law_leads_of_S h sC
    obtain ⟨D, eD, fD, gD, mD⟩ := pieces_S h sC
    have lp := law_pieces_S h fD mD
    obtain ⟨J, eJ, eS⟩ := joined h gD.nd mD
    have eL : listS (S l, ()) = some (l.map fun c => S [c]) := by
      unfold listS
      rw [if_pos (by show l.toArray.size ≤ 100000; rw [List.size_toArray]; omega), signs_S]
    have nD := gD.len
    have N7 := p7 h
    obtain ⟨rp, erp⟩ := repr_fam h (A := D) (B := D) (by omega) (by omega)
    obtain ⟨E, eE, aE⟩ := all_ex h
    have lr : ∀ k ∈ E, m__law_lot_right (clo l C, S l, (⟨T l C⟩ : Tup Str), S (sel l k), ()) = some true := fun k hk => lot_right_S h sC ((aE.m k).mp hk)
    refine ev_nx (γ := ((⟨g1⟩ : OL Int), x, S l, (⟨⟩ : Any), (⟨⟩ : Any), (⟨⟩ : Any), (⟨⟩ : Any), ())) (by
      simp only [ssetm, mdr, up, fc, fcons, fnil, ps, pz, Option.bind_some, Option.map_some, e1]) ?_
    refine ev_nx (γ := ((⟨g2⟩ : OL Int), x, S l, (⟨T l C⟩ : Tup Str), (⟨⟩ : Any), (⟨⟩ : Any), (⟨⟩ : Any), ())) (by
      simp only [ssetm, mdr, up, fv, gs, gz, fcons, fnil, ps, pz, Option.bind_some, Option.map_some, e2]) ?_
    refine ev_nx (γ := ((⟨g2⟩ : OL Int), x, S l, (⟨T l C⟩ : Tup Str), (⟨⟩ : Any), clo l C, (⟨T l D⟩ : Tup Str), ())) (by
      simp only [spar, up, f1, fv, gs, gz, fcons, fnil, ps, pz, Option.bind_some, Option.map_some, mk, le, lp]) ?_
    refine ev_no (by simp only [f1, f2, fc, fkw, kA0, lcons, lnil, fcons, fnil, fv, gs, gz, Option.bind_some, Option.map_some, eD, s2, s1, rep_two, erp, sNe_me]) ?_
    refine ev_no (by simp only [f1, f2, fc, fcons, fnil, fv, gs, gz, Option.bind_some, Option.map_some, eJ, eS, eL, dNe_me]) ?_
    refine Ev.bind ?_
    refine Ev.bind ?_
    refine Ev.of (y := T l E) (by simp only [f1, fcons, fnil, fv, gs, gz, wid, Option.bind_some, eE]) ?_
    refine Ev.forL (fun xs γ => ∃ r : List Nat, xs = T l r ∧ (∀ k ∈ r, k ∈ E) ∧ γ = ((⟨g2⟩ : OL Int), x, S l, (⟨T l C⟩ : Tup Str), (⟨⟩ : Any), clo l C, (⟨T l D⟩ : Tup Str), ())) ⟨E, rfl, fun _ z => z, rfl⟩ ?_ ?_
    · rintro y ys γ ⟨r, q, hr, rfl⟩
      cases r with
      | nil => cases q
      | cons k r =>
        cases q
        refine ev_no (by simp only [fnot, f1, fcons, fnil, fv, gs, gz, ps, pz, Option.bind_some, Option.map_some, lr k (hr k List.mem_cons_self), Bool.not_true]) ?_
        exact Ev.of rfl ⟨_, rfl, r, rfl, fun j hj => hr j (List.mem_cons_of_mem _ hj), rfl⟩
    · rintro γ ⟨r, q, hr, rfl⟩
      exact Ev.of rfl ⟨_, rfl, g2, i + 1, rfl, by omega, h2.mono (by omega)⟩
  · rintro γ ⟨g, i, rfl, hi, hg⟩
    exact Ev.of rfl (Ev.of rfl rfl)
theorem right_E {s : List Int} (hs : Sk 0 s) : ∃ s', m__law_right s () = some (true, s') := by
  obtain ⟨⟨b1, s1⟩, e1, h1⟩ := right_S hs
  have h1 : b1 = true := h1
  subst h1
  exact ⟨s1, e1⟩
theorem go_right : ∀ {ss : List (List Int)}, (∀ s ∈ ss, Sk 0 s) → ∃ rs, goM m__law_right ss = some rs ∧ ∀ r ∈ rs, r.1 = true
  | [], _ => ⟨[], rfl, fun _ h => by cases h⟩
  | s :: ss, h => by
    obtain ⟨s', e⟩ := right_E (h s List.mem_cons_self)
    obtain ⟨rs, er, hr⟩ := go_right fun t ht => h t (List.mem_cons_of_mem _ ht)
    refine ⟨(true, s') :: rs, ?_, fun r hm => ?_⟩
    · show ((m__law_right s ()).bind fun r => (goM m__law_right ss).map (r :: ·)) = _
      rw [e, Option.bind_some, er]
      rfl
    · rcases List.mem_cons.mp hm with rfl | hm
      · rfl
      · exact hr r hm
theorem brews_S (zs : List Int) : ∀ ks : List Nat, ∃ ss, lcGo (fun _ => some true) (fun k => m__law_brew ((⟨zs⟩ : Scr), k, ())) (Z ks) = some ss ∧ ss.length = ks.length ∧ ∀ s ∈ ss, Sk 0 s
  | [] => ⟨[], rfl, rfl, fun _ h => by cases h⟩
  | k :: ks => by
    obtain ⟨s, e, hs⟩ := brew_S zs k
    obtain ⟨ss, es, ls, hss⟩ := brews_S zs ks
    refine ⟨s :: ss, ?_, by rw [List.length_cons, List.length_cons, ls], fun t ht => ?_⟩
    · show lcGo _ _ ((k : Int) :: Z ks) = _
      unfold lcGo
      rw [Option.bind_some, if_pos rfl, e, Option.bind_some, es]
      rfl
    · rcases List.mem_cons.mp ht with rfl | ht
      · exact hs
      · exact hss t ht
theorem law_S (zs : List Int) : m_law (⟨zs⟩, ()) = some true := by
  obtain ⟨m, em, hm⟩ : ∃ m : Nat, ((min2 ((zs.length : Int), 3, ())).bind fun y => max2 (2, y, ())) = some (m : Int) ∧ m ≤ 3 := by
    unfold min2 max2
    simp only [Option.bind_some]
    refine ⟨(if (if (3 : Int) < zs.length then (3 : Int) else zs.length) > 2 then (if (3 : Int) < zs.length then (3 : Int) else zs.length) else 2).toNat, ?_, ?_⟩
    · congr 1
      split <;> split <;> omega
    · split <;> split <;> omega
  have er := rng_n m (by omega)
  have er2 : ((min2 ((zs.length : Int), 3, ())).bind fun y => (max2 (2, y, ())).bind rangeOf1) = some (Z (List.range m)) := by
    rw [← Option.bind_assoc, em, Option.bind_some, er]
  obtain ⟨ss, es, ls, hss⟩ := brews_S zs (List.range m)
  rw [List.length_range] at ls
  obtain ⟨rs, ers, hrs⟩ := go_right hss
  have ab : Vx.allB (rs.map (·.1), ()) = some true := by
    unfold Vx.allB
    congr 1
    rw [List.all_map, List.all_eq_true]
    intro r hr
    exact hrs r hr
  have bw : brewsM m__law_right ((⟨zs⟩ : Scr), (⟨ss⟩ : OLL), (⟨⟩ : Any), (⟨⟩ : Any), ()) = some (rs.map (·.1), ((⟨zs⟩ : Scr), (⟨rs.map (·.2)⟩ : OLL), (⟨⟩ : Any), (⟨⟩ : Any), ())) := by
    unfold brewsM
    show (if ss.length ≤ 100000 then (goM m__law_right ss).map _ else none) = _
    rw [if_pos (by omega), ers]
    rfl
  apply Ev.out
  delta m_law P_law
  dsimp only
  generalize rangeOf1 = RG at er2 ⊢
  unfold runF
  refine Ev.bind ?_
  unfold sseq
  refine ev_nx (γ := ((⟨zs⟩ : Scr), (⟨ss⟩ : OLL), (⟨⟩ : Any), (⟨⟩ : Any), ())) ?_ ?_
  · have e0 : f1 RG (f1 max2 (fcons (fc 2) (fcons (f1 min2 (fcons (f1 lenC (fcons (fv gz) fnil)) (fcons (fc 3) fnil))) fnil))) ((⟨zs⟩ : Scr), (⟨⟩ : Any), (⟨⟩ : Any), (⟨⟩ : Any), ()) = some (Z (List.range m)) := by
      simp only [f1, fc, fcons, fnil, fv, gs, gz, Option.bind_some, lenC]
      rw [← er2]
      simp only [Option.bind_assoc, Option.bind_some]
    unfold sbrews
    refine (congrArg (fun z => Option.bind z _) e0).trans ?_
    rw [Option.bind_some, if_pos (by simp [Z]; omega)]
    refine (congrArg (Option.map _) (show lcGo _ _ (Z (List.range m)) = some ss from ?_)).trans rfl
    refine (congrArg (fun f => lcGo (fun _ => some true) f (Z (List.range m))) (funext fun k => ?_)).trans es
    rfl
  refine Ev.of (y := .rt true ()) ?_ ?_
  rotate_left
  · exact Ev.of rfl rfl
  unfold sretm m1 mcons
  refine (congrArg (fun z => Option.bind (Option.map _ (Option.bind (Option.bind z _) _)) _) bw).trans ?_
  simp only [Option.bind_some, up, fnil, Option.map_some, ab]
  rfl
theorem ans (zs : List Int) (h : zs.length ≤ 63) : m_law (⟨zs⟩, ()) = some true := law_S zs
end K34
namespace K34
open Vx.Rep (rep)
open Vx.EnvR (er)
open PySem PySem.Spec PyProof.Rows L2 Vx
def FnIn (K : PySem.W.Frag) (x : Str) (st : Stmt) : Prop := ∃ (f : Addr) (oc : Value) (od : Option Addr) (kV dc pm : Value) (an : Option Addr) (cd ct : Value) (sl : Array (Option Value)),
  PySem.W.nsIn K mainGlobals x = some (some (.ref f)) ∧ K.lookup f = some ⟨oc, od, .func (PySem.W.fnOf x x (defArgs st) (defBody st) (defScope st) .none kV dc pm an cd ct), sl⟩ ∧ PySem.W.codeIn K cd x = true ∧ PySem.W.keepIn K (.ref f) = true
def MtIn (K : PySem.W.Frag) (C : Addr) (x qual : Str) (st : Stmt) : Prop := ∃ (f : Addr) (oc : Value) (od : Option Addr) (kV dc pm : Value) (an : Option Addr) (cd ct : Value) (sl : Array (Option Value)),
  PySem.W.findIn K (.ref C) x = some (some (.ref f)) ∧ PySem.W.isFn K (.ref f) = true ∧ K.lookup f = some ⟨oc, od, .func (PySem.W.fnOf x qual (defArgs st) (defBody st) (defScope st) .none kV dc pm an cd ct), sl⟩ ∧ PySem.W.codeIn K cd qual = true ∧ PySem.W.keepIn K (.ref f) = true
def PrIn (K : PySem.W.Frag) (C : Addr) (x qual : Str) (st : Stmt) : Prop := ∃ (p f : Addr) (rest : List Value) (oc : Value) (od : Option Addr) (kV dc pm : Value) (an : Option Addr) (cd ct : Value) (sl : Array (Option Value)),
  PySem.W.findIn K (.ref C) x = some (some (.ref p)) ∧ PySem.W.specialIn K (.ref p) "__get__" = some (some (.builtin "property.__get__")) ∧ PySem.W.takesIn K (.ref p) = some true ∧ PySem.W.recIn K p "property" = some (.ref f :: rest) ∧ K.lookup f = some ⟨oc, od, .func (PySem.W.fnOf x qual (defArgs st) (defBody st) (defScope st) .none kV dc pm an cd ct), sl⟩ ∧ PySem.W.codeIn K cd qual = true ∧ PySem.W.keepIn K (.ref f) = true
theorem tf_of {K : PySem.W.Frag} {h : Heap} {mg : Str → Option Value} {x : Str} {st : Stmt} {ps : List Str} (X : K.In h) (G : h.Ns mainGlobals mg) (I : FnIn K x st)
    (b : ∀ (kV doc pm : Value) (an : Option Addr) (cdv ct : Value) (us : List Value), us.length = ps.length → bindArgs (PySem.W.fnOf x x (defArgs st) (defBody st) (defScope st) .none kV doc pm an cdv ct) ⟨us, []⟩ = pure (ps.zip us)) : Tf K mg x st ps := by
  obtain ⟨f, oc, od, kV, dc, pm, an, cd, ct, sl, h1, h2, h3, h4⟩ := I
  have F := fun_mk (st := st) h2 h3 h4
  exact ⟨f, _, F, PySem.W.mg_of X G h1, F.binds b⟩
theorem ti_of {K : PySem.W.Frag} {h : Heap} {mg : Str → Option Value} {C : Addr} {qual : Str} {st : Stmt} {ps : List Str} (X : K.In h) (G : h.Ns mainGlobals mg) (at_ : ClsAt K C) (mk : PySem.W.makesIn K C = true) (kc : PySem.W.keepIn K (.ref C) = true) (I : MtIn K C "__init__" qual st)
    (b : ∀ (kV doc pm : Value) (an : Option Addr) (cdv ct : Value) (us : List Value), us.length = ps.length → bindArgs (PySem.W.fnOf "__init__" qual (defArgs st) (defBody st) (defScope st) .none kV doc pm an cdv ct) ⟨us, []⟩ = pure (ps.zip us)) : TmI K mg qual st ps := by
  obtain ⟨f, oc, od, kV, dc, pm, an, cd, ct, sl, h1, h2, h3, h4, h5⟩ := I
  have F := fun_mk (st := st) h3 h4 h5
  exact ⟨C, f, _, at_, ⟨mk, h1, h2, kc⟩, PySem.W.mg_of X G at_, F, F.binds b⟩
theorem tm_of {K : PySem.W.Frag} {C : Addr} {x qual : Str} {st : Stmt} {ps : List Str} (at_ : ClsAt K C) (cl : Cls K C) (I : MtIn K C x qual st)
    (b : ∀ (kV doc pm : Value) (an : Option Addr) (cdv ct : Value) (us : List Value), us.length = ps.length → bindArgs (PySem.W.fnOf x qual (defArgs st) (defBody st) (defScope st) .none kV doc pm an cdv ct) ⟨us, []⟩ = pure (ps.zip us)) : TmM K x qual st ps := by
  obtain ⟨f, oc, od, kV, dc, pm, an, cd, ct, sl, h1, h2, h3, h4, h5⟩ := I
  have F := fun_mk (st := st) h3 h4 h5
  exact ⟨C, f, _, at_, cl, ⟨h1, h2, h5⟩, F, F.binds b⟩
theorem tp_of {K : PySem.W.Frag} {C : Addr} {x qual : Str} {st : Stmt} {ps : List Str} (at_ : ClsAt K C) (cl : Cls K C) (I : PrIn K C x qual st)
    (b : ∀ (kV doc pm : Value) (an : Option Addr) (cdv ct : Value) (us : List Value), us.length = ps.length → bindArgs (PySem.W.fnOf x qual (defArgs st) (defBody st) (defScope st) .none kV doc pm an cdv ct) ⟨us, []⟩ = pure (ps.zip us)) : TmP K x qual st ps := by
  obtain ⟨p, f, rest, oc, od, kV, dc, pm, an, cd, ct, sl, h1, h2, h3, h4, h5, h6, h7⟩ := I
  have F := fun_mk (st := st) h5 h6 h7
  exact ⟨C, p, f, _, at_, cl, ⟨h1, h2, h3, ⟨rest, h4⟩⟩, F, F.binds b⟩
theorem fd_one {K : PySem.W.Frag} {x : Str} {st : Stmt} {f : Addr} {fd fd' : FuncData} (F : Fun K x x st f fd) (F' : Fun K x x st f fd') : fd = fd' := by
  obtain ⟨_, _, _, _, _, _, _, _, _, _, h, _⟩ := F.ex
  obtain ⟨_, _, _, _, _, _, _, _, _, _, h', _⟩ := F'.ex
  rw [h] at h'
  have := Option.some.inj h'
  injection this with _ _ h3 _
  injection h3
theorem law_df {P : Program} {w : World} {K : PySem.W.Frag} {mg : Str → Option Value} {fa : Addr} (T : Top K mg) (hm : mg "law" = some (.ref fa)) :
    ∃ fd : FuncData, (∀ (s : Shared) (v : Value), BindsTo s fd ⟨[v], []⟩ [("_law_cells", v)]) ∧ ∀ base : Heap, GnOk P w K mg base 10 fa fd ["_law_cells"] (spF K m_law) := by
  obtain ⟨f, fd, F, hf, hb⟩ := T.f_law
  have e : f = fa := by
    have := hf.symm.trans hm
    cases this
    rfl
  subst e
  refine ⟨fd, fun s v => ?_, fun base => ?_⟩
  · obtain ⟨_, _, _, _, _, _, _, _, _, e, _, _⟩ := F.ex
    subst e
    exact .of_eq rfl
  · obtain ⟨f', fd', F', hf', _, Gn⟩ := d_law (P := P) (w := w) (base := base) T
    have e := hf.symm.trans hf'
    cases e
    rw [fd_one F F']
    exact Gn
theorem top_mk {K : PySem.W.Frag} {h : Heap} {mg : Str → Option Value} {C : Addr} (X : K.In h) (G : h.Ns mainGlobals mg)
    (aC : ClsAt K C) (pg : PySem.W.plainGet K C Str.empty = true) (hd : PySem.W.hasDictIn K C = true) (po : PySem.W.plainOver K C = true) (sa : PySem.W.findIn K (.ref C) "__setattr__" = some (some (.builtin "object.__setattr__"))) (mk : PySem.W.makesIn K C = true) (kc : PySem.W.keepIn K (.ref C) = true) (n1 : PySem.W.findIn K (.ref C) "_things" = some none) (n2 : PySem.W.findIn K (.ref C) "_closed" = some none) (n3 : PySem.W.findIn K (.ref C) "_around" = some none) (i1 : PySem.W.findIn K (.ref C) "__class__" = some (some (.builtin "object.__class__"))) (i2 : PySem.W.specialIn K (.builtin "object.__class__") "__get__" = some (some (.builtin "getset_descriptor.__get__"))) (i3 : PySem.W.takesIn K (.builtin "object.__class__") = some true) (i4 : PySem.W.mroIn K C (.type "object") = some true)
    (a10 : FnIn K "is_letter" (topS 10))
    (a11 : FnIn K "is_word" (topS 11))
    (a12 : FnIn K "is_any_lot" (topS 12))
    (a13 : FnIn K "is_things" (topS 13))
    (a18 : FnIn K "has_all" (topS 18))
    (a14 : FnIn K "is_lot" (topS 14))
    (a15 : FnIn K "check_things" (topS 15))
    (a16 : FnIn K "check_lot" (topS 16))
    (a17 : FnIn K "first_wrong" (topS 17))
    (a19 : FnIn K "in_either" (topS 19))
    (a20 : FnIn K "without" (topS 20))
    (a26 : FnIn K "rest" (topS 26))
    (a21 : FnIn K "lots_by_number" (topS 21))
    (a22 : FnIn K "number_by_lot" (topS 22))
    (a23 : FnIn K "numbers_of" (topS 23))
    (a24 : FnIn K "family_of" (topS 24))
    (a25 : FnIn K "meets_of" (topS 25))
    (a31 : FnIn K "is_system" (topS 31))
    (a29 : FnIn K "check_closed" (topS 29))
    (a33 : FnIn K "first_around" (topS 33))
    (a32 : FnIn K "lots_around" (topS 32))
    (ac28_0 : MtIn K C "__init__" "Closer.__init__" (topC 28 0))
    (ac28_2 : PrIn K C "things" "Closer.things" (topC 28 2))
    (ac28_3 : PrIn K C "closed" "Closer.closed" (topC 28 3))
    (ac28_7 : MtIn K C "around" "Closer.around" (topC 28 7))
    (ac28_6 : MtIn K C "__eq__" "Closer.__eq__" (topC 28 6))
    (a30 : FnIn K "check_closer" (topS 30))
    (a37 : FnIn K "keeps" (topS 37))
    (a41 : FnIn K "leads_of" (topS 41))
    (a42 : FnIn K "inner_of" (topS 42))
    (a43 : FnIn K "inner" (topS 43))
    (a44 : FnIn K "rim" (topS 44))
    (a45 : FnIn K "words" (topS 45))
    (a38 : FnIn K "first_broken" (topS 38))
    (a39 : FnIn K "led_on" (topS 39))
    (a46 : FnIn K "pieces" (topS 46))
    (a48 : FnIn K "_law_brew" (topS 48))
    (a49 : FnIn K "_law_tap" (topS 49))
    (a50 : FnIn K "_law_of" (topS 50))
    (a51 : FnIn K "_law_is_in" (topS 51))
    (a52 : FnIn K "_law_both" (topS 52))
    (a53 : FnIn K "_law_left" (topS 53))
    (a54 : FnIn K "_law_packs" (topS 54))
    (a55 : FnIn K "_law_crew" (topS 55))
    (a56 : FnIn K "_law_pack" (topS 56))
    (a57 : FnIn K "_law_meeting" (topS 57))
    (a58 : FnIn K "_law_drawn_leads" (topS 58))
    (a59 : FnIn K "_law_led_halls" (topS 59))
    (a60 : FnIn K "_law_tails" (topS 60))
    (a61 : FnIn K "_law_line" (topS 61))
    (a62 : FnIn K "_law_halls" (topS 62))
    (a63 : FnIn K "_law_about" (topS 63))
    (a65 : FnIn K "_law_words" (topS 65))
    (a66 : FnIn K "_law_pieces" (topS 66))
    (a68 : FnIn K "_law_is_among" (topS 68))
    (a67 : FnIn K "_law_lot_right" (topS 67))
    (a64 : FnIn K "_law_leads_of" (topS 64))
    (a69 : FnIn K "_law_right" (topS 69))
    (a70 : FnIn K "law" (topS 70))
    (z_len : PySem.W.nsIn K mainGlobals "len" = some none)
    (z_all : PySem.W.nsIn K mainGlobals "all" = some none)
    (z_any : PySem.W.nsIn K mainGlobals "any" = some none)
    (z_abs : PySem.W.nsIn K mainGlobals "abs" = some none)
    (z_int : PySem.W.nsIn K mainGlobals "int" = some none)
    (z_min : PySem.W.nsIn K mainGlobals "min" = some none)
    (z_max : PySem.W.nsIn K mainGlobals "max" = some none)
    (z_tuple : PySem.W.nsIn K mainGlobals "tuple" = some none)
    (z_repr : PySem.W.nsIn K mainGlobals "repr" = some none)
    (z_isinstance : PySem.W.nsIn K mainGlobals "isinstance" = some none)
    (z_str : PySem.W.nsIn K mainGlobals "str" = some none)
    (z_range : PySem.W.nsIn K mainGlobals "range" = some none)
    (z_enumerate : PySem.W.nsIn K mainGlobals "enumerate" = some none)
    (z_sorted : PySem.W.nsIn K mainGlobals "sorted" = some none)
    (z_set : PySem.W.nsIn K mainGlobals "set" = some none)
    (z_list : PySem.W.nsIn K mainGlobals "list" = some none)
    (z_divmod : PySem.W.nsIn K mainGlobals "divmod" = some none)
    {tk_MOST_THINGS : Tok} (c_MOST_THINGS : PySem.W.nsIn K mainGlobals "MOST_THINGS" = some (some (.int 7 tk_MOST_THINGS)))
    : Top K mg :=
  ⟨tf_of X G a10 fun _ _ _ _ _ _ us hl => match us, hl with | [_], _ => rfl,
   tf_of X G a11 fun _ _ _ _ _ _ us hl => match us, hl with | [_], _ => rfl,
   tf_of X G a12 fun _ _ _ _ _ _ us hl => match us, hl with | [_], _ => rfl,
   tf_of X G a13 fun _ _ _ _ _ _ us hl => match us, hl with | [_], _ => rfl,
   tf_of X G a18 fun _ _ _ _ _ _ us hl => match us, hl with | [_, _], _ => rfl,
   tf_of X G a14 fun _ _ _ _ _ _ us hl => match us, hl with | [_, _], _ => rfl,
   tf_of X G a15 fun _ _ _ _ _ _ us hl => match us, hl with | [_], _ => rfl,
   tf_of X G a16 fun _ _ _ _ _ _ us hl => match us, hl with | [_, _], _ => rfl,
   tf_of X G a17 fun _ _ _ _ _ _ us hl => match us, hl with | [_, _], _ => rfl,
   tf_of X G a19 fun _ _ _ _ _ _ us hl => match us, hl with | [_, _], _ => rfl,
   tf_of X G a20 fun _ _ _ _ _ _ us hl => match us, hl with | [_, _], _ => rfl,
   tf_of X G a26 fun _ _ _ _ _ _ us hl => match us, hl with | [_, _], _ => rfl,
   tf_of X G a21 fun _ _ _ _ _ _ us hl => match us, hl with | [_], _ => rfl,
   tf_of X G a22 fun _ _ _ _ _ _ us hl => match us, hl with | [_], _ => rfl,
   tf_of X G a23 fun _ _ _ _ _ _ us hl => match us, hl with | [_, _], _ => rfl,
   tf_of X G a24 fun _ _ _ _ _ _ us hl => match us, hl with | [_, _], _ => rfl,
   tf_of X G a25 fun _ _ _ _ _ _ us hl => match us, hl with | [_, _], _ => rfl,
   tf_of X G a31 fun _ _ _ _ _ _ us hl => match us, hl with | [_, _], _ => rfl,
   tf_of X G a29 fun _ _ _ _ _ _ us hl => match us, hl with | [_, _], _ => rfl,
   tf_of X G a33 fun _ _ _ _ _ _ us hl => match us, hl with | [_, _], _ => rfl,
   tf_of X G a32 fun _ _ _ _ _ _ us hl => match us, hl with | [_, _], _ => rfl,
   ti_of X G aC mk kc ac28_0 fun _ _ _ _ _ _ us hl => match us, hl with | [_, _, _], _ => rfl,
   tp_of aC ⟨pg, hd, po, sa⟩ ac28_2 fun _ _ _ _ _ _ us hl => match us, hl with | [_], _ => rfl,
   tp_of aC ⟨pg, hd, po, sa⟩ ac28_3 fun _ _ _ _ _ _ us hl => match us, hl with | [_], _ => rfl,
   tm_of aC ⟨pg, hd, po, sa⟩ ac28_7 fun _ _ _ _ _ _ us hl => match us, hl with | [_, _], _ => rfl,
   tm_of aC ⟨pg, hd, po, sa⟩ ac28_6 fun _ _ _ _ _ _ us hl => match us, hl with | [_, _], _ => rfl,
   tf_of X G a30 fun _ _ _ _ _ _ us hl => match us, hl with | [_], _ => rfl,
   tf_of X G a37 fun _ _ _ _ _ _ us hl => match us, hl with | [_, _], _ => rfl,
   tf_of X G a41 fun _ _ _ _ _ _ us hl => match us, hl with | [_], _ => rfl,
   tf_of X G a42 fun _ _ _ _ _ _ us hl => match us, hl with | [_, _], _ => rfl,
   tf_of X G a43 fun _ _ _ _ _ _ us hl => match us, hl with | [_, _], _ => rfl,
   tf_of X G a44 fun _ _ _ _ _ _ us hl => match us, hl with | [_, _], _ => rfl,
   tf_of X G a45 fun _ _ _ _ _ _ us hl => match us, hl with | [_, _], _ => rfl,
   tf_of X G a38 fun _ _ _ _ _ _ us hl => match us, hl with | [_, _], _ => rfl,
   tf_of X G a39 fun _ _ _ _ _ _ us hl => match us, hl with | [_, _], _ => rfl,
   tf_of X G a46 fun _ _ _ _ _ _ us hl => match us, hl with | [_], _ => rfl,
   tf_of X G a48 fun _ _ _ _ _ _ us hl => match us, hl with | [_, _], _ => rfl,
   tf_of X G a49 fun _ _ _ _ _ _ us hl => match us, hl with | [_, _], _ => rfl,
   tf_of X G a50 fun _ _ _ _ _ _ us hl => match us, hl with | [_, _], _ => rfl,
   tf_of X G a51 fun _ _ _ _ _ _ us hl => match us, hl with | [_, _], _ => rfl,
   tf_of X G a52 fun _ _ _ _ _ _ us hl => match us, hl with | [_, _], _ => rfl,
   tf_of X G a53 fun _ _ _ _ _ _ us hl => match us, hl with | [_, _], _ => rfl,
   tf_of X G a54 fun _ _ _ _ _ _ us hl => match us, hl with | [_], _ => rfl,
   tf_of X G a55 fun _ _ _ _ _ _ us hl => match us, hl with | [_, _], _ => rfl,
   tf_of X G a56 fun _ _ _ _ _ _ us hl => match us, hl with | [_, _], _ => rfl,
   tf_of X G a57 fun _ _ _ _ _ _ us hl => match us, hl with | [_, _], _ => rfl,
   tf_of X G a58 fun _ _ _ _ _ _ us hl => match us, hl with | [_, _, _], _ => rfl,
   tf_of X G a59 fun _ _ _ _ _ _ us hl => match us, hl with | [_, _], _ => rfl,
   tf_of X G a60 fun _ _ _ _ _ _ us hl => match us, hl with | [_], _ => rfl,
   tf_of X G a61 fun _ _ _ _ _ _ us hl => match us, hl with | [_, _], _ => rfl,
   tf_of X G a62 fun _ _ _ _ _ _ us hl => match us, hl with | [_, _], _ => rfl,
   tf_of X G a63 fun _ _ _ _ _ _ us hl => match us, hl with | [_, _], _ => rfl,
   tf_of X G a65 fun _ _ _ _ _ _ us hl => match us, hl with | [_, _, _], _ => rfl,
   tf_of X G a66 fun _ _ _ _ _ _ us hl => match us, hl with | [_, _], _ => rfl,
   tf_of X G a68 fun _ _ _ _ _ _ us hl => match us, hl with | [_, _], _ => rfl,
   tf_of X G a67 fun _ _ _ _ _ _ us hl => match us, hl with | [_, _, _, _], _ => rfl,
   tf_of X G a64 fun _ _ _ _ _ _ us hl => match us, hl with | [_, _], _ => rfl,
   tf_of X G a69 fun _ _ _ _ _ _ us hl => match us, hl with | [_], _ => rfl,
   tf_of X G a70 fun _ _ _ _ _ _ us hl => match us, hl with | [_], _ => rfl,
   PySem.W.mg_none_of X G z_len,
   PySem.W.mg_none_of X G z_all,
   PySem.W.mg_none_of X G z_any,
   PySem.W.mg_none_of X G z_abs,
   PySem.W.mg_none_of X G z_int,
   PySem.W.mg_none_of X G z_min,
   PySem.W.mg_none_of X G z_max,
   PySem.W.mg_none_of X G z_tuple,
   PySem.W.mg_none_of X G z_repr,
   PySem.W.mg_none_of X G z_isinstance,
   PySem.W.mg_none_of X G z_str,
   PySem.W.mg_none_of X G z_range,
   PySem.W.mg_none_of X G z_enumerate,
   PySem.W.mg_none_of X G z_sorted,
   PySem.W.mg_none_of X G z_set,
   PySem.W.mg_none_of X G z_list,
   PySem.W.mg_none_of X G z_divmod,
   ⟨tk_MOST_THINGS, PySem.W.mg_of X G c_MOST_THINGS⟩,
   ⟨C, aC, ⟨pg, hd, po, sa⟩, n1, n2, n3⟩,
   ⟨C, aC, ⟨⟨pg, hd, po, sa⟩, i1, i2, i3, i4, by unfold PySem.W.kitOne; rw [if_pos (beq_self_eq_true _)]⟩, PySem.W.mg_of X G aC⟩⟩
theorem law_top {P : Program} {w : World} {K : PySem.W.Frag} {h : Heap} {mg : Str → Option Value} {fa C : Addr} (X : K.In h) (G : h.Ns mainGlobals mg) (hm : mg "law" = some (.ref fa))
    (aC : ClsAt K C) (pg : PySem.W.plainGet K C Str.empty = true) (hd : PySem.W.hasDictIn K C = true) (po : PySem.W.plainOver K C = true) (sa : PySem.W.findIn K (.ref C) "__setattr__" = some (some (.builtin "object.__setattr__"))) (mk : PySem.W.makesIn K C = true) (kc : PySem.W.keepIn K (.ref C) = true) (n1 : PySem.W.findIn K (.ref C) "_things" = some none) (n2 : PySem.W.findIn K (.ref C) "_closed" = some none) (n3 : PySem.W.findIn K (.ref C) "_around" = some none) (i1 : PySem.W.findIn K (.ref C) "__class__" = some (some (.builtin "object.__class__"))) (i2 : PySem.W.specialIn K (.builtin "object.__class__") "__get__" = some (some (.builtin "getset_descriptor.__get__"))) (i3 : PySem.W.takesIn K (.builtin "object.__class__") = some true) (i4 : PySem.W.mroIn K C (.type "object") = some true)
    {f10 : Addr} {oc10 kV10 dc10 pm10 cd10 ct10 : Value} {od10 an10 : Option Addr} {sl10 : Array (Option Value)}
    (a10 : PySem.W.nsIn K mainGlobals "is_letter" = some (some (.ref f10))) (l10 : K.lookup f10 = some ⟨oc10, od10, .func (PySem.W.fnOf "is_letter" "is_letter" (defArgs (topS 10)) (defBody (topS 10)) (defScope (topS 10)) .none kV10 dc10 pm10 an10 cd10 ct10), sl10⟩) (c10 : PySem.W.codeIn K cd10 "is_letter" = true) (k10 : PySem.W.keepIn K (.ref f10) = true)
    {f11 : Addr} {oc11 kV11 dc11 pm11 cd11 ct11 : Value} {od11 an11 : Option Addr} {sl11 : Array (Option Value)}
    (a11 : PySem.W.nsIn K mainGlobals "is_word" = some (some (.ref f11))) (l11 : K.lookup f11 = some ⟨oc11, od11, .func (PySem.W.fnOf "is_word" "is_word" (defArgs (topS 11)) (defBody (topS 11)) (defScope (topS 11)) .none kV11 dc11 pm11 an11 cd11 ct11), sl11⟩) (c11 : PySem.W.codeIn K cd11 "is_word" = true) (k11 : PySem.W.keepIn K (.ref f11) = true)
    {f12 : Addr} {oc12 kV12 dc12 pm12 cd12 ct12 : Value} {od12 an12 : Option Addr} {sl12 : Array (Option Value)}
    (a12 : PySem.W.nsIn K mainGlobals "is_any_lot" = some (some (.ref f12))) (l12 : K.lookup f12 = some ⟨oc12, od12, .func (PySem.W.fnOf "is_any_lot" "is_any_lot" (defArgs (topS 12)) (defBody (topS 12)) (defScope (topS 12)) .none kV12 dc12 pm12 an12 cd12 ct12), sl12⟩) (c12 : PySem.W.codeIn K cd12 "is_any_lot" = true) (k12 : PySem.W.keepIn K (.ref f12) = true)
    {f13 : Addr} {oc13 kV13 dc13 pm13 cd13 ct13 : Value} {od13 an13 : Option Addr} {sl13 : Array (Option Value)}
    (a13 : PySem.W.nsIn K mainGlobals "is_things" = some (some (.ref f13))) (l13 : K.lookup f13 = some ⟨oc13, od13, .func (PySem.W.fnOf "is_things" "is_things" (defArgs (topS 13)) (defBody (topS 13)) (defScope (topS 13)) .none kV13 dc13 pm13 an13 cd13 ct13), sl13⟩) (c13 : PySem.W.codeIn K cd13 "is_things" = true) (k13 : PySem.W.keepIn K (.ref f13) = true)
    {f18 : Addr} {oc18 kV18 dc18 pm18 cd18 ct18 : Value} {od18 an18 : Option Addr} {sl18 : Array (Option Value)}
    (a18 : PySem.W.nsIn K mainGlobals "has_all" = some (some (.ref f18))) (l18 : K.lookup f18 = some ⟨oc18, od18, .func (PySem.W.fnOf "has_all" "has_all" (defArgs (topS 18)) (defBody (topS 18)) (defScope (topS 18)) .none kV18 dc18 pm18 an18 cd18 ct18), sl18⟩) (c18 : PySem.W.codeIn K cd18 "has_all" = true) (k18 : PySem.W.keepIn K (.ref f18) = true)
    {f14 : Addr} {oc14 kV14 dc14 pm14 cd14 ct14 : Value} {od14 an14 : Option Addr} {sl14 : Array (Option Value)}
    (a14 : PySem.W.nsIn K mainGlobals "is_lot" = some (some (.ref f14))) (l14 : K.lookup f14 = some ⟨oc14, od14, .func (PySem.W.fnOf "is_lot" "is_lot" (defArgs (topS 14)) (defBody (topS 14)) (defScope (topS 14)) .none kV14 dc14 pm14 an14 cd14 ct14), sl14⟩) (c14 : PySem.W.codeIn K cd14 "is_lot" = true) (k14 : PySem.W.keepIn K (.ref f14) = true)
    {f15 : Addr} {oc15 kV15 dc15 pm15 cd15 ct15 : Value} {od15 an15 : Option Addr} {sl15 : Array (Option Value)}
    (a15 : PySem.W.nsIn K mainGlobals "check_things" = some (some (.ref f15))) (l15 : K.lookup f15 = some ⟨oc15, od15, .func (PySem.W.fnOf "check_things" "check_things" (defArgs (topS 15)) (defBody (topS 15)) (defScope (topS 15)) .none kV15 dc15 pm15 an15 cd15 ct15), sl15⟩) (c15 : PySem.W.codeIn K cd15 "check_things" = true) (k15 : PySem.W.keepIn K (.ref f15) = true)
    {f16 : Addr} {oc16 kV16 dc16 pm16 cd16 ct16 : Value} {od16 an16 : Option Addr} {sl16 : Array (Option Value)}
    (a16 : PySem.W.nsIn K mainGlobals "check_lot" = some (some (.ref f16))) (l16 : K.lookup f16 = some ⟨oc16, od16, .func (PySem.W.fnOf "check_lot" "check_lot" (defArgs (topS 16)) (defBody (topS 16)) (defScope (topS 16)) .none kV16 dc16 pm16 an16 cd16 ct16), sl16⟩) (c16 : PySem.W.codeIn K cd16 "check_lot" = true) (k16 : PySem.W.keepIn K (.ref f16) = true)
    {f17 : Addr} {oc17 kV17 dc17 pm17 cd17 ct17 : Value} {od17 an17 : Option Addr} {sl17 : Array (Option Value)}
    (a17 : PySem.W.nsIn K mainGlobals "first_wrong" = some (some (.ref f17))) (l17 : K.lookup f17 = some ⟨oc17, od17, .func (PySem.W.fnOf "first_wrong" "first_wrong" (defArgs (topS 17)) (defBody (topS 17)) (defScope (topS 17)) .none kV17 dc17 pm17 an17 cd17 ct17), sl17⟩) (c17 : PySem.W.codeIn K cd17 "first_wrong" = true) (k17 : PySem.W.keepIn K (.ref f17) = true)
    {f19 : Addr} {oc19 kV19 dc19 pm19 cd19 ct19 : Value} {od19 an19 : Option Addr} {sl19 : Array (Option Value)}
    (a19 : PySem.W.nsIn K mainGlobals "in_either" = some (some (.ref f19))) (l19 : K.lookup f19 = some ⟨oc19, od19, .func (PySem.W.fnOf "in_either" "in_either" (defArgs (topS 19)) (defBody (topS 19)) (defScope (topS 19)) .none kV19 dc19 pm19 an19 cd19 ct19), sl19⟩) (c19 : PySem.W.codeIn K cd19 "in_either" = true) (k19 : PySem.W.keepIn K (.ref f19) = true)
    {f20 : Addr} {oc20 kV20 dc20 pm20 cd20 ct20 : Value} {od20 an20 : Option Addr} {sl20 : Array (Option Value)}
    (a20 : PySem.W.nsIn K mainGlobals "without" = some (some (.ref f20))) (l20 : K.lookup f20 = some ⟨oc20, od20, .func (PySem.W.fnOf "without" "without" (defArgs (topS 20)) (defBody (topS 20)) (defScope (topS 20)) .none kV20 dc20 pm20 an20 cd20 ct20), sl20⟩) (c20 : PySem.W.codeIn K cd20 "without" = true) (k20 : PySem.W.keepIn K (.ref f20) = true)
    {f26 : Addr} {oc26 kV26 dc26 pm26 cd26 ct26 : Value} {od26 an26 : Option Addr} {sl26 : Array (Option Value)}
    (a26 : PySem.W.nsIn K mainGlobals "rest" = some (some (.ref f26))) (l26 : K.lookup f26 = some ⟨oc26, od26, .func (PySem.W.fnOf "rest" "rest" (defArgs (topS 26)) (defBody (topS 26)) (defScope (topS 26)) .none kV26 dc26 pm26 an26 cd26 ct26), sl26⟩) (c26 : PySem.W.codeIn K cd26 "rest" = true) (k26 : PySem.W.keepIn K (.ref f26) = true)
    {f21 : Addr} {oc21 kV21 dc21 pm21 cd21 ct21 : Value} {od21 an21 : Option Addr} {sl21 : Array (Option Value)}
    (a21 : PySem.W.nsIn K mainGlobals "lots_by_number" = some (some (.ref f21))) (l21 : K.lookup f21 = some ⟨oc21, od21, .func (PySem.W.fnOf "lots_by_number" "lots_by_number" (defArgs (topS 21)) (defBody (topS 21)) (defScope (topS 21)) .none kV21 dc21 pm21 an21 cd21 ct21), sl21⟩) (c21 : PySem.W.codeIn K cd21 "lots_by_number" = true) (k21 : PySem.W.keepIn K (.ref f21) = true)
    {f22 : Addr} {oc22 kV22 dc22 pm22 cd22 ct22 : Value} {od22 an22 : Option Addr} {sl22 : Array (Option Value)}
    (a22 : PySem.W.nsIn K mainGlobals "number_by_lot" = some (some (.ref f22))) (l22 : K.lookup f22 = some ⟨oc22, od22, .func (PySem.W.fnOf "number_by_lot" "number_by_lot" (defArgs (topS 22)) (defBody (topS 22)) (defScope (topS 22)) .none kV22 dc22 pm22 an22 cd22 ct22), sl22⟩) (c22 : PySem.W.codeIn K cd22 "number_by_lot" = true) (k22 : PySem.W.keepIn K (.ref f22) = true)
    {f23 : Addr} {oc23 kV23 dc23 pm23 cd23 ct23 : Value} {od23 an23 : Option Addr} {sl23 : Array (Option Value)}
    (a23 : PySem.W.nsIn K mainGlobals "numbers_of" = some (some (.ref f23))) (l23 : K.lookup f23 = some ⟨oc23, od23, .func (PySem.W.fnOf "numbers_of" "numbers_of" (defArgs (topS 23)) (defBody (topS 23)) (defScope (topS 23)) .none kV23 dc23 pm23 an23 cd23 ct23), sl23⟩) (c23 : PySem.W.codeIn K cd23 "numbers_of" = true) (k23 : PySem.W.keepIn K (.ref f23) = true)
    {f24 : Addr} {oc24 kV24 dc24 pm24 cd24 ct24 : Value} {od24 an24 : Option Addr} {sl24 : Array (Option Value)}
    (a24 : PySem.W.nsIn K mainGlobals "family_of" = some (some (.ref f24))) (l24 : K.lookup f24 = some ⟨oc24, od24, .func (PySem.W.fnOf "family_of" "family_of" (defArgs (topS 24)) (defBody (topS 24)) (defScope (topS 24)) .none kV24 dc24 pm24 an24 cd24 ct24), sl24⟩) (c24 : PySem.W.codeIn K cd24 "family_of" = true) (k24 : PySem.W.keepIn K (.ref f24) = true)
    {f25 : Addr} {oc25 kV25 dc25 pm25 cd25 ct25 : Value} {od25 an25 : Option Addr} {sl25 : Array (Option Value)}
    (a25 : PySem.W.nsIn K mainGlobals "meets_of" = some (some (.ref f25))) (l25 : K.lookup f25 = some ⟨oc25, od25, .func (PySem.W.fnOf "meets_of" "meets_of" (defArgs (topS 25)) (defBody (topS 25)) (defScope (topS 25)) .none kV25 dc25 pm25 an25 cd25 ct25), sl25⟩) (c25 : PySem.W.codeIn K cd25 "meets_of" = true) (k25 : PySem.W.keepIn K (.ref f25) = true)
    {f31 : Addr} {oc31 kV31 dc31 pm31 cd31 ct31 : Value} {od31 an31 : Option Addr} {sl31 : Array (Option Value)}
    (a31 : PySem.W.nsIn K mainGlobals "is_system" = some (some (.ref f31))) (l31 : K.lookup f31 = some ⟨oc31, od31, .func (PySem.W.fnOf "is_system" "is_system" (defArgs (topS 31)) (defBody (topS 31)) (defScope (topS 31)) .none kV31 dc31 pm31 an31 cd31 ct31), sl31⟩) (c31 : PySem.W.codeIn K cd31 "is_system" = true) (k31 : PySem.W.keepIn K (.ref f31) = true)
    {f29 : Addr} {oc29 kV29 dc29 pm29 cd29 ct29 : Value} {od29 an29 : Option Addr} {sl29 : Array (Option Value)}
    (a29 : PySem.W.nsIn K mainGlobals "check_closed" = some (some (.ref f29))) (l29 : K.lookup f29 = some ⟨oc29, od29, .func (PySem.W.fnOf "check_closed" "check_closed" (defArgs (topS 29)) (defBody (topS 29)) (defScope (topS 29)) .none kV29 dc29 pm29 an29 cd29 ct29), sl29⟩) (c29 : PySem.W.codeIn K cd29 "check_closed" = true) (k29 : PySem.W.keepIn K (.ref f29) = true)
    {f33 : Addr} {oc33 kV33 dc33 pm33 cd33 ct33 : Value} {od33 an33 : Option Addr} {sl33 : Array (Option Value)}
    (a33 : PySem.W.nsIn K mainGlobals "first_around" = some (some (.ref f33))) (l33 : K.lookup f33 = some ⟨oc33, od33, .func (PySem.W.fnOf "first_around" "first_around" (defArgs (topS 33)) (defBody (topS 33)) (defScope (topS 33)) .none kV33 dc33 pm33 an33 cd33 ct33), sl33⟩) (c33 : PySem.W.codeIn K cd33 "first_around" = true) (k33 : PySem.W.keepIn K (.ref f33) = true)
    {f32 : Addr} {oc32 kV32 dc32 pm32 cd32 ct32 : Value} {od32 an32 : Option Addr} {sl32 : Array (Option Value)}
    (a32 : PySem.W.nsIn K mainGlobals "lots_around" = some (some (.ref f32))) (l32 : K.lookup f32 = some ⟨oc32, od32, .func (PySem.W.fnOf "lots_around" "lots_around" (defArgs (topS 32)) (defBody (topS 32)) (defScope (topS 32)) .none kV32 dc32 pm32 an32 cd32 ct32), sl32⟩) (c32 : PySem.W.codeIn K cd32 "lots_around" = true) (k32 : PySem.W.keepIn K (.ref f32) = true)
    {fc28_0 : Addr} {occ28_0 kVc28_0 dcc28_0 pmc28_0 cdc28_0 ctc28_0 : Value} {odc28_0 anc28_0 : Option Addr} {slc28_0 : Array (Option Value)}
    (ac28_0 : PySem.W.findIn K (.ref C) "__init__" = some (some (.ref fc28_0))) (bc28_0 : PySem.W.isFn K (.ref fc28_0) = true) (lc28_0 : K.lookup fc28_0 = some ⟨occ28_0, odc28_0, .func (PySem.W.fnOf "__init__" "Closer.__init__" (defArgs (topC 28 0)) (defBody (topC 28 0)) (defScope (topC 28 0)) .none kVc28_0 dcc28_0 pmc28_0 anc28_0 cdc28_0 ctc28_0), slc28_0⟩) (cc28_0 : PySem.W.codeIn K cdc28_0 "Closer.__init__" = true) (kc28_0 : PySem.W.keepIn K (.ref fc28_0) = true)
    {fc28_2 : Addr} {occ28_2 kVc28_2 dcc28_2 pmc28_2 cdc28_2 ctc28_2 : Value} {odc28_2 anc28_2 : Option Addr} {slc28_2 : Array (Option Value)}
    {pc28_2 : Addr} {restc28_2 : List Value} (ac28_2 : PySem.W.findIn K (.ref C) "things" = some (some (.ref pc28_2))) (bc28_2 : PySem.W.specialIn K (.ref pc28_2) "__get__" = some (some (.builtin "property.__get__"))) (tc28_2 : PySem.W.takesIn K (.ref pc28_2) = some true) (rc28_2 : PySem.W.recIn K pc28_2 "property" = some (.ref fc28_2 :: restc28_2)) (lc28_2 : K.lookup fc28_2 = some ⟨occ28_2, odc28_2, .func (PySem.W.fnOf "things" "Closer.things" (defArgs (topC 28 2)) (defBody (topC 28 2)) (defScope (topC 28 2)) .none kVc28_2 dcc28_2 pmc28_2 anc28_2 cdc28_2 ctc28_2), slc28_2⟩) (cc28_2 : PySem.W.codeIn K cdc28_2 "Closer.things" = true) (kc28_2 : PySem.W.keepIn K (.ref fc28_2) = true)
    {fc28_3 : Addr} {occ28_3 kVc28_3 dcc28_3 pmc28_3 cdc28_3 ctc28_3 : Value} {odc28_3 anc28_3 : Option Addr} {slc28_3 : Array (Option Value)}
    {pc28_3 : Addr} {restc28_3 : List Value} (ac28_3 : PySem.W.findIn K (.ref C) "closed" = some (some (.ref pc28_3))) (bc28_3 : PySem.W.specialIn K (.ref pc28_3) "__get__" = some (some (.builtin "property.__get__"))) (tc28_3 : PySem.W.takesIn K (.ref pc28_3) = some true) (rc28_3 : PySem.W.recIn K pc28_3 "property" = some (.ref fc28_3 :: restc28_3)) (lc28_3 : K.lookup fc28_3 = some ⟨occ28_3, odc28_3, .func (PySem.W.fnOf "closed" "Closer.closed" (defArgs (topC 28 3)) (defBody (topC 28 3)) (defScope (topC 28 3)) .none kVc28_3 dcc28_3 pmc28_3 anc28_3 cdc28_3 ctc28_3), slc28_3⟩) (cc28_3 : PySem.W.codeIn K cdc28_3 "Closer.closed" = true) (kc28_3 : PySem.W.keepIn K (.ref fc28_3) = true)
    {fc28_7 : Addr} {occ28_7 kVc28_7 dcc28_7 pmc28_7 cdc28_7 ctc28_7 : Value} {odc28_7 anc28_7 : Option Addr} {slc28_7 : Array (Option Value)}
    (ac28_7 : PySem.W.findIn K (.ref C) "around" = some (some (.ref fc28_7))) (bc28_7 : PySem.W.isFn K (.ref fc28_7) = true) (lc28_7 : K.lookup fc28_7 = some ⟨occ28_7, odc28_7, .func (PySem.W.fnOf "around" "Closer.around" (defArgs (topC 28 7)) (defBody (topC 28 7)) (defScope (topC 28 7)) .none kVc28_7 dcc28_7 pmc28_7 anc28_7 cdc28_7 ctc28_7), slc28_7⟩) (cc28_7 : PySem.W.codeIn K cdc28_7 "Closer.around" = true) (kc28_7 : PySem.W.keepIn K (.ref fc28_7) = true)
    {fc28_6 : Addr} {occ28_6 kVc28_6 dcc28_6 pmc28_6 cdc28_6 ctc28_6 : Value} {odc28_6 anc28_6 : Option Addr} {slc28_6 : Array (Option Value)}
    (ac28_6 : PySem.W.findIn K (.ref C) "__eq__" = some (some (.ref fc28_6))) (bc28_6 : PySem.W.isFn K (.ref fc28_6) = true) (lc28_6 : K.lookup fc28_6 = some ⟨occ28_6, odc28_6, .func (PySem.W.fnOf "__eq__" "Closer.__eq__" (defArgs (topC 28 6)) (defBody (topC 28 6)) (defScope (topC 28 6)) .none kVc28_6 dcc28_6 pmc28_6 anc28_6 cdc28_6 ctc28_6), slc28_6⟩) (cc28_6 : PySem.W.codeIn K cdc28_6 "Closer.__eq__" = true) (kc28_6 : PySem.W.keepIn K (.ref fc28_6) = true)
    {f30 : Addr} {oc30 kV30 dc30 pm30 cd30 ct30 : Value} {od30 an30 : Option Addr} {sl30 : Array (Option Value)}
    (a30 : PySem.W.nsIn K mainGlobals "check_closer" = some (some (.ref f30))) (l30 : K.lookup f30 = some ⟨oc30, od30, .func (PySem.W.fnOf "check_closer" "check_closer" (defArgs (topS 30)) (defBody (topS 30)) (defScope (topS 30)) .none kV30 dc30 pm30 an30 cd30 ct30), sl30⟩) (c30 : PySem.W.codeIn K cd30 "check_closer" = true) (k30 : PySem.W.keepIn K (.ref f30) = true)
    {f37 : Addr} {oc37 kV37 dc37 pm37 cd37 ct37 : Value} {od37 an37 : Option Addr} {sl37 : Array (Option Value)}
    (a37 : PySem.W.nsIn K mainGlobals "keeps" = some (some (.ref f37))) (l37 : K.lookup f37 = some ⟨oc37, od37, .func (PySem.W.fnOf "keeps" "keeps" (defArgs (topS 37)) (defBody (topS 37)) (defScope (topS 37)) .none kV37 dc37 pm37 an37 cd37 ct37), sl37⟩) (c37 : PySem.W.codeIn K cd37 "keeps" = true) (k37 : PySem.W.keepIn K (.ref f37) = true)
    {f41 : Addr} {oc41 kV41 dc41 pm41 cd41 ct41 : Value} {od41 an41 : Option Addr} {sl41 : Array (Option Value)}
    (a41 : PySem.W.nsIn K mainGlobals "leads_of" = some (some (.ref f41))) (l41 : K.lookup f41 = some ⟨oc41, od41, .func (PySem.W.fnOf "leads_of" "leads_of" (defArgs (topS 41)) (defBody (topS 41)) (defScope (topS 41)) .none kV41 dc41 pm41 an41 cd41 ct41), sl41⟩) (c41 : PySem.W.codeIn K cd41 "leads_of" = true) (k41 : PySem.W.keepIn K (.ref f41) = true)
    {f42 : Addr} {oc42 kV42 dc42 pm42 cd42 ct42 : Value} {od42 an42 : Option Addr} {sl42 : Array (Option Value)}
    (a42 : PySem.W.nsIn K mainGlobals "inner_of" = some (some (.ref f42))) (l42 : K.lookup f42 = some ⟨oc42, od42, .func (PySem.W.fnOf "inner_of" "inner_of" (defArgs (topS 42)) (defBody (topS 42)) (defScope (topS 42)) .none kV42 dc42 pm42 an42 cd42 ct42), sl42⟩) (c42 : PySem.W.codeIn K cd42 "inner_of" = true) (k42 : PySem.W.keepIn K (.ref f42) = true)
    {f43 : Addr} {oc43 kV43 dc43 pm43 cd43 ct43 : Value} {od43 an43 : Option Addr} {sl43 : Array (Option Value)}
    (a43 : PySem.W.nsIn K mainGlobals "inner" = some (some (.ref f43))) (l43 : K.lookup f43 = some ⟨oc43, od43, .func (PySem.W.fnOf "inner" "inner" (defArgs (topS 43)) (defBody (topS 43)) (defScope (topS 43)) .none kV43 dc43 pm43 an43 cd43 ct43), sl43⟩) (c43 : PySem.W.codeIn K cd43 "inner" = true) (k43 : PySem.W.keepIn K (.ref f43) = true)
    {f44 : Addr} {oc44 kV44 dc44 pm44 cd44 ct44 : Value} {od44 an44 : Option Addr} {sl44 : Array (Option Value)}
    (a44 : PySem.W.nsIn K mainGlobals "rim" = some (some (.ref f44))) (l44 : K.lookup f44 = some ⟨oc44, od44, .func (PySem.W.fnOf "rim" "rim" (defArgs (topS 44)) (defBody (topS 44)) (defScope (topS 44)) .none kV44 dc44 pm44 an44 cd44 ct44), sl44⟩) (c44 : PySem.W.codeIn K cd44 "rim" = true) (k44 : PySem.W.keepIn K (.ref f44) = true)
    {f45 : Addr} {oc45 kV45 dc45 pm45 cd45 ct45 : Value} {od45 an45 : Option Addr} {sl45 : Array (Option Value)}
    (a45 : PySem.W.nsIn K mainGlobals "words" = some (some (.ref f45))) (l45 : K.lookup f45 = some ⟨oc45, od45, .func (PySem.W.fnOf "words" "words" (defArgs (topS 45)) (defBody (topS 45)) (defScope (topS 45)) .none kV45 dc45 pm45 an45 cd45 ct45), sl45⟩) (c45 : PySem.W.codeIn K cd45 "words" = true) (k45 : PySem.W.keepIn K (.ref f45) = true)
    {f38 : Addr} {oc38 kV38 dc38 pm38 cd38 ct38 : Value} {od38 an38 : Option Addr} {sl38 : Array (Option Value)}
    (a38 : PySem.W.nsIn K mainGlobals "first_broken" = some (some (.ref f38))) (l38 : K.lookup f38 = some ⟨oc38, od38, .func (PySem.W.fnOf "first_broken" "first_broken" (defArgs (topS 38)) (defBody (topS 38)) (defScope (topS 38)) .none kV38 dc38 pm38 an38 cd38 ct38), sl38⟩) (c38 : PySem.W.codeIn K cd38 "first_broken" = true) (k38 : PySem.W.keepIn K (.ref f38) = true)
    {f39 : Addr} {oc39 kV39 dc39 pm39 cd39 ct39 : Value} {od39 an39 : Option Addr} {sl39 : Array (Option Value)}
    (a39 : PySem.W.nsIn K mainGlobals "led_on" = some (some (.ref f39))) (l39 : K.lookup f39 = some ⟨oc39, od39, .func (PySem.W.fnOf "led_on" "led_on" (defArgs (topS 39)) (defBody (topS 39)) (defScope (topS 39)) .none kV39 dc39 pm39 an39 cd39 ct39), sl39⟩) (c39 : PySem.W.codeIn K cd39 "led_on" = true) (k39 : PySem.W.keepIn K (.ref f39) = true)
    {f46 : Addr} {oc46 kV46 dc46 pm46 cd46 ct46 : Value} {od46 an46 : Option Addr} {sl46 : Array (Option Value)}
    (a46 : PySem.W.nsIn K mainGlobals "pieces" = some (some (.ref f46))) (l46 : K.lookup f46 = some ⟨oc46, od46, .func (PySem.W.fnOf "pieces" "pieces" (defArgs (topS 46)) (defBody (topS 46)) (defScope (topS 46)) .none kV46 dc46 pm46 an46 cd46 ct46), sl46⟩) (c46 : PySem.W.codeIn K cd46 "pieces" = true) (k46 : PySem.W.keepIn K (.ref f46) = true)
    {f48 : Addr} {oc48 kV48 dc48 pm48 cd48 ct48 : Value} {od48 an48 : Option Addr} {sl48 : Array (Option Value)}
    (a48 : PySem.W.nsIn K mainGlobals "_law_brew" = some (some (.ref f48))) (l48 : K.lookup f48 = some ⟨oc48, od48, .func (PySem.W.fnOf "_law_brew" "_law_brew" (defArgs (topS 48)) (defBody (topS 48)) (defScope (topS 48)) .none kV48 dc48 pm48 an48 cd48 ct48), sl48⟩) (c48 : PySem.W.codeIn K cd48 "_law_brew" = true) (k48 : PySem.W.keepIn K (.ref f48) = true)
    {f49 : Addr} {oc49 kV49 dc49 pm49 cd49 ct49 : Value} {od49 an49 : Option Addr} {sl49 : Array (Option Value)}
    (a49 : PySem.W.nsIn K mainGlobals "_law_tap" = some (some (.ref f49))) (l49 : K.lookup f49 = some ⟨oc49, od49, .func (PySem.W.fnOf "_law_tap" "_law_tap" (defArgs (topS 49)) (defBody (topS 49)) (defScope (topS 49)) .none kV49 dc49 pm49 an49 cd49 ct49), sl49⟩) (c49 : PySem.W.codeIn K cd49 "_law_tap" = true) (k49 : PySem.W.keepIn K (.ref f49) = true)
    {f50 : Addr} {oc50 kV50 dc50 pm50 cd50 ct50 : Value} {od50 an50 : Option Addr} {sl50 : Array (Option Value)}
    (a50 : PySem.W.nsIn K mainGlobals "_law_of" = some (some (.ref f50))) (l50 : K.lookup f50 = some ⟨oc50, od50, .func (PySem.W.fnOf "_law_of" "_law_of" (defArgs (topS 50)) (defBody (topS 50)) (defScope (topS 50)) .none kV50 dc50 pm50 an50 cd50 ct50), sl50⟩) (c50 : PySem.W.codeIn K cd50 "_law_of" = true) (k50 : PySem.W.keepIn K (.ref f50) = true)
    {f51 : Addr} {oc51 kV51 dc51 pm51 cd51 ct51 : Value} {od51 an51 : Option Addr} {sl51 : Array (Option Value)}
    (a51 : PySem.W.nsIn K mainGlobals "_law_is_in" = some (some (.ref f51))) (l51 : K.lookup f51 = some ⟨oc51, od51, .func (PySem.W.fnOf "_law_is_in" "_law_is_in" (defArgs (topS 51)) (defBody (topS 51)) (defScope (topS 51)) .none kV51 dc51 pm51 an51 cd51 ct51), sl51⟩) (c51 : PySem.W.codeIn K cd51 "_law_is_in" = true) (k51 : PySem.W.keepIn K (.ref f51) = true)
    {f52 : Addr} {oc52 kV52 dc52 pm52 cd52 ct52 : Value} {od52 an52 : Option Addr} {sl52 : Array (Option Value)}
    (a52 : PySem.W.nsIn K mainGlobals "_law_both" = some (some (.ref f52))) (l52 : K.lookup f52 = some ⟨oc52, od52, .func (PySem.W.fnOf "_law_both" "_law_both" (defArgs (topS 52)) (defBody (topS 52)) (defScope (topS 52)) .none kV52 dc52 pm52 an52 cd52 ct52), sl52⟩) (c52 : PySem.W.codeIn K cd52 "_law_both" = true) (k52 : PySem.W.keepIn K (.ref f52) = true)
    {f53 : Addr} {oc53 kV53 dc53 pm53 cd53 ct53 : Value} {od53 an53 : Option Addr} {sl53 : Array (Option Value)}
    (a53 : PySem.W.nsIn K mainGlobals "_law_left" = some (some (.ref f53))) (l53 : K.lookup f53 = some ⟨oc53, od53, .func (PySem.W.fnOf "_law_left" "_law_left" (defArgs (topS 53)) (defBody (topS 53)) (defScope (topS 53)) .none kV53 dc53 pm53 an53 cd53 ct53), sl53⟩) (c53 : PySem.W.codeIn K cd53 "_law_left" = true) (k53 : PySem.W.keepIn K (.ref f53) = true)
    {f54 : Addr} {oc54 kV54 dc54 pm54 cd54 ct54 : Value} {od54 an54 : Option Addr} {sl54 : Array (Option Value)}
    (a54 : PySem.W.nsIn K mainGlobals "_law_packs" = some (some (.ref f54))) (l54 : K.lookup f54 = some ⟨oc54, od54, .func (PySem.W.fnOf "_law_packs" "_law_packs" (defArgs (topS 54)) (defBody (topS 54)) (defScope (topS 54)) .none kV54 dc54 pm54 an54 cd54 ct54), sl54⟩) (c54 : PySem.W.codeIn K cd54 "_law_packs" = true) (k54 : PySem.W.keepIn K (.ref f54) = true)
    {f55 : Addr} {oc55 kV55 dc55 pm55 cd55 ct55 : Value} {od55 an55 : Option Addr} {sl55 : Array (Option Value)}
    (a55 : PySem.W.nsIn K mainGlobals "_law_crew" = some (some (.ref f55))) (l55 : K.lookup f55 = some ⟨oc55, od55, .func (PySem.W.fnOf "_law_crew" "_law_crew" (defArgs (topS 55)) (defBody (topS 55)) (defScope (topS 55)) .none kV55 dc55 pm55 an55 cd55 ct55), sl55⟩) (c55 : PySem.W.codeIn K cd55 "_law_crew" = true) (k55 : PySem.W.keepIn K (.ref f55) = true)
    {f56 : Addr} {oc56 kV56 dc56 pm56 cd56 ct56 : Value} {od56 an56 : Option Addr} {sl56 : Array (Option Value)}
    (a56 : PySem.W.nsIn K mainGlobals "_law_pack" = some (some (.ref f56))) (l56 : K.lookup f56 = some ⟨oc56, od56, .func (PySem.W.fnOf "_law_pack" "_law_pack" (defArgs (topS 56)) (defBody (topS 56)) (defScope (topS 56)) .none kV56 dc56 pm56 an56 cd56 ct56), sl56⟩) (c56 : PySem.W.codeIn K cd56 "_law_pack" = true) (k56 : PySem.W.keepIn K (.ref f56) = true)
    {f57 : Addr} {oc57 kV57 dc57 pm57 cd57 ct57 : Value} {od57 an57 : Option Addr} {sl57 : Array (Option Value)}
    (a57 : PySem.W.nsIn K mainGlobals "_law_meeting" = some (some (.ref f57))) (l57 : K.lookup f57 = some ⟨oc57, od57, .func (PySem.W.fnOf "_law_meeting" "_law_meeting" (defArgs (topS 57)) (defBody (topS 57)) (defScope (topS 57)) .none kV57 dc57 pm57 an57 cd57 ct57), sl57⟩) (c57 : PySem.W.codeIn K cd57 "_law_meeting" = true) (k57 : PySem.W.keepIn K (.ref f57) = true)
    {f58 : Addr} {oc58 kV58 dc58 pm58 cd58 ct58 : Value} {od58 an58 : Option Addr} {sl58 : Array (Option Value)}
    (a58 : PySem.W.nsIn K mainGlobals "_law_drawn_leads" = some (some (.ref f58))) (l58 : K.lookup f58 = some ⟨oc58, od58, .func (PySem.W.fnOf "_law_drawn_leads" "_law_drawn_leads" (defArgs (topS 58)) (defBody (topS 58)) (defScope (topS 58)) .none kV58 dc58 pm58 an58 cd58 ct58), sl58⟩) (c58 : PySem.W.codeIn K cd58 "_law_drawn_leads" = true) (k58 : PySem.W.keepIn K (.ref f58) = true)
    {f59 : Addr} {oc59 kV59 dc59 pm59 cd59 ct59 : Value} {od59 an59 : Option Addr} {sl59 : Array (Option Value)}
    (a59 : PySem.W.nsIn K mainGlobals "_law_led_halls" = some (some (.ref f59))) (l59 : K.lookup f59 = some ⟨oc59, od59, .func (PySem.W.fnOf "_law_led_halls" "_law_led_halls" (defArgs (topS 59)) (defBody (topS 59)) (defScope (topS 59)) .none kV59 dc59 pm59 an59 cd59 ct59), sl59⟩) (c59 : PySem.W.codeIn K cd59 "_law_led_halls" = true) (k59 : PySem.W.keepIn K (.ref f59) = true)
    {f60 : Addr} {oc60 kV60 dc60 pm60 cd60 ct60 : Value} {od60 an60 : Option Addr} {sl60 : Array (Option Value)}
    (a60 : PySem.W.nsIn K mainGlobals "_law_tails" = some (some (.ref f60))) (l60 : K.lookup f60 = some ⟨oc60, od60, .func (PySem.W.fnOf "_law_tails" "_law_tails" (defArgs (topS 60)) (defBody (topS 60)) (defScope (topS 60)) .none kV60 dc60 pm60 an60 cd60 ct60), sl60⟩) (c60 : PySem.W.codeIn K cd60 "_law_tails" = true) (k60 : PySem.W.keepIn K (.ref f60) = true)
    {f61 : Addr} {oc61 kV61 dc61 pm61 cd61 ct61 : Value} {od61 an61 : Option Addr} {sl61 : Array (Option Value)}
    (a61 : PySem.W.nsIn K mainGlobals "_law_line" = some (some (.ref f61))) (l61 : K.lookup f61 = some ⟨oc61, od61, .func (PySem.W.fnOf "_law_line" "_law_line" (defArgs (topS 61)) (defBody (topS 61)) (defScope (topS 61)) .none kV61 dc61 pm61 an61 cd61 ct61), sl61⟩) (c61 : PySem.W.codeIn K cd61 "_law_line" = true) (k61 : PySem.W.keepIn K (.ref f61) = true)
    {f62 : Addr} {oc62 kV62 dc62 pm62 cd62 ct62 : Value} {od62 an62 : Option Addr} {sl62 : Array (Option Value)}
    (a62 : PySem.W.nsIn K mainGlobals "_law_halls" = some (some (.ref f62))) (l62 : K.lookup f62 = some ⟨oc62, od62, .func (PySem.W.fnOf "_law_halls" "_law_halls" (defArgs (topS 62)) (defBody (topS 62)) (defScope (topS 62)) .none kV62 dc62 pm62 an62 cd62 ct62), sl62⟩) (c62 : PySem.W.codeIn K cd62 "_law_halls" = true) (k62 : PySem.W.keepIn K (.ref f62) = true)
    {f63 : Addr} {oc63 kV63 dc63 pm63 cd63 ct63 : Value} {od63 an63 : Option Addr} {sl63 : Array (Option Value)}
    (a63 : PySem.W.nsIn K mainGlobals "_law_about" = some (some (.ref f63))) (l63 : K.lookup f63 = some ⟨oc63, od63, .func (PySem.W.fnOf "_law_about" "_law_about" (defArgs (topS 63)) (defBody (topS 63)) (defScope (topS 63)) .none kV63 dc63 pm63 an63 cd63 ct63), sl63⟩) (c63 : PySem.W.codeIn K cd63 "_law_about" = true) (k63 : PySem.W.keepIn K (.ref f63) = true)
    {f65 : Addr} {oc65 kV65 dc65 pm65 cd65 ct65 : Value} {od65 an65 : Option Addr} {sl65 : Array (Option Value)}
    (a65 : PySem.W.nsIn K mainGlobals "_law_words" = some (some (.ref f65))) (l65 : K.lookup f65 = some ⟨oc65, od65, .func (PySem.W.fnOf "_law_words" "_law_words" (defArgs (topS 65)) (defBody (topS 65)) (defScope (topS 65)) .none kV65 dc65 pm65 an65 cd65 ct65), sl65⟩) (c65 : PySem.W.codeIn K cd65 "_law_words" = true) (k65 : PySem.W.keepIn K (.ref f65) = true)
    {f66 : Addr} {oc66 kV66 dc66 pm66 cd66 ct66 : Value} {od66 an66 : Option Addr} {sl66 : Array (Option Value)}
    (a66 : PySem.W.nsIn K mainGlobals "_law_pieces" = some (some (.ref f66))) (l66 : K.lookup f66 = some ⟨oc66, od66, .func (PySem.W.fnOf "_law_pieces" "_law_pieces" (defArgs (topS 66)) (defBody (topS 66)) (defScope (topS 66)) .none kV66 dc66 pm66 an66 cd66 ct66), sl66⟩) (c66 : PySem.W.codeIn K cd66 "_law_pieces" = true) (k66 : PySem.W.keepIn K (.ref f66) = true)
    {f68 : Addr} {oc68 kV68 dc68 pm68 cd68 ct68 : Value} {od68 an68 : Option Addr} {sl68 : Array (Option Value)}
    (a68 : PySem.W.nsIn K mainGlobals "_law_is_among" = some (some (.ref f68))) (l68 : K.lookup f68 = some ⟨oc68, od68, .func (PySem.W.fnOf "_law_is_among" "_law_is_among" (defArgs (topS 68)) (defBody (topS 68)) (defScope (topS 68)) .none kV68 dc68 pm68 an68 cd68 ct68), sl68⟩) (c68 : PySem.W.codeIn K cd68 "_law_is_among" = true) (k68 : PySem.W.keepIn K (.ref f68) = true)
    {f67 : Addr} {oc67 kV67 dc67 pm67 cd67 ct67 : Value} {od67 an67 : Option Addr} {sl67 : Array (Option Value)}
    (a67 : PySem.W.nsIn K mainGlobals "_law_lot_right" = some (some (.ref f67))) (l67 : K.lookup f67 = some ⟨oc67, od67, .func (PySem.W.fnOf "_law_lot_right" "_law_lot_right" (defArgs (topS 67)) (defBody (topS 67)) (defScope (topS 67)) .none kV67 dc67 pm67 an67 cd67 ct67), sl67⟩) (c67 : PySem.W.codeIn K cd67 "_law_lot_right" = true) (k67 : PySem.W.keepIn K (.ref f67) = true)
    {f64 : Addr} {oc64 kV64 dc64 pm64 cd64 ct64 : Value} {od64 an64 : Option Addr} {sl64 : Array (Option Value)}
    (a64 : PySem.W.nsIn K mainGlobals "_law_leads_of" = some (some (.ref f64))) (l64 : K.lookup f64 = some ⟨oc64, od64, .func (PySem.W.fnOf "_law_leads_of" "_law_leads_of" (defArgs (topS 64)) (defBody (topS 64)) (defScope (topS 64)) .none kV64 dc64 pm64 an64 cd64 ct64), sl64⟩) (c64 : PySem.W.codeIn K cd64 "_law_leads_of" = true) (k64 : PySem.W.keepIn K (.ref f64) = true)
    {f69 : Addr} {oc69 kV69 dc69 pm69 cd69 ct69 : Value} {od69 an69 : Option Addr} {sl69 : Array (Option Value)}
    (a69 : PySem.W.nsIn K mainGlobals "_law_right" = some (some (.ref f69))) (l69 : K.lookup f69 = some ⟨oc69, od69, .func (PySem.W.fnOf "_law_right" "_law_right" (defArgs (topS 69)) (defBody (topS 69)) (defScope (topS 69)) .none kV69 dc69 pm69 an69 cd69 ct69), sl69⟩) (c69 : PySem.W.codeIn K cd69 "_law_right" = true) (k69 : PySem.W.keepIn K (.ref f69) = true)
    {f70 : Addr} {oc70 kV70 dc70 pm70 cd70 ct70 : Value} {od70 an70 : Option Addr} {sl70 : Array (Option Value)}
    (a70 : PySem.W.nsIn K mainGlobals "law" = some (some (.ref f70))) (l70 : K.lookup f70 = some ⟨oc70, od70, .func (PySem.W.fnOf "law" "law" (defArgs (topS 70)) (defBody (topS 70)) (defScope (topS 70)) .none kV70 dc70 pm70 an70 cd70 ct70), sl70⟩) (c70 : PySem.W.codeIn K cd70 "law" = true) (k70 : PySem.W.keepIn K (.ref f70) = true)
    (z_len : PySem.W.nsIn K mainGlobals "len" = some none)
    (z_all : PySem.W.nsIn K mainGlobals "all" = some none)
    (z_any : PySem.W.nsIn K mainGlobals "any" = some none)
    (z_abs : PySem.W.nsIn K mainGlobals "abs" = some none)
    (z_int : PySem.W.nsIn K mainGlobals "int" = some none)
    (z_min : PySem.W.nsIn K mainGlobals "min" = some none)
    (z_max : PySem.W.nsIn K mainGlobals "max" = some none)
    (z_tuple : PySem.W.nsIn K mainGlobals "tuple" = some none)
    (z_repr : PySem.W.nsIn K mainGlobals "repr" = some none)
    (z_isinstance : PySem.W.nsIn K mainGlobals "isinstance" = some none)
    (z_str : PySem.W.nsIn K mainGlobals "str" = some none)
    (z_range : PySem.W.nsIn K mainGlobals "range" = some none)
    (z_enumerate : PySem.W.nsIn K mainGlobals "enumerate" = some none)
    (z_sorted : PySem.W.nsIn K mainGlobals "sorted" = some none)
    (z_set : PySem.W.nsIn K mainGlobals "set" = some none)
    (z_list : PySem.W.nsIn K mainGlobals "list" = some none)
    (z_divmod : PySem.W.nsIn K mainGlobals "divmod" = some none)
    {tk_MOST_THINGS : Tok} (c_MOST_THINGS : PySem.W.nsIn K mainGlobals "MOST_THINGS" = some (some (.int 7 tk_MOST_THINGS)))
    : ∃ fd : FuncData, (∀ (s : Shared) (v : Value), BindsTo s fd ⟨[v], []⟩ [("_law_cells", v)]) ∧ ∀ b : Heap, K.In b → b.Ns mainGlobals mg → GnOk P w K mg b 10 fa fd ["_law_cells"] (spF K m_law) := by
  obtain ⟨fd, h1, h2⟩ := law_df (P := P) (w := w) (top_mk X G aC pg hd po sa mk kc n1 n2 n3 i1 i2 i3 i4 ⟨_, _, _, _, _, _, _, _, _, _, a10, l10, c10, k10⟩ ⟨_, _, _, _, _, _, _, _, _, _, a11, l11, c11, k11⟩ ⟨_, _, _, _, _, _, _, _, _, _, a12, l12, c12, k12⟩ ⟨_, _, _, _, _, _, _, _, _, _, a13, l13, c13, k13⟩ ⟨_, _, _, _, _, _, _, _, _, _, a18, l18, c18, k18⟩ ⟨_, _, _, _, _, _, _, _, _, _, a14, l14, c14, k14⟩ ⟨_, _, _, _, _, _, _, _, _, _, a15, l15, c15, k15⟩ ⟨_, _, _, _, _, _, _, _, _, _, a16, l16, c16, k16⟩ ⟨_, _, _, _, _, _, _, _, _, _, a17, l17, c17, k17⟩ ⟨_, _, _, _, _, _, _, _, _, _, a19, l19, c19, k19⟩ ⟨_, _, _, _, _, _, _, _, _, _, a20, l20, c20, k20⟩ ⟨_, _, _, _, _, _, _, _, _, _, a26, l26, c26, k26⟩ ⟨_, _, _, _, _, _, _, _, _, _, a21, l21, c21, k21⟩ ⟨_, _, _, _, _, _, _, _, _, _, a22, l22, c22, k22⟩ ⟨_, _, _, _, _, _, _, _, _, _, a23, l23, c23, k23⟩ ⟨_, _, _, _, _, _, _, _, _, _, a24, l24, c24, k24⟩ ⟨_, _, _, _, _, _, _, _, _, _, a25, l25, c25, k25⟩ ⟨_, _, _, _, _, _, _, _, _, _, a31, l31, c31, k31⟩ ⟨_, _, _, _, _, _, _, _, _, _, a29, l29, c29, k29⟩ ⟨_, _, _, _, _, _, _, _, _, _, a33, l33, c33, k33⟩ ⟨_, _, _, _, _, _, _, _, _, _, a32, l32, c32, k32⟩ ⟨_, _, _, _, _, _, _, _, _, _, ac28_0, bc28_0, lc28_0, cc28_0, kc28_0⟩ ⟨_, _, _, _, _, _, _, _, _, _, _, _, ac28_2, bc28_2, tc28_2, rc28_2, lc28_2, cc28_2, kc28_2⟩ ⟨_, _, _, _, _, _, _, _, _, _, _, _, ac28_3, bc28_3, tc28_3, rc28_3, lc28_3, cc28_3, kc28_3⟩ ⟨_, _, _, _, _, _, _, _, _, _, ac28_7, bc28_7, lc28_7, cc28_7, kc28_7⟩ ⟨_, _, _, _, _, _, _, _, _, _, ac28_6, bc28_6, lc28_6, cc28_6, kc28_6⟩ ⟨_, _, _, _, _, _, _, _, _, _, a30, l30, c30, k30⟩ ⟨_, _, _, _, _, _, _, _, _, _, a37, l37, c37, k37⟩ ⟨_, _, _, _, _, _, _, _, _, _, a41, l41, c41, k41⟩ ⟨_, _, _, _, _, _, _, _, _, _, a42, l42, c42, k42⟩ ⟨_, _, _, _, _, _, _, _, _, _, a43, l43, c43, k43⟩ ⟨_, _, _, _, _, _, _, _, _, _, a44, l44, c44, k44⟩ ⟨_, _, _, _, _, _, _, _, _, _, a45, l45, c45, k45⟩ ⟨_, _, _, _, _, _, _, _, _, _, a38, l38, c38, k38⟩ ⟨_, _, _, _, _, _, _, _, _, _, a39, l39, c39, k39⟩ ⟨_, _, _, _, _, _, _, _, _, _, a46, l46, c46, k46⟩ ⟨_, _, _, _, _, _, _, _, _, _, a48, l48, c48, k48⟩ ⟨_, _, _, _, _, _, _, _, _, _, a49, l49, c49, k49⟩ ⟨_, _, _, _, _, _, _, _, _, _, a50, l50, c50, k50⟩ ⟨_, _, _, _, _, _, _, _, _, _, a51, l51, c51, k51⟩ ⟨_, _, _, _, _, _, _, _, _, _, a52, l52, c52, k52⟩ ⟨_, _, _, _, _, _, _, _, _, _, a53, l53, c53, k53⟩ ⟨_, _, _, _, _, _, _, _, _, _, a54, l54, c54, k54⟩ ⟨_, _, _, _, _, _, _, _, _, _, a55, l55, c55, k55⟩ ⟨_, _, _, _, _, _, _, _, _, _, a56, l56, c56, k56⟩ ⟨_, _, _, _, _, _, _, _, _, _, a57, l57, c57, k57⟩ ⟨_, _, _, _, _, _, _, _, _, _, a58, l58, c58, k58⟩ ⟨_, _, _, _, _, _, _, _, _, _, a59, l59, c59, k59⟩ ⟨_, _, _, _, _, _, _, _, _, _, a60, l60, c60, k60⟩ ⟨_, _, _, _, _, _, _, _, _, _, a61, l61, c61, k61⟩ ⟨_, _, _, _, _, _, _, _, _, _, a62, l62, c62, k62⟩ ⟨_, _, _, _, _, _, _, _, _, _, a63, l63, c63, k63⟩ ⟨_, _, _, _, _, _, _, _, _, _, a65, l65, c65, k65⟩ ⟨_, _, _, _, _, _, _, _, _, _, a66, l66, c66, k66⟩ ⟨_, _, _, _, _, _, _, _, _, _, a68, l68, c68, k68⟩ ⟨_, _, _, _, _, _, _, _, _, _, a67, l67, c67, k67⟩ ⟨_, _, _, _, _, _, _, _, _, _, a64, l64, c64, k64⟩ ⟨_, _, _, _, _, _, _, _, _, _, a69, l69, c69, k69⟩ ⟨_, _, _, _, _, _, _, _, _, _, a70, l70, c70, k70⟩ z_len z_all z_any z_abs z_int z_min z_max z_tuple z_repr z_isinstance z_str z_range z_enumerate z_sorted z_set z_list z_divmod c_MOST_THINGS) hm
  exact ⟨fd, h1, fun b _ _ => h2 b⟩
end K34
open PySem PySem.W PyProof.Rows
set_option maxHeartbeats 0 in
theorem PySem.Challenge.cw_closerworks_k34_whole_inner_lots_rims_wo_holds : PySem.Challenge.rw_closerworks_k34_whole_inner_lots_rims_wo.Holds := by
  w_on; o_law; k_head; (case hw => w_witness2)
  k_fill
  refine Vx.vwalk (l := PySem.Challenge.rw_closerworks_k34_whole_inner_lots_rims_wo) (n := 63) (k := 10) (x := "_law_cells") (m := K34.m_law) rfl (by decide) rfl ⟨rfl, by decide, by decide⟩ (fun w h Y => PySem.W.kIn_of Y) ?F K34.ans
  case F =>
    intro w mg fa h KX G hmg
    refine' K34.law_top KX G hmg ?aC ?pg ?hd ?po ?sa ?mk ?kc ?n1 ?n2 ?n3 ?i1 ?i2 ?i3 ?i4 ?a10 ?l10 ?c10 ?k10 ?a11 ?l11 ?c11 ?k11 ?a12 ?l12 ?c12 ?k12 ?a13 ?l13 ?c13 ?k13 ?a18 ?l18 ?c18 ?k18 ?a14 ?l14 ?c14 ?k14 ?a15 ?l15 ?c15 ?k15 ?a16 ?l16 ?c16 ?k16 ?a17 ?l17 ?c17 ?k17 ?a19 ?l19 ?c19 ?k19 ?a20 ?l20 ?c20 ?k20 ?a26 ?l26 ?c26 ?k26 ?a21 ?l21 ?c21 ?k21 ?a22 ?l22 ?c22 ?k22 ?a23 ?l23 ?c23 ?k23 ?a24 ?l24 ?c24 ?k24 ?a25 ?l25 ?c25 ?k25 ?a31 ?l31 ?c31 ?k31 ?a29 ?l29 ?c29 ?k29 ?a33 ?l33 ?c33 ?k33 ?a32 ?l32 ?c32 ?k32 ?ac28_0 ?bc28_0 ?lc28_0 ?cc28_0 ?kc28_0 ?ac28_2 ?bc28_2 ?tc28_2 ?rc28_2 ?lc28_2 ?cc28_2 ?kc28_2 ?ac28_3 ?bc28_3 ?tc28_3 ?rc28_3 ?lc28_3 ?cc28_3 ?kc28_3 ?ac28_7 ?bc28_7 ?lc28_7 ?cc28_7 ?kc28_7 ?ac28_6 ?bc28_6 ?lc28_6 ?cc28_6 ?kc28_6 ?a30 ?l30 ?c30 ?k30 ?a37 ?l37 ?c37 ?k37 ?a41 ?l41 ?c41 ?k41 ?a42 ?l42 ?c42 ?k42 ?a43 ?l43 ?c43 ?k43 ?a44 ?l44 ?c44 ?k44 ?a45 ?l45 ?c45 ?k45 ?a38 ?l38 ?c38 ?k38 ?a39 ?l39 ?c39 ?k39 ?a46 ?l46 ?c46 ?k46 ?a48 ?l48 ?c48 ?k48 ?a49 ?l49 ?c49 ?k49 ?a50 ?l50 ?c50 ?k50 ?a51 ?l51 ?c51 ?k51 ?a52 ?l52 ?c52 ?k52 ?a53 ?l53 ?c53 ?k53 ?a54 ?l54 ?c54 ?k54 ?a55 ?l55 ?c55 ?k55 ?a56 ?l56 ?c56 ?k56 ?a57 ?l57 ?c57 ?k57 ?a58 ?l58 ?c58 ?k58 ?a59 ?l59 ?c59 ?k59 ?a60 ?l60 ?c60 ?k60 ?a61 ?l61 ?c61 ?k61 ?a62 ?l62 ?c62 ?k62 ?a63 ?l63 ?c63 ?k63 ?a65 ?l65 ?c65 ?k65 ?a66 ?l66 ?c66 ?k66 ?a68 ?l68 ?c68 ?k68 ?a67 ?l67 ?c67 ?k67 ?a64 ?l64 ?c64 ?k64 ?a69 ?l69 ?c69 ?k69 ?a70 ?l70 ?c70 ?k70 ?z_len ?z_all ?z_any ?z_abs ?z_int ?z_min ?z_max ?z_tuple ?z_repr ?z_isinstance ?z_str ?z_range ?z_enumerate ?z_sorted ?z_set ?z_list ?z_divmod ?c_MOST_THINGS
    (case aC => show PySem.W.nsIn _ _ _ = _; k_is)
    (case pg => k_is)
    (case hd => k_is)
    (case po => k_is)
    (case sa => k_is)
    (case mk => k_is)
    (case kc => k_is)
    (case n1 => k_is)
    (case n2 => k_is)
    (case n3 => k_is)
    (case i1 => k_is)
    (case i2 => k_is)
    (case i3 => k_is)
    (case i4 => k_is)
    (case a10 => k_is)
    (case l10 => k_is)
    (case c10 => k_is)
    (case k10 => k_is)
    (case a11 => k_is)
    (case l11 => k_is)
    (case c11 => k_is)
    (case k11 => k_is)
    (case a12 => k_is)
    (case l12 => k_is)
    (case c12 => k_is)
    (case k12 => k_is)
    (case a13 => k_is)
    (case l13 => k_is)
    (case c13 => k_is)
    (case k13 => k_is)
    (case a18 => k_is)
    (case l18 => k_is)
    (case c18 => k_is)
    (case k18 => k_is)
    (case a14 => k_is)
    (case l14 => k_is)
    (case c14 => k_is)
    (case k14 => k_is)
    (case a15 => k_is)
    (case l15 => k_is)
    (case c15 => k_is)
    (case k15 => k_is)
    (case a16 => k_is)
    (case l16 => k_is)
    (case c16 => k_is)
    (case k16 => k_is)
    (case a17 => k_is)
    (case l17 => k_is)
    (case c17 => k_is)
    (case k17 => k_is)
    (case a19 => k_is)
    (case l19 => k_is)
    (case c19 => k_is)
    (case k19 => k_is)
    (case a20 => k_is)
    (case l20 => k_is)
    (case c20 => k_is)
    (case k20 => k_is)
    (case a26 => k_is)
    (case l26 => k_is)
    (case c26 => k_is)
    (case k26 => k_is)
    (case a21 => k_is)
    (case l21 => k_is)
    (case c21 => k_is)
    (case k21 => k_is)
    (case a22 => k_is)
    (case l22 => k_is)
    (case c22 => k_is)
    (case k22 => k_is)
    (case a23 => k_is)
    (case l23 => k_is)
    (case c23 => k_is)
    (case k23 => k_is)
    (case a24 => k_is)
    (case l24 => k_is)
    (case c24 => k_is)
    (case k24 => k_is)
    (case a25 => k_is)
    (case l25 => k_is)
    (case c25 => k_is)
    (case k25 => k_is)
    (case a31 => k_is)
    (case l31 => k_is)
    (case c31 => k_is)
    (case k31 => k_is)
    (case a29 => k_is)
    (case l29 => k_is)
    (case c29 => k_is)
    (case k29 => k_is)
    (case a33 => k_is)
    (case l33 => k_is)
    (case c33 => k_is)
    (case k33 => k_is)
    (case a32 => k_is)
    (case l32 => k_is)
    (case c32 => k_is)
    (case k32 => k_is)
    (case ac28_0 => k_is)
    (case bc28_0 => k_is)
    (case lc28_0 => k_is)
    (case cc28_0 => k_is)
    (case kc28_0 => k_is)
    (case ac28_2 => k_is)
    (case bc28_2 => k_is)
    (case tc28_2 => k_is)
    (case rc28_2 => k_is)
    (case lc28_2 => k_is)
    (case cc28_2 => k_is)
    (case kc28_2 => k_is)
    (case ac28_3 => k_is)
    (case bc28_3 => k_is)
    (case tc28_3 => k_is)
    (case rc28_3 => k_is)
    (case lc28_3 => k_is)
    (case cc28_3 => k_is)
    (case kc28_3 => k_is)
    (case ac28_7 => k_is)
    (case bc28_7 => k_is)
    (case lc28_7 => k_is)
    (case cc28_7 => k_is)
    (case kc28_7 => k_is)
    (case ac28_6 => k_is)
    (case bc28_6 => k_is)
    (case lc28_6 => k_is)
    (case cc28_6 => k_is)
    (case kc28_6 => k_is)
    (case a30 => k_is)
    (case l30 => k_is)
    (case c30 => k_is)
    (case k30 => k_is)
    (case a37 => k_is)
    (case l37 => k_is)
    (case c37 => k_is)
    (case k37 => k_is)
    (case a41 => k_is)
    (case l41 => k_is)
    (case c41 => k_is)
    (case k41 => k_is)
    (case a42 => k_is)
    (case l42 => k_is)
    (case c42 => k_is)
    (case k42 => k_is)
    (case a43 => k_is)
    (case l43 => k_is)
    (case c43 => k_is)
    (case k43 => k_is)
    (case a44 => k_is)
    (case l44 => k_is)
    (case c44 => k_is)
    (case k44 => k_is)
    (case a45 => k_is)
    (case l45 => k_is)
    (case c45 => k_is)
    (case k45 => k_is)
    (case a38 => k_is)
    (case l38 => k_is)
    (case c38 => k_is)
    (case k38 => k_is)
    (case a39 => k_is)
    (case l39 => k_is)
    (case c39 => k_is)
    (case k39 => k_is)
    (case a46 => k_is)
    (case l46 => k_is)
    (case c46 => k_is)
    (case k46 => k_is)
    (case a48 => k_is)
    (case l48 => k_is)
    (case c48 => k_is)
    (case k48 => k_is)
    (case a49 => k_is)
    (case l49 => k_is)
    (case c49 => k_is)
    (case k49 => k_is)
    (case a50 => k_is)
    (case l50 => k_is)
    (case c50 => k_is)
    (case k50 => k_is)
    (case a51 => k_is)
    (case l51 => k_is)
    (case c51 => k_is)
    (case k51 => k_is)
    (case a52 => k_is)
    (case l52 => k_is)
    (case c52 => k_is)
    (case k52 => k_is)
    (case a53 => k_is)
    (case l53 => k_is)
    (case c53 => k_is)
    (case k53 => k_is)
    (case a54 => k_is)
    (case l54 => k_is)
    (case c54 => k_is)
    (case k54 => k_is)
    (case a55 => k_is)
    (case l55 => k_is)
    (case c55 => k_is)
    (case k55 => k_is)
    (case a56 => k_is)
    (case l56 => k_is)
    (case c56 => k_is)
    (case k56 => k_is)
    (case a57 => k_is)
    (case l57 => k_is)
    (case c57 => k_is)
    (case k57 => k_is)
    (case a58 => k_is)
    (case l58 => k_is)
    (case c58 => k_is)
    (case k58 => k_is)
    (case a59 => k_is)
    (case l59 => k_is)
    (case c59 => k_is)
    (case k59 => k_is)
    (case a60 => k_is)
    (case l60 => k_is)
    (case c60 => k_is)
    (case k60 => k_is)
    (case a61 => k_is)
    (case l61 => k_is)
    (case c61 => k_is)
    (case k61 => k_is)
    (case a62 => k_is)
    (case l62 => k_is)
    (case c62 => k_is)
    (case k62 => k_is)
    (case a63 => k_is)
    (case l63 => k_is)
    (case c63 => k_is)
    (case k63 => k_is)
    (case a65 => k_is)
    (case l65 => k_is)
    (case c65 => k_is)
    (case k65 => k_is)
    (case a66 => k_is)
    (case l66 => k_is)
    (case c66 => k_is)
    (case k66 => k_is)
    (case a68 => k_is)
    (case l68 => k_is)
    (case c68 => k_is)
    (case k68 => k_is)
    (case a67 => k_is)
    (case l67 => k_is)
    (case c67 => k_is)
    (case k67 => k_is)
    (case a64 => k_is)
    (case l64 => k_is)
    (case c64 => k_is)
    (case k64 => k_is)
    (case a69 => k_is)
    (case l69 => k_is)
    (case c69 => k_is)
    (case k69 => k_is)
    (case a70 => k_is)
    (case l70 => k_is)
    (case c70 => k_is)
    (case k70 => k_is)
    (case z_len => k_is)
    (case z_all => k_is)
    (case z_any => k_is)
    (case z_abs => k_is)
    (case z_int => k_is)
    (case z_min => k_is)
    (case z_max => k_is)
    (case z_tuple => k_is)
    (case z_repr => k_is)
    (case z_isinstance => k_is)
    (case z_str => k_is)
    (case z_range => k_is)
    (case z_enumerate => k_is)
    (case z_sorted => k_is)
    (case z_set => k_is)
    (case z_list => k_is)
    (case z_divmod => k_is)
    (case c_MOST_THINGS => k_is)
