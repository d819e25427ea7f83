import PyProof.Rows.All
import Wide.All
import OpenK.AllK
import Wide.FinOn
import HandS.ForMost
import HandS.ForExc
import HandS.Evl
import HandS.Walk
import HandS.TupAny
import HandS.Conv
import HandS.SortInts
import HandS.SetFor
import HandS.DictComp
import HandS.NoneIn
import HandS.Wide
import HandS.Remove
import HandS.Defaults
import HandS.HeadHook1
import HandS.HeadHook2
import HandS.HeadEnd
import HandS.Head2
import KE.GoesMore
import KE.GoesEnum
import PyProof.EnumMake
import HandS.Strs
import PyProof.EqAt
import HandS.WordsDict
import HandS.Style
import HandS.Head0
import HandS.Head1
import HandS.Dict
import HandS.SortRule
import KE.DataMinMax
import HandS.TupLe
import HandS.Deep
import HandS.Lambda
import HandS.TryMany
import HandS.HeadHook4
import HandS.EndTab
import KE.GoesZip
import KE.KDictZip
import PyProof.CollectWalk
import PyProof.TupleOfGen
import HandS.Zip
import HandS.List
import HandS.More
import HandS.Iter
import HandS.TupSets
import HandS.NamedTupSort
import HandS.SetKeys
import HandS.ReSub
import HandS.ListItems
import KE.KDictList
import HandS.Sort
import HandS.Rev
import KE.KDictPairs
import HandS.TupLen
import PyProof.Rows.SumAny
import HandS.TupMul
import HandS.SortKw
import KE.SortKeyHeap
import KE.KMinKey
import KE.DatumOrd
import PyProof.DictMoreH
import KE.KDictCopyH
import HandS.Nested
import KE.DataMinKey
import KE.SortData
import KE.KeyNested
import PyProof.ReprRoads
import HandS.Gcd
import HandS.DictEq
import HandS.Head3
import PySem.Challenge.RW_pairmart_k19_chances_by_eating
set_option Elab.async false
set_option linter.all false
set_option maxRecDepth 100000
set_option maxHeartbeats 4000000
/-! Pu: programs by data. Codes of data, slots, readings by what they give. -/
namespace Pu
open PySem L2 Evl

inductive Res (α : Type) where
  | ok (a : α) | exc (n : Str) | bad
def Res.bind {α β : Type} (r : Res α) (f : α → Res β) : Res β := match r with
  | .ok a => f a
  | .exc n => .exc n
  | .bad => .bad
def opt {α β : Type} (o : Option α) (f : α → Res β) : Res β := match o with
  | some a => f a
  | none => .bad
def chk {β : Type} (b : Bool) (r : Res β) : Res β := match b with
  | true => r
  | false => .bad

structure DCod where
  α : Type
  rel : Hp → V → α → Prop
  ext : ∀ {F F' : Hp} {v : V} {x : α}, rel F v x → Ex F F' → rel F' v x
structure Cod where
  α : Type
  rel : Hp → Hp → List Addr → V → α → Prop
  ext : ∀ {F F' H H' : Hp} {fp : List Addr} {v : V} {x : α}, rel F H fp v x → Ex F F' → (∀ a, a ∈ fp → H' a = H a) → rel F' H' fp v x

inductive Kd where
  | pa | lo | co
  deriving DecidableEq
inductive Sl where
  | no | da (c : DCod) | m (k : Kd) (c : Cod)
def Sl.α : Sl → Type
  | .no => Unit
  | .da c => c.α
  | .m _ c => c.α
def Env : List Sl → Type
  | [] => Unit
  | s :: Γ => s.α × Env Γ
abbrev Fps := List (Kd × Addr)
def tag (k : Kd) (fp : List Addr) : Fps := fp.map fun a => (k, a)
def SRel : (Γ : List Sl) → St → St → Hp → Hp → Fps → Env Γ → Prop
  | [], τ, σ, _, _, L, _ => σ = [] ∧ L = []
  | .no :: Γ, τ, σ, F, H, L, ρ => ∃ w σ', σ = w :: σ' ∧ SRel Γ τ.tail σ' F H L ρ.2
  | .da c :: Γ, τ, σ, F, H, L, ρ => ∃ v σ', σ = some v :: σ' ∧ c.rel F v ρ.1 ∧ SRel Γ τ.tail σ' F H L ρ.2
  | .m k c :: Γ, τ, σ, F, H, L, ρ => ∃ v σ' fp L', σ = some v :: σ' ∧ (k = .lo ∨ τ.head? = some (some v)) ∧ L = tag k fp ++ L' ∧ c.rel F H fp v ρ.1 ∧ SRel Γ τ.tail σ' F H L' ρ.2

structure Base where
  F : Hp
  H : Hp
  M : List Addr
  N : List Addr
  O : List Addr
  τ : St
structure Wd (B : Base) (F H : Hp) (L : Fps) : Prop where
  nd : (L.map (·.2)).Nodup
  fr : ∀ k a, (k, a) ∈ L → F a = none ∧ ∃ o, H a = some o
  fh : Ex F H
  bf : Ex B.F F
  keep : ∀ a o, B.H a = some o → a ∉ B.M → a ∉ B.N → H a = some o
  there : ∀ a o, B.H a = some o → ∃ o', H a = some o'
  new : ∀ a o, F a = some o → B.F a = some o ∨ B.H a = none
  own : ∀ a, (Kd.pa, a) ∈ L → a ∈ B.M ∨ B.H a = none
  loc : ∀ a, (Kd.lo, a) ∈ L → a ∈ B.N ∨ B.H a = none
  con : ∀ a, (Kd.co, a) ∈ L → a ∈ B.O ∨ B.H a = none
def SInv (B : Base) (Γ : List Sl) (σ : St) (F H : Hp) (ρ : Env Γ) : Prop := ∃ L, SRel Γ B.τ σ F H L ρ ∧ Wd B F H L

structure Pext (F F' H H' : Hp) : Prop where
  hh : Ex H H'
  ff : Ex F F'
  fh : Ex F' H'
  new : ∀ a o, F' a = some o → F a = some o ∨ H a = none
theorem Pext.refl {F H : Hp} (h : Ex F H) : Pext F F H H := ⟨Ex.refl H, Ex.refl F, h, fun _ _ e => .inl e⟩
theorem none_of {H H' : Hp} (e : Ex H H') {a : Addr} (h : H' a = none) : H a = none := fresh_back e h
theorem Pext.trans {F F1 F2 H H1 H2 : Hp} (a : Pext F F1 H H1) (b : Pext F1 F2 H1 H2) : Pext F F2 H H2 :=
  ⟨a.hh.trans b.hh, a.ff.trans b.ff, b.fh, fun x o e => by
    rcases b.new x o e with h | h
    · exact a.new x o h
    · exact .inr (none_of a.hh h)⟩
theorem ex_upd {F H : Hp} {p : Addr} {o : HO} (h : Ex F H) : Ex (upd F p o) (upd H p o) := fun a u e => by
  by_cases hb : a = p
  · subst hb
    rw [upd_same] at e ⊢
    exact e
  · rw [upd_ne hb] at e ⊢
    exact h a u e
theorem Pext.one {F H : Hp} {p : Addr} {o : HO} (h : Ex F H) (hp : H p = none) : Pext F (upd F p o) H (upd H p o) := by
  refine ⟨Ex.new hp, Ex.new (none_of h hp), ex_upd h, fun a u e => ?_⟩
  by_cases hb : a = p
  · subst hb
    exact .inr hp
  · rw [upd_ne hb] at e
    exact .inl e
theorem Pext.own {F H : Hp} {p : Addr} {o : HO} (h : Ex F H) (hp : H p = none) : Pext F F H (upd H p o) :=
  ⟨Ex.new hp, Ex.refl F, h.trans (Ex.new hp), fun _ _ e => .inl e⟩

theorem SRel.ext {F F' H H' : Hp} (eF : Ex F F') : ∀ {Γ : List Sl} {τ σ : St} {L : Fps} {ρ : Env Γ}, SRel Γ τ σ F H L ρ → (∀ k a, (k, a) ∈ L → H' a = H a) → SRel Γ τ σ F' H' L ρ
  | [], τ, σ, L, ρ, h, _ => h
  | .no :: Γ, τ, σ, L, ρ, ⟨w, σ', e, h⟩, k => ⟨w, σ', e, SRel.ext eF h k⟩
  | .da c :: Γ, τ, σ, L, ρ, ⟨v, σ', e, r, h⟩, k => ⟨v, σ', e, c.ext r eF, SRel.ext eF h k⟩
  | .m kd c :: Γ, τ, σ, L, ρ, ⟨v, σ', fp, L', e, e2, e3, r, h⟩, k => by
    subst e3
    exact ⟨v, σ', fp, L', e, e2, rfl, c.ext r eF fun a ha => k kd a (List.mem_append_left _ (List.mem_map.mpr ⟨a, ha, rfl⟩)), SRel.ext eF h fun k' a ha => k k' a (List.mem_append_right _ ha)⟩
theorem Wd.pext {B : Base} {F F' H H' : Hp} {L : Fps} (w : Wd B F H L) (p : Pext F F' H H') : Wd B F' H' L where
  nd := w.nd
  fr := fun k a ha => by
    obtain ⟨h1, o, h2⟩ := w.fr k a ha
    refine ⟨?_, o, p.hh a o h2⟩
    cases e : F' a with
    | none => rfl
    | some u =>
      rcases p.new a u e with q | q
      · rw [h1] at q; cases q
      · rw [h2] at q; cases q
  fh := p.fh
  bf := w.bf.trans p.ff
  keep := fun a o h hm hn => p.hh a o (w.keep a o h hm hn)
  there := fun a o h => let ⟨o', h'⟩ := w.there a o h; ⟨o', p.hh a o' h'⟩
  new := fun a o e => by
    rcases p.new a o e with q | q
    · exact w.new a o q
    · right
      cases e2 : B.H a with
      | none => rfl
      | some u =>
        obtain ⟨o', h'⟩ := w.there a u e2
        rw [q] at h'; cases h'
  own := w.own
  loc := w.loc
  con := w.con
theorem SInv.pext {B : Base} {Γ : List Sl} {σ : St} {F F' H H' : Hp} {ρ : Env Γ} (I : SInv B Γ σ F H ρ) (p : Pext F F' H H') : SInv B Γ σ F' H' ρ := by
  obtain ⟨L, r, w⟩ := I
  refine ⟨L, r.ext p.ff fun k a ha => ?_, w.pext p⟩
  obtain ⟨_, o, h2⟩ := w.fr k a ha
  rw [h2, p.hh a o h2]
theorem SInv.fh {B : Base} {Γ : List Sl} {σ : St} {F H : Hp} {ρ : Env Γ} (I : SInv B Γ σ F H ρ) : Ex F H := let ⟨_, _, w⟩ := I; w.fh
def Frm (B : Base) (H' : Hp) : Prop := ∀ a o, B.H a = some o → a ∉ B.M → a ∉ B.N → H' a = some o
theorem SInv.frm {B : Base} {Γ : List Sl} {σ : St} {F H : Hp} {ρ : Env Γ} (I : SInv B Γ σ F H ρ) : Frm B H := let ⟨_, _, w⟩ := I; w.keep
theorem Frm.ex {B : Base} {H H' : Hp} (f : Frm B H) (e : Ex H H') : Frm B H' := fun a o h hm hn => e a o (f a o h hm hn)

/-! ### places -/
inductive At : List Sl → Nat → Sl → Type 1 where
  | z {s : Sl} {Γ : List Sl} : At (s :: Γ) 0 s
  | s {s t : Sl} {Γ : List Sl} {i : Nat} (r : At Γ i s) : At (t :: Γ) (i + 1) s
def At.get : {Γ : List Sl} → {i : Nat} → {s : Sl} → At Γ i s → Env Γ → s.α
  | _, _, _, .z, ρ => ρ.1
  | _, _, _, .s r, ρ => r.get ρ.2
def At.put : {Γ : List Sl} → {i : Nat} → {s : Sl} → At Γ i s → Env Γ → s.α → Env Γ
  | _, _, _, .z, ρ, x => (x, ρ.2)
  | _, _, _, .s r, ρ, x => (ρ.1, r.put ρ.2 x)
inductive Up : List Sl → Nat → Sl → Sl → List Sl → Type 1 where
  | z {s t : Sl} {Γ : List Sl} : Up (s :: Γ) 0 s t (t :: Γ)
  | s {s t u : Sl} {Γ Γ' : List Sl} {i : Nat} (r : Up Γ i s t Γ') : Up (u :: Γ) (i + 1) s t (u :: Γ')
def Up.set : {Γ Γ' : List Sl} → {i : Nat} → {s t : Sl} → Up Γ i s t Γ' → Env Γ → t.α → Env Γ'
  | _, _, _, _, _, .z, ρ, x => (x, ρ.2)
  | _, _, _, _, _, .s r, ρ, x => (ρ.1, r.set ρ.2 x)
def Up.inv : {Γ Γ' : List Sl} → {i : Nat} → {s t : Sl} → Up Γ i s t Γ' → Up Γ' i t s Γ
  | _, _, _, _, _, .z => .z
  | _, _, _, _, _, .s r => .s r.inv
def Up.old : {Γ Γ' : List Sl} → {i : Nat} → {s t : Sl} → Up Γ i s t Γ' → Env Γ → s.α
  | _, _, _, _, _, .z, ρ => ρ.1
  | _, _, _, _, _, .s r, ρ => r.old ρ.2

theorem SRel.data {F H : Hp} {c : DCod} : ∀ {Γ : List Sl} {i : Nat} (at_ : At Γ i (.da c)) {τ σ : St} {L : Fps} {ρ : Env Γ}, SRel Γ τ σ F H L ρ → ∃ v, σ[i]? = some (some v) ∧ c.rel F v (at_.get ρ)
  | _, _, .z, τ, σ, L, ρ, ⟨v, σ', e, r, h⟩ => ⟨v, by rw [e]; rfl, r⟩
  | .no :: Γ, _, .s r, τ, σ, L, ρ, ⟨w, σ', e, h⟩ => by
    obtain ⟨v, h1, h2⟩ := SRel.data r h
    exact ⟨v, by rw [e]; simpa using h1, h2⟩
  | .da _ :: Γ, _, .s r, τ, σ, L, ρ, ⟨w, σ', e, _, h⟩ => by
    obtain ⟨v, h1, h2⟩ := SRel.data r h
    exact ⟨v, by rw [e]; simpa using h1, h2⟩
  | .m _ _ :: Γ, _, .s r, τ, σ, L, ρ, ⟨w, σ', _, _, e, _, _, _, h⟩ => by
    obtain ⟨v, h1, h2⟩ := SRel.data r h
    exact ⟨v, by rw [e]; simpa using h1, h2⟩
theorem SInv.data {B : Base} {Γ : List Sl} {σ : St} {F H : Hp} {ρ : Env Γ} {c : DCod} {i : Nat} (I : SInv B Γ σ F H ρ) (at_ : At Γ i (.da c)) : ∃ v, σ[i]? = some (some v) ∧ c.rel F v (at_.get ρ) :=
  let ⟨_, r, _⟩ := I; r.data at_
theorem SRel.mut {F H : Hp} {k : Kd} {c : Cod} : ∀ {Γ : List Sl} {i : Nat} (at_ : At Γ i (.m k c)) {τ σ : St} {L : Fps} {ρ : Env Γ}, SRel Γ τ σ F H L ρ → ∃ v fp L1 L2, σ[i]? = some (some v) ∧ (k = .lo ∨ τ[i]? = some (some v)) ∧ L = L1 ++ tag k fp ++ L2 ∧ c.rel F H fp v (at_.get ρ) ∧
    ∀ F' H' fp' x', Ex F F' → (∀ k a, (k, a) ∈ L1 ++ L2 → H' a = H a) → c.rel F' H' fp' v x' → SRel Γ τ σ F' H' (L1 ++ tag k fp' ++ L2) (at_.put ρ x')
  | _, _, .z, τ, σ, L, ρ, ⟨v, σ', fp, L', e, e2, e3, r, h⟩ => by
    refine ⟨v, fp, [], L', by rw [e]; rfl, ?_, e3, r, fun F' H' fp' x' eF kk r' => ⟨v, σ', fp', L', e, e2, rfl, r', h.ext eF kk⟩⟩
    rcases e2 with e2 | e2
    · exact .inl e2
    · right
      cases τ with
      | nil => cases e2
      | cons t τ => simpa using e2
  | .no :: Γ, _, .s r, τ, σ, L, ρ, ⟨w, σ', e, h⟩ => by
    obtain ⟨v, fp, L1, L2, h1, h2, h3, h4, h5⟩ := SRel.mut r h
    exact ⟨v, fp, L1, L2, by rw [e]; simpa using h1, by simpa using h2, h3, h4, fun F' H' fp' x' eF kk r' => ⟨w, σ', e, h5 F' H' fp' x' eF kk r'⟩⟩
  | .da c' :: Γ, _, .s r, τ, σ, L, ρ, ⟨w, σ', e, hr, h⟩ => by
    obtain ⟨v, fp, L1, L2, h1, h2, h3, h4, h5⟩ := SRel.mut r h
    exact ⟨v, fp, L1, L2, by rw [e]; simpa using h1, by simpa using h2, h3, h4, fun F' H' fp' x' eF kk r' => ⟨w, σ', e, c'.ext hr eF, h5 F' H' fp' x' eF kk r'⟩⟩
  | .m k' c' :: Γ, _, .s r, τ, σ, L, ρ, ⟨w, σ', fp0, L', e, e2, e3, hr, h⟩ => by
    obtain ⟨v, fp, L1, L2, h1, h2, h3, h4, h5⟩ := SRel.mut r h
    refine ⟨v, fp, tag k' fp0 ++ L1, L2, by rw [e]; simpa using h1, by simpa using h2, by rw [e3, h3]; simp [List.append_assoc], h4, fun F' H' fp' x' eF kk r' => ⟨w, σ', fp0, L1 ++ tag k fp' ++ L2, e, e2, by simp [List.append_assoc], c'.ext hr eF fun a ha => kk k' a ?_, h5 F' H' fp' x' eF (fun q a ha => kk q a ?_) r'⟩⟩
    · simp only [List.append_assoc]
      exact List.mem_append_left _ (List.mem_map.mpr ⟨a, ha, rfl⟩)
    · simp only [List.append_assoc]
      exact List.mem_append_right _ ha
structure Step (F H : Hp) (fp : List Addr) (F' H' : Hp) (fp' : List Addr) : Prop where
  ff : Ex F F'
  fh : Ex F' H'
  keep : ∀ a o, H a = some o → a ∉ fp → H' a = some o
  there : ∀ a o, H a = some o → ∃ o', H' a = some o'
  new : ∀ a o, F' a = some o → F a = some o ∨ H a = none
  nd : fp'.Nodup
  own : ∀ a, a ∈ fp' → (a ∈ fp ∨ H a = none) ∧ F' a = none ∧ ∃ o, H' a = some o
theorem mem_tag {k k' : Kd} {fp : List Addr} {a : Addr} : (k', a) ∈ tag k fp ↔ k' = k ∧ a ∈ fp := by
  unfold tag
  simp only [List.mem_map, Prod.mk.injEq]
  constructor
  · rintro ⟨b, h1, h2, h3⟩
    subst h3
    exact ⟨h2.symm, h1⟩
  · rintro ⟨h1, h2⟩
    exact ⟨a, h2, h1.symm, rfl⟩
theorem tag_map {k : Kd} {fp : List Addr} : (tag k fp).map (·.2) = fp := by
  unfold tag
  rw [List.map_map]
  have e : ((fun x : Kd × Addr => x.2) ∘ fun a => (k, a)) = id := rfl
  rw [e, List.map_id]
theorem SInv.mut {B : Base} {Γ : List Sl} {σ : St} {F H : Hp} {ρ : Env Γ} {k : Kd} {c : Cod} {i : Nat} (I : SInv B Γ σ F H ρ) (at_ : At Γ i (.m k c)) :
    ∃ v fp, σ[i]? = some (some v) ∧ (k = .lo ∨ B.τ[i]? = some (some v)) ∧ c.rel F H fp v (at_.get ρ) ∧ fp.Nodup ∧ (∀ a, a ∈ fp → F a = none ∧ (∃ o, H a = some o) ∧ (k = .pa → a ∈ B.M ∨ B.H a = none) ∧ (k = .lo → a ∈ B.N ∨ B.H a = none)) ∧
      (k ≠ .co → ∀ F' H' fp' x', Step F H fp F' H' fp' → c.rel F' H' fp' v x' → SInv B Γ σ F' H' (at_.put ρ x')) := by
  obtain ⟨L, r, w⟩ := I
  obtain ⟨v, fp, L1, L2, h1, h2, h3, h4, h5⟩ := r.mut at_
  subst h3
  have hin : ∀ a, a ∈ fp → (k, a) ∈ L1 ++ tag k fp ++ L2 := fun a ha => by
    simp only [List.mem_append]
    exact .inl (.inr (mem_tag.mpr ⟨rfl, ha⟩))
  have nd := w.nd
  rw [List.map_append, List.map_append, tag_map] at nd
  have nd1 := List.nodup_append.mp nd
  have nd2 := List.nodup_append.mp nd1.1
  refine ⟨v, fp, h1, h2, h4, nd2.2.1, fun a ha => ?_, fun hk F' H' fp' x' st r' => ?_⟩
  · obtain ⟨g1, g2⟩ := w.fr k a (hin a ha)
    refine ⟨g1, g2, fun hk => ?_, fun hk => ?_⟩
    · subst hk; exact w.own a (hin a ha)
    · subst hk; exact w.loc a (hin a ha)
  · have hrest : ∀ k' a, (k', a) ∈ L1 ++ L2 → ∃ o, H a = some o ∧ H' a = some o ∧ a ∉ fp := fun k' a ha => by
      have hm : (k', a) ∈ L1 ++ tag k fp ++ L2 := by
        simp only [List.mem_append] at ha ⊢
        rcases ha with ha | ha
        · exact .inl (.inl ha)
        · exact .inr ha
      obtain ⟨_, o, ho⟩ := w.fr k' a hm
      have hnot : a ∉ fp := fun hf => by
        simp only [List.mem_append] at ha
        rcases ha with ha | ha
        · exact nd2.2.2 a (List.mem_map.mpr ⟨_, ha, rfl⟩) a hf rfl
        · exact nd1.2.2 a (List.mem_append_right _ hf) a (List.mem_map.mpr ⟨_, ha, rfl⟩) rfl
      exact ⟨o, ho, st.keep a o ho hnot, hnot⟩
    refine ⟨L1 ++ tag k fp' ++ L2, h5 F' H' fp' x' st.ff (fun k' a ha => ?_) r', ?_⟩
    · obtain ⟨o, g1, g2, _⟩ := hrest k' a ha
      rw [g1, g2]
    · have cases_ : ∀ k' a, (k', a) ∈ L1 ++ tag k fp' ++ L2 → (k', a) ∈ L1 ++ L2 ∨ (k' = k ∧ a ∈ fp') := fun k' a ha => by
        simp only [List.mem_append] at ha ⊢
        rcases ha with (ha | ha) | ha
        · exact .inl (.inl ha)
        · exact .inr (mem_tag.mp ha)
        · exact .inl (.inr ha)
      have old : ∀ k' a, (k', a) ∈ L1 ++ L2 → (k', a) ∈ L1 ++ tag k fp ++ L2 := fun k' a ha => by
        simp only [List.mem_append] at ha ⊢
        rcases ha with ha | ha
        · exact .inl (.inl ha)
        · exact .inr ha
      refine ⟨?_, fun k' a ha => ?_, st.fh, w.bf.trans st.ff, fun a o h hm hn => ?_, fun a o h => ?_, fun a o e => ?_, fun a ha => ?_, fun a ha => ?_, fun a ha => ?_⟩
      · rw [List.map_append, List.map_append, tag_map]
        have dis : ∀ a, a ∈ fp' → ∀ k' , (k', a) ∈ L1 ++ L2 → False := fun a ha k' hm => by
          obtain ⟨o, g1, g2, g3⟩ := hrest k' a hm
          rcases (st.own a ha).1 with q | q
          · exact g3 q
          · rw [g1] at q; cases q
        refine List.nodup_append.mpr ⟨List.nodup_append.mpr ⟨nd2.1, st.nd, fun a ha b hb e => ?_⟩, nd1.2.1, fun a ha b hb e => ?_⟩
        · subst e
          obtain ⟨q, hq, e⟩ := List.mem_map.mp ha
          obtain ⟨k', a'⟩ := q
          have e : a' = a := e
          subst e
          exact dis a' hb k' (List.mem_append_left _ hq)
        · subst e
          obtain ⟨q, hq, e⟩ := List.mem_map.mp hb
          obtain ⟨k', a'⟩ := q
          have e : a' = a := e
          subst e
          rcases List.mem_append.mp ha with ha | ha
          · exact nd1.2.2 a' (List.mem_append_left _ ha) a' hb rfl
          · exact dis a' ha k' (List.mem_append_right _ hq)
      · rcases cases_ k' a ha with q | ⟨_, q⟩
        · obtain ⟨o, g1, g2, _⟩ := hrest k' a q
          refine ⟨?_, o, g2⟩
          have g0 := (w.fr k' a (old k' a q)).1
          cases e : F' a with
          | none => rfl
          | some u =>
            rcases st.new a u e with z | z
            · rw [g0] at z; cases z
            · rw [g1] at z; cases z
        · exact (st.own a q).2
      · by_cases hf : a ∈ fp
        · exfalso
          cases k with
          | pa =>
            rcases w.own a (hin a hf) with z | z
            · exact hm z
            · rw [h] at z; cases z
          | lo =>
            rcases w.loc a (hin a hf) with z | z
            · exact hn z
            · rw [h] at z; cases z
          | co => exact hk rfl
        · exact st.keep a o (w.keep a o h hm hn) hf
      · obtain ⟨o', h'⟩ := w.there a o h
        exact st.there a o' h'
      · rcases st.new a o e with q | q
        · exact w.new a o q
        · right
          cases e2 : B.H a with
          | none => rfl
          | some u =>
            obtain ⟨o', h'⟩ := w.there a u e2
            rw [q] at h'; cases h'
      · rcases cases_ _ a ha with q | ⟨e, q⟩
        · exact w.own a (old _ a q)
        · subst e
          rcases (st.own a q).1 with z | z
          · exact w.own a (hin a z)
          · right
            cases e2 : B.H a with
            | none => rfl
            | some u =>
              obtain ⟨o', h'⟩ := w.there a u e2
              rw [z] at h'; cases h'
      · rcases cases_ _ a ha with q | ⟨e, q⟩
        · exact w.loc a (old _ a q)
        · subst e
          rcases (st.own a q).1 with z | z
          · exact w.loc a (hin a z)
          · right
            cases e2 : B.H a with
            | none => rfl
            | some u =>
              obtain ⟨o', h'⟩ := w.there a u e2
              rw [z] at h'; cases h'
      · rcases cases_ _ a ha with q | ⟨e, q⟩
        · exact w.con a (old _ a q)
        · exact absurd e.symm hk
end Pu
set_option Elab.async false
set_option linter.all false
set_option maxRecDepth 100000
set_option maxHeartbeats 4000000
namespace Pu
open PySem L2 Evl

theorem SRel.setD {F H : Hp} {c : DCod} {v : V} {x : c.α} (r : c.rel F v x) : ∀ {Γ Γ' : List Sl} {i : Nat} {s : Sl} (u : Up Γ i s (.da c) Γ') {τ σ : St} {L : Fps} {ρ : Env Γ}, SRel Γ τ σ F H L ρ → ∃ L', SRel Γ' τ (σ.set i (some v)) F H L' (u.set ρ x) ∧ L'.Sublist L
  | .no :: Γ, _, _, _, .z, τ, σ, L, ρ, ⟨w, σ', e, h⟩ => ⟨L, ⟨v, σ', by rw [e]; rfl, r, h⟩, List.Sublist.refl _⟩
  | .da c' :: Γ, _, _, _, .z, τ, σ, L, ρ, ⟨w, σ', e, _, h⟩ => ⟨L, ⟨v, σ', by rw [e]; rfl, r, h⟩, List.Sublist.refl _⟩
  | .m k c' :: Γ, _, _, _, .z, τ, σ, L, ρ, ⟨w, σ', fp, L', e, e2, e3, _, h⟩ => ⟨L', ⟨v, σ', by rw [e]; rfl, r, h⟩, by rw [e3]; exact List.sublist_append_right _ _⟩
  | .no :: Γ, _, _, _, .s q, τ, σ, L, ρ, ⟨w, σ', e, h⟩ => by
    obtain ⟨L', h1, h2⟩ := SRel.setD r q h
    exact ⟨L', ⟨w, σ'.set _ _, by rw [e]; rfl, h1⟩, h2⟩
  | .da c' :: Γ, _, _, _, .s q, τ, σ, L, ρ, ⟨w, σ', e, hr, h⟩ => by
    obtain ⟨L', h1, h2⟩ := SRel.setD r q h
    exact ⟨L', ⟨w, σ'.set _ _, by rw [e]; rfl, hr, h1⟩, h2⟩
  | .m k c' :: Γ, _, _, _, .s q, τ, σ, L, ρ, ⟨w, σ', fp, L0, e, e2, e3, hr, h⟩ => by
    obtain ⟨L', h1, h2⟩ := SRel.setD r q h
    exact ⟨tag k fp ++ L', ⟨w, σ'.set _ _, fp, L', by rw [e]; rfl, e2, rfl, hr, h1⟩, by rw [e3]; exact h2.append_left _⟩
theorem SRel.setM {F H : Hp} {c : Cod} {v : V} {x : c.α} {fp : List Addr} (r : c.rel F H fp v x) : ∀ {Γ Γ' : List Sl} {i : Nat} {s : Sl} (u : Up Γ i s (.m .lo c) Γ') {τ σ : St} {L : Fps} {ρ : Env Γ}, SRel Γ τ σ F H L ρ →
    ∃ L1 L2, SRel Γ' τ (σ.set i (some v)) F H (L1 ++ tag .lo fp ++ L2) (u.set ρ x) ∧ (L1 ++ L2).Sublist L
  | .no :: Γ, _, _, _, .z, τ, σ, L, ρ, ⟨w, σ', e, h⟩ => ⟨[], L, ⟨v, σ', fp, L, by rw [e]; rfl, .inl rfl, rfl, r, h⟩, List.Sublist.refl _⟩
  | .da c' :: Γ, _, _, _, .z, τ, σ, L, ρ, ⟨w, σ', e, _, h⟩ => ⟨[], L, ⟨v, σ', fp, L, by rw [e]; rfl, .inl rfl, rfl, r, h⟩, List.Sublist.refl _⟩
  | .m k c' :: Γ, _, _, _, .z, τ, σ, L, ρ, ⟨w, σ', fp0, L', e, e2, e3, _, h⟩ => ⟨[], L', ⟨v, σ', fp, L', by rw [e]; rfl, .inl rfl, rfl, r, h⟩, by rw [e3]; exact List.sublist_append_right _ _⟩
  | .no :: Γ, _, _, _, .s q, τ, σ, L, ρ, ⟨w, σ', e, h⟩ => by
    obtain ⟨L1, L2, h1, h2⟩ := SRel.setM r q h
    exact ⟨L1, L2, ⟨w, σ'.set _ _, by rw [e]; rfl, h1⟩, h2⟩
  | .da c' :: Γ, _, _, _, .s q, τ, σ, L, ρ, ⟨w, σ', e, hr, h⟩ => by
    obtain ⟨L1, L2, h1, h2⟩ := SRel.setM r q h
    exact ⟨L1, L2, ⟨w, σ'.set _ _, by rw [e]; rfl, hr, h1⟩, h2⟩
  | .m k c' :: Γ, _, _, _, .s q, τ, σ, L, ρ, ⟨w, σ', fp0, L0, e, e2, e3, hr, h⟩ => by
    obtain ⟨L1, L2, h1, h2⟩ := SRel.setM r q h
    exact ⟨tag k fp0 ++ L1, L2, ⟨w, σ'.set _ _, fp0, L1 ++ tag .lo fp ++ L2, by rw [e]; rfl, e2, by simp [List.append_assoc], hr, h1⟩, by rw [e3, List.append_assoc]; exact h2.append_left _⟩
theorem Wd.sub {B : Base} {F H : Hp} {L L' : Fps} (w : Wd B F H L) (h : L'.Sublist L) : Wd B F H L' :=
  ⟨w.nd.sublist (h.map _), fun k a ha => w.fr k a (h.subset ha), w.fh, w.bf, w.keep, w.there, w.new, fun a ha => w.own a (h.subset ha), fun a ha => w.loc a (h.subset ha), fun a ha => w.con a (h.subset ha)⟩
theorem SInv.setD {B : Base} {Γ Γ' : List Sl} {σ : St} {F H : Hp} {ρ : Env Γ} {c : DCod} {i : Nat} {s : Sl} {v : V} {x : c.α} (I : SInv B Γ σ F H ρ) (u : Up Γ i s (.da c) Γ') (r : c.rel F v x) : SInv B Γ' (σ.set i (some v)) F H (u.set ρ x) := by
  obtain ⟨L, h, w⟩ := I
  obtain ⟨L', h1, h2⟩ := h.setD r u
  exact ⟨L', h1, w.sub h2⟩
structure New (fp : List Addr) (H0 F H : Hp) : Prop where
  nd : fp.Nodup
  at_ : ∀ a, a ∈ fp → H0 a = none ∧ F a = none ∧ ∃ o, H a = some o
theorem SInv.setM {B : Base} {Γ Γ' : List Sl} {σ : St} {F0 H0 F H : Hp} {ρ : Env Γ} {c : Cod} {i : Nat} {s : Sl} {v : V} {x : c.α} {fp : List Addr} (I : SInv B Γ σ F0 H0 ρ) (p : Pext F0 F H0 H) (n : New fp H0 F H) (u : Up Γ i s (.m .lo c) Γ') (r : c.rel F H fp v x) :
    SInv B Γ' (σ.set i (some v)) F H (u.set ρ x) := by
  obtain ⟨L, h, w⟩ := I
  have h' : SRel Γ B.τ σ F H L ρ := h.ext p.ff fun k a ha => by
    obtain ⟨_, o, h2⟩ := w.fr k a ha
    rw [h2, p.hh a o h2]
  obtain ⟨L1, L2, h1, h2⟩ := h'.setM r u
  have w' := (w.pext p).sub h2
  have dis : ∀ k a, (k, a) ∈ L1 ++ L2 → a ∉ fp := fun k a ha hf => by
    obtain ⟨_, o, g⟩ := w.fr k a (h2.subset ha)
    rw [(n.at_ a hf).1] at g; cases g
  have nd := w'.nd
  rw [List.map_append] at nd
  have nd1 := List.nodup_append.mp nd
  have cases_ : ∀ k' a, (k', a) ∈ L1 ++ tag .lo fp ++ L2 → (k', a) ∈ L1 ++ L2 ∨ (k' = .lo ∧ a ∈ fp) := fun k' a ha => by
    simp only [List.mem_append] at ha ⊢
    rcases ha with (ha | ha) | ha
    · exact .inl (.inl ha)
    · exact .inr (mem_tag.mp ha)
    · exact .inl (.inr ha)
  refine ⟨_, h1, ⟨?_, fun k a ha => ?_, w'.fh, w'.bf, w'.keep, w'.there, w'.new, fun a ha => ?_, fun a ha => ?_, fun a ha => ?_⟩⟩
  · rw [List.map_append, List.map_append, tag_map]
    refine List.nodup_append.mpr ⟨List.nodup_append.mpr ⟨nd1.1, n.nd, fun a ha b hb e => ?_⟩, nd1.2.1, fun a ha b hb e => ?_⟩
    · subst e
      obtain ⟨q, hq, e⟩ := List.mem_map.mp ha
      obtain ⟨k', a'⟩ := q
      have e : a' = a := e
      subst e
      exact dis k' a' (List.mem_append_left _ hq) hb
    · subst e
      obtain ⟨q, hq, e⟩ := List.mem_map.mp hb
      obtain ⟨k', a'⟩ := q
      have e : a' = a := e
      subst e
      rcases List.mem_append.mp ha with ha | ha
      · exact nd1.2.2 a' ha a' hb rfl
      · exact dis k' a' (List.mem_append_right _ hq) ha
  · rcases cases_ k a ha with q | ⟨_, q⟩
    · exact w'.fr k a q
    · exact (n.at_ a q).2
  · rcases cases_ _ a ha with q | ⟨e, _⟩
    · exact w'.own a q
    · cases e
  · rcases cases_ _ a ha with q | ⟨_, q⟩
    · exact w'.loc a q
    · right
      cases e : B.H a with
      | none => rfl
      | some o =>
        obtain ⟨o', g⟩ := w.there a o e
        rw [(n.at_ a q).1] at g; cases g
  · rcases cases_ _ a ha with q | ⟨e, _⟩
    · exact w'.con a q
    · cases e

/-! ### codes -/
abbrev PV (c : DCod) (F : Hp) : List V → List c.α → Prop := Paired (c.rel F)
theorem PV.ext {c : DCod} {F F' : Hp} (e : Ex F F') : ∀ {vs : List V} {xs : List c.α}, PV c F vs xs → PV c F' vs xs
  | _, _, .nil => .nil
  | _, _, .cons r t => .cons (c.ext r e) (PV.ext e t)
theorem PV.length {c : DCod} {F : Hp} {vs : List V} {xs : List c.α} (h : PV c F vs xs) : vs.length = xs.length := Paired.length h
theorem PV.append {c : DCod} {F : Hp} : ∀ {vs ws : List V} {xs ys : List c.α}, PV c F vs xs → PV c F ws ys → PV c F (vs ++ ws) (xs ++ ys)
  | _, _, _, _, .nil, s => s
  | _, _, _, _, .cons r t, s => .cons r (PV.append t s)
theorem PV.get {c : DCod} {F : Hp} : ∀ {vs : List V} {xs : List c.α} {i : Nat} {x : c.α}, PV c F vs xs → xs[i]? = some x → ∃ v, vs[i]? = some v ∧ c.rel F v x
  | _, _, _, _, .nil, e => by simp at e
  | _, _, 0, _, .cons r _, e => by simp at e; subst e; exact ⟨_, rfl, r⟩
  | _, _, i + 1, x, .cons _ t, e => by
    obtain ⟨u, h1, h2⟩ := PV.get (i := i) (x := x) t (by simpa using e)
    exact ⟨u, by simpa using h1, h2⟩
theorem PV.get' {c : DCod} {F : Hp} : ∀ {vs : List V} {xs : List c.α} {i : Nat} {v : V}, PV c F vs xs → vs[i]? = some v → ∃ x, xs[i]? = some x ∧ c.rel F v x
  | _, _, _, _, .nil, e => by simp at e
  | _, _, 0, _, .cons r _, e => by simp at e; subst e; exact ⟨_, rfl, r⟩
  | _, _, i + 1, v, .cons _ t, e => by
    obtain ⟨u, h1, h2⟩ := PV.get' (i := i) (v := v) t (by simpa using e)
    exact ⟨u, by simpa using h1, h2⟩
theorem PV.set {c : DCod} {F : Hp} {v : V} {x : c.α} (r : c.rel F v x) : ∀ {vs : List V} {xs : List c.α} (i : Nat), PV c F vs xs → PV c F (vs.set i v) (xs.set i x)
  | _, _, _, .nil => .nil
  | _, _, 0, .cons _ t => .cons r t
  | _, _, i + 1, .cons q t => .cons q (PV.set r i t)
theorem PV.take {c : DCod} {F : Hp} : ∀ {vs : List V} {xs : List c.α} (n : Nat), PV c F vs xs → PV c F (vs.take n) (xs.take n)
  | _, _, 0, _ => .nil
  | _, _, _ + 1, .nil => .nil
  | _, _, n + 1, .cons r t => .cons r (PV.take n t)
theorem PV.drop {c : DCod} {F : Hp} : ∀ {vs : List V} {xs : List c.α} (n : Nat), PV c F vs xs → PV c F (vs.drop n) (xs.drop n)
  | _, _, 0, r => r
  | _, _, _ + 1, .nil => .nil
  | _, _, n + 1, .cons _ t => PV.drop n t
theorem Rd.ext {F F' : Hp} {a : Addr} {u : HO} (e : Ex F F') (h : Rd F a u) : Rd F' a u := h.elim (fun z => .inl (e a _ z)) fun ⟨o, z⟩ => .inr ⟨o, e a _ z⟩
theorem SqT.rd {K : PySem.W.Frag} {F H : Hp} {a : Addr} {vs : List V} (e : Ex F H) (h : Rd F a (.tup vs)) : SqT K H a vs := .inl (Rd.ext e h)
abbrev dInt : DCod := ⟨Int, fun _ v x => v = .int x, fun h _ => h⟩
abbrev dBl : DCod := ⟨Bool, fun _ v x => v = .bl x, fun h _ => h⟩
abbrev dNon : DCod := ⟨Unit, fun _ v _ => v = .non, fun h _ => h⟩
abbrev dOpt (c : DCod) : DCod := ⟨Option c.α, fun F v x => match x with
  | none => v = .non
  | some y => c.rel F v y ∧ v ≠ .non, fun {F F' v x} h e => match x, h with
  | none, h => h
  | some y, h => ⟨c.ext h.1 e, h.2⟩⟩
abbrev dTup (c : DCod) : DCod := ⟨List c.α, fun F v xs => ∃ a vs, v = .ref a ∧ Rd F a (.tup vs) ∧ PV c F vs xs ∧ xs.length ≤ sizeLine,
  fun h e => let ⟨a, vs, h1, h2, h3, h4⟩ := h; ⟨a, vs, h1, Rd.ext e h2, h3.ext e, h4⟩⟩
abbrev dLst (c : DCod) : DCod := ⟨List c.α, fun F v xs => ∃ a vs, v = .ref a ∧ F a = some (.lst vs) ∧ PV c F vs xs ∧ xs.length ≤ sizeLine,
  fun h e => let ⟨a, vs, h1, h2, h3, h4⟩ := h; ⟨a, vs, h1, e a _ h2, h3.ext e, h4⟩⟩
abbrev dSeq (c : DCod) : DCod := ⟨List c.α, fun F v xs => ∃ a vs, v = .ref a ∧ (F a = some (.lst vs) ∨ Rd F a (.tup vs)) ∧ PV c F vs xs ∧ xs.length ≤ sizeLine,
  fun h e => let ⟨a, vs, h1, h2, h3, h4⟩ := h; ⟨a, vs, h1, h2.imp (e a _) (Rd.ext e), h3.ext e, h4⟩⟩
abbrev dP2 (a b : DCod) : DCod := ⟨a.α × b.α, fun F v x => ∃ p u w, v = .ref p ∧ F p = some (.tup [u, w]) ∧ a.rel F u x.1 ∧ b.rel F w x.2,
  fun h e => let ⟨p, u, w, h1, h2, h3, h4⟩ := h; ⟨p, u, w, h1, e p _ h2, a.ext h3 e, b.ext h4 e⟩⟩
abbrev dDict (c : DCod) : DCod := ⟨List (Int × c.α), fun F v kvs => ∃ a ks, v = .ref a ∧ F a = some (.dK ks) ∧ Paired (fun (p : Key × V) (q : Int × c.α) => p.1 = .inl q.1 ∧ c.rel F p.2 q.2) ks kvs,
  fun {F F' v x} h e => let ⟨a, ks, h1, h2, h3⟩ := h; ⟨a, ks, h1, e a _ h2, Paired.mapP h3 fun _ _ q => ⟨q.1, c.ext q.2 e⟩⟩⟩
abbrev mLst (c : DCod) : Cod := ⟨List c.α, fun F H fp v xs => ∃ a vs, v = .ref a ∧ fp = [a] ∧ H a = some (.lst vs) ∧ PV c F vs xs ∧ xs.length ≤ sizeLine,
  fun {F F' H H' fp v x} h e k => let ⟨a, vs, h1, h0, h2, h3, h4⟩ := h; ⟨a, vs, h1, h0, by rw [k a (by rw [h0]; simp)]; exact h2, h3.ext e, h4⟩⟩

def DEnv : List DCod → Type
  | [] => Unit
  | c :: cs => c.α × DEnv cs
def DRel : (cs : List DCod) → Hp → List V → DEnv cs → Prop
  | [], _, vs, _ => vs = []
  | c :: cs, F, vs, x => ∃ v vs', vs = v :: vs' ∧ c.rel F v x.1 ∧ DRel cs F vs' x.2
theorem DRel.ext {F F' : Hp} (e : Ex F F') : ∀ {cs : List DCod} {vs : List V} {x : DEnv cs}, DRel cs F vs x → DRel cs F' vs x
  | [], _, _, h => h
  | c :: cs, _, _, ⟨v, vs', h1, h2, h3⟩ => ⟨v, vs', h1, c.ext h2 e, DRel.ext e h3⟩
theorem DRel.len {F : Hp} : ∀ {cs : List DCod} {vs : List V} {x : DEnv cs}, DRel cs F vs x → vs.length = cs.length
  | [], _, _, h => by rw [show _ = [] from h]; rfl
  | c :: cs, _, _, ⟨v, vs', h1, h2, h3⟩ => by rw [h1, List.length_cons, DRel.len h3]; rfl
abbrev dIns (C : Addr) (names : List Str) (cs : List DCod) : DCod := ⟨DEnv cs, fun F v x => ∃ a dx vs, v = .ref a ∧ F a = some (.ins C dx (names.zip vs)) ∧ DRel cs F vs x,
  fun h e => let ⟨a, dx, vs, h1, h2, h3⟩ := h; ⟨a, dx, vs, h1, e a _ h2, h3.ext e⟩⟩

/-! ### judgements -/
def Gt (p : Bool) {Γ : List Sl} (F F' H H' : Hp) (ρ ρ' : Env Γ) : Prop := Ex F F' ∧ (p = true → ρ' = ρ ∧ Pext F F' H H')
theorem Gt.refl {p : Bool} {Γ : List Sl} {F H : Hp} {ρ : Env Γ} (h : Ex F H) : Gt p F F H H ρ ρ := ⟨Ex.refl F, fun _ => ⟨rfl, Pext.refl h⟩⟩
theorem Gt.trans {p : Bool} {Γ : List Sl} {F F1 F2 H H1 H2 : Hp} {ρ ρ1 ρ2 : Env Γ} (a : Gt p F F1 H H1 ρ ρ1) (b : Gt p F1 F2 H1 H2 ρ1 ρ2) : Gt p F F2 H H2 ρ ρ2 :=
  ⟨a.1.trans b.1, fun e => ⟨(b.2 e).1.trans (a.2 e).1, (a.2 e).2.trans (b.2 e).2⟩⟩
theorem Gt.pext {p : Bool} {Γ : List Sl} {F F1 F2 H H1 H2 : Hp} {ρ ρ1 : Env Γ} (a : Gt p F F1 H H1 ρ ρ1) (b : Pext F1 F2 H1 H2) : Gt p F F2 H H2 ρ ρ1 :=
  ⟨a.1.trans b.ff, fun e => ⟨(a.2 e).1, (a.2 e).2.trans b⟩⟩
theorem Gt.weak {p : Bool} {Γ : List Sl} {F F' H H' : Hp} {ρ ρ' : Env Γ} (a : Gt true F F' H H' ρ ρ') : Gt p F F' H H' ρ ρ' := ⟨a.1, fun _ => a.2 rfl⟩

section
variable (p : Bool) (E : XK) (XC : Str → Value)
def Rs {R : Type} (B : Base) (G : Res R → Prop) : Prop := ¬ G .bad ∧ ∀ n H', G (.exc n) → Frm B H' → E (XC n) none H'
def EvE (Γ : List Sl) (te : TE) (c : DCod) (T : (R : Type) → (c.α → Env Γ → Res R) → Env Γ → Res R) : Prop :=
  ∀ (B : Base) (σ : St) (F H : Hp) (ρ : Env Γ), SInv B Γ σ F H ρ → ∀ (R : Type) (G : Res R → Prop), Rs E XC B G → ∀ (k : c.α → Env Γ → Res R) (Q : VK), G (T R k ρ) →
    (∀ x ρ' v F' H', SInv B Γ σ F' H' ρ' → Gt p F F' H H' ρ ρ' → c.rel F' v x → G (k x ρ') → Q v H') → te σ H Q
def EvT (Γ : List Sl) (tt : TT) (T : (R : Type) → (Bool → Env Γ → Res R) → Env Γ → Res R) : Prop :=
  ∀ (B : Base) (σ : St) (F H : Hp) (ρ : Env Γ), SInv B Γ σ F H ρ → ∀ (R : Type) (G : Res R → Prop), Rs E XC B G → ∀ (k : Bool → Env Γ → Res R) (Q : Bool → Hp → Prop), G (T R k ρ) →
    (∀ b ρ' F' H', SInv B Γ σ F' H' ρ' → Gt p F F' H H' ρ ρ' → G (k b ρ') → Q b H') → tt σ H Q
def EvA (Γ : List Sl) (ta : TA) (cs : List DCod) (T : (R : Type) → (DEnv cs → Env Γ → Res R) → Env Γ → Res R) : Prop :=
  ∀ (B : Base) (σ : St) (F H : Hp) (ρ : Env Γ), SInv B Γ σ F H ρ → ∀ (R : Type) (G : Res R → Prop), Rs E XC B G → ∀ (k : DEnv cs → Env Γ → Res R) (Q : List V → Hp → Prop), G (T R k ρ) →
    (∀ x ρ' vs F' H', SInv B Γ σ F' H' ρ' → Gt p F F' H H' ρ ρ' → DRel cs F' vs x → G (k x ρ') → Q vs H') → ta σ H Q
def EvN (Γ : List Sl) (te : TE) (c : Cod) (T : (R : Type) → (c.α → Env Γ → Res R) → Env Γ → Res R) : Prop :=
  ∀ (B : Base) (σ : St) (F H : Hp) (ρ : Env Γ), SInv B Γ σ F H ρ → ∀ (R : Type) (G : Res R → Prop), Rs E XC B G → ∀ (k : c.α → Env Γ → Res R) (Q : VK), G (T R k ρ) →
    (∀ x ρ' v fp F0 H0 F' H', SInv B Γ σ F0 H0 ρ' → Gt p F F0 H H0 ρ ρ' → Pext F0 F' H0 H' → New fp H0 F' H' → c.rel F' H' fp v x → G (k x ρ') → Q v H') → te σ H Q
end
section
variable {p : Bool} {E : XK} {XC : Str → Value} {Γ Γ' : List Sl} {te ta tb tc : TE} {tt tu : TT} {tA : TA} {a b c d : DCod} {m : Cod}
theorem freeze {T : (R : Type) → (List c.α → Env Γ → Res R) → Env Γ → Res R} (h : EvN p E XC Γ te (mLst c) T) : EvE p E XC Γ te (dLst c) T := fun B σ F H ρ I R G hG k Q g q =>
  h B σ F H ρ I R G hG k Q g fun x ρ' v fp F0 H0 F' H' I0 e pp n r g' => by
    obtain ⟨l, vs, rfl, rfl, hl, pv, hz⟩ := r
    obtain ⟨n1, n2, _⟩ := n.at_ l (by simp)
    have p2 : Pext F0 (upd F' l (.lst vs)) H0 H' := ⟨pp.hh, pp.ff.trans (Ex.new n2), fun a u ea => by
      by_cases hb : a = l
      · subst hb; rw [upd_same] at ea; cases ea; exact hl
      · rw [upd_ne hb] at ea; exact pp.fh a u ea, fun a u ea => by
      by_cases hb : a = l
      · subst hb; exact .inr n1
      · rw [upd_ne hb] at ea; exact pp.new a u ea⟩
    exact q x ρ' (.ref l) _ H' (I0.pext p2) (e.pext p2) ⟨l, vs, rfl, upd_same, pv.ext (Ex.new n2), hz⟩ g'
theorem ev_var {i : Nat} (at_ : At Γ i (.da c)) : EvE p E XC Γ (tVar i) c (fun R k ρ => k (at_.get ρ) ρ) := fun B σ F H ρ I R G hG k Q g q => by
  obtain ⟨v, h1, h2⟩ := I.data at_
  exact ⟨v, h1, q _ ρ v F H I (Gt.refl I.fh) h2 g⟩
theorem ev_c {v : V} {x : c.α} (h : ∀ F, c.rel F v x) : EvE p E XC Γ (tC v) c (fun R k ρ => k x ρ) := fun B σ F H ρ I R G hG k Q g q => q x ρ v F H I (Gt.refl I.fh) (h F) g
theorem ev_as {T : (R : Type) → (a.α → Env Γ → Res R) → Env Γ → Res R} (f : a.α → b.α) (hf : ∀ F v x, a.rel F v x → b.rel F v (f x)) (h : EvE p E XC Γ te a T) : EvE p E XC Γ te b (fun R k ρ => T R (fun x => k (f x)) ρ) :=
  fun B σ F H ρ I R G hG k Q g q => h B σ F H ρ I R G hG _ Q g fun x ρ' v F' H' I' e r g' => q (f x) ρ' v F' H' I' e (hf F' v x r) g'
theorem ev_asP {T : (R : Type) → (a.α → Env Γ → Res R) → Env Γ → Res R} (f : a.α → Option b.α) (hf : ∀ F v x y, a.rel F v x → f x = some y → b.rel F v y) (h : EvE p E XC Γ te a T) : EvE p E XC Γ te b (fun R k ρ => T R (fun x ρ => opt (f x) fun y => k y ρ) ρ) :=
  fun B σ F H ρ I R G hG k Q g q => h B σ F H ρ I R G hG _ Q g fun x ρ' v F' H' I' e r g' => by
    cases hx : f x with
    | none => rw [hx] at g'; exact absurd g' hG.1
    | some y => rw [hx] at g'; exact q y ρ' v F' H' I' e (hf F' v x y r hx) g'
/-! operations on data by values -/
def Op2 (r : R2) (a b c : DCod) (f : a.α → b.α → c.α) : Prop := ∀ (F H : Hp) (v w : V) (x : a.α) (y : b.α) (Q : VK), Ex F H → a.rel F v x → b.rel F w y → (∀ u F' H', Pext F F' H H' → c.rel F' u (f x y) → Q u H') → r v w H Q
def Op2P (r : R2) (a b c : DCod) (f : a.α → b.α → Option c.α) : Prop := ∀ (F H : Hp) (v w : V) (x : a.α) (y : b.α) (z : c.α) (Q : VK), Ex F H → a.rel F v x → b.rel F w y → f x y = some z → (∀ u F' H', Pext F F' H H' → c.rel F' u z → Q u H') → r v w H Q
def Op1 (r : V → Hp → VK → Prop) (a c : DCod) (f : a.α → c.α) : Prop := ∀ (F H : Hp) (v : V) (x : a.α) (Q : VK), Ex F H → a.rel F v x → (∀ u F' H', Pext F F' H H' → c.rel F' u (f x) → Q u H') → r v H Q
def Op1P (r : V → Hp → VK → Prop) (a c : DCod) (f : a.α → Option c.α) : Prop := ∀ (F H : Hp) (v : V) (x : a.α) (z : c.α) (Q : VK), Ex F H → a.rel F v x → f x = some z → (∀ u F' H', Pext F F' H H' → c.rel F' u z → Q u H') → r v H Q
theorem ev_op {r : R2} {f : a.α → b.α → c.α} {Ta : (R : Type) → (a.α → Env Γ → Res R) → Env Γ → Res R} {Tb : (R : Type) → (b.α → Env Γ → Res R) → Env Γ → Res R} (o : Op2 r a b c f) (ha : EvE p E XC Γ ta a Ta) (hb : EvE p E XC Γ tb b Tb) :
    EvE p E XC Γ (tOp r ta tb) c (fun R k ρ => Ta R (fun x ρ => Tb R (fun y ρ => k (f x y) ρ) ρ) ρ) := fun B σ F H ρ I R G hG k Q g q =>
  ha B σ F H ρ I R G hG _ _ g fun x ρ1 v F1 H1 I1 e1 r1 g1 => hb B σ F1 H1 ρ1 I1 R G hG _ _ g1 fun y ρ2 w F2 H2 I2 e2 r2 g2 =>
    o F2 H2 v w x y Q I2.fh (a.ext r1 e2.1) r2 fun u F3 H3 pp r3 => q _ ρ2 u F3 H3 (I2.pext pp) ((e1.trans e2).pext pp) r3 g2
theorem ev_opP {r : R2} {f : a.α → b.α → Option c.α} {Ta : (R : Type) → (a.α → Env Γ → Res R) → Env Γ → Res R} {Tb : (R : Type) → (b.α → Env Γ → Res R) → Env Γ → Res R} (o : Op2P r a b c f) (ha : EvE p E XC Γ ta a Ta) (hb : EvE p E XC Γ tb b Tb) :
    EvE p E XC Γ (tOp r ta tb) c (fun R k ρ => Ta R (fun x ρ => Tb R (fun y ρ => opt (f x y) fun z => k z ρ) ρ) ρ) := fun B σ F H ρ I R G hG k Q g q =>
  ha B σ F H ρ I R G hG _ _ g fun x ρ1 v F1 H1 I1 e1 r1 g1 => hb B σ F1 H1 ρ1 I1 R G hG _ _ g1 fun y ρ2 w F2 H2 I2 e2 r2 g2 => by
    cases hx : f x y with
    | none => rw [hx] at g2; exact absurd g2 hG.1
    | some z =>
      rw [hx] at g2
      exact o F2 H2 v w x y z Q I2.fh (a.ext r1 e2.1) r2 hx fun u F3 H3 pp r3 => q _ ρ2 u F3 H3 (I2.pext pp) ((e1.trans e2).pext pp) r3 g2
theorem ev_un {r : V → Hp → VK → Prop} {f : a.α → c.α} {Ta : (R : Type) → (a.α → Env Γ → Res R) → Env Γ → Res R} (o : Op1 r a c f) (ha : EvE p E XC Γ ta a Ta) : EvE p E XC Γ (tUn r ta) c (fun R k ρ => Ta R (fun x ρ => k (f x) ρ) ρ) := fun B σ F H ρ I R G hG k Q g q =>
  ha B σ F H ρ I R G hG _ _ g fun x ρ1 v F1 H1 I1 e1 r1 g1 => o F1 H1 v x Q I1.fh r1 fun u F3 H3 pp r3 => q _ ρ1 u F3 H3 (I1.pext pp) (e1.pext pp) r3 g1
theorem ev_1 {r : V → Hp → VK → Prop} {f : a.α → c.α} {Ta : (R : Type) → (a.α → Env Γ → Res R) → Env Γ → Res R} (o : Op1 r a c f) (ha : EvE p E XC Γ ta a Ta) : EvE p E XC Γ (fun σ H Q => ta σ H fun x H1 => r x H1 Q) c (fun R k ρ => Ta R (fun x ρ => k (f x) ρ) ρ) := ev_un o ha
theorem ev_1P {r : V → Hp → VK → Prop} {f : a.α → Option c.α} {Ta : (R : Type) → (a.α → Env Γ → Res R) → Env Γ → Res R} (o : Op1P r a c f) (ha : EvE p E XC Γ ta a Ta) : EvE p E XC Γ (fun σ H Q => ta σ H fun x H1 => r x H1 Q) c (fun R k ρ => Ta R (fun x ρ => opt (f x) fun z => k z ρ) ρ) := fun B σ F H ρ I R G hG k Q g q =>
  ha B σ F H ρ I R G hG _ _ g fun x ρ1 v F1 H1 I1 e1 r1 g1 => by
    cases hx : f x with
    | none => rw [hx] at g1; exact absurd g1 hG.1
    | some z =>
      rw [hx] at g1
      exact o F1 H1 v x z Q I1.fh r1 hx fun u F3 H3 pp r3 => q _ ρ1 u F3 H3 (I1.pext pp) (e1.pext pp) r3 g1
/-! arguments -/
theorem ea_nil : EvA p E XC Γ tNil [] (fun R k ρ => k () ρ) := fun B σ F H ρ I R G hG k Q g q => q () ρ [] F H I (Gt.refl I.fh) rfl g
theorem ea_cons {tr : TA} {cs : List DCod} {Ta : (R : Type) → (a.α → Env Γ → Res R) → Env Γ → Res R} {Tr : (R : Type) → (DEnv cs → Env Γ → Res R) → Env Γ → Res R} (ha : EvE p E XC Γ ta a Ta) (hr : EvA p E XC Γ tr cs Tr) :
    EvA p E XC Γ (tCons ta tr) (a :: cs) (fun R k ρ => Ta R (fun x ρ => Tr R (fun xs ρ => k (x, xs) ρ) ρ) ρ) := fun B σ F H ρ I R G hG k Q g q =>
  ha B σ F H ρ I R G hG _ _ g fun x ρ1 v F1 H1 I1 e1 r1 g1 => hr B σ F1 H1 ρ1 I1 R G hG _ _ g1 fun xs ρ2 vs F2 H2 I2 e2 r2 g2 =>
    q (x, xs) ρ2 (v :: vs) F2 H2 I2 (e1.trans e2) ⟨v, vs, rfl, a.ext r1 e2.1, r2⟩ g2
def Op1b (r : List V → Hp → VK → Prop) (a c : DCod) (f : a.α → c.α) : Prop := Op1 (fun v H Q => r [v] H Q) a c f
def Op1bP (r : List V → Hp → VK → Prop) (a c : DCod) (f : a.α → Option c.α) : Prop := Op1P (fun v H Q => r [v] H Q) a c f
theorem ev_b1 {r : List V → Hp → VK → Prop} {f : a.α → c.α} {Ta : (R : Type) → (a.α → Env Γ → Res R) → Env Γ → Res R} (o : Op1b r a c f) (ha : EvE p E XC Γ ta a Ta) : EvE p E XC Γ (tCB r (tCons ta tNil)) c (fun R k ρ => Ta R (fun x ρ => k (f x) ρ) ρ) := ev_1 (r := fun v H Q => r [v] H Q) o ha
theorem ev_b1P {r : List V → Hp → VK → Prop} {f : a.α → Option c.α} {Ta : (R : Type) → (a.α → Env Γ → Res R) → Env Γ → Res R} (o : Op1bP r a c f) (ha : EvE p E XC Γ ta a Ta) : EvE p E XC Γ (tCB r (tCons ta tNil)) c (fun R k ρ => Ta R (fun x ρ => opt (f x) fun z => k z ρ) ρ) := ev_1P (r := fun v H Q => r [v] H Q) o ha
/-! tests, and, or, not, a if c else b -/
theorem ev_and {Ta Tb : (R : Type) → (Bool → Env Γ → Res R) → Env Γ → Res R} (ha : EvE p E XC Γ ta dBl Ta) (hb : EvE p E XC Γ tb dBl Tb) : EvE p E XC Γ (tAndV ta tb) dBl (fun R k ρ => Ta R (fun x ρ => if x = true then Tb R k ρ else k false ρ) ρ) := fun B σ F H ρ I R G hG k Q g q =>
  ha B σ F H ρ I R G hG _ _ g fun x ρ1 v F1 H1 I1 e1 r1 g1 => ⟨x, r1, by
    cases x with
    | true =>
      rw [if_pos rfl] at g1 ⊢
      exact hb B σ F1 H1 ρ1 I1 R G hG k Q g1 fun y ρ2 w F2 H2 I2 e2 r2 g2 => q y ρ2 w F2 H2 I2 (e1.trans e2) r2 g2
    | false =>
      rw [if_neg (by decide)] at g1 ⊢
      exact q false ρ1 _ F1 H1 I1 e1 rfl g1⟩
theorem ev_or {Ta Tb : (R : Type) → (Bool → Env Γ → Res R) → Env Γ → Res R} (ha : EvE p E XC Γ ta dBl Ta) (hb : EvE p E XC Γ tb dBl Tb) : EvE p E XC Γ (tOrV ta tb) dBl (fun R k ρ => Ta R (fun x ρ => if x = true then k true ρ else Tb R k ρ) ρ) := fun B σ F H ρ I R G hG k Q g q =>
  ha B σ F H ρ I R G hG _ _ g fun x ρ1 v F1 H1 I1 e1 r1 g1 => ⟨x, r1, by
    cases x with
    | false =>
      rw [if_neg (by decide)] at g1 ⊢
      exact hb B σ F1 H1 ρ1 I1 R G hG k Q g1 fun y ρ2 w F2 H2 I2 e2 r2 g2 => q y ρ2 w F2 H2 I2 (e1.trans e2) r2 g2
    | true =>
      rw [if_pos rfl] at g1 ⊢
      exact q true ρ1 _ F1 H1 I1 e1 rfl g1⟩
theorem ev_not {Ta : (R : Type) → (Bool → Env Γ → Res R) → Env Γ → Res R} (ha : EvE p E XC Γ ta dBl Ta) : EvE p E XC Γ (tNotV ta) dBl (fun R k ρ => Ta R (fun x ρ => k (!x) ρ) ρ) := fun B σ F H ρ I R G hG k Q g q =>
  ha B σ F H ρ I R G hG _ _ g fun x ρ1 v F1 H1 I1 e1 r1 g1 => ⟨x, r1, q _ ρ1 _ F1 H1 I1 e1 rfl g1⟩
theorem et_test {Ta : (R : Type) → (Bool → Env Γ → Res R) → Env Γ → Res R} (ha : EvE p E XC Γ ta dBl Ta) : EvT p E XC Γ (tTest ta) Ta := fun B σ F H ρ I R G hG k Q g q =>
  ha B σ F H ρ I R G hG k _ g fun x ρ1 v F1 H1 I1 e1 r1 g1 => ⟨x, r1, q _ ρ1 F1 H1 I1 e1 g1⟩
theorem et_B {Ta : (R : Type) → (Bool → Env Γ → Res R) → Env Γ → Res R} (ha : EvE p E XC Γ ta dBl Ta) : EvT p E XC Γ (tB ta) Ta := fun B σ F H ρ I R G hG k Q g q =>
  ha B σ F H ρ I R G hG k _ g fun x ρ1 v F1 H1 I1 e1 r1 g1 => ⟨x, r1, q _ ρ1 F1 H1 I1 e1 g1⟩
theorem et_and {Ta Tb : (R : Type) → (Bool → Env Γ → Res R) → Env Γ → Res R} (ha : EvT p E XC Γ tt Ta) (hb : EvT p E XC Γ tu Tb) : EvT p E XC Γ (tAnd tt tu) (fun R k ρ => Ta R (fun x ρ => if x = true then Tb R k ρ else k false ρ) ρ) := fun B σ F H ρ I R G hG k Q g q =>
  ha B σ F H ρ I R G hG _ _ g fun x ρ1 F1 H1 I1 e1 g1 => by
    cases x with
    | true =>
      rw [if_pos rfl] at g1
      show tu σ H1 Q
      exact hb B σ F1 H1 ρ1 I1 R G hG k Q g1 fun y ρ2 F2 H2 I2 e2 g2 => q y ρ2 F2 H2 I2 (e1.trans e2) g2
    | false =>
      rw [if_neg (by decide)] at g1
      show Q false H1
      exact q false ρ1 F1 H1 I1 e1 g1
theorem et_or {Ta Tb : (R : Type) → (Bool → Env Γ → Res R) → Env Γ → Res R} (ha : EvT p E XC Γ tt Ta) (hb : EvT p E XC Γ tu Tb) : EvT p E XC Γ (tOr tt tu) (fun R k ρ => Ta R (fun x ρ => if x = true then k true ρ else Tb R k ρ) ρ) := fun B σ F H ρ I R G hG k Q g q =>
  ha B σ F H ρ I R G hG _ _ g fun x ρ1 F1 H1 I1 e1 g1 => by
    cases x with
    | false =>
      rw [if_neg (by decide)] at g1
      show tu σ H1 Q
      exact hb B σ F1 H1 ρ1 I1 R G hG k Q g1 fun y ρ2 F2 H2 I2 e2 g2 => q y ρ2 F2 H2 I2 (e1.trans e2) g2
    | true =>
      rw [if_pos rfl] at g1
      show Q true H1
      exact q true ρ1 F1 H1 I1 e1 g1
theorem et_not {Ta : (R : Type) → (Bool → Env Γ → Res R) → Env Γ → Res R} (ha : EvT p E XC Γ tt Ta) : EvT p E XC Γ (tNot tt) (fun R k ρ => Ta R (fun x ρ => k (!x) ρ) ρ) := fun B σ F H ρ I R G hG k Q g q =>
  ha B σ F H ρ I R G hG _ _ g fun x ρ1 F1 H1 I1 e1 g1 => q _ ρ1 F1 H1 I1 e1 g1
theorem ev_if {T0 : (R : Type) → (Bool → Env Γ → Res R) → Env Γ → Res R} {Ta Tb : (R : Type) → (c.α → Env Γ → Res R) → Env Γ → Res R} (h : EvT p E XC Γ tt T0) (ha : EvE p E XC Γ ta c Ta) (hb : EvE p E XC Γ tb c Tb) :
    EvE p E XC Γ (tIf tt ta tb) c (fun R k ρ => T0 R (fun x ρ => if x = true then Ta R k ρ else Tb R k ρ) ρ) := fun B σ F H ρ I R G hG k Q g q =>
  h B σ F H ρ I R G hG _ _ g fun x ρ1 F1 H1 I1 e1 g1 => by
    cases x with
    | true =>
      rw [if_pos rfl] at g1
      show ta σ H1 Q
      exact ha B σ F1 H1 ρ1 I1 R G hG k Q g1 fun y ρ2 w F2 H2 I2 e2 r2 g2 => q y ρ2 w F2 H2 I2 (e1.trans e2) r2 g2
    | false =>
      rw [if_neg (by decide)] at g1
      show tb σ H1 Q
      exact hb B σ F1 H1 ρ1 I1 R G hG k Q g1 fun y ρ2 w F2 H2 I2 e2 r2 g2 => q y ρ2 w F2 H2 I2 (e1.trans e2) r2 g2
end
end Pu
set_option Elab.async false
set_option linter.all false
set_option maxRecDepth 100000
set_option maxHeartbeats 4000000
namespace Pu
open PySem L2 Evl

/-! ### promises -/
def spD (XC : Str → Value) (cs : List DCod) (c : DCod) (f : DEnv cs → Res c.α) : Sp := fun vs H Q E => ∃ F x, Ex F H ∧ DRel cs F vs x ∧ f x ≠ .bad ∧
  (∀ z, f x = .ok z → ∀ u F' H', Pext F F' H H' → c.rel F' u z → Q u H') ∧ ∀ n, f x = .exc n → ∀ H', Ex H H' → E (XC n) none H'
def spM (XC : Str → Value) (m : Cod) (cs : List DCod) (c : DCod) (f : m.α → DEnv cs → Res (c.α × m.α)) : Sp := fun vs H Q E => ∃ F fp v vs' y x, vs = v :: vs' ∧ Ex F H ∧ m.rel F H fp v y ∧ fp.Nodup ∧ (∀ a, a ∈ fp → F a = none ∧ ∃ o, H a = some o) ∧ DRel cs F vs' x ∧ f y x ≠ .bad ∧
  (∀ z y', f y x = .ok (z, y') → ∀ u F' H' fp', Step F H fp F' H' fp' → m.rel F' H' fp' v y' → c.rel F' u z → Q u H') ∧ ∀ n, f y x = .exc n → ∀ H', (∀ a o, H a = some o → a ∉ fp → H' a = some o) → E (XC n) none H'
def spC (XC : Str → Value) (m : Cod) (cs : List DCod) (c : DCod) (f : m.α → DEnv cs → Res c.α) : Sp := fun vs H Q E => ∃ F fp v vs' y x, vs = v :: vs' ∧ Ex F H ∧ m.rel F H fp v y ∧ fp.Nodup ∧ (∀ a, a ∈ fp → F a = none ∧ ∃ o, H a = some o) ∧ DRel cs F vs' x ∧ f y x ≠ .bad ∧
  (∀ z, f y x = .ok z → ∀ u F' H', Pext F F' H H' → c.rel F' u z → Q u H') ∧ ∀ n, f y x = .exc n → ∀ H', Ex H H' → E (XC n) none H'

section
variable {p : Bool} {E : XK} {XC : Str → Value} {Γ Γ' : List Sl} {te ta tb tc : TE} {tt tu : TT} {tA : TA} {a b c d : DCod} {m : Cod} {cs : List DCod}
theorem DRel.app {F : Hp} : ∀ {cs : List DCod} {vs : List V} {x : DEnv cs}, DRel cs F vs x → DRel cs F (vs ++ []) x := fun h => by rw [List.append_nil]; exact h
theorem call_goes {B : Base} {σ : St} {F H : Hp} {ρ : Env Γ} {R : Type} {G : Res R → Prop} (hG : Rs E XC B G) {k : c.α → Env Γ → Res R} {f : Res c.α} {Q : VK} (I : SInv B Γ σ F H ρ) (g : G (f.bind fun z => k z ρ))
    (q : ∀ z u F' H', f = .ok z → Pext F F' H H' → c.rel F' u z → G (k z ρ) → Q u H') :
    f ≠ .bad ∧ (∀ z, f = .ok z → ∀ u F' H', Pext F F' H H' → c.rel F' u z → Q u H') ∧ ∀ n, f = .exc n → ∀ H', Ex H H' → E (XC n) none H' := by
  refine ⟨fun e => ?_, fun z e u F' H' pp r => ?_, fun n e H' eh => ?_⟩
  · rw [e] at g; exact hG.1 g
  · rw [e] at g; exact q z u F' H' e pp r g
  · rw [e] at g; exact hG.2 n H' g (I.frm.ex eh)
theorem ev_call {f : DEnv cs → Res c.α} {TA : (R : Type) → (DEnv cs → Env Γ → Res R) → Env Γ → Res R} (h : EvA p E XC Γ tA cs TA) : EvE p E XC Γ (tCall (spD XC cs c f) [] E tA) c (fun R k ρ => TA R (fun x ρ => (f x).bind fun z => k z ρ) ρ) := fun B σ F H ρ I R G hG k Q g q =>
  h B σ F H ρ I R G hG _ _ g fun x ρ1 vs F1 H1 I1 e1 r1 g1 => ⟨F1, x, I1.fh, r1.app, call_goes hG I1 g1 fun z u F' H' _ pp r g2 => q z ρ1 u F' H' (I1.pext pp) (e1.pext pp) r g2⟩
theorem zip_no {names : List Str} {m : Str} (h : names.contains m = false) : ∀ (vs : List V), (names.zip vs).lookup m = none := by
  induction names with
  | nil => intro vs; rfl
  | cons n ns ih =>
    intro vs
    cases vs with
    | nil => rfl
    | cons v vs =>
      simp only [List.contains_cons, Bool.or_eq_false_iff] at h
      show (match m == n with | true => some v | false => (ns.zip vs).lookup m) = none
      rw [h.1]
      exact ih h.2 vs
theorem ev_meth {C : Addr} {nm : Str} {names : List Str} {fs : List DCod} {f : DEnv (dIns C names fs :: cs) → Res c.α} {To : (R : Type) → (DEnv fs → Env Γ → Res R) → Env Γ → Res R} {TA : (R : Type) → (DEnv cs → Env Γ → Res R) → Env Γ → Res R}
    (hn : names.contains nm = false) (ho : EvE p E XC Γ ta (dIns C names fs) To) (h : EvA p E XC Γ tA cs TA) :
    EvE p E XC Γ (tMeth C nm (spD XC (dIns C names fs :: cs) c f) [] E ta tA) c (fun R k ρ => To R (fun o ρ => TA R (fun x ρ => (f (o, x)).bind fun z => k z ρ) ρ) ρ) := fun B σ F H ρ I R G hG k Q g q =>
  ho B σ F H ρ I R G hG _ _ g fun o ρ0 v F0 H0 I0 e0 r0 g0 => by
    obtain ⟨x0, dx, vs0, rfl, h0, hr⟩ := id r0
    refine ⟨x0, dx, _, rfl, I0.fh x0 _ h0, zip_no hn _, h B σ F0 H0 ρ0 I0 R G hG _ _ g0 fun x ρ1 vs F1 H1 I1 e1 r1 g1 => ?_⟩
    exact ⟨F1, (o, x), I1.fh, ⟨.ref x0, vs ++ [], rfl, (dIns C names fs).ext r0 e1.1, r1.app⟩, call_goes hG I1 g1 fun z u F' H' _ pp r g2 => q z ρ1 u F' H' (I1.pext pp) ((e0.trans e1).pext pp) r g2⟩
def DEnv.get : (cs : List DCod) → (j : Nat) → {c : DCod} → cs[j]? = some c → DEnv cs → c.α
  | c :: _, 0, _, h, x => (Option.some.inj h) ▸ x.1
  | _ :: cs, j + 1, _, h, x => DEnv.get cs j (by simpa using h) x.2
inductive Fd : List Str → List DCod → Str → DCod → Type 1 where
  | z {n : Str} {c : DCod} {ns : List Str} {cs : List DCod} : Fd (n :: ns) (c :: cs) n c
  | s {n m : Str} {c d : DCod} {ns : List Str} {cs : List DCod} (h : (m == n) = false) (r : Fd ns cs m d) : Fd (n :: ns) (c :: cs) m d
def Fd.get : {ns : List Str} → {cs : List DCod} → {n : Str} → {c : DCod} → Fd ns cs n c → DEnv cs → c.α
  | _, _, _, _, .z, x => x.1
  | _, _, _, _, .s _ r, x => r.get x.2
theorem Fd.at_ {F : Hp} : ∀ {ns : List Str} {cs : List DCod} {n : Str} {c : DCod} (fd : Fd ns cs n c) {vs : List V} {x : DEnv cs}, DRel cs F vs x → ∃ v, (ns.zip vs).lookup n = some v ∧ c.rel F v (fd.get x)
  | _, _, _, _, .z, vs, x, ⟨v, vs', e, r, h⟩ => ⟨v, by rw [e]; simp [List.zip_cons_cons, List.lookup], r⟩
  | _, _, _, _, .s hn q, vs, x, ⟨v, vs', e, r, h⟩ => by
    obtain ⟨u, h1, h2⟩ := q.at_ h
    refine ⟨u, ?_, h2⟩
    rw [e]
    simp only [List.zip_cons_cons, List.lookup, hn]
    exact h1
theorem ev_fld {K : PySem.W.Frag} {C : Addr} {names : List Str} {fs : List DCod} {n : Str} {To : (R : Type) → (DEnv fs → Env Γ → Res R) → Env Γ → Res R} (hc : Cls K C) (hn : NoAttr K C n) (fd : Fd names fs n c) (ho : EvE p E XC Γ ta (dIns C names fs) To) :
    EvE p E XC Γ (tFld K ta n) c (fun R k ρ => To R (fun o ρ => k (fd.get o) ρ) ρ) := fun B σ F H ρ I R G hG k Q g q =>
  ho B σ F H ρ I R G hG _ _ g fun o ρ0 v F0 H0 I0 e0 r0 g0 => by
    obtain ⟨x0, dx, vs0, rfl, h0, hr⟩ := r0
    obtain ⟨u, h1, h2⟩ := fd.at_ hr
    exact ⟨x0, C, dx, _, u, rfl, I0.fh x0 _ h0, hc, hn, h1, q _ ρ0 u F0 H0 I0 e0 h2 g0⟩

/-! ### a def's call with a thing that may change -/
theorem ev_callM {i : Nat} {k : Kd} (hk : k ≠ .co) (at_ : At Γ i (.m k m)) {f : m.α → DEnv cs → Res (c.α × m.α)} {TA : (R : Type) → (DEnv cs → Env Γ → Res R) → Env Γ → Res R} (h : EvA false E XC Γ tA cs TA) :
    EvE false E XC Γ (tCall (spM XC m cs c f) [] E (tCons (tVar i) tA)) c (fun R kk ρ => TA R (fun x ρ => (f (at_.get ρ) x).bind fun z => kk z.1 (at_.put ρ z.2)) ρ) := fun B σ F H ρ I R G hG kk Q g q => by
  obtain ⟨v, fp0, h1, _⟩ := I.mut at_
  refine ⟨v, h1, h B σ F H ρ I R G hG _ _ g fun x ρ1 vs F1 H1 I1 e1 r1 g1 => ?_⟩
  obtain ⟨v', fp, h2, _, hr, nd, hfp, hst⟩ := I1.mut at_
  rw [h1] at h2
  cases h2
  refine ⟨F1, fp, v, vs ++ [], at_.get ρ1, x, rfl, I1.fh, hr, nd, fun a ha => ⟨(hfp a ha).1, (hfp a ha).2.1⟩, r1.app, fun e => ?_, fun z y' e u F' H' fp' st r' ru => ?_, fun n e H' eh => ?_⟩
  · rw [e] at g1; exact hG.1 g1
  · rw [e] at g1
    exact q z _ u F' H' (hst hk F' H' fp' y' st r') ⟨e1.1.trans st.ff, fun z => nomatch z⟩ ru g1
  · rw [e] at g1
    refine hG.2 n H' g1 fun a o ha hm hn => ?_
    have ha1 := I1.frm a o ha hm hn
    by_cases hf : a ∈ fp
    · exfalso
      obtain ⟨_, _, q1, q2⟩ := hfp a hf
      cases k with
      | pa => rcases q1 rfl with z | z
              · exact hm z
              · rw [ha] at z; cases z
      | lo => rcases q2 rfl with z | z
              · exact hn z
              · rw [ha] at z; cases z
      | co => exact hk rfl
    · exact eh a o ha1 hf
end

/-! ### statements -/
structure Ret where
  r : DCod
  P : Type
  ok : Base → Hp → Hp → V → P → Prop
abbrev retD (c : DCod) : Ret := ⟨c, Unit, fun B F H _ _ => B.M = [] → B.N = [] → Pext B.F F B.H H⟩
abbrev retM (c : DCod) (m : Cod) (i : Nat) : Ret := ⟨c, m.α, fun B F H _ y => ∃ v fp', B.N = [] → B.τ[i]? = some (some v) ∧ m.rel F H fp' v y ∧ Step B.F B.H B.M F H fp'⟩
section
variable (E : XK) (XC : Str → Value) (Rt : Ret)
def StE (Γ : List Sl) (ts : TS) (Γ' ΓL : List Sl) (T : (R : Type) → (Env Γ' → Res R) → (Rt.r.α → Rt.P → Res R) → (Env ΓL → Res R) → (Env ΓL → Res R) → Env Γ → Res R) : Prop :=
  ∀ (B : Base) (σ : St) (F H : Hp) (ρ : Env Γ), SInv B Γ σ F H ρ → ∀ (R : Type) (G : Res R → Prop), Rs E XC B G → ∀ (nx : Env Γ' → Res R) (rt : Rt.r.α → Rt.P → Res R) (bk ct : Env ΓL → Res R) (D : Ends), G (T R nx rt bk ct ρ) →
    (∀ ρ' σ' F' H', SInv B Γ' σ' F' H' ρ' → Ex F F' → G (nx ρ') → D.nx σ' H') → (∀ x y v F' H', Rt.ok B F' H' v y → Rt.r.rel F' v x → G (rt x y) → D.rt v H') →
    (∀ ρ' σ' F' H', SInv B ΓL σ' F' H' ρ' → Ex F F' → G (bk ρ') → D.bk σ' H') → (∀ ρ' σ' F' H', SInv B ΓL σ' F' H' ρ' → Ex F F' → G (ct ρ') → D.ct σ' H') → ts D σ H
end
section
variable {p : Bool} {E : XK} {XC : Str → Value} {Rt : Ret} {Γ Γ' Γ1 Γ2 ΓL : List Sl} {te ta tb tc : TE} {tt tu : TT} {tA : TA} {a b c d : DCod} {m : Cod} {cs : List DCod} {ts us : TS}
theorem st_next : StE E XC Rt Γ tNext Γ ΓL (fun R nx rt bk ct ρ => nx ρ) := fun B σ F H ρ I R G hG nx rt bk ct D g qn qr qb qc => qn ρ σ F H I (Ex.refl F) g
theorem st_seq {T : (R : Type) → (Env Γ1 → Res R) → (Rt.r.α → Rt.P → Res R) → (Env ΓL → Res R) → (Env ΓL → Res R) → Env Γ → Res R} {U : (R : Type) → (Env Γ' → Res R) → (Rt.r.α → Rt.P → Res R) → (Env ΓL → Res R) → (Env ΓL → Res R) → Env Γ1 → Res R}
    (h : StE E XC Rt Γ ts Γ1 ΓL T) (h2 : StE E XC Rt Γ1 us Γ' ΓL U) : StE E XC Rt Γ (tSeq ts us) Γ' ΓL (fun R nx rt bk ct ρ => T R (fun ρ => U R nx rt bk ct ρ) rt bk ct ρ) := fun B σ F H ρ I R G hG nx rt bk ct D g qn qr qb qc =>
  h B σ F H ρ I R G hG _ rt bk ct { D with nx := us D } g (fun ρ' σ' F' H' I' e' g' => h2 B σ' F' H' ρ' I' R G hG nx rt bk ct D g' (fun ρ2 σ2 F2 H2 I2 e2 g2 => qn ρ2 σ2 F2 H2 I2 (e'.trans e2) g2) qr (fun ρ2 σ2 F2 H2 I2 e2 g2 => qb ρ2 σ2 F2 H2 I2 (e'.trans e2) g2) (fun ρ2 σ2 F2 H2 I2 e2 g2 => qc ρ2 σ2 F2 H2 I2 (e'.trans e2) g2)) qr qb qc
theorem st_set {i : Nat} {s : Sl} (u : Up Γ i s (.da c) Γ') {T : (R : Type) → (c.α → Env Γ → Res R) → Env Γ → Res R} (h : EvE p E XC Γ te c T) : StE E XC Rt Γ (tAsg te (gName i)) Γ' ΓL (fun R nx rt bk ct ρ => T R (fun x ρ => nx (u.set ρ x)) ρ) := fun B σ F H ρ I R G hG nx rt bk ct D g qn qr qb qc =>
  h B σ F H ρ I R G hG _ _ g fun x ρ' v F' H' I' e r g' => qn _ _ F' H' (I'.setD u r) e.1 g'
theorem st_setN {i : Nat} {s : Sl} (u : Up Γ i s (.m .lo m) Γ') {T : (R : Type) → (m.α → Env Γ → Res R) → Env Γ → Res R} (h : EvN p E XC Γ te m T) : StE E XC Rt Γ (tAsg te (gName i)) Γ' ΓL (fun R nx rt bk ct ρ => T R (fun x ρ => nx (u.set ρ x)) ρ) := fun B σ F H ρ I R G hG nx rt bk ct D g qn qr qb qc =>
  h B σ F H ρ I R G hG _ _ g fun x ρ' v fp F0 H0 F' H' I' e pp n r g' => qn _ _ F' H' (I'.setM pp n u r) (e.1.trans pp.ff) g'
theorem st_if {T0 : (R : Type) → (Bool → Env Γ → Res R) → Env Γ → Res R} {T U : (R : Type) → (Env Γ' → Res R) → (Rt.r.α → Rt.P → Res R) → (Env ΓL → Res R) → (Env ΓL → Res R) → Env Γ → Res R} (h : EvT p E XC Γ tt T0) (h1 : StE E XC Rt Γ ts Γ' ΓL T) (h2 : StE E XC Rt Γ us Γ' ΓL U) :
    StE E XC Rt Γ (tIfS tt ts us) Γ' ΓL (fun R nx rt bk ct ρ => T0 R (fun x ρ => if x = true then T R nx rt bk ct ρ else U R nx rt bk ct ρ) ρ) := fun B σ F H ρ I R G hG nx rt bk ct D g qn qr qb qc =>
  h B σ F H ρ I R G hG _ _ g fun x ρ1 F1 H1 I1 e1 g1 => by
    cases x with
    | true =>
      rw [if_pos rfl] at g1
      show ts D σ H1
      exact h1 B σ F1 H1 ρ1 I1 R G hG nx rt bk ct D g1 (fun ρ2 σ2 F2 H2 I2 e2 g2 => qn ρ2 σ2 F2 H2 I2 (e1.1.trans e2) g2) qr (fun ρ2 σ2 F2 H2 I2 e2 g2 => qb ρ2 σ2 F2 H2 I2 (e1.1.trans e2) g2) (fun ρ2 σ2 F2 H2 I2 e2 g2 => qc ρ2 σ2 F2 H2 I2 (e1.1.trans e2) g2)
    | false =>
      rw [if_neg (by decide)] at g1
      show us D σ H1
      exact h2 B σ F1 H1 ρ1 I1 R G hG nx rt bk ct D g1 (fun ρ2 σ2 F2 H2 I2 e2 g2 => qn ρ2 σ2 F2 H2 I2 (e1.1.trans e2) g2) qr (fun ρ2 σ2 F2 H2 I2 e2 g2 => qb ρ2 σ2 F2 H2 I2 (e1.1.trans e2) g2) (fun ρ2 σ2 F2 H2 I2 e2 g2 => qc ρ2 σ2 F2 H2 I2 (e1.1.trans e2) g2)
theorem SRel.drop {F H : Hp} : ∀ {Γ Γ' : List Sl} {i : Nat} {s : Sl} (u : Up Γ i s .no Γ') {τ σ : St} {L : Fps} {ρ : Env Γ}, SRel Γ τ σ F H L ρ → ∃ L', SRel Γ' τ σ F H L' (u.set ρ ()) ∧ L'.Sublist L
  | .no :: Γ, _, _, _, .z, τ, σ, L, ρ, ⟨w, σ', e, h⟩ => ⟨L, ⟨w, σ', e, h⟩, List.Sublist.refl _⟩
  | .da c' :: Γ, _, _, _, .z, τ, σ, L, ρ, ⟨w, σ', e, _, h⟩ => ⟨L, ⟨some w, σ', e, h⟩, List.Sublist.refl _⟩
  | .m k c' :: Γ, _, _, _, .z, τ, σ, L, ρ, ⟨w, σ', fp, L', e, e2, e3, _, h⟩ => ⟨L', ⟨some w, σ', e, h⟩, by rw [e3]; exact List.sublist_append_right _ _⟩
  | .no :: Γ, _, _, _, .s q, τ, σ, L, ρ, ⟨w, σ', e, h⟩ => by
    obtain ⟨L', h1, h2⟩ := SRel.drop q h
    exact ⟨L', ⟨w, σ', e, h1⟩, h2⟩
  | .da c' :: Γ, _, _, _, .s q, τ, σ, L, ρ, ⟨w, σ', e, hr, h⟩ => by
    obtain ⟨L', h1, h2⟩ := SRel.drop q h
    exact ⟨L', ⟨w, σ', e, hr, h1⟩, h2⟩
  | .m k c' :: Γ, _, _, _, .s q, τ, σ, L, ρ, ⟨w, σ', fp, L0, e, e2, e3, hr, h⟩ => by
    obtain ⟨L', h1, h2⟩ := SRel.drop q h
    exact ⟨tag k fp ++ L', ⟨w, σ', fp, L', e, e2, rfl, hr, h1⟩, by rw [e3]; exact h2.append_left _⟩
theorem SInv.drop {B : Base} {σ : St} {F H : Hp} {ρ : Env Γ} {i : Nat} {s : Sl} (I : SInv B Γ σ F H ρ) (u : Up Γ i s .no Γ') : SInv B Γ' σ F H (u.set ρ ()) := by
  obtain ⟨L, h, w⟩ := I
  obtain ⟨L', h1, h2⟩ := h.drop u
  exact ⟨L', h1, w.sub h2⟩
structure Pr (Rt : Ret) (Γ : List Sl) where
  f : Env Γ → Rt.P
  ok : ∀ {B : Base} {σ : St} {F H : Hp} {ρ : Env Γ}, SInv B Γ σ F H ρ → ∀ v, Rt.ok B F H v (f ρ)
theorem SInv.pextB {B : Base} {σ : St} {F H : Hp} {ρ : Env Γ} (I : SInv B Γ σ F H ρ) (hM : B.M = []) (hN : B.N = []) : Pext B.F F B.H H := by
  obtain ⟨L, _, w⟩ := I
  exact ⟨fun a o h => w.keep a o h (by rw [hM]; simp) (by rw [hN]; simp), w.bf, w.fh, w.new⟩
def prD : Pr (retD c) Γ := ⟨fun _ => (), fun I _ hM hN => I.pextB hM hN⟩
theorem SInv.stepB {B : Base} {σ : St} {F H : Hp} {ρ : Env Γ} {i : Nat} (I : SInv B Γ σ F H ρ) (at_ : At Γ i (.m .pa m)) : ∃ v fp', B.N = [] → B.τ[i]? = some (some v) ∧ m.rel F H fp' v (at_.get ρ) ∧ Step B.F B.H B.M F H fp' := by
  obtain ⟨v, fp, h1, h2, hr, nd, hfp, _⟩ := I.mut at_
  obtain ⟨L, _, w⟩ := I
  refine ⟨v, fp, fun hN => ⟨h2.resolve_left (by decide), hr, w.bf, w.fh, fun a o h hm => w.keep a o h hm (by rw [hN]; simp), w.there, w.new, nd, fun a ha => ?_⟩⟩
  obtain ⟨q1, q2, q3, _⟩ := hfp a ha
  exact ⟨q3 rfl, q1, q2⟩
def prM {i : Nat} (at_ : At Γ i (.m .pa m)) : Pr (retM c m i) Γ := ⟨fun ρ => at_.get ρ, fun I _ => I.stepB at_⟩
theorem st_ret {T : (R : Type) → (Rt.r.α → Env Γ → Res R) → Env Γ → Res R} (pr : Pr Rt Γ) (h : EvE p E XC Γ te Rt.r T) : StE E XC Rt Γ (tRet te) Γ' ΓL (fun R nx rt bk ct ρ => T R (fun x ρ => rt x (pr.f ρ)) ρ) := fun B σ F H ρ I R G hG nx rt bk ct D g qn qr qb qc =>
  h B σ F H ρ I R G hG _ _ g fun x ρ' v F' H' I' e r g' => qr x _ v F' H' (pr.ok I' v) r g'
end

/-! ### what is walked -/
structure Walks (J : It) (c : DCod) (xs : List c.α) (F : Hp) : Prop where
  ex : ∃ Y, Walk J xs.length (fun H => Ex F H) Y ∧ ∀ i H v H' F1, Y i H v H' → Ex F F1 → Ex F1 H → ∃ F2 x, xs[i]? = some x ∧ Pext F1 F2 H H' ∧ c.rel F2 v x
section
variable (p : Bool) (E : XK) (XC : Str → Value)
def EvI (Γ : List Sl) (ti : TI) (c : DCod) (T : (R : Type) → (List c.α → Env Γ → Res R) → Env Γ → Res R) : Prop :=
  ∀ (B : Base) (σ : St) (F H : Hp) (ρ : Env Γ), SInv B Γ σ F H ρ → ∀ (R : Type) (G : Res R → Prop), Rs E XC B G → ∀ (k : List c.α → Env Γ → Res R) (Q : It → Hp → Prop), G (T R k ρ) →
    (∀ xs ρ' J F' H', SInv B Γ σ F' H' ρ' → Gt p F F' H H' ρ ρ' → Walks J c xs F' → G (k xs ρ') → xs.length ≤ sizeLine → Q J H') → ti σ H Q
end
def TgE (Γ : List Sl) (tg : TG) (c : DCod) (Γ' : List Sl) (f : Env Γ → c.α → Env Γ') (is : List Nat) : Prop :=
  ∀ (B : Base) (σ : St) (F H : Hp) (ρ : Env Γ) (v : V) (x : c.α), SInv B Γ σ F H ρ → c.rel F v x → ∀ (Q : St → Hp → Prop), (∀ σ', SInv B Γ' σ' F H (f ρ x) → (∀ i, i ∉ is → σ'[i]? = σ[i]?) → σ'.length = σ.length → Q σ' H) → tg v σ H Q
section
variable {p : Bool} {E : XK} {XC : Str → Value} {Rt : Ret} {Γ Γ' Γ1 Γ2 ΓL : List Sl} {te ta tb tc : TE} {tt tu : TT} {tA : TA} {ti : TI} {tg : TG} {a b c d : DCod} {m : Cod} {cs : List DCod} {ts us : TS}
theorem tg_name {i : Nat} {s : Sl} (u : Up Γ i s (.da c) Γ') : TgE Γ (gName i) c Γ' (fun ρ x => u.set ρ x) [i] := fun B σ F H ρ v x I r Q q =>
  q _ (I.setD u r) (fun j hj => by rw [List.getElem?_set_ne (fun e => hj (by simp [e]))]) (by rw [List.length_set])
theorem tg_p2 {K : PySem.W.Frag} {t1 t2 : TG} {f : Env Γ → a.α → Env Γ1} {g : Env Γ1 → b.α → Env Γ'} {is js : List Nat} (h1 : TgE Γ t1 a Γ1 f is) (h2 : TgE Γ1 t2 b Γ' g js) : TgE Γ (gTup K 2 (gCons t1 (gCons t2 gNil))) (dP2 a b) Γ' (fun ρ x => g (f ρ x.1) x.2) (is ++ js) := fun B σ F H ρ v x I r Q q => by
  obtain ⟨p, u, w, rfl, hp, r1, r2⟩ := r
  refine ⟨p, [u, w], rfl, .inl (.inl (I.fh p _ hp)), rfl, u, [w], rfl, h1 B σ F H ρ u x.1 I r1 _ fun σ1 I1 e1 l1 => ⟨w, [], rfl, h2 B σ1 F H _ w x.2 I1 r2 _ fun σ2 I2 e2 l2 => ⟨rfl, q σ2 I2 (fun i hi => ?_) (l2.trans l1)⟩⟩⟩
  rw [e2 i fun z => hi (List.mem_append_right _ z), e1 i fun z => hi (List.mem_append_left _ z)]
theorem st_asg {T : (R : Type) → (c.α → Env Γ → Res R) → Env Γ → Res R} {f : Env Γ → c.α → Env Γ'} {is : List Nat} (h : EvE p E XC Γ te c T) (ht : TgE Γ tg c Γ' f is) : StE E XC Rt Γ (tAsg te tg) Γ' ΓL (fun R nx rt bk ct ρ => T R (fun x ρ => nx (f ρ x)) ρ) := fun B σ F H ρ I R G hG nx rt bk ct D g qn qr qb qc =>
  h B σ F H ρ I R G hG _ _ g fun x ρ' v F' H' I' e r g' => ht B σ F' H' ρ' v x I' r _ fun σ' I2 _ _ => qn _ σ' F' H' I2 e.1 g'
theorem st_for {T0 : (R : Type) → (List c.α → Env Γ → Res R) → Env Γ → Res R} {f : Env Γ → c.α → Env Γ'} {is : List Nat} {T : (R : Type) → (Env Γ → Res R) → (Rt.r.α → Rt.P → Res R) → (Env Γ → Res R) → (Env Γ → Res R) → Env Γ' → Res R} (h : EvI p E XC Γ ti c T0) (ht : TgE Γ tg c Γ' f is) (hb : StE E XC Rt Γ' ts Γ Γ T) :
    StE E XC Rt Γ (tFor ti tg ts) Γ ΓL (fun R nx rt bk ct ρ => T0 R (fun xs ρ => xs.foldr (fun x k ρ => T R k rt nx k (f ρ x)) nx ρ) ρ) := fun B σ F H ρ I R G hG nx rt bk ct D g qn qr qb qc => by
  refine h B σ F H ρ I R G hG _ _ g fun xs ρ1 J F1 H1 I1 e1 w g1 hz => ?_
  obtain ⟨Y, w, hy⟩ := w.ex
  refine for_it w (fun i σ' H' => i ≤ xs.length ∧ ∃ F' ρ', SInv B Γ σ' F' H' ρ' ∧ Ex F1 F' ∧ G ((xs.drop i).foldr (fun x k ρ => T R k rt nx k (f ρ x)) nx ρ')) ⟨Nat.zero_le _, F1, ρ1, I1, Ex.refl _, g1⟩ (fun i σ' H' _ ⟨_, F', ρ', I', e', _⟩ => e'.trans I'.fh) ?_ ?_
  · rintro i v σ' H' H2 hi ⟨_, F', ρ', I', e', g'⟩ y
    obtain ⟨F2, x, hx, pp, r⟩ := hy i H' v H2 F' y e' I'.fh
    have I2 := I'.pext pp
    obtain ⟨hlt, hxe⟩ := List.getElem?_eq_some_iff.mp hx
    have ed : xs.drop i = x :: xs.drop (i + 1) := by rw [← hxe]; exact (List.drop_eq_getElem_cons hlt)
    rw [ed, List.foldr_cons] at g'
    refine ht B σ' F2 H2 ρ' v x I2 r _ fun σ3 I3 _ _ => ?_
    refine hb B σ3 F2 H2 _ I3 R G hG _ rt nx _ _ g' (fun ρ4 σ4 F4 H4 I4 e4 g4 => ⟨hlt, F4, ρ4, I4, (e'.trans pp.ff).trans e4, g4⟩) qr (fun ρ4 σ4 F4 H4 I4 e4 g4 => qn ρ4 σ4 F4 H4 I4 (((e1.1.trans e').trans pp.ff).trans e4) g4) (fun ρ4 σ4 F4 H4 I4 e4 g4 => ⟨hlt, F4, ρ4, I4, (e'.trans pp.ff).trans e4, g4⟩)
  · rintro σ' H' ⟨_, F', ρ', I', e', g'⟩
    rw [List.drop_length] at g'
    exact qn ρ' σ' F' H' I' (e1.1.trans e') g'
end
end Pu
set_option Elab.async false
set_option linter.all false
set_option maxRecDepth 100000
set_option maxHeartbeats 4000000
namespace Pu
open PySem L2 Evl

/-! ### a thing apart from the slots -/
def paOf (L : Fps) : List Addr := (L.filter fun q => q.1 = .pa).map (·.2)
def loOf (L : Fps) : List Addr := (L.filter fun q => q.1 = .lo).map (·.2)
theorem mem_paOf {L : Fps} {a : Addr} : a ∈ paOf L ↔ (Kd.pa, a) ∈ L := by
  unfold paOf
  simp only [List.mem_map, List.mem_filter, decide_eq_true_eq]
  constructor
  · rintro ⟨⟨k, b⟩, ⟨h1, h2⟩, h3⟩
    have h2 : k = .pa := h2
    have h3 : b = a := h3
    subst h2 h3; exact h1
  · intro h; exact ⟨_, ⟨h, rfl⟩, rfl⟩
def coOf (L : Fps) : List Addr := (L.filter fun q => q.1 = .co).map (·.2)
theorem mem_coOf {L : Fps} {a : Addr} : a ∈ coOf L ↔ (Kd.co, a) ∈ L := by
  unfold coOf
  simp only [List.mem_map, List.mem_filter, decide_eq_true_eq]
  constructor
  · rintro ⟨⟨k, b⟩, ⟨h1, h2⟩, h3⟩
    have h2 : k = .co := h2
    have h3 : b = a := h3
    subst h2 h3; exact h1
  · intro h; exact ⟨_, ⟨h, rfl⟩, rfl⟩
theorem mem_loOf {L : Fps} {a : Addr} : a ∈ loOf L ↔ (Kd.lo, a) ∈ L := by
  unfold loOf
  simp only [List.mem_map, List.mem_filter, decide_eq_true_eq]
  constructor
  · rintro ⟨⟨k, b⟩, ⟨h1, h2⟩, h3⟩
    have h2 : k = .lo := h2
    have h3 : b = a := h3
    subst h2 h3; exact h1
  · intro h; exact ⟨_, ⟨h, rfl⟩, rfl⟩
def Base.re (B : Base) (F H : Hp) (L : Fps) : Base := ⟨F, H, paOf L, loOf L, coOf L, B.τ⟩
theorem Wd.re {B : Base} {F H : Hp} {L : Fps} (w : Wd B F H L) : Wd (B.re F H L) F H L :=
  ⟨w.nd, w.fr, w.fh, Ex.refl F, fun a o h _ _ => h, fun a o h => ⟨o, h⟩, fun a o h => .inl h, fun a ha => .inl (mem_paOf.mpr ha), fun a ha => .inl (mem_loOf.mpr ha), fun a ha => .inl (mem_coOf.mpr ha)⟩
theorem Wd.un {B : Base} {F H F' H' : Hp} {L L' : Fps} (w : Wd B F H L) (w' : Wd (B.re F H L) F' H' L') : Wd B F' H' L' := by
  refine ⟨w'.nd, w'.fr, w'.fh, w.bf.trans w'.bf, fun a o h hm hn => ?_, fun a o h => ?_, fun a o e => ?_, fun a ha => ?_, fun a ha => ?_, fun a ha => ?_⟩
  · refine w'.keep a o (w.keep a o h hm hn) (fun hp => ?_) fun hp => ?_
    · rcases w.own a (mem_paOf.mp hp) with z | z
      · exact hm z
      · rw [h] at z; cases z
    · rcases w.loc a (mem_loOf.mp hp) with z | z
      · exact hn z
      · rw [h] at z; cases z
  · obtain ⟨o', h'⟩ := w.there a o h
    exact w'.there a o' h'
  · rcases w'.new a o e with q | q
    · exact w.new a o q
    · right
      cases e2 : B.H a with
      | none => rfl
      | some u =>
        obtain ⟨o', h'⟩ := w.there a u e2
        have q : H a = none := q
        rw [q] at h'; cases h'
  · rcases w'.own a ha with q | q
    · exact w.own a (mem_paOf.mp q)
    · right
      cases e2 : B.H a with
      | none => rfl
      | some u =>
        obtain ⟨o', h'⟩ := w.there a u e2
        have q : H a = none := q
        rw [q] at h'; cases h'
  · rcases w'.loc a ha with q | q
    · exact w.loc a (mem_loOf.mp q)
    · right
      cases e2 : B.H a with
      | none => rfl
      | some u =>
        obtain ⟨o', h'⟩ := w.there a u e2
        have q : H a = none := q
        rw [q] at h'; cases h'
  · rcases w'.con a ha with q | q
    · exact w.con a (mem_coOf.mp q)
    · right
      cases e2 : B.H a with
      | none => rfl
      | some u =>
        obtain ⟨o', h'⟩ := w.there a u e2
        have q : H a = none := q
        rw [q] at h'; cases h'
def SApart (B : Base) (Γ : List Sl) (σ : St) (F H : Hp) (ρ : Env Γ) (D : Addr) : Prop := ∃ L, SRel Γ B.τ σ F H L ρ ∧ Wd B F H L ∧ (∀ k, (k, D) ∉ L) ∧ F D = none ∧ B.H D = none
theorem SApart.inv {B : Base} {Γ : List Sl} {σ : St} {F H : Hp} {ρ : Env Γ} {D : Addr} (S : SApart B Γ σ F H ρ D) : SInv B Γ σ F H ρ := let ⟨L, r, w, _⟩ := S; ⟨L, r, w⟩
theorem SInv.apart {B : Base} {Γ : List Sl} {σ : St} {F H : Hp} {ρ : Env Γ} {D : Addr} {o : HO} (I : SInv B Γ σ F H ρ) (hD : H D = none) : SApart B Γ σ F (upd H D o) ρ D := by
  obtain ⟨L, r, w⟩ := I
  have hn : ∀ k, (k, D) ∉ L := fun k hk => by
    obtain ⟨_, o, ho⟩ := w.fr k D hk
    rw [hD] at ho; cases ho
  refine ⟨L, r.ext (Ex.refl F) fun k a ha => upd_ne fun e => hn k (e ▸ ha), w.pext (Pext.own w.fh hD), hn, none_of w.fh hD, ?_⟩
  cases e : B.H D with
  | none => rfl
  | some u =>
    obtain ⟨o', h'⟩ := w.there D u e
    rw [hD] at h'; cases h'
theorem SApart.upd {B : Base} {Γ : List Sl} {σ : St} {F H : Hp} {ρ : Env Γ} {D : Addr} {o : HO} (S : SApart B Γ σ F H ρ D) : SApart B Γ σ F (upd H D o) ρ D := by
  obtain ⟨L, r, w, hn, hF, hB⟩ := S
  refine ⟨L, r.ext (Ex.refl F) fun k a ha => upd_ne fun e => hn k (e ▸ ha), ⟨w.nd, fun k a ha => ?_, fun a u e => ?_, w.bf, fun a u h h1 h2 => ?_, fun a u h => ?_, w.new, w.own, w.loc, w.con⟩, hn, hF, hB⟩
  · obtain ⟨h1, o', h2⟩ := w.fr k a ha
    exact ⟨h1, o', by
      have hne : a ≠ D := fun e => hn k (e ▸ ha)
      rw [upd_ne hne]; exact h2⟩
  · rw [upd_ne (ne_of_none e hF)]; exact w.fh a u e
  · rw [upd_ne (ne_of_none h hB)]; exact w.keep a u h h1 h2
  · rw [upd_ne (ne_of_none h hB)]; exact w.there a u h
theorem SApart.go {B : Base} {Γ : List Sl} {σ : St} {F H : Hp} {ρ : Env Γ} {D : Addr} {o : HO} (S : SApart B Γ σ F H ρ D) (hD : H D = some o) :
    ∃ B2 : Base, SInv B2 Γ σ F H ρ ∧ (∀ H', Frm B2 H' → Frm B H') ∧ ∀ (Γ' : List Sl) (σ' : St) (F' H' : Hp) (ρ' : Env Γ'), SInv B2 Γ' σ' F' H' ρ' → SApart B Γ' σ' F' H' ρ' D ∧ H' D = some o := by
  obtain ⟨L, r, w, hn, hF, hB⟩ := S
  refine ⟨B.re F H L, ⟨L, r, w.re⟩, fun H' f a u h h1 h2 => f a u (w.keep a u h h1 h2) (fun hp => ?_) fun hp => ?_, fun Γ' σ' F' H' ρ' ⟨L', r', w'⟩ => ?_⟩
  · rcases w.own a (mem_paOf.mp hp) with z | z
    · exact h1 z
    · rw [h] at z; cases z
  · rcases w.loc a (mem_loOf.mp hp) with z | z
    · exact h2 z
    · rw [h] at z; cases z
  · have k1 : H' D = some o := w'.keep D o hD (fun hp => hn _ (mem_paOf.mp hp)) fun hp => hn _ (mem_loOf.mp hp)
    have k2 : F' D = none := by
      cases e : F' D with
      | none => rfl
      | some u =>
        rcases w'.new D u e with z | z
        · have z : F D = some u := z
          rw [hF] at z; cases z
        · have z : H D = none := z
          rw [hD] at z; cases z
    refine ⟨⟨L', r', w.un w', fun k hk => ?_, k2, hB⟩, k1⟩
    cases k with
    | pa => rcases w'.own D hk with z | z
            · exact hn _ (mem_paOf.mp z)
            · have z : H D = none := z
              rw [hD] at z; cases z
    | lo => rcases w'.loc D hk with z | z
            · exact hn _ (mem_loOf.mp z)
            · have z : H D = none := z
              rw [hD] at z; cases z
    | co => rcases w'.con D hk with z | z
            · exact hn _ (mem_coOf.mp z)
            · have z : H D = none := z
              rw [hD] at z; cases z
end Pu
set_option Elab.async false
set_option linter.all false
set_option maxRecDepth 100000
set_option maxHeartbeats 4000000
namespace Pu
open PySem L2 Evl

/-! ### slots that nothing is known of -/
theorem SRel.agree {F H : Hp} : ∀ {Γ : List Sl} {τ σ σ2 : St} {L : Fps} {ρ : Env Γ}, SRel Γ τ σ F H L ρ → σ2.length = σ.length → (∀ (i : Nat) (s : Sl), Γ[i]? = some s → s ≠ Sl.no → σ2[i]? = σ[i]?) → SRel Γ τ σ2 F H L ρ
  | [], τ, σ, σ2, L, ρ, ⟨h1, h2⟩, hl, _ => ⟨by rw [h1] at hl; exact List.eq_nil_of_length_eq_zero hl, h2⟩
  | .no :: Γ, τ, σ, σ2, L, ρ, ⟨w, σ', e, h⟩, hl, k => by
    subst e
    cases σ2 with
    | nil => simp at hl
    | cons w2 σ3 => exact ⟨w2, σ3, rfl, SRel.agree h (by simpa using hl) fun i s hi hs => by simpa using k (i + 1) s (by simpa using hi) hs⟩
  | .da c :: Γ, τ, σ, σ2, L, ρ, ⟨w, σ', e, r, h⟩, hl, k => by
    subst e
    cases σ2 with
    | nil => simp at hl
    | cons w2 σ3 =>
      have e0 := k 0 (.da c) rfl (fun z => nomatch z)
      simp at e0
      subst e0
      exact ⟨w, σ3, rfl, r, SRel.agree h (by simpa using hl) fun i s hi hs => by simpa using k (i + 1) s (by simpa using hi) hs⟩
  | .m kd c :: Γ, τ, σ, σ2, L, ρ, ⟨w, σ', fp, L', e, e2, e3, r, h⟩, hl, k => by
    subst e
    cases σ2 with
    | nil => simp at hl
    | cons w2 σ3 =>
      have e0 := k 0 (.m kd c) rfl (fun z => nomatch z)
      simp at e0
      subst e0
      exact ⟨w, σ3, fp, L', rfl, e2, e3, r, SRel.agree h (by simpa using hl) fun i s hi hs => by simpa using k (i + 1) s (by simpa using hi) hs⟩
def Sl.isNo : Sl → Bool
  | .no => true
  | _ => false
def allNo (Γ : List Sl) (vs : List Nat) : Bool := vs.all fun i => match Γ[i]? with
  | some s => s.isNo
  | none => true
theorem wipe_get (σ : St) (i : Nat) : ∀ vs : List Nat, i ∉ vs → (wipe σ vs)[i]? = σ[i]?
  | [], _ => rfl
  | v :: vs, h => by
    have h1 : i ≠ v := fun e => h (by simp [e])
    have h2 : i ∉ vs := fun e => h (by simp [e])
    show ((wipe σ vs).set v none)[i]? = _
    rw [List.getElem?_set_ne (fun e => h1 e.symm), wipe_get σ i vs h2]
theorem wipe_in (σ : St) (i : Nat) : ∀ vs : List Nat, i ∈ vs → (wipe σ vs)[i]? = if i < σ.length then some none else none
  | v :: vs, h => by
    show ((wipe σ vs).set v none)[i]? = _
    by_cases e : v = i
    · subst e
      by_cases hl : v < σ.length
      · rw [if_pos hl, List.getElem?_set_self (by rw [wipe_length]; exact hl)]
      · rw [if_neg hl, List.getElem?_eq_none_iff.mpr (by rw [List.length_set, wipe_length]; omega)]
    · rw [List.getElem?_set_ne e]
      refine wipe_in σ i vs ?_
      rcases List.mem_cons.mp h with q | q
      · exact absurd q.symm e
      · exact q
theorem wipe_eq {σ σ2 : St} {vs : List Nat} (hl : σ2.length = σ.length) (h : ∀ i, i ∉ vs → σ2[i]? = σ[i]?) : wipe σ2 vs = wipe σ vs := by
  apply List.ext_getElem?
  intro i
  by_cases hi : i ∈ vs
  · rw [wipe_in _ _ _ hi, wipe_in _ _ _ hi, hl]
  · rw [wipe_get _ _ _ hi, wipe_get _ _ _ hi, h i hi]
theorem SRel.wiped {F H : Hp} {Γ : List Sl} {τ σ : St} {L : Fps} {ρ : Env Γ} {vs : List Nat} (hv : allNo Γ vs = true) (h : SRel Γ τ σ F H L ρ) : SRel Γ τ (wipe σ vs) F H L ρ :=
  h.agree (wipe_length _ _) fun i s hi hs => wipe_get _ _ _ fun hm => by
    have q := List.all_eq_true.mp hv i hm
    rw [hi] at q
    cases s with
    | no => exact hs rfl
    | da c => cases q
    | m k c => cases q
theorem SRel.unwiped {F H : Hp} {Γ : List Sl} {τ σ : St} {L : Fps} {ρ : Env Γ} {vs : List Nat} (hv : allNo Γ vs = true) (h : SRel Γ τ (wipe σ vs) F H L ρ) : SRel Γ τ σ F H L ρ :=
  h.agree (wipe_length _ _).symm fun i s hi hs => (wipe_get _ _ _ fun hm => by
    have q := List.all_eq_true.mp hv i hm
    rw [hi] at q
    cases s with
    | no => exact hs rfl
    | da c => cases q
    | m k c => cases q).symm
theorem SApart.wiped {B : Base} {F H : Hp} {Γ : List Sl} {σ : St} {ρ : Env Γ} {vs : List Nat} {D : Addr} (hv : allNo Γ vs = true) (h : SApart B Γ σ F H ρ D) : SApart B Γ (wipe σ vs) F H ρ D := let ⟨L, r, w, x⟩ := h; ⟨L, r.wiped hv, w, x⟩
theorem SApart.unwiped {B : Base} {F H : Hp} {Γ : List Sl} {σ : St} {ρ : Env Γ} {vs : List Nat} {D : Addr} (hv : allNo Γ vs = true) (h : SApart B Γ (wipe σ vs) F H ρ D) : SApart B Γ σ F H ρ D := let ⟨L, r, w, x⟩ := h; ⟨L, r.unwiped hv, w, x⟩
structure Bk (Γ1 Γ0 : List Sl) where
  f : Env Γ1 → Env Γ0
  ok : ∀ {τ σ : St} {F H : Hp} {L : Fps} {ρ : Env Γ1}, SRel Γ1 τ σ F H L ρ → ∃ L', SRel Γ0 τ σ F H L' (f ρ) ∧ L'.Sublist L
def Bk.id {Γ : List Sl} : Bk Γ Γ := ⟨fun ρ => ρ, fun h => ⟨_, h, List.Sublist.refl _⟩⟩
def Bk.drop {Γ Γ1 Γ0 : List Sl} {i : Nat} {s : Sl} (b : Bk Γ1 Γ0) (u : Up Γ i s .no Γ1) : Bk Γ Γ0 := ⟨fun ρ => b.f (u.set ρ ()), fun h => by
  obtain ⟨L1, h1, s1⟩ := h.drop u
  obtain ⟨L2, h2, s2⟩ := b.ok h1
  exact ⟨L2, h2, s2.trans s1⟩⟩
theorem Bk.inv {B : Base} {Γ Γ0 : List Sl} {σ : St} {F H : Hp} {ρ : Env Γ} (b : Bk Γ Γ0) (I : SInv B Γ σ F H ρ) : SInv B Γ0 σ F H (b.f ρ) := by
  obtain ⟨L, r, w⟩ := I
  obtain ⟨L', r', s⟩ := b.ok r
  exact ⟨L', r', w.sub s⟩
theorem Bk.apart {B : Base} {Γ Γ0 : List Sl} {σ : St} {F H : Hp} {ρ : Env Γ} {D : Addr} (b : Bk Γ Γ0) (I : SApart B Γ σ F H ρ D) : SApart B Γ0 σ F H (b.f ρ) D := by
  obtain ⟨L, r, w, hn, x⟩ := I
  obtain ⟨L', r', s⟩ := b.ok r
  exact ⟨L', r', w.sub s, fun k hk => hn k (s.subset hk), x⟩
structure Hd (Γ Γ0 : List Sl) where
  h : Env Γ → Env Γ0
  sh : Env Γ0 → Env Γ → Env Γ
  ok : ∀ {τ σ : St} {F H : Hp} {L : Fps} {ρ : Env Γ}, SRel Γ τ σ F H L ρ → SRel Γ0 τ σ F H L (h ρ)
  re : ∀ {τ σ : St} {F H F' H' : Hp} {L L' : Fps} {ρ : Env Γ} {ρ0 : Env Γ0}, SRel Γ τ σ F H L ρ → Ex F F' → SRel Γ0 τ σ F' H' L' ρ0 → SRel Γ τ σ F' H' L' (sh ρ0 ρ)
def Hd.id {Γ : List Sl} : Hd Γ Γ := ⟨fun ρ => ρ, fun ρ0 _ => ρ0, fun h => h, fun _ _ h => h⟩
theorem SRel.hide {F H : Hp} {c : DCod} : ∀ {Γ Γ' : List Sl} {i : Nat} (u : Up Γ i (.da c) .no Γ') {τ σ : St} {L : Fps} {ρ : Env Γ}, SRel Γ τ σ F H L ρ → SRel Γ' τ σ F H L (u.set ρ ())
  | _, _, _, .z, τ, σ, L, ρ, ⟨w, σ', e, _, h⟩ => ⟨some w, σ', e, h⟩
  | .no :: Γ, _, _, .s q, τ, σ, L, ρ, ⟨w, σ', e, h⟩ => ⟨w, σ', e, SRel.hide q h⟩
  | .da c' :: Γ, _, _, .s q, τ, σ, L, ρ, ⟨w, σ', e, hr, h⟩ => ⟨w, σ', e, hr, SRel.hide q h⟩
  | .m k c' :: Γ, _, _, .s q, τ, σ, L, ρ, ⟨w, σ', fp, L0, e, e2, e3, hr, h⟩ => ⟨w, σ', fp, L0, e, e2, e3, hr, SRel.hide q h⟩
theorem SRel.unhide {F H F' H' : Hp} {c : DCod} (eF : Ex F F') : ∀ {Γ Γ' : List Sl} {i : Nat} (u : Up Γ i (.da c) .no Γ') {τ σ : St} {L L' : Fps} {ρ : Env Γ} {ρ0 : Env Γ'}, SRel Γ τ σ F H L ρ → SRel Γ' τ σ F' H' L' ρ0 → SRel Γ τ σ F' H' L' (u.inv.set ρ0 (u.old ρ))
  | _, _, _, .z, τ, σ, L, L', ρ, ρ0, ⟨w, σ', e, r, h⟩, ⟨w2, σ2, e2, h2⟩ => ⟨w, σ', e, c.ext r eF, by rw [e] at e2; cases e2; exact h2⟩
  | .no :: Γ, _, _, .s q, τ, σ, L, L', ρ, ρ0, ⟨w, σ', e, h⟩, ⟨w2, σ2, e2, h2⟩ => ⟨w2, σ2, e2, SRel.unhide eF q (by rw [e] at e2; cases e2; exact h) h2⟩
  | .da c' :: Γ, _, _, .s q, τ, σ, L, L', ρ, ρ0, ⟨w, σ', e, hr, h⟩, ⟨w2, σ2, e2, hr2, h2⟩ => ⟨w2, σ2, e2, hr2, SRel.unhide eF q (by rw [e] at e2; cases e2; exact h) h2⟩
  | .m k c' :: Γ, _, _, .s q, τ, σ, L, L', ρ, ρ0, ⟨w, σ', fp, L0, e, _, _, hr, h⟩, ⟨w2, σ2, fp2, L2, e2, g2, g3, hr2, h2⟩ => ⟨w2, σ2, fp2, L2, e2, g2, g3, hr2, SRel.unhide eF q (by rw [e] at e2; cases e2; exact h) h2⟩
def Hd.one {Γ Γ1 Γ0 : List Sl} {i : Nat} {c : DCod} (b : Hd Γ1 Γ0) (u : Up Γ i (.da c) .no Γ1) : Hd Γ Γ0 := ⟨fun ρ => b.h (u.set ρ ()), fun ρ0 ρ => u.inv.set (b.sh ρ0 (u.set ρ ())) (u.old ρ), fun h => b.ok (h.hide u),
  fun h e h0 => SRel.unhide e u h (b.re (h.hide u) e h0)⟩

/-! ### comprehensions -/
def compL {α β S : Type} (body : α → S → Res (Option β × S)) : List α → S → Option (List β × S)
  | [], s => some ([], s)
  | x :: xs, s => match body x s with
    | .ok (o, s1) => (match compL body xs s1 with
      | some (ys, s2) => some (o.toList ++ ys, s2)
      | none => none)
    | _ => none
theorem compL_cons {α β S : Type} {body : α → S → Res (Option β × S)} {x : α} {xs : List α} {s s2 : S} {ys : List β} (h : compL body (x :: xs) s = some (ys, s2)) : ∃ o s1 ys', body x s = .ok (o, s1) ∧ compL body xs s1 = some (ys', s2) ∧ ys = o.toList ++ ys' := by
  unfold compL at h
  split at h
  · rename_i o s1 e
    split at h
    · rename_i ys' s2' e2
      cases h
      exact ⟨o, s1, ys', e, e2, rfl⟩
    · cases h
  · cases h
section
variable {p : Bool} {E : XK} {XC : Str → Value} {Rt : Ret} {Γ Γ' Γ0 Γ1 Γ2 ΓL : List Sl} {te ta tb tc : TE} {tt tu : TT} {tA : TA} {ti : TI} {tg : TG} {a b c d : DCod} {m : Cod} {cs : List DCod} {ts us : TS}
theorem pts_et : EvT p E XC Γ (fun σ H Q => Q true H) (fun R k ρ => k true ρ) := fun B σ F H ρ I R G hG k Q g q => q true ρ F H I (Gt.refl I.fh) g
theorem rs0 {R : Type} {B : Base} {G : Res R → Prop} (h1 : ¬ G .bad) (h2 : ∀ n, ¬ G (.exc n)) : Rs E0 XC B G := ⟨h1, fun n _ g _ => (h2 n g).elim⟩
theorem en_lc {vs is : List Nat} {q : Bool} {f : Env Γ0 → a.α → Env Γ1} {T0 : (R : Type) → (List a.α → Env Γ → Res R) → Env Γ → Res R} {Tt : (R : Type) → (Bool → Env Γ1 → Res R) → Env Γ1 → Res R} {Te : (R : Type) → (c.α → Env Γ1 → Res R) → Env Γ1 → Res R}
    (hd : Hd Γ Γ0) (hv : allNo Γ0 vs = true) (his : ∀ i, i ∈ is → i ∈ vs) (bk : Bk Γ1 Γ0) (h : EvI false E XC Γ ti a T0) (ht : TgE Γ0 tg a Γ1 f is) (hc : EvT q E0 XC Γ1 tt Tt) (he : EvE q E0 XC Γ1 te c Te) :
    EvN false E XC Γ (tLc ti tg tt te vs) (mLst c) (fun R k ρ => T0 R (fun xs ρ => opt (compL (fun x ρ0 => Tt _ (fun b ρ1 => if b = true then Te _ (fun y ρ2 => .ok (some y, bk.f ρ2)) ρ1 else .ok (none, bk.f ρ1)) (f ρ0 x)) xs (hd.h ρ)) fun ys => k ys.1 (hd.sh ys.2 ρ)) ρ) := fun B σ F H ρ I R G hG k Q g qq => by
  refine h B σ F H ρ I R G hG _ _ g fun xs ρ1 J F1 H1 I1 e1 w g1 hz D hD => ?_
  obtain ⟨Y, w, hy⟩ := w.ex
  generalize hcl : compL (fun x ρ0 => Tt _ (fun b ρ1 => if b = true then Te _ (fun y ρ2 => Res.ok (some y, bk.f ρ2)) ρ1 else Res.ok (none, bk.f ρ1)) (f ρ0 x)) xs (hd.h ρ1) = cl at g1
  cases cl with
  | none => exact absurd g1 hG.1
  | some ys =>
  obtain ⟨ys, ρe⟩ := ys
  have g1 : G (k ys (hd.sh ρe ρ1)) := g1
  have S1 : SApart B Γ σ F1 (upd H1 D (.lst [])) ρ1 D := I1.apart hD
  obtain ⟨L1, r1, w1, hn1, hF1, hB1⟩ := S1
  have S0 : SApart B Γ0 σ F1 (upd H1 D (.lst [])) (hd.h ρ1) D := ⟨L1, hd.ok r1, w1, hn1, hF1, hB1⟩
  refine lc_it w (fun i H' => i ≤ xs.length ∧ ∃ F' ρ0 acc vs' rest, SApart B Γ0 (wipe σ vs) F' H' ρ0 D ∧ Ex F1 F' ∧ H' D = some (.lst vs') ∧ PV c F' vs' acc ∧ acc.length ≤ i ∧ compL (fun x ρ0 => Tt _ (fun b ρ1 => if b = true then Te _ (fun y ρ2 => Res.ok (some y, bk.f ρ2)) ρ1 else Res.ok (none, bk.f ρ1)) (f ρ0 x)) (xs.drop i) ρ0 = some (rest, ρe) ∧ ys = acc ++ rest)
    ⟨Nat.zero_le _, F1, hd.h ρ1, [], [], ys, S0.wiped hv, Ex.refl _, upd_same, .nil, Nat.le_refl _, hcl, rfl⟩ (fun i H' _ ⟨_, F', _, _, _, _, S, e', _⟩ => e'.trans S.inv.fh) ?_ ?_
  · rintro i v H' H2 hi ⟨_, F', ρ0, acc, vs', rest, S, e', hDl, pv, hacc, hcl', hys⟩ y
    obtain ⟨F2, x, hx, pp, r⟩ := hy i H' v H2 F' y e' S.inv.fh
    obtain ⟨hlt, hxe⟩ := List.getElem?_eq_some_iff.mp hx
    have ed : xs.drop i = x :: xs.drop (i + 1) := by rw [← hxe]; exact (List.drop_eq_getElem_cons hlt)
    rw [ed] at hcl'
    obtain ⟨o, ρ3, ys', hbody, hrest, hrr⟩ := compL_cons hcl'
    obtain ⟨B2, I2, hfr, back⟩ := S.go hDl
    have I2' := I2.pext pp
    refine ht B2 _ F2 H2 ρ0 v x I2' r _ fun σ3 I3 hag hln => ⟨?_, ?_⟩
    · have ew : wipe σ3 vs = wipe (wipe σ vs) vs := wipe_eq hln fun j hj => hag j fun z => hj (his j z)
      rw [ew]
      exact wipe_eq (wipe_length _ _) fun j hj => wipe_get _ _ _ hj
    · refine hc B2 σ3 F2 H2 _ I3 _ (fun r => r = Res.ok (o, ρ3)) (rs0 (fun z => nomatch z) fun n z => nomatch z) _ _ hbody fun bb ρ4 F4 H4 I4 e4 g4 => ?_
      have hup : ∀ {Fz Hz : Hp} {ρz : Env Γ1}, SInv B2 Γ1 σ3 Fz Hz ρz → SApart B Γ0 (wipe σ vs) Fz Hz (bk.f ρz) D ∧ Hz D = some (.lst vs') := fun {Fz Hz ρz} Iz => by
        obtain ⟨Sz, hz⟩ := back _ _ _ _ _ (bk.inv Iz)
        have e3 : wipe σ3 vs = wipe σ vs := by
          have ew : wipe σ3 vs = wipe (wipe σ vs) vs := wipe_eq hln fun j hj => hag j fun z => hj (his j z)
          rw [ew]
          exact wipe_eq (wipe_length _ _) fun j hj => wipe_get _ _ _ hj
        have S2 := Sz.wiped hv
        rw [e3] at S2
        exact ⟨S2, hz⟩
      have hsl := sizeLine_eq
      cases bb with
      | true =>
        rw [if_pos rfl] at g4 ⊢
        refine he B2 σ3 F4 H4 ρ4 I4 _ (fun r => r = Res.ok (o, ρ3)) (rs0 (fun z => nomatch z) fun n z => nomatch z) _ _ g4 fun y ρ5 u F5 H5 I5 e5 r5 g5 => ?_
        cases g5
        obtain ⟨S5, h5⟩ := hup I5
        refine ⟨vs', h5, ?_, hlt, F5, _, acc ++ [y], vs' ++ [u], ys', S5.upd, ((e'.trans pp.ff).trans e4.1).trans e5.1, upd_same, (pv.ext ((pp.ff.trans e4.1).trans e5.1)).append (.cons r5 .nil), ?_, hrest, ?_⟩
        · rw [pv.length]; omega
        · rw [List.length_append]; show _ + 1 ≤ _; omega
        · rw [hys, hrr]; simp
      | false =>
        rw [if_neg (by decide)] at g4 ⊢
        cases g4
        obtain ⟨S5, h5⟩ := hup I4
        exact ⟨hlt, F4, _, acc, vs', ys', S5, (e'.trans pp.ff).trans e4.1, h5, pv.ext (pp.ff.trans e4.1), by omega, hrest, by rw [hys, hrr]; simp⟩
  · rintro H' ⟨_, F', ρ0, acc, vs', rest, S, e', hDl, pv, hacc, hcl', hys⟩
    rw [List.drop_length] at hcl'
    cases hcl'
    rw [List.append_nil] at hys
    subst hys
    have S2 := S.unwiped hv
    obtain ⟨L2, r2, w2, hn2, hF2, hB2⟩ := S2
    have r3 : SRel Γ B.τ σ F' H' L2 (hd.sh ρe ρ1) := hd.re r1 e' r2
    -- the heap without the new list
    have hne : ∀ a, a ≠ D → (fun b => if b = D then none else H' b : Hp) a = H' a := fun a ha => if_neg ha
    have hDn : (fun b => if b = D then none else H' b : Hp) D = none := if_pos rfl
    have w3 : Wd B F' (fun b => if b = D then none else H' b) L2 := ⟨w2.nd, fun k a ha => by
        obtain ⟨q1, o, q2⟩ := w2.fr k a ha
        exact ⟨q1, o, (hne a fun z => hn2 k (z ▸ ha)).trans q2⟩, fun a u hu => (hne a (ne_of_none hu hF2)).trans (w2.fh a u hu), w2.bf, fun a u hu h1 h2 => (hne a (ne_of_none hu hB2)).trans (w2.keep a u hu h1 h2),
        fun a u hu => by
          obtain ⟨o, ho⟩ := w2.there a u hu
          exact ⟨o, (hne a (ne_of_none hu hB2)).trans ho⟩, w2.new, w2.own, w2.loc, w2.con⟩
    have r4 : SRel Γ B.τ σ F' (fun b => if b = D then none else H' b) L2 (hd.sh ρe ρ1) := r3.ext (Ex.refl _) fun k a ha => hne a fun z => hn2 k (z ▸ ha)
    refine qq ys _ (.ref D) [D] F' _ F' H' ⟨L2, r4, w3⟩ ⟨e1.1.trans e', fun z => nomatch z⟩ ⟨fun a o ho => ?_, Ex.refl _, w2.fh, fun a o ho => .inl ho⟩ ⟨by simp, fun a ha => ?_⟩ ⟨D, vs', rfl, rfl, hDl, pv, ?_⟩ g1
    · by_cases ha : a = D
      · subst ha
        have ho : (none : Option HO) = some o := hDn.symm.trans ho
        cases ho
      · exact (hne a ha).symm.trans ho
    · have ha : a = D := by simpa using ha
      subst ha
      exact ⟨hDn, hF2, _, hDl⟩
    · have := hacc; omega
end
end Pu
set_option Elab.async false
set_option linter.all false
set_option maxRecDepth 100000
set_option maxHeartbeats 4000000
namespace Pu
open PySem L2 Evl

/-! ### == of data -/
structure Dq (K : PySem.W.Frag) (n : Nat) (c : DCod) where
  toD : c.α → PyData
  dec : DecidableEq c.α
  dp : ∀ {F H : Hp} {v : V} {x : c.α}, Ex F H → c.rel F v x → Dp K H v (toD x)
  lay : ∀ x, (toD x).canLay0 = true
  dep : ∀ x, (toD x).depth ≤ n
  eqv : ∀ x y, PyData.eqv (toD x) (toD y) = decide (x = y)
section
variable {K : PySem.W.Frag}
def dqInt : Dq K 0 dInt := ⟨fun i => .int i, inferInstance, fun _ h => by have h : _ = V.int _ := h; rw [h]; exact .int _, fun _ => by simp [PyData.canLay0], fun _ => by simp [PyData.depth], fun x y => by
  show ((x : Int) == y) = decide ((x : Int) = y)
  by_cases h : (x : Int) = y
  · rw [h]; simp
  · rw [decide_eq_false h]; exact beq_eq_false_iff_ne.mpr h⟩
def optDec {α : Type} (d : DecidableEq α) : DecidableEq (Option α) := inferInstance
def optD {c : DCod} {n : Nat} (q : Dq K n c) : Option c.α → PyData
  | none => .none
  | some y => q.toD y
def dqOpt {c : DCod} {n : Nat} (q : Dq K n c) (h1 : ∀ y, PyData.eqv .none (q.toD y) = false) (h2 : ∀ y, PyData.eqv (q.toD y) .none = false) : Dq K n (dOpt c) := ⟨optD q, optDec q.dec, fun {F H v x} e h => by
    cases x with
    | none => have h : v = V.non := h; rw [h]; exact .non
    | some y => exact q.dp e h.1, fun x => by
    cases x with
    | none => simp [optD, PyData.canLay0]
    | some y => exact q.lay y, fun x => by
    cases x with
    | none => simp [optD, PyData.depth]
    | some y => exact q.dep y, fun x y => by
    have d := q.dec
    cases x with
    | none => cases y with
      | none => rfl
      | some y => show PyData.eqv .none (q.toD y) = _; rw [h1]; rfl
    | some x => cases y with
      | none => show PyData.eqv (q.toD x) .none = _; rw [h2]; rfl
      | some y =>
        show PyData.eqv (q.toD x) (q.toD y) = _
        rw [q.eqv]
        by_cases e : x = y
        · rw [e]; simp
        · exact (@decide_eq_false (x = y) (q.dec x y) e).trans (@decide_eq_false _ (optDec q.dec (some x) (some y)) (fun z => e (Option.some.inj z))).symm⟩
def dqOI : Dq K 0 (dOpt dInt) := dqOpt dqInt (fun _ => rfl) (fun _ => rfl)
theorem dpAll {c : DCod} {n : Nat} (q : Dq K n c) {F H : Hp} (e : Ex F H) : ∀ {vs : List V} {xs : List c.α}, PV c F vs xs → DpAll K H vs (xs.map q.toD)
  | _, _, .nil => .nil
  | _, _, .cons r t => .cons (q.dp e r) (dpAll q e t)
theorem layAll {c : DCod} {n : Nat} (q : Dq K n c) : ∀ xs : List c.α, PyData.canLayAll0 (xs.map q.toD) = true
  | [] => by simp [PyData.canLayAll0]
  | x :: xs => by simp [PyData.canLayAll0, q.lay x, layAll q xs]
theorem depAll {c : DCod} {n : Nat} (q : Dq K n c) : ∀ xs : List c.α, PyData.depthAll (xs.map q.toD) ≤ n
  | [] => by simp [PyData.depthAll]
  | x :: xs => by
    have h1 := depAll q xs
    have h2 := q.dep x
    simp only [List.map_cons, PyData.depthAll]
    omega
theorem eqvAll_dec {c : DCod} {n : Nat} (q : Dq K n c) : ∀ xs ys : List c.α, PyData.eqvAll (xs.map q.toD) (ys.map q.toD) = (@decide (xs = ys) (@instDecidableEqList _ q.dec xs ys))
  | [], [] => rfl
  | [], y :: ys => rfl
  | x :: xs, [] => rfl
  | x :: xs, y :: ys => by
    have d := q.dec
    show (PyData.eqv (q.toD x) (q.toD y) && PyData.eqvAll (xs.map q.toD) (ys.map q.toD)) = _
    rw [q.eqv, eqvAll_dec q xs ys]
    by_cases h1 : x = y
    · by_cases h2 : xs = ys
      · subst h1 h2; simp
      · subst h1; simp [h2]
    · simp [h1]
def dqTup {c : DCod} {n : Nat} (q : Dq K n c) : Dq K (n + 1) (dTup c) := ⟨fun xs => .tuple (xs.map q.toD), @instDecidableEqList _ q.dec, fun e h => by
    obtain ⟨a, vs, h1, h2, h3, h4⟩ := h
    rw [h1]
    exact .tup (SqT.rd e h2) (dpAll q e h3), fun xs => by simp only [PyData.canLay0]; exact layAll q xs, fun xs => by simp only [PyData.depth]; have := depAll q xs; omega, fun x y => eqvAll_dec q x y⟩
def dqLst {c : DCod} {n : Nat} (q : Dq K n c) : Dq K (n + 1) (dLst c) := ⟨fun xs => .list (xs.map q.toD), @instDecidableEqList _ q.dec, fun e h => by
    obtain ⟨a, vs, h1, h2, h3, h4⟩ := h
    rw [h1]
    exact .lst (SqL.of (e a _ h2)) (dpAll q e h3), fun xs => by simp only [PyData.canLay0]; exact layAll q xs, fun xs => by simp only [PyData.depth]; have := depAll q xs; omega, fun x y => eqvAll_dec q x y⟩
def dqP2 {a b : DCod} {n : Nat} (q : Dq K n a) (r : Dq K n b) : Dq K (n + 1) (dP2 a b) := ⟨fun x => .tuple [q.toD x.1, r.toD x.2], @instDecidableEqProd _ _ q.dec r.dec, fun e h => by
    obtain ⟨p, u, w, h1, h2, h3, h4⟩ := h
    rw [h1]
    exact .tup (SqT.of (e p _ h2)) (.cons (q.dp e h3) (.cons (r.dp e h4) .nil)), fun x => by simp [PyData.canLay0, PyData.canLayAll0, q.lay, r.lay], fun x => by
    have h1 := q.dep x.1
    have h2 := r.dep x.2
    simp only [PyData.depth, PyData.depthAll]
    omega, fun x y => by
    have d1 := q.dec
    have d2 := r.dec
    show (PyData.eqv (q.toD x.1) (q.toD y.1) && (PyData.eqv (r.toD x.2) (r.toD y.2) && true)) = _
    rw [q.eqv, r.eqv]
    obtain ⟨x1, x2⟩ := x
    obtain ⟨y1, y2⟩ := y
    by_cases h1 : x1 = y1
    · by_cases h2 : x2 = y2
      · subst h1 h2; simp
      · subst h1; simp [h2]
    · simp [h1]⟩
theorem Dq.shaped {c : DCod} {n : Nat} (q : Dq K n c) (hn : n ≤ 64) (x : c.α) : SeqAt.shaped (q.toD x) = true := by
  show ((q.toD x).canLay0 && decide ((q.toD x).depth ≤ 64)) = true
  rw [Bool.and_eq_true]
  exact ⟨q.lay x, decide_eq_true (by have := q.dep x; omega)⟩
theorem o_eq {c : DCod} {n : Nat} (q : Dq K n c) (hn : n ≤ 64) : Op2 (rEqD K) c c dBl (fun x y => @decide (x = y) (q.dec x y)) := fun F H v w x y Q e h1 h2 k =>
  ⟨q.toD x, q.toD y, q.dp e h1, q.dp e h2, q.shaped hn x, q.shaped hn y, by rw [q.eqv]; exact k _ F H (Pext.refl e) rfl⟩
theorem o_ne {c : DCod} {n : Nat} (q : Dq K n c) (hn : n ≤ 64) : Op2 (rNeD K) c c dBl (fun x y => !@decide (x = y) (q.dec x y)) := fun F H v w x y Q e h1 h2 k =>
  ⟨q.toD x, q.toD y, q.dp e h1, q.dp e h2, q.shaped hn x, q.shaped hn y, by rw [q.eqv]; exact k _ F H (Pext.refl e) rfl⟩
/-! ### numbers -/
theorem o_int {g : Int → Int → Int} : Op2 (rI0 fun i j => .int (g i j)) dInt dInt dInt g := fun F H v w x y Q e h1 h2 k => ⟨x, y, h1, h2, k _ F H (Pext.refl e) rfl⟩
theorem o_cmp {g : Int → Int → Bool} : Op2 (rI0 fun i j => .bl (g i j)) dInt dInt dBl g := fun F H v w x y Q e h1 h2 k => ⟨x, y, h1, h2, k _ F H (Pext.refl e) rfl⟩
theorem o_intC {C : Int → Int → Prop} [∀ i j, Decidable (C i j)] {g : Int → Int → Int} : Op2P (rI C fun i j => .int (g i j)) dInt dInt dInt (fun x y => if C x y then some (g x y) else none) := fun F H v w x y z Q e h1 h2 hz k => by
  have hz : (if C x y then some (g x y) else none) = some z := hz
  by_cases hc : C x y
  · rw [if_pos hc] at hz
    cases hz
    exact ⟨x, y, h1, h2, hc, k _ F H (Pext.refl e) rfl⟩
  · rw [if_neg hc] at hz; cases hz
instance : ∀ i j, Decidable (CMul i j) := fun i j => by unfold CMul; exact inferInstance
instance : ∀ i j, Decidable (CDiv i j) := fun i j => by unfold CDiv; exact inferInstance
instance : ∀ i j, Decidable (CPow i j) := fun i j => by unfold CPow; exact inferInstance
theorem o_mod : Op2P (rI (fun _ j => 0 < j) fun i j => .int (i % j)) dInt dInt dInt (fun x y => if 0 < y then some (x % y) else none) := o_intC
theorem o_fdiv : Op2P (rI CDiv fun i j => .int (i / j)) dInt dInt dInt (fun x y => if CDiv x y then some (x / y) else none) := o_intC
theorem o_mul : Op2P (rI CMul fun i j => .int (i * j)) dInt dInt dInt (fun x y => if CMul x y then some (x * y) else none) := o_intC
theorem o_pow : Op2P (rI CPow fun i j => .int (i ^ j.toNat)) dInt dInt dInt (fun x y => if CPow x y then some (x ^ y.toNat) else none) := o_intC
theorem o_isN {c : DCod} : Op2 (fun x y H Q => y = .non ∧ Q (.bl (decide (x = .non))) H) (dOpt c) dNon dBl (fun x _ => x.isNone) := fun F H v w x y Q e h1 h2 k => by
  refine ⟨h2, ?_⟩
  cases x with
  | none => have h1 : v = V.non := h1; subst h1; exact k _ F H (Pext.refl e) rfl
  | some y => rw [decide_eq_false h1.2]; exact k _ F H (Pext.refl e) rfl
theorem o_notN {c : DCod} : Op2 (fun x y H Q => y = .non ∧ Q (.bl (!decide (x = .non))) H) (dOpt c) dNon dBl (fun x _ => x.isSome) := fun F H v w x y Q e h1 h2 k => by
  refine ⟨h2, ?_⟩
  cases x with
  | none => have h1 : v = V.non := h1; subst h1; exact k _ F H (Pext.refl e) rfl
  | some y => rw [decide_eq_false h1.2]; exact k _ F H (Pext.refl e) rfl
def absI (i : Int) : Int := if i < 0 then -i else i
theorem o_abs : Op1b (fun v H Q => ∃ i, v = [V.int i] ∧ Q (.int (if i < 0 then -i else i)) H) dInt dInt absI := fun F H v x Q e h k => ⟨x, by rw [show v = V.int x from h], k _ F H (Pext.refl e) rfl⟩
theorem o_intI : Op1b (fun v H Q => (∃ i, v = [V.int i] ∧ Q (.int i) H) ∨ ∃ b, v = [V.bl b] ∧ Q (.int (if b then 1 else 0)) H) dInt dInt (fun x => x) := fun F H v x Q e h k => .inl ⟨x, by rw [show v = V.int x from h], k _ F H (Pext.refl e) rfl⟩
theorem o_intB : Op1b (fun v H Q => (∃ i, v = [V.int i] ∧ Q (.int i) H) ∨ ∃ b, v = [V.bl b] ∧ Q (.int (if b then 1 else 0)) H) dBl dInt (fun x => if x then 1 else 0) := fun F H v x Q e h k => .inr ⟨x, by rw [show v = V.bl x from h], k _ F H (Pext.refl e) rfl⟩
/-! ### lists and tuples that are read -/
theorem o_lenL {c : DCod} : Op1b (fun v H Q => ∃ x n, v = [x] ∧ LenV K x H n ∧ Q (.int n) H) (dLst c) dInt (fun xs => (xs.length : Int)) := fun F H v x Q e h k => by
  obtain ⟨a, vs, rfl, h2, h3, h4⟩ := h
  exact ⟨_, vs.length, rfl, .inl ⟨vs, SqL.of (e a _ h2), rfl⟩, by rw [h3.length]; exact k _ F H (Pext.refl e) rfl⟩
theorem o_lenT {c : DCod} : Op1b (fun v H Q => ∃ x n, v = [x] ∧ LenV K x H n ∧ Q (.int n) H) (dTup c) dInt (fun xs => (xs.length : Int)) := fun F H v x Q e h k => by
  obtain ⟨a, vs, rfl, h2, h3, h4⟩ := h
  exact ⟨_, vs.length, rfl, .inr ⟨vs, SqT.rd e h2, rfl⟩, by rw [h3.length]; exact k _ F H (Pext.refl e) rfl⟩
theorem PV.atI {c : DCod} {F : Hp} {vs : List V} {xs : List c.α} {i : Int} {x : c.α} (h : PV c F vs xs) (hx : L2.atI xs i = some x) : ∃ v, L2.atI vs i = some v ∧ c.rel F v x := by
  unfold L2.atI at hx ⊢
  rw [h.length]
  cases e : ixN xs.length i with
  | none => rw [e] at hx; cases hx
  | some j => rw [e] at hx; exact h.get hx
theorem o_ixL {c : DCod} : Op2P (rIxL K) (dLst c) dInt c (fun xs i => L2.atI xs i) := fun F H v w x y z Q e h1 h2 hz k => by
  obtain ⟨a, vs, rfl, g2, g3, g4⟩ := h1
  obtain ⟨u, q1, q2⟩ := g3.atI hz
  exact ⟨a, vs, y, u, rfl, h2, SqL.of (e a _ g2), q1, k u F H (Pext.refl e) q2⟩
theorem o_ixT {c : DCod} : Op2P (rIxT K) (dTup c) dInt c (fun xs i => L2.atI xs i) := fun F H v w x y z Q e h1 h2 hz k => by
  obtain ⟨a, vs, rfl, g2, g3, g4⟩ := h1
  obtain ⟨u, q1, q2⟩ := g3.atI hz
  exact ⟨a, vs, y, u, rfl, h2, SqT.rd e g2, q1, k u F H (Pext.refl e) q2⟩
theorem o_p20 {a b : DCod} : Op2P (rIxT K) (dP2 a b) dInt a (fun x i => if i = 0 then some x.1 else none) := fun F H v w x y z Q e h1 h2 hz k => by
  obtain ⟨p, u, t, rfl, g2, g3, g4⟩ := h1
  have hz : (if (y : Int) = 0 then some x.1 else none) = some z := hz
  by_cases hy : (y : Int) = 0
  · rw [if_pos hy] at hz; cases hz
    exact ⟨p, [u, t], y, u, rfl, h2, SqT.of (e p _ g2), by rw [hy]; rfl, k u F H (Pext.refl e) g3⟩
  · rw [if_neg hy] at hz; cases hz
theorem o_p21 {a b : DCod} : Op2P (rIxT K) (dP2 a b) dInt b (fun x i => if i = 1 then some x.2 else none) := fun F H v w x y z Q e h1 h2 hz k => by
  obtain ⟨p, u, t, rfl, g2, g3, g4⟩ := h1
  have hz : (if (y : Int) = 1 then some x.2 else none) = some z := hz
  by_cases hy : (y : Int) = 1
  · rw [if_pos hy] at hz; cases hz
    exact ⟨p, [u, t], y, t, rfl, h2, SqT.of (e p _ g2), by rw [hy]; rfl, k t F H (Pext.refl e) g4⟩
  · rw [if_neg hy] at hz; cases hz
structure Fl (c : DCod) where
  dec : DecidableEq c.α
  flat : ∀ {F : Hp} {v : V} {x : c.α}, c.rel F v x → flatV v = true
  eq : ∀ {F : Hp} {v w : V} {x y : c.α}, c.rel F v x → c.rel F w y → eqV v w = decide (x = y)
def flOI : Fl (dOpt dInt) := ⟨inferInstance, fun {F v x} h => by
  cases x with
  | none => rw [show v = V.non from h]; rfl
  | some y => rw [show v = V.int y from h.1]; rfl, fun {F v w x y} h1 h2 => by
  cases x with
  | none =>
    rw [show v = V.non from h1]
    cases y with
    | none => rw [show w = V.non from h2]; rfl
    | some y => rw [show w = V.int y from h2.1]; rfl
  | some x =>
    rw [show v = V.int x from h1.1]
    cases y with
    | none => rw [show w = V.non from h2]; rfl
    | some y =>
      rw [show w = V.int y from h2.1]
      show ((x : Int) == y) = decide (some (x : Int) = some y)
      by_cases h : (x : Int) = y
      · rw [h]; simp
      · rw [decide_eq_false (fun z => h (Option.some.inj z))]; exact beq_eq_false_iff_ne.mpr h⟩
theorem fl_all {c : DCod} (q : Fl c) {F : Hp} : ∀ {vs : List V} {xs : List c.α}, PV c F vs xs → vs.all flatV = true
  | _, _, .nil => rfl
  | _, _, .cons r t => by rw [List.all_cons, q.flat r, fl_all q t]; rfl
theorem fl_in {c : DCod} (q : Fl c) {F : Hp} {v : V} {x : c.α} (r : c.rel F v x) : ∀ {vs : List V} {xs : List c.α}, PV c F vs xs → inV v vs = xs.any (fun y => @decide (y = x) (q.dec y x))
  | _, _, .nil => rfl
  | _, _, .cons r' t => by
    show (eqV _ v || inV v _) = _
    rw [fl_in q r t, q.eq r' r]
    rfl
def isIn {α : Type} (d : DecidableEq α) (x : α) (xs : List α) : Bool := xs.any fun y => @decide (y = x) (d y x)
theorem o_inL {c : DCod} (q : Fl c) (neg : Bool) : Op2 (rIn K neg) c (dLst c) dBl (fun x xs => if neg then !isIn q.dec x xs else isIn q.dec x xs) := fun F H v w x y Q e h1 h2 k => by
  obtain ⟨a, vs, rfl, g2, g3, g4⟩ := h2
  exact ⟨a, vs, rfl, .inl (SqL.of (e a _ g2)), q.flat h1, fl_all q g3, by rw [fl_in q h1 g3]; exact k _ F H (Pext.refl e) rfl⟩
theorem someI : ∀ (F : Hp) (v : V) (x : Int), dInt.rel F v x → (dOpt dInt).rel F v (some x) := fun F v x h => ⟨h, by rw [show v = V.int x from h]; exact fun z => nomatch z⟩
theorem noneI {c : DCod} : ∀ (F : Hp) (v : V) (x : Unit), dNon.rel F v x → (dOpt c).rel F v none := fun F v x h => h
theorem o_someI : ∀ (F : Hp) (v : V) (x : Option Int) (y : Int), (dOpt dInt).rel F v x → x = some y → dInt.rel F v y := fun F v x y h e => by subst e; exact h.1
theorem ints_of {F : Hp} : ∀ {vs : List V} {xs : List Int}, PV dInt F vs xs → vs = xs.map V.int
  | _, _, .nil => rfl
  | _, _, .cons r t => by rw [show _ = V.int _ from r, ints_of t]; rfl
theorem ints_to {F : Hp} : ∀ xs : List Int, PV dInt F (xs.map V.int) xs
  | [] => .nil
  | x :: xs => .cons rfl (ints_to xs)
theorem bls_of {F : Hp} : ∀ {vs : List V} {xs : List Bool}, PV dBl F vs xs → vs = xs.map V.bl
  | _, _, .nil => rfl
  | _, _, .cons r t => by rw [show _ = V.bl _ from r, bls_of t]; rfl
theorem o_any : Op1b (rAny K) (dLst dBl) dBl (fun xs => xs.any id) := fun F H v x Q e h k => by
  obtain ⟨a, vs, rfl, g2, g3, g4⟩ := h
  rw [bls_of g3] at g2
  exact ⟨a, x, rfl, SqL.of (e a _ g2), k _ F H (Pext.refl e) rfl⟩
end
end Pu
set_option Elab.async false
set_option linter.all false
set_option maxRecDepth 100000
set_option maxHeartbeats 4000000
namespace Pu
open PySem L2 Evl
section
variable {p q : Bool} {E : XK} {XC : Str → Value} {Rt : Ret} {K : PySem.W.Frag} {Γ Γ' Γ0 Γ1 Γ2 ΓL : List Sl} {te ta tb tc : TE} {tt tu : TT} {tA : TA} {ti : TI} {tg : TG} {a b c d : DCod} {m : Cod} {cs : List DCod} {ts us : TS}
/-! ### what is walked -/
theorem walks_of {J : It} {vs : List V} {xs : List c.α} {F : Hp} {G : Hp → Prop} (w : Walk J vs.length G (YAt vs)) (hG : ∀ H, Ex F H → G H) (pv : PV c F vs xs) : Walks J c xs F := by
  refine ⟨YAt vs, by rw [← pv.length]; exact w.mono hG fun i H x H' _ _ y => y, fun i H v H' F1 y e1 e2 => ?_⟩
  obtain ⟨rfl, hv⟩ := y
  obtain ⟨x, hx, r⟩ := pv.get' hv
  exact ⟨F1, x, hx, Pext.refl e2, c.ext r e1⟩
theorem ei_list {T : (R : Type) → (List c.α → Env Γ → Res R) → Env Γ → Res R} (h : EvE p E XC Γ te (dLst c) T) : EvI p E XC Γ (iList K te) c T := fun B σ F H ρ I R G hG k Q g qq =>
  h B σ F H ρ I R G hG k _ g fun xs ρ' v F' H' I' e r g' => by
    obtain ⟨a, vs, rfl, g2, g3, g4⟩ := r
    exact ⟨a, rfl, ⟨vs, SqL.of (I'.fh a _ g2)⟩, qq xs ρ' _ F' H' I' e (walks_of walk_list (fun H2 e2 => SqL.of (e2 a _ g2)) g3) g' g4⟩
theorem ei_tup {T : (R : Type) → (List c.α → Env Γ → Res R) → Env Γ → Res R} (h : EvE p E XC Γ te (dTup c) T) : EvI p E XC Γ (iTup K te) c T := fun B σ F H ρ I R G hG k Q g qq =>
  h B σ F H ρ I R G hG k _ g fun xs ρ' v F' H' I' e r g' => by
    obtain ⟨a, vs, rfl, g2, g3, g4⟩ := r
    exact ⟨a, rfl, ⟨vs, SqT.rd I'.fh g2⟩, qq xs ρ' _ F' H' I' e (walks_of walk_tup (fun H2 e2 => SqT.rd e2 g2) g3) g' g4⟩
def rngL (n : Int) : List Int := (List.range n.toNat).map Int.ofNat
def rng (n : Int) : Option (List Int) := if -(2 ^ 62) ≤ n ∧ n ≤ 16777216 then some (rngL n) else none
theorem walks_range {n : Int} {F : Hp} (h0 : n ≤ 16777216) : Walks (Itr 0 n.toNat) dInt (rngL n) F := by
  have hl : (rngL n).length = n.toNat := by unfold rngL; rw [List.length_map, List.length_range]
  refine ⟨fun i H v H' => i < n.toNat ∧ H' = H ∧ v = .int (0 + (i : Int)), by rw [hl]; exact walk_range.mono (fun _ _ => trivial) fun i H x H' hi _ y => ⟨hi, y⟩, fun i H v H' F1 y e1 e2 => ?_⟩
  obtain ⟨hi, rfl, rfl⟩ := y
  refine ⟨F1, (i : Int), ?_, Pext.refl e2, by show V.int (0 + (i : Int)) = V.int (i : Int); rw [Int.zero_add]⟩
  unfold rngL
  rw [List.getElem?_map, List.getElem?_range hi]
  rfl
theorem rngL_len {n : Int} (h : n ≤ 16777216) : (rngL n).length ≤ sizeLine := by
  have := sizeLine_eq
  unfold rngL
  rw [List.length_map, List.length_range]
  omega
theorem ei_rng1 {T : (R : Type) → (DEnv [dInt] → Env Γ → Res R) → Env Γ → Res R} (h : EvA p E XC Γ tA [dInt] T) : EvI p E XC Γ (iRng1 tA) dInt (fun R k ρ => T R (fun x ρ => opt (rng x.1) fun xs => k xs ρ) ρ) := fun B σ F H ρ I R G hG k Q g qq =>
  h B σ F H ρ I R G hG _ _ g fun x ρ' vs F' H' I' e r g' => by
    obtain ⟨v, vs', rfl, r1, r2⟩ := r
    have r2 : vs' = [] := r2
    obtain ⟨n, u⟩ := x
    have r1 : v = V.int n := r1
    subst r1 r2
    by_cases hx : -(2 ^ 62) ≤ (n : Int) ∧ (n : Int) ≤ 16777216
    · have hr : rng n = some (rngL n) := if_pos hx
      have g' : G (opt (rng n) fun xs => k xs ρ') := g'
      rw [hr] at g'
      have h1 : -(2 ^ 62) ≤ (n : Int) := hx.1
      have h2 : (n : Int) ≤ 16777216 := hx.2
      have h3 : (n : Int) < 2 ^ 62 := Int.lt_of_le_of_lt h2 (by decide)
      exact ⟨n, rfl, h1, h3, qq _ ρ' _ F' H' I' e (walks_range h2) g' (rngL_len h2)⟩
    · have hr : rng n = none := if_neg hx
      have g' : G (opt (rng n) fun xs => k xs ρ') := g'
      rw [hr] at g'
      exact absurd g' hG.1
def enumL {α : Type} (xs : List α) : List (Int × α) := xs.zipIdx.map fun x => ((x.2 : Int), x.1)
theorem enumL_len {α : Type} (xs : List α) : (enumL xs).length = xs.length := by unfold enumL; rw [List.length_map, List.length_zipIdx]
theorem enumL_get {α : Type} {xs : List α} {i : Nat} {x : α} (h : xs[i]? = some x) : (enumL xs)[i]? = some ((i : Int), x) := by
  unfold enumL
  rw [List.getElem?_map, List.getElem?_zipIdx, h]
  simp
theorem walks_enum {a : Addr} {vs : List V} {xs : List c.α} {F : Hp} {J : It} {G : Hp → Prop} (w : Walk J vs.length G (YPair (fun i => some (.int (i : Nat))) (fun i => vs[i]?))) (hG : ∀ H, Ex F H → G H) (pv : PV c F vs xs) : Walks J (dP2 dInt c) (enumL xs) F := by
  refine ⟨YPair (fun i => some (.int (i : Nat))) (fun i => vs[i]?), by rw [enumL_len, ← pv.length]; exact w.mono hG fun i H x H' _ _ y => y, fun i H v H' F1 y e1 e2 => ?_⟩
  obtain ⟨T, x, y, rfl, hT, rfl, hx, hy⟩ := y
  cases hx
  obtain ⟨z, hz, r⟩ := pv.get' hy
  exact ⟨_, ((i : Int), z), enumL_get hz, Pext.one e2 hT, T, .int (i : Int), y, rfl, upd_same, rfl, c.ext r (e1.trans (Ex.new (none_of e2 hT)))⟩
theorem ei_enumL {T : (R : Type) → (DEnv [dLst c] → Env Γ → Res R) → Env Γ → Res R} (h : EvA p E XC Γ tA [dLst c] T) : EvI p E XC Γ (iEnum K tA) (dP2 dInt c) (fun R k ρ => T R (fun x ρ => k (enumL x.1) ρ) ρ) := fun B σ F H ρ I R G hG k Q g qq =>
  h B σ F H ρ I R G hG _ _ g fun x ρ' vs F' H' I' e r g' => by
    obtain ⟨v, vs', rfl, r1, r2⟩ := r
    have r2 : vs' = [] := r2
    obtain ⟨xs, u⟩ := x
    obtain ⟨a, ws, rfl, g2, g3, g4⟩ := r1
    subst r2
    exact ⟨a, ws, rfl, SqL.of (I'.fh a _ g2), qq _ ρ' _ F' H' I' e (walks_enum (a := a) walk_enum (fun H2 e2 => SqL.of (e2 a _ g2)) g3) g' (by rw [enumL_len]; exact g4)⟩
/-! ### new lists, tuples -/
theorem en_nil : EvN p E XC Γ (tLst tNil) (mLst c) (fun R k ρ => k [] ρ) := fun B σ F H ρ I R G hG k Q g qq => by
  refine ⟨by show 0 ≤ sizeLine; decide, fun l hl => qq [] ρ (.ref l) [l] F H F _ I (Gt.refl I.fh) (Pext.own I.fh hl) ⟨by simp, fun a ha => ?_⟩ ⟨l, [], rfl, rfl, upd_same, .nil, by show 0 ≤ sizeLine; decide⟩ g⟩
  have ha : a = l := by simpa using ha
  subst ha
  exact ⟨hl, none_of I.fh hl, _, upd_same⟩
def lstOf {c : DCod} : (n : Nat) → DEnv (List.replicate n c) → List c.α
  | 0, _ => []
  | n + 1, x => x.1 :: lstOf n x.2
theorem lstOf_len : (n : Nat) → (x : DEnv (List.replicate n c)) → (lstOf n x).length = n
  | 0, _ => rfl
  | n + 1, x => by show (lstOf n x.2).length + 1 = _; rw [lstOf_len n x.2]
theorem lstOf_rel {F : Hp} : (n : Nat) → (x : DEnv (List.replicate n c)) → (vs : List V) → DRel (List.replicate n c) F vs x → PV c F vs (lstOf n x)
  | 0, _, vs, h => by rw [show vs = [] from h]; exact .nil
  | n + 1, x, vs, h => by
    obtain ⟨v, vs', e, r, t⟩ := h
    rw [e]
    exact .cons r (lstOf_rel n x.2 vs' t)
theorem en_lst (n : Nat) (hn : n ≤ 1000) {T : (R : Type) → (DEnv (List.replicate n c) → Env Γ → Res R) → Env Γ → Res R} (h : EvA p E XC Γ tA (List.replicate n c) T) : EvN p E XC Γ (tLst tA) (mLst c) (fun R k ρ => T R (fun x ρ => k (lstOf n x) ρ) ρ) := fun B σ F H ρ I R G hG k Q g qq =>
  h B σ F H ρ I R G hG _ _ g fun x ρ' vs F' H' I' e r g' => by
    have hl2 := r.len
    rw [List.length_replicate] at hl2
    have hsz := sizeLine_eq
    refine ⟨by omega, fun l hl => qq _ ρ' (.ref l) [l] F' H' F' _ I' e (Pext.own I'.fh hl) ⟨by simp, fun a ha => ?_⟩ ⟨l, vs, rfl, rfl, upd_same, lstOf_rel n x vs r, by rw [lstOf_len]; omega⟩ g'⟩
    have ha : a = l := by simpa using ha
    subst ha
    exact ⟨hl, none_of I'.fh hl, _, upd_same⟩
theorem ev_tup (n : Nat) (hn : n ≤ 1000) {T : (R : Type) → (DEnv (List.replicate n c) → Env Γ → Res R) → Env Γ → Res R} (h : EvA p E XC Γ tA (List.replicate n c) T) : EvE p E XC Γ (tTup tA) (dTup c) (fun R k ρ => T R (fun x ρ => k (lstOf n x) ρ) ρ) := fun B σ F H ρ I R G hG k Q g qq =>
  h B σ F H ρ I R G hG _ _ g fun x ρ' vs F' H' I' e r g' => by
    have hl2 := r.len
    rw [List.length_replicate] at hl2
    have hsz := sizeLine_eq
    exact ⟨by omega, fun l hl => qq _ ρ' (.ref l) _ _ (I'.pext (Pext.one I'.fh hl)) (e.pext (Pext.one I'.fh hl)) ⟨l, vs, rfl, .inl upd_same, (lstOf_rel n x vs r).ext (Ex.new (none_of I'.fh hl)), by rw [lstOf_len]; omega⟩ g'⟩
theorem ev_p2 {T : (R : Type) → (DEnv [a, b] → Env Γ → Res R) → Env Γ → Res R} (h : EvA p E XC Γ tA [a, b] T) : EvE p E XC Γ (tTup tA) (dP2 a b) (fun R k ρ => T R (fun x ρ => k (x.1, x.2.1) ρ) ρ) := fun B σ F H ρ I R G hG k Q g qq =>
  h B σ F H ρ I R G hG _ _ g fun x ρ' vs F' H' I' e r g' => by
    obtain ⟨v, vs', rfl, r1, w, vs2, rfl, r2, r3⟩ := r
    have r3 : vs2 = [] := r3
    subst r3
    exact ⟨by show 2 ≤ sizeLine; decide, fun l hl => qq _ ρ' (.ref l) _ _ (I'.pext (Pext.one I'.fh hl)) (e.pext (Pext.one I'.fh hl)) ⟨l, v, w, rfl, upd_same, a.ext r1 (Ex.new (none_of I'.fh hl)), b.ext r2 (Ex.new (none_of I'.fh hl))⟩ g'⟩
theorem new_list {B : Base} {σ : St} {F H F0 H0 : Hp} {ρ ρ' : Env Γ} {R : Type} {G : Res R → Prop} {k : List c.α → Env Γ → Res R} {Q : VK} {l : Addr} {vs : List V} {xs : List c.α} (I : SInv B Γ σ F H ρ) (hl : H l = none) (pv : PV c F vs xs) (hz : xs.length ≤ sizeLine) (e : Gt p F0 F H0 H ρ' ρ) (g : G (k xs ρ))
    (qq : ∀ x ρ2 v fp F1 H1 F' H', SInv B Γ σ F1 H1 ρ2 → Gt p F0 F1 H0 H1 ρ' ρ2 → Pext F1 F' H1 H' → New fp H1 F' H' → (mLst c).rel F' H' fp v x → G (k x ρ2) → Q v H') : Q (.ref l) (upd H l (.lst vs)) := by
  refine qq xs ρ (.ref l) [l] F H F _ I e (Pext.own I.fh hl) ⟨by simp, fun a ha => ?_⟩ ⟨l, vs, rfl, rfl, upd_same, pv, hz⟩ g
  have ha : a = l := by simpa using ha
  subst ha
  exact ⟨hl, none_of I.fh hl, _, upd_same⟩
theorem rg_ok {n : Int} (h1 : -(2 ^ 62) ≤ n) (h2 : n ≤ 16777216) : RgOk 0 n := ⟨by decide, by decide, h1, Int.lt_of_le_of_lt h2 (by decide), by omega⟩
theorem rgV_rngL (n : Int) : rgV 0 n = (rngL n).map V.int := by
  unfold rgV rngL
  rw [List.map_map, Int.sub_zero]
  exact List.map_congr_left fun i _ => by show V.int (0 + (i : Int)) = V.int (i : Int); rw [Int.zero_add]
theorem en_listRg {Ta : (R : Type) → (Int → Env Γ → Res R) → Env Γ → Res R} (h : EvE p E XC Γ ta dInt Ta) : EvN p E XC Γ (tLstRg (tRg1 ta)) (mLst dInt) (fun R k ρ => Ta R (fun n ρ => opt (rng n) fun xs => k xs ρ) ρ) := fun B σ F H ρ I R G hG k Q g qq =>
  h B σ F H ρ I R G hG _ _ g fun n ρ' v F' H' I' e r g' => by
    by_cases hx : -(2 ^ 62) ≤ (n : Int) ∧ (n : Int) ≤ 16777216
    · have hr : rng n = some (rngL n) := if_pos hx
      rw [hr] at g'
      have h1 : -(2 ^ 62) ≤ (n : Int) := hx.1
      have h2 : (n : Int) ≤ 16777216 := hx.2
      have hsz := sizeLine_eq
      refine ⟨n, r, rg_ok h1 h2, fun l hl => ?_⟩
      have e2 : rgV 0 n = (rngL n).map V.int := rgV_rngL n
      rw [e2]
      exact new_list I' hl (ints_to _) (rngL_len h2) e g' qq
    · have hr : rng n = none := if_neg hx
      rw [hr] at g'
      exact absurd g' hG.1
theorem en_listS {r : List V → Hp → VK → Prop} (hr : r = fun xs H Q => ∃ p ys, xs = [V.ref p] ∧ (SqL K H p ys ∨ SqT K H p ys) ∧ ∀ l, H l = none → Q (.ref l) (upd H l (.lst ys))) {Ta : (R : Type) → (List c.α → Env Γ → Res R) → Env Γ → Res R} (h : EvE p E XC Γ ta (dSeq c) Ta) : EvN p E XC Γ (tCB r (tCons ta tNil)) (mLst c) Ta := fun B σ F H ρ I R G hG k Q g qq =>
  h B σ F H ρ I R G hG _ _ g fun xs ρ' v F' H' I' e r' g' => by
    obtain ⟨a, vs, rfl, g2, g3, g4⟩ := r'
    rw [hr]
    exact ⟨a, vs, rfl, g2.imp (fun z => SqL.of (I'.fh a _ z)) (fun z => SqT.rd I'.fh z), fun l hl => new_list I' hl g3 g4 e g' qq⟩
def repL {α : Type} (xs : List α) (n : Int) : Option (List α) := if -(2 ^ 63) ≤ n ∧ n < 2 ^ 63 ∧ xs.length * n.toNat ≤ 16777216 then some (List.replicate n.toNat xs).flatten else none
theorem PV.flat {F : Hp} {vs : List V} {xs : List c.α} (h : PV c F vs xs) : ∀ n : Nat, PV c F (List.replicate n vs).flatten (List.replicate n xs).flatten
  | 0 => .nil
  | n + 1 => by
    rw [List.replicate_succ, List.replicate_succ, List.flatten_cons, List.flatten_cons]
    exact h.append (PV.flat h n)
theorem en_rep {Ta : (R : Type) → (List c.α → Env Γ → Res R) → Env Γ → Res R} {Tb : (R : Type) → (Int → Env Γ → Res R) → Env Γ → Res R} (ha : EvE p E XC Γ ta (dLst c) Ta) (hb : EvE p E XC Γ tb dInt Tb) :
    EvN p E XC Γ (tOp rRep ta tb) (mLst c) (fun R k ρ => Ta R (fun xs ρ => Tb R (fun n ρ => opt (repL xs n) fun ys => k ys ρ) ρ) ρ) := fun B σ F H ρ I R G hG k Q g qq =>
  ha B σ F H ρ I R G hG _ _ g fun xs ρ1 v F1 H1 I1 e1 r1 g1 => hb B σ F1 H1 ρ1 I1 R G hG _ _ g1 fun n ρ2 w F2 H2 I2 e2 r2 g2 => by
    obtain ⟨a, vs, rfl, q2, q3, q4⟩ := (dLst c).ext r1 e2.1
    by_cases hx : -(2 ^ 63) ≤ (n : Int) ∧ (n : Int) < 2 ^ 63 ∧ xs.length * (n : Int).toNat ≤ 16777216
    · have hr : repL xs n = some (List.replicate (n : Int).toNat xs).flatten := if_pos hx
      rw [hr] at g2
      have hsz := sizeLine_eq
      have hlen : ((List.replicate (n : Int).toNat xs).flatten).length = (n : Int).toNat * xs.length := by rw [List.length_flatten, List.map_replicate, List.sum_replicate_nat]
      have hle := hx.2.2
      refine ⟨a, n, vs, rfl, r2, I2.fh a _ q2, hx.1, hx.2.1, by rw [q3.length]; omega, fun l hl => new_list I2 hl (q3.flat _) (by rw [hlen, Nat.mul_comm]; omega) (e1.trans e2) g2 qq⟩
    · have hr : repL xs n = none := if_neg hx
      rw [hr] at g2
      exact absurd g2 hG.1
def catL {α : Type} (xs ys : List α) : Option (List α) := if xs.length + ys.length ≤ 16777216 then some (xs ++ ys) else none
theorem en_cat {Ta Tb : (R : Type) → (List c.α → Env Γ → Res R) → Env Γ → Res R} (ha : EvE p E XC Γ ta (dLst c) Ta) (hb : EvE p E XC Γ tb (dLst c) Tb) :
    EvN p E XC Γ (tOp rCat ta tb) (mLst c) (fun R k ρ => Ta R (fun xs ρ => Tb R (fun ys ρ => opt (catL xs ys) fun zs => k zs ρ) ρ) ρ) := fun B σ F H ρ I R G hG k Q g qq =>
  ha B σ F H ρ I R G hG _ _ g fun xs ρ1 v F1 H1 I1 e1 r1 g1 => hb B σ F1 H1 ρ1 I1 R G hG _ _ g1 fun ys ρ2 w F2 H2 I2 e2 r2 g2 => by
    obtain ⟨a, vs, rfl, q2, q3, q4⟩ := (dLst c).ext r1 e2.1
    obtain ⟨b, ws, rfl, s2, s3, s4⟩ := r2
    by_cases hx : xs.length + ys.length ≤ 16777216
    · have hr : catL xs ys = some (xs ++ ys) := if_pos hx
      rw [hr] at g2
      have hsz := sizeLine_eq
      exact ⟨a, b, vs, ws, rfl, rfl, I2.fh a _ q2, I2.fh b _ s2, by rw [q3.length, s3.length]; omega, fun l hl => new_list I2 hl (q3.append s3) (by rw [List.length_append]; omega) (e1.trans e2) g2 qq⟩
    · have hr : catL xs ys = none := if_neg hx
      rw [hr] at g2
      exact absurd g2 hG.1
/-! ### slices -/
section
variable (p : Bool) (E : XK) (XC : Str → Value)
def EvO (Γ : List Sl) (to : TO) (T : (R : Type) → (Option Int → Env Γ → Res R) → Env Γ → Res R) : Prop :=
  ∀ (B : Base) (σ : St) (F H : Hp) (ρ : Env Γ), SInv B Γ σ F H ρ → ∀ (R : Type) (G : Res R → Prop), Rs E XC B G → ∀ (k : Option Int → Env Γ → Res R) (Q : Option Int → Hp → Prop), G (T R k ρ) →
    (∀ x ρ' F' H', SInv B Γ σ F' H' ρ' → Gt p F F' H H' ρ ρ' → G (k x ρ') → Q x H') → to σ H Q
end
theorem eo_no : EvO p E XC Γ tNoPart (fun R k ρ => k none ρ) := fun B σ F H ρ I R G hG k Q g qq => qq none ρ F H I (Gt.refl I.fh) g
theorem eo_some {T : (R : Type) → (Int → Env Γ → Res R) → Env Γ → Res R} (h : EvE p E XC Γ te dInt T) : EvO p E XC Γ (tPart te) (fun R k ρ => T R (fun x ρ => k (some x) ρ) ρ) := fun B σ F H ρ I R G hG k Q g qq =>
  h B σ F H ρ I R G hG _ _ g fun x ρ' v F' H' I' e r g' => ⟨x, r, qq _ ρ' F' H' I' e g'⟩
def cutL {α : Type} (xs : List α) (lo hi : Option Int) : List α := (xs.drop (HT.sIx xs.length 0 lo)).take (HT.sIx xs.length xs.length hi - HT.sIx xs.length 0 lo)
theorem cutL_len {α : Type} (xs : List α) (lo hi : Option Int) : (cutL xs lo hi).length ≤ xs.length := by
  unfold cutL
  rw [List.length_take, List.length_drop]
  omega
theorem PV.cut {F : Hp} {vs : List V} {xs : List c.α} (h : PV c F vs xs) (lo hi : Option Int) : PV c F (cutV vs lo hi) (cutL xs lo hi) := by
  unfold cutV cutL
  rw [h.length]
  exact (h.drop _).take _
/-! ### a list that changes, in a slot -/
theorem lst_step {B : Base} {σ : St} {F H : Hp} {ρ : Env Γ} {i : Nat} {k : Kd} (hk : k ≠ .co) (I : SInv B Γ σ F H ρ) (at_ : At Γ i (.m k (mLst c))) : ∃ l vs, σ[i]? = some (some (.ref l)) ∧ H l = some (.lst vs) ∧ PV c F vs (at_.get ρ) ∧ List.length (α := c.α) (at_.get ρ) ≤ sizeLine ∧
    ∀ vs' xs', PV c F vs' xs' → xs'.length ≤ sizeLine → SInv B Γ σ F (upd H l (.lst vs')) (at_.put ρ xs') := by
  obtain ⟨v, fp, h1, _, hr, nd, hfp, hst⟩ := I.mut at_
  obtain ⟨l, vs, rfl, rfl, hl, pv, hz⟩ := hr
  refine ⟨l, vs, h1, hl, pv, hz, fun vs' xs' pv' hz' => hst hk F _ [l] xs' ⟨Ex.refl _, fun a o ha => ?_, fun a o ha hm => ?_, fun a o ha => ?_, fun a o ha => .inl ha, by simp, fun a ha => ?_⟩ ⟨l, vs', rfl, rfl, upd_same, pv', hz'⟩⟩
  · have hne : a ≠ l := ne_of_none ha (hfp l (by simp)).1
    rw [upd_ne hne]; exact I.fh a o ha
  · rw [upd_ne (by simpa using hm)]; exact ha
  · by_cases he : a = l
    · subst he; exact ⟨_, upd_same⟩
    · exact ⟨o, by rw [upd_ne he]; exact ha⟩
  · have ha : a = l := by simpa using ha
    subst ha
    exact ⟨.inl (by simp), (hfp a (by simp)).1, _, upd_same⟩
def app1 {α : Type} (xs : List α) (x : α) : List α := xs ++ [x]
theorem app1_len {α : Type} (xs : List α) (x : α) : (app1 xs x).length = xs.length + 1 := by unfold app1; rw [List.length_append]; rfl
theorem st_app {i : Nat} {k : Kd} (hk : k ≠ .co) (at_ : At Γ i (.m k (mLst c))) {T : (R : Type) → (c.α → Env Γ → Res R) → Env Γ → Res R} (h : EvE p E XC Γ te c T) :
    StE E XC Rt Γ (tDrop (tBM K "list" rAppend (tVar i) (tCons te tNil))) Γ ΓL (fun R nx rt bk ct ρ => T R (fun x ρ => chk (decide (List.length (α := c.α) (at_.get ρ) < 16777216)) (nx (at_.put ρ (app1 (α := c.α) (at_.get ρ) x)))) ρ) := fun B σ F H ρ I R G hG nx rt bk ct D g qn qr qb qc => by
  obtain ⟨l0, vs0, h1, hl0, _⟩ := lst_step hk I at_
  refine ⟨.ref l0, h1, .inl ⟨rfl, vs0, SqL.of hl0⟩, h B σ F H ρ I R G hG _ _ g fun x ρ1 u F1 H1 I1 e1 r1 g1 => ?_⟩
  obtain ⟨l, vs, h2, hl, pv, hz, hs⟩ := lst_step hk I1 at_
  rw [h1] at h2
  cases h2
  by_cases hx : List.length (α := c.α) (at_.get ρ1) < 16777216
  · rw [decide_eq_true hx] at g1
    have hsz := sizeLine_eq
    have hpl := pv.length
    exact ⟨l0, vs, u, rfl, rfl, hl, by omega, qn _ σ F1 _ (hs (vs ++ [u]) (app1 (α := c.α) (at_.get ρ1) x) (pv.append (.cons r1 .nil)) (Nat.le_trans (Nat.le_of_eq (app1_len (α := c.α) (at_.get ρ1) x)) (by omega))) e1.1 g1⟩
  · rw [decide_eq_false hx] at g1
    exact absurd g1 hG.1
def setL {α : Type} (xs : List α) (i : Int) (x : α) : Option (List α) := match ixN xs.length i with
  | some j => some (xs.set j x)
  | none => none
theorem st_setIx {i : Nat} {k : Kd} (hk : k ≠ .co) (at_ : At Γ i (.m k (mLst c))) {T : (R : Type) → (c.α → Env Γ → Res R) → Env Γ → Res R} {Ti : (R : Type) → (Int → Env Γ → Res R) → Env Γ → Res R} (h : EvE p E XC Γ te c T) (hi : EvE p E XC Γ tb dInt Ti) :
    StE E XC Rt Γ (tAsg te (gSub (tVar i) tb rSetL)) Γ ΓL (fun R nx rt bk ct ρ => T R (fun x ρ => Ti R (fun j ρ => opt (setL (at_.get ρ) j x) fun xs => nx (at_.put ρ xs)) ρ) ρ) := fun B σ F H ρ I R G hG nx rt bk ct D g qn qr qb qc =>
  h B σ F H ρ I R G hG _ _ g fun x ρ1 u F1 H1 I1 e1 r1 g1 => by
    obtain ⟨l0, vs0, h1, _⟩ := lst_step hk I1 at_
    refine ⟨.ref l0, h1, hi B σ F1 H1 ρ1 I1 R G hG _ _ g1 fun j ρ2 w F2 H2 I2 e2 r2 g2 => ?_⟩
    obtain ⟨l, vs, h2, hl, pv, hz, hs⟩ := lst_step hk I2 at_
    rw [h1] at h2
    cases h2
    have g2 : G (opt (match ixN (List.length (α := c.α) (at_.get ρ2)) j with
      | some j => some (List.set (at_.get ρ2) j x)
      | none => none) fun xs => nx (at_.put ρ2 xs)) := g2
    rw [← pv.length] at g2
    cases hj : ixN vs.length j with
    | none => rw [hj] at g2; exact absurd g2 hG.1
    | some n =>
      rw [hj] at g2
      exact ⟨l0, vs, j, n, rfl, r2, hl, hj, qn _ σ F2 _ (hs _ _ (pv.set (c.ext r1 e2.1) n) (Nat.le_trans (Nat.le_of_eq (List.length_set (α := c.α))) hz)) (e1.1.trans e2.1) g2⟩
theorem rem_go {F H : Hp} {xs : List Int} {x : Int} {l : Addr} {u : V} {Q : VK} (hm : List.contains (α := Int) xs x = true) (r : dInt.rel F u x) (hl : H l = some (.lst (xs.map V.int))) (k : ∀ H', H' = upd H l (.lst ((List.erase (α := Int) xs x).map V.int)) → Q .non H') : rRemI (.ref l) [u] H Q := by
  have hmem : x ∈ xs := List.elem_iff.mp hm
  obtain ⟨j, j1, j2, j3, j4⟩ := first_at hmem
  exact ⟨l, xs, x, j, rfl, by rw [show u = V.int x from r], hl, j2, j3, k _ (by rw [j4])⟩
theorem st_rem {i : Nat} {k : Kd} (hk : k ≠ .co) (at_ : At Γ i (.m k (mLst dInt))) {T : (R : Type) → (Int → Env Γ → Res R) → Env Γ → Res R} (h : EvE p E XC Γ te dInt T) :
    StE E XC Rt Γ (tDrop (tBM K "list" rRemI (tVar i) (tCons te tNil))) Γ ΓL (fun R nx rt bk ct ρ => T R (fun x ρ => chk (List.contains (α := Int) (at_.get ρ) x) (nx (at_.put ρ (List.erase (α := Int) (at_.get ρ) x)))) ρ) := fun B σ F H ρ I R G hG nx rt bk ct D g qn qr qb qc => by
  obtain ⟨l0, vs0, h1, hl0, _⟩ := lst_step hk I at_
  refine ⟨.ref l0, h1, .inl ⟨rfl, vs0, SqL.of hl0⟩, h B σ F H ρ I R G hG _ _ g fun x ρ1 u F1 H1 I1 e1 r1 g1 => ?_⟩
  obtain ⟨l, vs, h2, hl, pv, hz, hs⟩ := lst_step hk I1 at_
  rw [h1] at h2
  cases h2
  generalize hxs : at_.get ρ1 = xs at g1 pv hz
  have xs' : List Int := xs
  have evs := ints_of pv
  cases hm : List.contains (α := Int) xs x with
  | false => rw [hm] at g1; exact absurd g1 hG.1
  | true =>
    rw [hm] at g1
    refine rem_go (Q := fun _ H' => D.nx σ H') hm r1 (by rw [← evs]; exact hl) fun H' hH' => ?_
    · rw [hH']
      exact qn _ σ F1 _ (hs _ _ (ints_to _) (Nat.le_trans (List.length_erase_le (α := Int)) hz)) e1.1 g1
theorem ev_ixM {i : Nat} {k : Kd} (at_ : At Γ i (.m k (mLst c))) {T : (R : Type) → (Int → Env Γ → Res R) → Env Γ → Res R} (h : EvE p E XC Γ tb dInt T) : EvE p E XC Γ (tOp (rIxL K) (tVar i) tb) c (fun R kk ρ => T R (fun j ρ => opt (L2.atI (at_.get ρ) j) fun x => kk x ρ) ρ) := fun B σ F H ρ I R G hG kk Q g qq => by
  obtain ⟨v, fp, h1, _, hr, _⟩ := I.mut at_
  refine ⟨v, h1, h B σ F H ρ I R G hG _ _ g fun j ρ1 w F1 H1 I1 e1 r1 g1 => ?_⟩
  obtain ⟨v', fp', h2, _, hr2, _⟩ := I1.mut at_
  rw [h1] at h2
  cases h2
  obtain ⟨l, vs, rfl, rfl, hl, pv, hz⟩ := hr2
  cases hj : L2.atI (α := c.α) (at_.get ρ1) j with
  | none =>
    have g1 : G (opt (L2.atI (α := c.α) (at_.get ρ1) j) fun x => kk x ρ1) := g1
    rw [hj] at g1
    exact absurd g1 hG.1
  | some x =>
    have g1 : G (opt (L2.atI (α := c.α) (at_.get ρ1) j) fun x => kk x ρ1) := g1
    rw [hj] at g1
    obtain ⟨u, q1, q2⟩ := pv.atI hj
    exact ⟨l, vs, j, u, rfl, r1, SqL.of hl, q1, qq x ρ1 u F1 H1 I1 e1 q2 g1⟩
theorem ev_lenM {i : Nat} {k : Kd} (at_ : At Γ i (.m k (mLst c))) : EvE p E XC Γ (tCB (fun xs H Q => ∃ x n, xs = [x] ∧ LenV K x H n ∧ Q (.int n) H) (tCons (tVar i) tNil)) dInt (fun R kk ρ => kk (List.length (α := c.α) (at_.get ρ) : Int) ρ) := fun B σ F H ρ I R G hG kk Q g qq => by
  obtain ⟨v, fp, h1, _, hr, _⟩ := I.mut at_
  obtain ⟨l, vs, rfl, rfl, hl, pv, hz⟩ := hr
  exact ⟨_, h1, _, vs.length, rfl, .inl ⟨vs, SqL.of hl, rfl⟩, qq _ ρ _ F H I (Gt.refl I.fh) (by rw [pv.length]) g⟩
theorem st_retL {i : Nat} (at_ : At Γ i (.m .lo (mLst c))) : StE E XC (retD (dLst c)) Γ (tRet (tVar i)) Γ' ΓL (fun R nx rt bk ct ρ => rt (at_.get ρ) ()) := fun B σ F H ρ I R G hG nx rt bk ct D g qn qr qb qc => by
  obtain ⟨v, fp, h1, _, hr, nd, hfp, _⟩ := I.mut at_
  obtain ⟨l, vs, rfl, rfl, hl, pv, hz⟩ := hr
  obtain ⟨f1, _, _, f4⟩ := hfp l (by simp)
  refine ⟨_, h1, qr _ () _ (upd F l (.lst vs)) H (fun hM hN => ?_) ⟨l, vs, rfl, upd_same, pv.ext (Ex.new f1), hz⟩ g⟩
  have pp := I.pextB hM hN
  refine ⟨pp.hh, pp.ff.trans (Ex.new f1), fun a o ha => ?_, fun a o ha => ?_⟩
  · by_cases he : a = l
    · subst he; rw [upd_same] at ha; cases ha; exact hl
    · rw [upd_ne he] at ha; exact I.fh a o ha
  · by_cases he : a = l
    · subst he
      rcases f4 rfl with z | z
      · rw [hN] at z; cases z
      · exact .inr z
    · rw [upd_ne he] at ha; exact pp.new a o ha
end
end Pu
set_option Elab.async false
set_option linter.all false
set_option maxRecDepth 100000
set_option maxHeartbeats 4000000
namespace Pu
open PySem L2 Evl
/-! ### a thing that becomes another -/
theorem SRel.mutU {F H : Hp} {k : Kd} {c c' : Cod} : ∀ {Γ Γ' : List Sl} {i : Nat} (u : Up Γ i (.m k c) (.m k c') Γ') {τ σ : St} {L : Fps} {ρ : Env Γ}, SRel Γ τ σ F H L ρ → ∃ v fp L1 L2, σ[i]? = some (some v) ∧ L = L1 ++ tag k fp ++ L2 ∧ c.rel F H fp v (u.old ρ) ∧
    ∀ F' H' fp' x', Ex F F' → (∀ k a, (k, a) ∈ L1 ++ L2 → H' a = H a) → c'.rel F' H' fp' v x' → SRel Γ' τ σ F' H' (L1 ++ tag k fp' ++ L2) (u.set ρ x')
  | _, _, _, .z, τ, σ, L, ρ, ⟨v, σ', fp, L', e, e2, e3, r, h⟩ => ⟨v, fp, [], L', by rw [e]; rfl, e3, r, fun F' H' fp' x' eF kk r' => ⟨v, σ', fp', L', e, e2, rfl, r', h.ext eF kk⟩⟩
  | .no :: Γ, _, _, .s r, τ, σ, L, ρ, ⟨w, σ', e, h⟩ => by
    obtain ⟨v, fp, L1, L2, h1, h3, h4, h5⟩ := SRel.mutU r h
    exact ⟨v, fp, L1, L2, by rw [e]; simpa using h1, h3, h4, fun F' H' fp' x' eF kk r' => ⟨w, σ', e, h5 F' H' fp' x' eF kk r'⟩⟩
  | .da c0 :: Γ, _, _, .s r, τ, σ, L, ρ, ⟨w, σ', e, hr, h⟩ => by
    obtain ⟨v, fp, L1, L2, h1, h3, h4, h5⟩ := SRel.mutU r h
    exact ⟨v, fp, L1, L2, by rw [e]; simpa using h1, h3, h4, fun F' H' fp' x' eF kk r' => ⟨w, σ', e, c0.ext hr eF, h5 F' H' fp' x' eF kk r'⟩⟩
  | .m k' c0 :: Γ, _, _, .s r, τ, σ, L, ρ, ⟨w, σ', fp0, L', e, e2, e3, hr, h⟩ => by
    obtain ⟨v, fp, L1, L2, h1, h3, h4, h5⟩ := SRel.mutU r h
    refine ⟨v, fp, tag k' fp0 ++ L1, L2, by rw [e]; simpa using h1, by rw [e3, h3]; simp [List.append_assoc], h4, fun F' H' fp' x' eF kk r' => ⟨w, σ', fp0, L1 ++ tag k fp' ++ L2, e, e2, by simp [List.append_assoc], c0.ext hr eF fun a ha => kk k' a ?_, h5 F' H' fp' x' eF (fun q a ha => kk q a ?_) r'⟩⟩
    · simp only [List.append_assoc]
      exact List.mem_append_left _ (List.mem_map.mpr ⟨a, ha, rfl⟩)
    · simp only [List.append_assoc]
      exact List.mem_append_right _ ha
theorem SInv.mutU {B : Base} {Γ Γ' : List Sl} {σ : St} {F H : Hp} {ρ : Env Γ} {k : Kd} {c c' : Cod} {i : Nat} (I : SInv B Γ σ F H ρ) (u : Up Γ i (.m k c) (.m k c') Γ') (hk : k ≠ .co) :
    ∃ v fp, σ[i]? = some (some v) ∧ c.rel F H fp v (u.old ρ) ∧ fp.Nodup ∧ (∀ a, a ∈ fp → F a = none ∧ (∃ o, H a = some o)) ∧
      (∀ F' H' fp' x', Step F H fp F' H' fp' → c'.rel F' H' fp' v x' → SInv B Γ' σ F' H' (u.set ρ x')) := by
  obtain ⟨L, r, w⟩ := I
  obtain ⟨v, fp, L1, L2, h1, h3, h4, h5⟩ := r.mutU u
  subst h3
  have hin : ∀ a, a ∈ fp → (k, a) ∈ L1 ++ tag k fp ++ L2 := fun a ha => by
    simp only [List.mem_append]
    exact .inl (.inr (mem_tag.mpr ⟨rfl, ha⟩))
  have nd := w.nd
  rw [List.map_append, List.map_append, tag_map] at nd
  have nd1 := List.nodup_append.mp nd
  have nd2 := List.nodup_append.mp nd1.1
  refine ⟨v, fp, h1, h4, nd2.2.1, fun a ha => w.fr k a (hin a ha), fun F' H' fp' x' st r' => ?_⟩
  have hrest : ∀ k' a, (k', a) ∈ L1 ++ L2 → ∃ o, H a = some o ∧ H' a = some o ∧ a ∉ fp := fun k' a ha => by
    have hm : (k', a) ∈ L1 ++ tag k fp ++ L2 := by
      simp only [List.mem_append] at ha ⊢
      rcases ha with ha | ha
      · exact .inl (.inl ha)
      · exact .inr ha
    obtain ⟨_, o, ho⟩ := w.fr k' a hm
    have hnot : a ∉ fp := fun hf => by
      simp only [List.mem_append] at ha
      rcases ha with ha | ha
      · exact nd2.2.2 a (List.mem_map.mpr ⟨_, ha, rfl⟩) a hf rfl
      · exact nd1.2.2 a (List.mem_append_right _ hf) a (List.mem_map.mpr ⟨_, ha, rfl⟩) rfl
    exact ⟨o, ho, st.keep a o ho hnot, hnot⟩
  refine ⟨L1 ++ tag k fp' ++ L2, h5 F' H' fp' x' st.ff (fun k' a ha => ?_) r', ?_⟩
  · obtain ⟨o, g1, g2, _⟩ := hrest k' a ha
    rw [g1, g2]
  · have cases_ : ∀ k' a, (k', a) ∈ L1 ++ tag k fp' ++ L2 → (k', a) ∈ L1 ++ L2 ∨ (k' = k ∧ a ∈ fp') := fun k' a ha => by
      simp only [List.mem_append] at ha ⊢
      rcases ha with (ha | ha) | ha
      · exact .inl (.inl ha)
      · exact .inr (mem_tag.mp ha)
      · exact .inl (.inr ha)
    have old : ∀ k' a, (k', a) ∈ L1 ++ L2 → (k', a) ∈ L1 ++ tag k fp ++ L2 := fun k' a ha => by
      simp only [List.mem_append] at ha ⊢
      rcases ha with ha | ha
      · exact .inl (.inl ha)
      · exact .inr ha
    have back : ∀ a, H a = none → B.H a = none := fun a z => by
      cases e2 : B.H a with
      | none => rfl
      | some u =>
        obtain ⟨o', h'⟩ := w.there a u e2
        rw [z] at h'; cases h'
    refine ⟨?_, fun k' a ha => ?_, st.fh, w.bf.trans st.ff, fun a o h hm hn => ?_, fun a o h => ?_, fun a o e => ?_, fun a ha => ?_, fun a ha => ?_, fun a ha => ?_⟩
    · rw [List.map_append, List.map_append, tag_map]
      have dis : ∀ a, a ∈ fp' → ∀ k' , (k', a) ∈ L1 ++ L2 → False := fun a ha k' hm => by
        obtain ⟨o, g1, g2, g3⟩ := hrest k' a hm
        rcases (st.own a ha).1 with q | q
        · exact g3 q
        · rw [g1] at q; cases q
      refine List.nodup_append.mpr ⟨List.nodup_append.mpr ⟨nd2.1, st.nd, fun a ha b hb e => ?_⟩, nd1.2.1, fun a ha b hb e => ?_⟩
      · subst e
        obtain ⟨q, hq, e⟩ := List.mem_map.mp ha
        obtain ⟨k', a'⟩ := q
        have e : a' = a := e
        subst e
        exact dis a' hb k' (List.mem_append_left _ hq)
      · subst e
        obtain ⟨q, hq, e⟩ := List.mem_map.mp hb
        obtain ⟨k', a'⟩ := q
        have e : a' = a := e
        subst e
        rcases List.mem_append.mp ha with ha | ha
        · exact nd1.2.2 a' (List.mem_append_left _ ha) a' hb rfl
        · exact dis a' ha k' (List.mem_append_right _ hq)
    · rcases cases_ k' a ha with q | ⟨_, q⟩
      · obtain ⟨o, g1, g2, _⟩ := hrest k' a q
        refine ⟨?_, o, g2⟩
        have g0 := (w.fr k' a (old k' a q)).1
        cases e : F' a with
        | none => rfl
        | some u =>
          rcases st.new a u e with z | z
          · rw [g0] at z; cases z
          · rw [g1] at z; cases z
      · exact (st.own a q).2
    · by_cases hf : a ∈ fp
      · exfalso
        cases k with
        | pa =>
          rcases w.own a (hin a hf) with z | z
          · exact hm z
          · rw [h] at z; cases z
        | lo =>
          rcases w.loc a (hin a hf) with z | z
          · exact hn z
          · rw [h] at z; cases z
        | co => exact hk rfl
      · exact st.keep a o (w.keep a o h hm hn) hf
    · obtain ⟨o', h'⟩ := w.there a o h
      exact st.there a o' h'
    · rcases st.new a o e with q | q
      · exact w.new a o q
      · exact .inr (back a q)
    · rcases cases_ _ a ha with q | ⟨e, q⟩
      · exact w.own a (old _ a q)
      · subst e
        rcases (st.own a q).1 with z | z
        · exact w.own a (hin a z)
        · exact .inr (back a z)
    · rcases cases_ _ a ha with q | ⟨e, q⟩
      · exact w.loc a (old _ a q)
      · subst e
        rcases (st.own a q).1 with z | z
        · exact w.loc a (hin a z)
        · exact .inr (back a z)
    · rcases cases_ _ a ha with q | ⟨e, q⟩
      · exact w.con a (old _ a q)
      · exact absurd e.symm hk
/-! ### instances -/
abbrev mObj (C : Addr) (names : List Str) (Γf : List Sl) : Cod := ⟨Env Γf, fun F H fp v x => ∃ p dx vs fp', v = .ref p ∧ H p = some (.ins C dx (names.zip vs)) ∧ fp = p :: fp' ∧ vs.length = names.length ∧ SRel Γf [] (vs.map some) F H (tag .lo fp') x,
  fun {F F' H H' fp v x} h e k => let ⟨p, dx, vs, fp', h1, h2, h3, h4, h5⟩ := h; ⟨p, dx, vs, fp', h1, by rw [k p (by rw [h3]; simp)]; exact h2, h3, h4, h5.ext e fun k' a ha => k a (by rw [h3]; exact List.mem_cons_of_mem _ (mem_tag.mp ha).2)⟩⟩
def Env.snoc {s : Sl} : (Γf : List Sl) → Env Γf → s.α → Env (Γf ++ [s])
  | [], _, x => (x, ())
  | _ :: Γf, ρ, x => (ρ.1, Env.snoc Γf ρ.2 x)
theorem SRel.snocD {F H : Hp} {c : DCod} {v : V} {x : c.α} (r : c.rel F v x) : ∀ {Γf : List Sl} {τ σ : St} {L : Fps} {ρ : Env Γf}, SRel Γf τ σ F H L ρ → SRel (Γf ++ [Sl.da c]) τ (σ ++ [some v]) F H L (Env.snoc (s := Sl.da c) Γf ρ x)
  | [], τ, σ, L, ρ, ⟨h1, h2⟩ => ⟨v, [], by rw [h1]; rfl, r, rfl, h2⟩
  | .no :: Γ, τ, σ, L, ρ, ⟨w, σ', e, h⟩ => ⟨w, σ' ++ [some v], by rw [e]; rfl, h.snocD r⟩
  | .da c0 :: Γ, τ, σ, L, ρ, ⟨w, σ', e, hr, h⟩ => ⟨w, σ' ++ [some v], by rw [e]; rfl, hr, h.snocD r⟩
  | .m k' c0 :: Γ, τ, σ, L, ρ, ⟨w, σ', fp0, L', e, e2, e3, hr, h⟩ => ⟨w, σ' ++ [some v], fp0, L', by rw [e]; rfl, e2, e3, hr, h.snocD r⟩
theorem SRel.snocM {F H : Hp} {c : Cod} {v : V} {x : c.α} {fp : List Addr} (r : c.rel F H fp v x) : ∀ {Γf : List Sl} {τ σ : St} {L : Fps} {ρ : Env Γf}, SRel Γf τ σ F H L ρ → SRel (Γf ++ [Sl.m .lo c]) τ (σ ++ [some v]) F H (L ++ tag .lo fp) (Env.snoc (s := Sl.m .lo c) Γf ρ x)
  | [], τ, σ, L, ρ, ⟨h1, h2⟩ => ⟨v, [], fp, [], by rw [h1]; rfl, .inl rfl, by rw [h2]; simp, r, rfl, rfl⟩
  | .no :: Γ, τ, σ, L, ρ, ⟨w, σ', e, h⟩ => ⟨w, σ' ++ [some v], by rw [e]; rfl, h.snocM r⟩
  | .da c0 :: Γ, τ, σ, L, ρ, ⟨w, σ', e, hr, h⟩ => ⟨w, σ' ++ [some v], by rw [e]; rfl, hr, h.snocM r⟩
  | .m k' c0 :: Γ, τ, σ, L, ρ, ⟨w, σ', fp0, L', e, e2, e3, hr, h⟩ => ⟨w, σ' ++ [some v], fp0, L' ++ tag .lo fp, by rw [e]; rfl, e2, by rw [e3, List.append_assoc], hr, h.snocM r⟩
theorem putF_new {f : Str} {y : V} : ∀ {names : List Str} (vs : List V), names.contains f = false → vs.length = names.length → putF f y (names.zip vs) = (names ++ [f]).zip (vs ++ [y])
  | [], vs, _, hl => by
    have : vs = [] := List.eq_nil_of_length_eq_zero hl
    subst this; rfl
  | n :: ns, [], _, hl => by simp at hl
  | n :: ns, v :: vs, hn, hl => by
    simp only [List.contains_cons, Bool.or_eq_false_iff] at hn
    have hne : ¬ n = f := fun e => by
      rw [e] at hn
      simp at hn
    show (if n = f then (n, y) :: ns.zip vs else (n, v) :: putF f y (ns.zip vs)) = (n, v) :: (ns ++ [f]).zip (vs ++ [y])
    rw [if_neg hne, putF_new vs hn.2 (by simpa using hl)]
section
variable {p : Bool} {E : XK} {XC : Str → Value} {Rt : Ret} {K : PySem.W.Frag} {Γ Γ' Γ0 Γ1 Γ2 ΓL Γf : List Sl} {te ta tb tc : TE} {tt tu : TT} {tA : TA} {ti : TI} {tg : TG} {a b c d : DCod} {m : Cod} {cs : List DCod} {ts us : TS} {C : Addr} {names : List Str}
theorem tag_app {k : Kd} {a b : List Addr} : tag k (a ++ b) = tag k a ++ tag k b := by unfold tag; rw [List.map_append]
theorem st_fldD {i : Nat} {k : Kd} {f : Str} (hk : k ≠ .co) (u : Up Γ i (.m k (mObj C names Γf)) (.m k (mObj C (names ++ [f]) (Γf ++ [Sl.da c]))) Γ') (hc : Cls K C) (hn : NoAttr K C f) (hf : names.contains f = false) (hl : names.length < 900) {T : (R : Type) → (c.α → Env Γ → Res R) → Env Γ → Res R} (h : EvE p E XC Γ te c T) :
    StE E XC Rt Γ (sFld K (tVar i) te f) Γ' ΓL (fun R nx rt bk ct ρ => T R (fun x ρ => nx (u.set ρ (Env.snoc (s := Sl.da c) Γf (u.old ρ) x))) ρ) := fun B σ F H ρ I R G hG nx rt bk ct D g qn qr qb qc =>
  h B σ F H ρ I R G hG _ _ g fun x ρ1 y F1 H1 I1 e1 r1 g1 => by
    obtain ⟨v, fp, h1, hr, nd, hfp, hst⟩ := I1.mutU u hk
    obtain ⟨q, dx, vs, fp', rfl, hq, rfl, hvl, hs⟩ := hr
    refine ⟨_, h1, q, C, dx, _, rfl, hq, hc, hn, by rw [List.length_zip]; omega, ?_⟩
    rw [putF_new vs hf hvl]
    refine qn _ σ F1 _ (hst F1 _ (q :: fp') _ ⟨Ex.refl _, fun a o ha => ?_, fun a o ha hm => ?_, fun a o ha => ?_, fun a o ha => .inl ha, nd, fun a ha => ?_⟩ ⟨q, dx, vs ++ [y], fp', rfl, upd_same, rfl, by simp [hvl], ?_⟩) e1.1 g1
    · rw [upd_ne (ne_of_none ha (hfp q (by simp)).1)]; exact I1.fh a o ha
    · rw [upd_ne (fun e => hm (by simp [e]))]; exact ha
    · by_cases he : a = q
      · subst he; exact ⟨_, upd_same⟩
      · exact ⟨o, by rw [upd_ne he]; exact ha⟩
    · obtain ⟨z1, o, z2⟩ := hfp a ha
      refine ⟨.inl ha, z1, ?_⟩
      by_cases he : a = q
      · subst he; exact ⟨_, upd_same⟩
      · exact ⟨o, by rw [upd_ne he]; exact z2⟩
    · have w := (hs.ext (Ex.refl F1) (H' := upd H1 q (.ins C dx ((names ++ [f]).zip (vs ++ [y])))) fun k' a ha => upd_ne fun e => by
        subst e
        exact (List.nodup_cons.mp nd).1 (mem_tag.mp ha).2).snocD r1
      rw [List.map_append]
      exact w
theorem st_fldM {i : Nat} {k : Kd} {f : Str} (hk : k ≠ .co) (u : Up Γ i (.m k (mObj C names Γf)) (.m k (mObj C (names ++ [f]) (Γf ++ [Sl.m Kd.lo m]))) Γ') (hc : Cls K C) (hn : NoAttr K C f) (hf : names.contains f = false) (hl : names.length < 900) {T : (R : Type) → (m.α → Env Γ → Res R) → Env Γ → Res R} (h : EvN p E XC Γ te m T) :
    StE E XC Rt Γ (sFld K (tVar i) te f) Γ' ΓL (fun R nx rt bk ct ρ => T R (fun x ρ => nx (u.set ρ (Env.snoc (s := Sl.m Kd.lo m) Γf (u.old ρ) x))) ρ) := fun B σ F H ρ I R G hG nx rt bk ct D g qn qr qb qc =>
  h B σ F H ρ I R G hG _ _ g fun x ρ1 y fpn F0 H0 F1 H1 I1 e1 pp nw r1 g1 => by
    obtain ⟨v, fp, h1, hr, nd, hfp, hst⟩ := I1.mutU u hk
    obtain ⟨q, dx, vs, fp', rfl, hq, rfl, hvl, hs⟩ := hr
    have hqn : ∀ a, a ∈ fpn → a ≠ q := fun a ha e => by
      subst e
      rw [(nw.at_ a ha).1] at hq; cases hq
    refine ⟨_, h1, q, C, dx, _, rfl, pp.hh q _ hq, hc, hn, by rw [List.length_zip]; omega, ?_⟩
    rw [putF_new vs hf hvl]
    have hfq : F1 q = none := by
      cases e : F1 q with
      | none => rfl
      | some u =>
        rcases pp.new q u e with z | z
        · rw [(hfp q (by simp)).1] at z; cases z
        · rw [hq] at z; cases z
    refine qn _ σ F1 _ (hst F1 _ (q :: (fp' ++ fpn)) _ ⟨pp.ff, fun a o ha => ?_, fun a o ha hm => ?_, fun a o ha => ?_, pp.new, ?_, fun a ha => ?_⟩ ⟨q, dx, vs ++ [y], fp' ++ fpn, rfl, upd_same, rfl, by simp [hvl], ?_⟩) (e1.1.trans pp.ff) g1
    · rw [upd_ne (ne_of_none ha hfq)]; exact pp.fh a o ha
    · rw [upd_ne (fun e => hm (by simp [e]))]; exact pp.hh a o ha
    · by_cases he : a = q
      · subst he; exact ⟨_, upd_same⟩
      · exact ⟨o, by rw [upd_ne he]; exact pp.hh a o ha⟩
    · have n1 := List.nodup_cons.mp nd
      refine List.nodup_cons.mpr ⟨fun hm => ?_, List.nodup_append.mpr ⟨n1.2, nw.nd, fun a ha b hb e => ?_⟩⟩
      · rcases List.mem_append.mp hm with z | z
        · exact n1.1 z
        · exact hqn q z rfl
      · subst e
        obtain ⟨_, o, z⟩ := hfp a (List.mem_cons_of_mem _ ha)
        rw [(nw.at_ a hb).1] at z; cases z
    · rcases List.mem_cons.mp ha with he | ha
      · subst he
        exact ⟨.inl (by simp), hfq, _, upd_same⟩
      · rcases List.mem_append.mp ha with z | z
        · obtain ⟨z1, o, z2⟩ := hfp a (List.mem_cons_of_mem _ z)
          have hne : a ≠ q := fun e => (List.nodup_cons.mp nd).1 (e ▸ z)
          refine ⟨.inl (List.mem_cons_of_mem _ z), ?_, o, by rw [upd_ne hne]; exact pp.hh a o z2⟩
          cases e : F1 a with
          | none => rfl
          | some u =>
            rcases pp.new a u e with w | w
            · rw [z1] at w; cases w
            · rw [z2] at w; cases w
        · obtain ⟨z1, z2, o, z3⟩ := nw.at_ a z
          exact ⟨.inr z1, z2, o, by rw [upd_ne (hqn a z)]; exact z3⟩
    · have w0 := hs.ext pp.ff (H' := upd H1 q (.ins C dx ((names ++ [f]).zip (vs ++ [y])))) fun k' a ha => by
        have hm := (mem_tag.mp ha).2
        obtain ⟨_, o, z2⟩ := hfp a (List.mem_cons_of_mem _ hm)
        have hne : a ≠ q := fun e => (List.nodup_cons.mp nd).1 (e ▸ hm)
        rw [upd_ne hne, z2, pp.hh a o z2]
      have r2 : m.rel F1 (upd H1 q (.ins C dx ((names ++ [f]).zip (vs ++ [y])))) fpn y x := m.ext r1 (Ex.refl _) fun a ha => upd_ne (hqn a ha)
      have w := w0.snocM r2
      rw [List.map_append, tag_app]
      exact w
end
end Pu
set_option Elab.async false
set_option linter.all false
set_option maxRecDepth 100000
set_option maxHeartbeats 4000000
namespace Pu
open PySem L2 Evl
def spI (XC : Str → Value) (C : Addr) (names : List Str) (Γf : List Sl) (cs : List DCod) (f : DEnv cs → Res (Env Γf)) : Sp := fun vs H Q E => ∃ F p dx vs' x, vs = .ref p :: vs' ∧ Ex F H ∧ F p = none ∧ H p = some (.ins C dx []) ∧ DRel cs F vs' x ∧ f x ≠ .bad ∧
  (∀ y, f x = .ok y → ∀ F' H' fp', Step F H [p] F' H' fp' → (mObj C names Γf).rel F' H' fp' (.ref p) y → Q .non H') ∧ ∀ n, f x = .exc n → ∀ H', (∀ a o, H a = some o → a ≠ p → H' a = some o) → E (XC n) none H'
section
variable {p : Bool} {E : XK} {XC : Str → Value} {Rt : Ret} {K : PySem.W.Frag} {Γ Γ' Γ0 Γ1 Γ2 ΓL Γf : List Sl} {te ta tb tc : TE} {tt tu : TT} {tA : TA} {ti : TI} {tg : TG} {a b c d : DCod} {m : Cod} {cs : List DCod} {ts us : TS} {C : Addr} {names : List Str}
theorem en_make {f : DEnv cs → Res (Env Γf)} {TA : (R : Type) → (DEnv cs → Env Γ → Res R) → Env Γ → Res R} (h : EvA p E XC Γ tA cs TA) : EvN p E XC Γ (tMake C (spI XC C names Γf cs f) [] E tA) (mObj C names Γf) (fun R k ρ => TA R (fun x ρ => (f x).bind fun y => k y ρ) ρ) := fun B σ F H ρ I R G hG k Q g q =>
  h B σ F H ρ I R G hG _ _ g fun x ρ1 vs F1 H1 I1 e1 r1 g1 x0 dx h0 hd hne => by
    have f0 : F1 x0 = none := none_of I1.fh h0
    have fd : F1 dx = none := none_of I1.fh hd
    refine ⟨F1, x0, dx, vs ++ [], x, rfl, fun a o ha => ?_, f0, upd_same, r1.app, fun e => ?_, fun y e F' H' fp' st r => ⟨rfl, ?_⟩, fun n e H' k' => ?_⟩
    · rw [upd_ne (ne_of_none ha f0), upd_ne (ne_of_none ha fd)]; exact I1.fh a o ha
    · rw [e] at g1; exact hG.1 g1
    · rw [e] at g1
      have back : ∀ a o, H1 a = some o → (upd (upd H1 dx (.own x0)) x0 (.ins C dx [])) a = some o ∧ a ∉ [x0] := fun a o ha => by
        refine ⟨by rw [upd_ne (ne_of_none ha h0), upd_ne (ne_of_none ha hd)]; exact ha, fun hm => ?_⟩
        have hm : a = x0 := by simpa using hm
        subst hm
        rw [h0] at ha; cases ha
      have back2 : ∀ a, (upd (upd H1 dx (.own x0)) x0 (.ins C dx [])) a = none → H1 a = none := fun a z => by
        cases e2 : H1 a with
        | none => rfl
        | some u => rw [(back a u e2).1] at z; cases z
      refine q y ρ1 (.ref x0) fp' F1 H1 F' H' I1 e1 ⟨fun a o ha => st.keep a o (back a o ha).1 (back a o ha).2, st.ff, st.fh, fun a o ha => ?_⟩ ⟨st.nd, fun a ha => ?_⟩ r g1
      · rcases st.new a o ha with z | z
        · exact .inl z
        · exact .inr (back2 a z)
      · obtain ⟨z1, z2, z3⟩ := st.own a ha
        refine ⟨?_, z2, z3⟩
        rcases z1 with z | z
        · have z : a = x0 := by simpa using z
          rw [z]; exact h0
        · exact back2 a z
    · rw [e] at g1
      refine hG.2 n H' g1 (I1.frm.ex fun a o ha => k' a o ?_ (ne_of_none ha h0))
      rw [upd_ne (ne_of_none ha h0), upd_ne (ne_of_none ha hd)]; exact ha
def envD : (cs : List DCod) → Env (cs.map Sl.da) → DEnv cs
  | [], _ => ()
  | _ :: cs, x => (x.1, envD cs x.2)
theorem envD_rel {F H : Hp} : ∀ (cs : List DCod) {τ : St} {vs : List V} {L : Fps} {x : Env (cs.map Sl.da)}, SRel (cs.map Sl.da) τ (vs.map some) F H L x → DRel cs F vs (envD cs x) ∧ L = []
  | [], τ, vs, L, x, ⟨h1, h2⟩ => ⟨show vs = [] by simpa using h1, h2⟩
  | c :: cs, τ, vs, L, x, ⟨v, σ', e, r, h⟩ => by
    cases vs with
    | nil => simp at e
    | cons w ws =>
      simp only [List.map_cons, List.cons.injEq, Option.some.injEq] at e
      obtain ⟨e1, e2⟩ := e
      subst e1 e2
      obtain ⟨h1, h2⟩ := envD_rel cs h
      exact ⟨⟨w, ws, rfl, r, h1⟩, h2⟩
theorem freezeO {fs : List DCod} {T : (R : Type) → (Env (fs.map Sl.da) → Env Γ → Res R) → Env Γ → Res R} (h : EvN p E XC Γ te (mObj C names (fs.map Sl.da)) T) : EvE p E XC Γ te (dIns C names fs) (fun R k ρ => T R (fun x ρ => k (envD fs x) ρ) ρ) := fun B σ F H ρ I R G hG k Q g q =>
  h B σ F H ρ I R G hG _ Q g fun x ρ' v fp F0 H0 F' H' I0 e pp n r g' => by
    obtain ⟨l, dx, vs, fp', rfl, hl, rfl, hv, hs⟩ := r
    obtain ⟨hr, hfp⟩ := envD_rel fs hs
    obtain ⟨n1, n2, _⟩ := n.at_ l (by simp)
    have p2 : Pext F0 (upd F' l (.ins C dx (names.zip vs))) H0 H' := ⟨pp.hh, pp.ff.trans (Ex.new n2), fun a u ea => by
      by_cases hb : a = l
      · subst hb; rw [upd_same] at ea; cases ea; exact hl
      · rw [upd_ne hb] at ea; exact pp.fh a u ea, fun a u ea => by
      by_cases hb : a = l
      · subst hb; exact .inr n1
      · rw [upd_ne hb] at ea; exact pp.new a u ea⟩
    exact q _ ρ' (.ref l) _ H' (I0.pext p2) (e.pext p2) ⟨l, dx, vs, rfl, upd_same, hr.ext (Ex.new n2)⟩ g'
/-! ### raise, while, slots forgotten ahead -/
theorem st_raise {n : Str} : StE E XC Rt Γ (fun D σ H => E (XC n) none H) Γ' ΓL (fun R nx rt bk ct ρ => .exc n) := fun B σ F H ρ I R G hG nx rt bk ct D g qn qr qb qc => hG.2 n H g I.frm
theorem st_post {T : (R : Type) → (Env Γ1 → Res R) → (Rt.r.α → Rt.P → Res R) → (Env ΓL → Res R) → (Env ΓL → Res R) → Env Γ → Res R} (b : Bk Γ1 Γ') (h : StE E XC Rt Γ ts Γ1 ΓL T) : StE E XC Rt Γ ts Γ' ΓL (fun R nx rt bk ct ρ => T R (fun ρ => nx (b.f ρ)) rt bk ct ρ) := fun B σ F H ρ I R G hG nx rt bk ct D g qn qr qb qc =>
  h B σ F H ρ I R G hG _ rt bk ct D g (fun ρ' σ' F' H' I' e' g' => qn _ σ' F' H' (b.inv I') e' g') qr qb qc
def whl {S R : Type} (step : (S → Res R) → S → Res R) : Nat → S → Res R
  | 0, _ => .bad
  | n + 1, ρ => step (whl step n) ρ
theorem st_while (fuel : Nat) {T0 : (R : Type) → (Bool → Env Γ → Res R) → Env Γ → Res R} {T : (R : Type) → (Env Γ → Res R) → (Rt.r.α → Rt.P → Res R) → (Env Γ → Res R) → (Env Γ → Res R) → Env Γ → Res R} (h : EvT p E XC Γ tt T0) (hb : StE E XC Rt Γ ts Γ Γ T) :
    StE E XC Rt Γ (tWhile tt ts) Γ ΓL (fun R nx rt bk ct ρ => whl (fun k ρ => T0 R (fun b ρ => if b = true then T R k rt nx k ρ else nx ρ) ρ) fuel ρ) := fun B σ F H ρ I R G hG nx rt bk ct D g qn qr qb qc => by
  refine ⟨fun n σ' H' => ∃ F' ρ', SInv B Γ σ' F' H' ρ' ∧ Ex F F' ∧ G (whl (fun k ρ => T0 R (fun b ρ => if b = true then T R k rt nx k ρ else nx ρ) ρ) n ρ'), ⟨fuel, F, ρ, I, Ex.refl F, g⟩, ?_⟩
  rintro n σ' H' ⟨F', ρ', I', e', g'⟩
  cases n with
  | zero => exact absurd g' hG.1
  | succ n =>
    have g' : G (T0 R (fun b ρ => if b = true then T R (whl (fun k ρ => T0 R (fun b ρ => if b = true then T R k rt nx k ρ else nx ρ) ρ) n) rt nx (whl (fun k ρ => T0 R (fun b ρ => if b = true then T R k rt nx k ρ else nx ρ) ρ) n) ρ else nx ρ) ρ') := g'
    refine h B σ' F' H' ρ' I' R G hG _ _ g' fun b ρ2 F2 H2 I2 e2 g2 => ?_
    cases b with
    | false =>
      rw [if_neg (by decide)] at g2 ⊢
      exact qn ρ2 σ' F2 H2 I2 (e'.trans e2.1) g2
    | true =>
      rw [if_pos rfl] at g2 ⊢
      refine ⟨fun σ2 H2' => ∃ F3 ρ3, SInv B Γ σ2 F3 H2' ρ3 ∧ Ex F F3 ∧ G (whl (fun k ρ => T0 R (fun b ρ => if b = true then T R k rt nx k ρ else nx ρ) ρ) n ρ3), fun σ2 H2' w => ⟨n, Nat.lt_succ_self n, w⟩, ?_⟩
      exact hb B σ' F2 H2 ρ2 I2 R G hG _ rt nx _ _ g2 (fun ρ3 σ3 F3 H3 I3 e3 g3 => ⟨F3, ρ3, I3, (e'.trans e2.1).trans e3, g3⟩) qr (fun ρ3 σ3 F3 H3 I3 e3 g3 => qn ρ3 σ3 F3 H3 I3 ((e'.trans e2.1).trans e3) g3) fun ρ3 σ3 F3 H3 I3 e3 g3 => ⟨F3, ρ3, I3, (e'.trans e2.1).trans e3, g3⟩
/-! ### defs -/
def slots0 : List DCod → Nat → List Sl
  | [], n => List.replicate n .no
  | c :: cs, n => .da c :: slots0 cs n
def noEnv : (n : Nat) → Env (List.replicate n Sl.no)
  | 0 => ()
  | n + 1 => ((), noEnv n)
def env0 : (cs : List DCod) → (n : Nat) → DEnv cs → Env (slots0 cs n)
  | [], n, _ => noEnv n
  | _ :: cs, n, x => (x.1, env0 cs n x.2)
theorem noRel {F H : Hp} : ∀ (n : Nat) (τ : St), SRel (List.replicate n Sl.no) τ (List.replicate n none) F H [] (noEnv n)
  | 0, _ => ⟨rfl, rfl⟩
  | n + 1, τ => ⟨none, List.replicate n none, rfl, noRel n τ.tail⟩
theorem rel0 {F H : Hp} : ∀ (cs : List DCod) (n : Nat) (τ : St) {vs : List V} {x : DEnv cs}, DRel cs F vs x → SRel (slots0 cs n) τ (vs.map some ++ List.replicate n none) F H [] (env0 cs n x)
  | [], n, τ, vs, x, h => by rw [show vs = [] from h]; exact noRel n τ
  | c :: cs, n, τ, vs, x, ⟨v, vs', e, r, h⟩ => by
    rw [e]
    exact ⟨v, _, rfl, r, rel0 cs n τ.tail h⟩
theorem wd0 {F H : Hp} {τ : St} {M O : List Addr} {L : Fps} (h : Ex F H) (nd : (L.map (·.2)).Nodup) (fr : ∀ k a, (k, a) ∈ L → F a = none ∧ ∃ o, H a = some o) (h1 : ∀ a, (Kd.pa, a) ∈ L → a ∈ M) (h2 : ∀ a, (Kd.lo, a) ∉ L) (h3 : ∀ a, (Kd.co, a) ∈ L → a ∈ O) : Wd ⟨F, H, M, [], O, τ⟩ F H L :=
  ⟨nd, fr, h, Ex.refl F, fun a o h _ _ => h, fun a o h => ⟨o, h⟩, fun a o h => .inl h, fun a ha => .inl (h1 a ha), fun a ha => absurd ha (h2 a), fun a ha => .inl (h3 a ha)⟩
theorem start_eq {N : List Str} {vs : List V} {n : Nat} (h : N.length = vs.length + n) : L2.start N vs = vs.map some ++ List.replicate n none := by
  unfold L2.start
  rw [h, Nat.add_sub_cancel_left]
theorem run_D {N : List Str} {n : Nat} (hN : N.length = cs.length + n) {f : DEnv cs → Res c.α} {Γe : List Sl} {T : (R : Type) → (Env Γe → Res R) → (c.α → Unit → Res R) → (Env [] → Res R) → (Env [] → Res R) → Env (slots0 cs n) → Res R} (h : StE E XC (retD c) (slots0 cs n) ts Γe [] T)
    (hf : ∀ x, T c.α (fun _ => .bad) (fun z _ => .ok z) (fun _ => .bad) (fun _ => .bad) (env0 cs n x) = f x) (vs : List V) (H : Hp) (Q : VK) (hsp : spD XC cs c f vs H Q E) : ts { nx := fun _ H' => Q .non H', rt := Q } (L2.start N vs) H := by
  obtain ⟨F, x, e, r, hb, hq, hx⟩ := hsp
  have hl := r.len
  rw [start_eq (n := n) (by rw [hl]; exact hN)]
  refine h ⟨F, H, [], [], [], vs.map some ++ List.replicate n none⟩ _ F H (env0 cs n x) ⟨[], rel0 cs n _ r, wd0 e (by simp) (by simp) (by simp) (by simp) (by simp)⟩ c.α (fun z => z = f x) ⟨fun z => hb z.symm, fun nm H' z fr => hx nm z.symm H' fun a o ha => fr a o ha (by simp) (by simp)⟩ _ _ _ _ _ (hf x) ?_ ?_ ?_ ?_
  · intro ρ' σ' F' H' _ _ z; exact absurd z.symm hb
  · intro z y v F' H' ho rv z2
    exact hq z z2.symm v F' H' (ho rfl rfl) rv
  · intro ρ' σ' F' H' _ _ z; exact absurd z.symm hb
  · intro ρ' σ' F' H' _ _ z; exact absurd z.symm hb
theorem run_M {N : List Str} {n : Nat} (hN : N.length = cs.length + 1 + n) {f : m.α → DEnv cs → Res (c.α × m.α)} {Γe : List Sl} {T : (R : Type) → (Env Γe → Res R) → (c.α → m.α → Res R) → (Env [] → Res R) → (Env [] → Res R) → Env (.m .pa m :: slots0 cs n) → Res R} (h : StE E XC (retM c m 0) (.m .pa m :: slots0 cs n) ts Γe [] T)
    (hf : ∀ y x, T (c.α × m.α) (fun _ => .bad) (fun z y => .ok (z, y)) (fun _ => .bad) (fun _ => .bad) (y, env0 cs n x) = f y x) (vs : List V) (H : Hp) (Q : VK) (hsp : spM XC m cs c f vs H Q E) : ts { nx := fun _ H' => Q .non H', rt := Q } (L2.start N vs) H := by
  obtain ⟨F, fp, v, vs', y, x, rfl, e, mr, nd, hfp, r, hb, hq, hx⟩ := hsp
  have hl := r.len
  rw [start_eq (n := n) (by rw [List.length_cons, hl]; exact hN)]
  refine h ⟨F, H, fp, [], [], (v :: vs').map some ++ List.replicate n none⟩ _ F H (y, env0 cs n x) ⟨tag .pa fp ++ [], ⟨v, _, fp, [], rfl, .inr rfl, rfl, mr, rel0 cs n _ r⟩, wd0 e (by rw [List.append_nil, tag_map]; exact nd) (fun k a ha => hfp a (mem_tag.mp (by simpa using ha)).2) (fun a ha => (mem_tag.mp (by simpa using ha)).2) (fun a ha => nomatch (mem_tag.mp (show (Kd.lo, a) ∈ tag .pa fp by simpa using ha)).1) (fun a ha => nomatch (mem_tag.mp (show (Kd.co, a) ∈ tag .pa fp by simpa using ha)).1)⟩
    (c.α × m.α) (fun z => z = f y x) ⟨fun z => hb z.symm, fun nm H' z fr => hx nm z.symm H' fun a o ha hm => fr a o ha hm (by simp)⟩ _ _ _ _ _ (hf y x) ?_ ?_ ?_ ?_
  · intro ρ' σ' F' H' _ _ z; exact absurd z.symm hb
  · intro z y' u F' H' ho rv z2
    obtain ⟨v2, fp', ho⟩ := ho
    obtain ⟨h1, h2, h3⟩ := ho rfl
    have ev : v2 = v := by
      have h1 : some (some v) = some (some v2) := h1
      cases h1; rfl
    subst ev
    exact hq z y' z2.symm u F' H' fp' h3 h2 rv
  · intro ρ' σ' F' H' _ _ z; exact absurd z.symm hb
  · intro ρ' σ' F' H' _ _ z; exact absurd z.symm hb
theorem run_C {N : List Str} {n : Nat} (hN : N.length = cs.length + 1 + n) {f : m.α → DEnv cs → Res c.α} {Γe : List Sl} {T : (R : Type) → (Env Γe → Res R) → (c.α → Unit → Res R) → (Env [] → Res R) → (Env [] → Res R) → Env (.m .co m :: slots0 cs n) → Res R} (h : StE E XC (retD c) (.m .co m :: slots0 cs n) ts Γe [] T)
    (hf : ∀ y x, T c.α (fun _ => .bad) (fun z _ => .ok z) (fun _ => .bad) (fun _ => .bad) (y, env0 cs n x) = f y x) (vs : List V) (H : Hp) (Q : VK) (hsp : spC XC m cs c f vs H Q E) : ts { nx := fun _ H' => Q .non H', rt := Q } (L2.start N vs) H := by
  obtain ⟨F, fp, v, vs', y, x, rfl, e, mr, nd, hfp, r, hb, hq, hx⟩ := hsp
  have hl := r.len
  rw [start_eq (n := n) (by rw [List.length_cons, hl]; exact hN)]
  refine h ⟨F, H, [], [], fp, (v :: vs').map some ++ List.replicate n none⟩ _ F H (y, env0 cs n x) ⟨tag .co fp ++ [], ⟨v, _, fp, [], rfl, .inr rfl, rfl, mr, rel0 cs n _ r⟩, wd0 e (by rw [List.append_nil, tag_map]; exact nd) (fun k a ha => hfp a (mem_tag.mp (by simpa using ha)).2) (fun a ha => nomatch (mem_tag.mp (show (Kd.pa, a) ∈ tag .co fp by simpa using ha)).1) (fun a ha => nomatch (mem_tag.mp (show (Kd.lo, a) ∈ tag .co fp by simpa using ha)).1) (fun a ha => (mem_tag.mp (by simpa using ha)).2)⟩
    c.α (fun z => z = f y x) ⟨fun z => hb z.symm, fun nm H' z fr => hx nm z.symm H' fun a o ha => fr a o ha (by simp) (by simp)⟩ _ _ _ _ _ (hf y x) ?_ ?_ ?_ ?_
  · intro ρ' σ' F' H' _ _ z; exact absurd z.symm hb
  · intro z y' u F' H' ho rv z2
    exact hq z z2.symm u F' H' (ho rfl rfl) rv
  · intro ρ' σ' F' H' _ _ z; exact absurd z.symm hb
  · intro ρ' σ' F' H' _ _ z; exact absurd z.symm hb
theorem run_I {N : List Str} {n : Nat} (hN : N.length = cs.length + 1 + n) {f : DEnv cs → Res (Env Γf)} {Γe : List Sl} (at_ : At Γe 0 (.m .pa (mObj C names Γf))) {T : (R : Type) → (Env Γe → Res R) → (Unit → Unit → Res R) → (Env [] → Res R) → (Env [] → Res R) → Env (.m .pa (mObj C [] []) :: slots0 cs n) → Res R}
    (h : StE E XC ⟨dNon, Unit, fun _ _ _ _ _ => False⟩ (.m .pa (mObj C [] []) :: slots0 cs n) ts Γe [] T) (hf : ∀ x, T (Env Γf) (fun ρ => .ok (at_.get ρ)) (fun _ _ => .bad) (fun _ => .bad) (fun _ => .bad) ((), env0 cs n x) = f x) (vs : List V) (H : Hp) (Q : VK) (hsp : spI XC C names Γf cs f vs H Q E) : ts { nx := fun _ H' => Q .non H', rt := Q } (L2.start N vs) H := by
  obtain ⟨F, q, dx, vs', x, rfl, e, hF, hH, r, hb, hq, hx⟩ := hsp
  have hl := r.len
  rw [start_eq (n := n) (by rw [List.length_cons, hl]; exact hN)]
  refine h ⟨F, H, [q], [], [], (V.ref q :: vs').map some ++ List.replicate n none⟩ _ F H ((), env0 cs n x) ⟨tag .pa [q] ++ [], ⟨.ref q, _, [q], [], rfl, .inr rfl, rfl, ⟨q, dx, [], [], rfl, hH, rfl, rfl, rfl, rfl⟩, rel0 cs n _ r⟩, wd0 e (by simp [tag]) (fun k a ha => ?_) (fun a ha => (mem_tag.mp (by simpa using ha)).2) (fun a ha => nomatch (mem_tag.mp (show (Kd.lo, a) ∈ tag .pa [q] by simpa using ha)).1) (fun a ha => nomatch (mem_tag.mp (show (Kd.co, a) ∈ tag .pa [q] by simpa using ha)).1)⟩
    (Env Γf) (fun z => z = f x) ⟨fun z => hb z.symm, fun nm H' z fr => hx nm z.symm H' fun a o ha hm => fr a o ha (by simpa using hm) (by simp)⟩ _ _ _ _ _ (hf x) ?_ ?_ ?_ ?_
  · have ha : a = q := by simpa using (mem_tag.mp (show (k, a) ∈ tag .pa [q] by simpa using ha)).2
    subst ha
    exact ⟨hF, _, hH⟩
  · intro ρ' σ' F' H' I' _ z
    obtain ⟨v2, fp', ho⟩ := I'.stepB at_
    obtain ⟨h1, h2, h3⟩ := ho rfl
    have ev : v2 = .ref q := by
      have h1 : some (some (V.ref q)) = some (some v2) := h1
      cases h1; rfl
    subst ev
    exact hq _ z.symm F' H' fp' h3 h2
  · intro z y' u F' H' ho rv z2; exact ho.elim
  · intro ρ' σ' F' H' _ _ z; exact absurd z.symm hb
  · intro ρ' σ' F' H' _ _ z; exact absurd z.symm hb
end
end Pu
set_option Elab.async false
set_option linter.all false
set_option maxRecDepth 100000
set_option maxHeartbeats 4000000
namespace Pu
open PySem PySem.Spec PyProof.Rows L2 Evl
def OkF (P : Program) (w : World) (K : PySem.W.Frag) (mg : Str → Option Value) (base : Heap) (k : Nat) (f : Addr) (ps : List Str) (sp : Sp) : Prop :=
  ∃ fd : FuncData, FnOk P w K mg base (L2.CX P w) k f fd ps sp ∧ Binds K fd ps [] ∧ PySem.W.keepIn K (.ref f) = true
section
variable {X : Cx} {j k : Nat} {f C : Addr} {ps : List Str} {sp : Sp} {E : XK} {x m : Str} {p pos apos : Pos} {e o : Expr} {es : List Expr} {t : TA} {ta : TE}
theorem pcall (F : OkF X.prog X.w X.K X.mg X.base k f ps sp) (hr : Room j X.A) (hk : k ≤ j) (hm : X.mg x = some (.ref f)) (hx : Passes (L2.CX X.prog X.w) X E) (ha : PA X (e :: es) t) (hg : Gl X x := by rfl)
    (hdb : (x == ("__debug__" : Str)) = false := by decide) (he : starEach (e :: es) X.env = (false, eval e X.env) :: starEach es X.env := by rfl) (hpl : (backTo pos (starEach es X.env)).any (·.1) = false := by rfl) :
    PE X (.Call (.Name x p) (e :: es) [] pos) (tCall sp [] E t) := by
  obtain ⟨fd, F1, b, kp⟩ := F
  exact pe_call F1 (hr.mono hk) hg hm kp b .nil hx ha hdb he hpl
theorem pmeth (F : OkF X.prog X.w X.K X.mg X.base k f ps sp) (hr : Room j X.A) (hk : k ≤ j) (c : Cls X.K C) (hm : Meth X.K C m f) (hx : Passes (L2.CX X.prog X.w) X E) (ho : PE X o ta) (ha : PA X (e :: es) t) {pl : Sem Bool}
    (hst : starEach (e :: es) X.env = (false, eval e X.env) :: starEach es X.env := by rfl) (hpl : (backTo pos (starEach es X.env)).any (·.1) = false := by rfl)
    (ht : eval (.Call (.Attribute o m apos) (e :: es) [] pos) X.env = (do
      let ov ← eval o X.env
      standAt apos.atName
      let (f, first) ← holding [ov] (getMethod ov m pl)
      callWith pos f first (backTo pos (starEach (e :: es) X.env)) (backToKw pos (keywordEach [] X.env))) := by rfl) :
    PE X (.Call (.Attribute o m apos) (e :: es) [] pos) (tMeth C m sp [] E ta t) := by
  obtain ⟨fd, F1, b, kp⟩ := F
  exact pe_meth ho c hm F1 (hr.mono hk) b .nil hx ha hst hpl ht
theorem pmeth0 (F : OkF X.prog X.w X.K X.mg X.base k f ps sp) (hr : Room j X.A) (hk : k ≤ j) (c : Cls X.K C) (hm : Meth X.K C m f) (hx : Passes (L2.CX X.prog X.w) X E) (ho : PE X o ta) {pl : Sem Bool}
    (ht : eval (.Call (.Attribute o m apos) [] [] pos) X.env = (do
      let ov ← eval o X.env
      standAt apos.atName
      let (f, first) ← holding [ov] (getMethod ov m pl)
      callWith pos f first (backTo pos (starEach [] X.env)) (backToKw pos (keywordEach [] X.env))) := by rfl) :
    PE X (.Call (.Attribute o m apos) [] [] pos) (tMeth C m sp [] E ta tNil) := by
  obtain ⟨fd, F1, b, kp⟩ := F
  exact pe_meth0 ho c hm F1 (hr.mono hk) b .nil hx ht
theorem pmake (F : OkF X.prog X.w X.K X.mg X.base k f ps sp) (hr : Room j X.A) (hk : k + 1 ≤ j) (M : Mk X.K C f) (hm : X.mg x = some (.ref C)) (hx : Passes (L2.CX X.prog X.w) X E) (ha : PA X (e :: es) t) (hg : Gl X x := by rfl)
    (hdb : (x == ("__debug__" : Str)) = false := by decide) (he : starEach (e :: es) X.env = (false, eval e X.env) :: starEach es X.env := by rfl) (hpl : (backTo pos (starEach es X.env)).any (·.1) = false := by rfl) :
    PE X (.Call (.Name x p) (e :: es) [] pos) (tMake C sp [] E t) := by
  obtain ⟨fd, F1, b, kp⟩ := F
  exact pe_make M F1 (hr.mono hk) hg hm b .nil hx ha hdb he hpl
end
theorem pxB {P : Program} {w : World} {K : PySem.W.Frag} {mg : Str → Option Value} {base : Heap} {N : List Str} {qual : Str} {scope : Scope} {f : Addr} {cd : Value} {A : Around} {outer : List PySem.Env} {s : Shared} {H : Hp} {E : XK} :
    Passes (L2.CX P w) (cxOf (L2.CX P w) P w K mg base N qual scope f cd A outer s H E) E := passes_call (takes_of rfl rfl rfl rfl) fun _ _ _ _ h => h
theorem poB {P : Program} {w : World} {K : PySem.W.Frag} {mg : Str → Option Value} {base : Heap} {N : List Str} {qual : Str} {scope : Scope} {f : Addr} {cd : Value} {A : Around} {outer : List PySem.Env} {s : Shared} {H : Hp} {E : XK} :
    PassesOwn (model P w) (A.deeper (envOfC qual scope s.heap.objs.size f cd)) (envOfC qual scope s.heap.objs.size f cd) (cxOf (L2.CX P w) P w K mg base N qual scope f cd A outer s H E).xe := passes_of rfl
structure Tx (fa : List He.Fa) (fn : List He.DefD) (K : PySem.W.Frag) (mg : Str → Option Value) : Prop where
  c : He.SaysD fa fn K
  h : ∃ h : Heap, K.In h ∧ h.Ns mainGlobals mg
section
variable {fa : List He.Fa} {fn : List He.DefD} {K : PySem.W.Frag} {mg : Str → Option Value}
theorem Tx.glo (T : Tx fa fn K mg) (i : Nat) {x : Str} (h : fa[i]? = some (.glo x) := by rfl) : mg x = some (.ref (He.ga K x)) := let ⟨_, X, G⟩ := T.h; He.glo_ok X G (T.c.fact i h)
theorem Tx.free (T : Tx fa fn K mg) (i : Nat) {x : Str} (h : fa[i]? = some (.free x) := by rfl) : mg x = none := let ⟨_, X, G⟩ := T.h; He.free_ok X G (T.c.fact i h)
theorem Tx.cls (T : Tx fa fn K mg) (i : Nat) {x : Str} (h : fa[i]? = some (.cls x) := by rfl) : Cls K (He.ga K x) := He.cls_ok (T.c.fact i h)
theorem Tx.noat (T : Tx fa fn K mg) (i : Nat) {x f : Str} (h : fa[i]? = some (.noat x f) := by rfl) : NoAttr K (He.ga K x) f := He.noat_ok (T.c.fact i h)
theorem Tx.meth (T : Tx fa fn K mg) (i : Nat) {x m : Str} (h : fa[i]? = some (.meth x m) := by rfl) : Meth K (He.ga K x) m (He.ma K (He.ga K x) m) := He.meth_ok (T.c.fact i h)
theorem Tx.mkr (T : Tx fa fn K mg) (i : Nat) {x : Str} (h : fa[i]? = some (.mkr x) := by rfl) : Mk K (He.ga K x) (He.ma K (He.ga K x) "__init__") := He.mkr_ok (T.c.fact i h)
end
def xcK (K : PySem.W.Frag) : Str → Value := fun n => .ref (He.ga K n)
section
variable {P : Program} {w : World} {K : PySem.W.Frag} {mg : Str → Option Value} {base : Heap} {x qual : Str} {params : Arguments} {body : List Stmt} {scope : Scope} {f : Addr} {N ps : List Str} {k : Nat}
theorem okF {sp : Sp} (F : ∃ fd, FunD K x qual params body scope [] [] f fd) (S : FnScope N ps scope) (len : ∀ vs H Q E, sp vs H Q E → vs.length = ps.length)
    (bnd : ∀ (kV doc pm : Value) (an : Option Addr) (cdv ct : Value) (us : List Value), us.length = ps.length → bindArgs (PySem.W.fnOf x qual params body scope .none kV doc pm an cdv ct) ⟨us, []⟩ = pure (ps.zip us))
    (hbody : ∀ (cdv : Value) (A : Around) (outer : List PySem.Env) (s : Shared) (H : Hp) (E : XK), Room k (A.deeper (envOfC qual scope s.heap.objs.size f cdv)) →
      ∃ t, PSs (cxOf (L2.CX P w) P w K mg base N qual scope f cdv A outer s H E) body t ∧ ∀ (vs : List V) (Q : VK), sp vs H Q E → t { nx := fun _ H' => Q .non H', rt := Q } (L2.start N vs) H) : OkF P w K mg base (k + 1) f ps sp := by
  obtain ⟨fd, F⟩ := F
  refine ⟨fd, F.ok S len fun cdv A outer s H vs Q E hr h => ?_, F.bindsN bnd, F.kp⟩
  obtain ⟨t, h1, h2⟩ := hbody cdv A outer s H E hr
  exact ⟨t, h1, h2 vs Q h⟩
theorem lenD {XC : Str → Value} {cs : List DCod} {c : DCod} {f : DEnv cs → Res c.α} {n : Nat} (h : cs.length = n) : ∀ vs H Q E, spD XC cs c f vs H Q E → vs.length = n := fun vs H Q E ⟨F, x, e, r, _⟩ => r.len.trans h
theorem lenM {XC : Str → Value} {m : Cod} {cs : List DCod} {c : DCod} {f : m.α → DEnv cs → Res (c.α × m.α)} {n : Nat} (h : cs.length + 1 = n) : ∀ vs H Q E, spM XC m cs c f vs H Q E → vs.length = n := fun vs H Q E ⟨F, fp, v, vs', y, x, e, _, _, _, _, r, _⟩ => by rw [e, List.length_cons, r.len]; exact h
theorem lenC {XC : Str → Value} {m : Cod} {cs : List DCod} {c : DCod} {f : m.α → DEnv cs → Res c.α} {n : Nat} (h : cs.length + 1 = n) : ∀ vs H Q E, spC XC m cs c f vs H Q E → vs.length = n := fun vs H Q E ⟨F, fp, v, vs', y, x, e, _, _, _, _, r, _⟩ => by rw [e, List.length_cons, r.len]; exact h
theorem lenI {XC : Str → Value} {C : Addr} {names : List Str} {Γf : List Sl} {cs : List DCod} {f : DEnv cs → Res (Env Γf)} {n : Nat} (h : cs.length + 1 = n) : ∀ vs H Q E, spI XC C names Γf cs f vs H Q E → vs.length = n := fun vs H Q E ⟨F, p, dx, vs', x, e, _, _, _, r, _⟩ => by rw [e, List.length_cons, r.len]; exact h
end
end Pu
set_option Elab.async false
set_option linter.all false
set_option maxRecDepth 100000
set_option maxHeartbeats 4000000
namespace PySem
open Sem (wp)
open AutoSeq1 (wpAny_loadPart')
theorem pu_meets_enum (l : Addr) (items : Array Value) :
    Meets (Builtin.«enumerate.__new__» ⟨[.type "enumerate", .ref l], []⟩) (fun _ R s => s.heap.IsTuple l items ∧
      R (.ok (.ret (.ref (s.heap.push { cls := .type "tuple_iterator", data := .fields #[.ref l, .int 0 0] }).objs.size)))
        { s with heap := (s.heap.push { cls := .type "tuple_iterator", data := .fields #[.ref l, .int 0 0] }).push { cls := .type "enumerate", data := .fields #[.none, .bool false, .ref s.heap.objs.size, rawInt 0, .none, .none] } }) :=
  .of_wp fun prog w A R s h => by
    obtain ⟨hp, g, d, tk, os⟩ := s; obtain ⟨hL, h⟩ := h
    have hsub := sub_enumerate
    wp_walk
    refine wpAny_stack_any fun st => wpAny_pure ?_
    split
    · rename_i c _ _ _ _ _
      cases (c == Value.type "enumerate")
      · wp_walk using wpAny_pyIter_tuple hL
        exact ⟨_, rfl, h⟩
      · wp_walk using wpAny_pyIter_tuple hL
        exact ⟨_, rfl, h⟩
    · wp_walk using wpAny_pyIter_tuple hL
      exact ⟨_, rfl, h⟩
section
variable {prog : Program} {w : World} {A : Around} {E : Value → Shared → Prop} {s : Shared}
theorem pu_call_enum {l : Addr} {items : Array Value} {Q : Value → Shared → Prop} (hL : s.heap.IsTuple l items)
    (h : ∀ h', IsEnum h' (s.heap.objs.size + 1) s.heap.objs.size 0 .none → h'.IsTupleIter s.heap.objs.size l 0 → h'.objs.size = s.heap.objs.size + 2 →
      (∀ b o, s.heap.get? b = some o → h'.get? b = some o) → Q (.ref (s.heap.objs.size + 1)) { s with heap := h' }) :
    wpAny (model prog w) A (call (.type "enumerate") [.ref l]) Q E s := by
  refine callType_new F.called_enumerate (by decide) (F.typeCall_enumerate_1 _) (F.newCall_enumerate_1 _) (fun obj => F.args_object_init_2 obj _) F.entry_enumerate_new
    (pu_meets_enum l items) ⟨hL, ?_⟩
  have hz : (s.heap.push { cls := .type "tuple_iterator", data := .fields #[.ref l, .int 0 0] }).objs.size = s.heap.objs.size + 1 := Heap.size_push ..
  show _ ∧ _
  rw [hz]
  have he : IsEnum ((s.heap.push { cls := .type "tuple_iterator", data := .fields #[.ref l, .int 0 0] }).push
      { cls := .type "enumerate", data := .fields #[.none, .bool false, .ref s.heap.objs.size, rawInt 0, .none, .none] }) (s.heap.objs.size + 1) s.heap.objs.size 0 .none := by
    have := Heap.get?_push_size (s.heap.push { cls := .type "tuple_iterator", data := .fields #[.ref l, .int 0 0] })
      (o := { cls := .type "enumerate", data := .fields #[.none, .bool false, .ref s.heap.objs.size, rawInt 0, .none, .none] }) rfl
    rw [hz] at this; exact this
  refine ⟨⟨_, he, rfl⟩, h _ he ⟨_, Heap.get?_push_of_some _ (Heap.get?_push_size _ rfl), rfl, rfl⟩ (by rw [Heap.size_push, hz]) fun b o x => Heap.get?_push_of_some _ (Heap.get?_push_of_some _ x)⟩
end
end PySem
namespace Pu
open PySem PySem.Spec PyProof.Rows L2 Evl
def IteT (K : PySem.W.Frag) (a : Addr) : It :=
  ⟨fun i H => ∃ (xs : List V) (x : V), SqT K H a xs ∧ xs[i]? = some x, fun i H v H' => ∃ T x, v = .ref T ∧ H T = none ∧ H' = upd H T (.tup [.int (i : Nat), x]) ∧ ∀ xs, SqT K H a xs → xs[i]? = some x, fun i H => ∃ xs : List V, SqT K H a xs ∧ xs.length ≤ i⟩
theorem turn_enumT {P : Program} {w : World} {K : PySem.W.Frag} {elts : List Expr} {kk : Nat} {tpos : Pos} (a e it : Addr) (hea : e ≠ a) (hia : it ≠ a) :
    Turn P w K (.Tuple elts kk tpos) (IteT K a) [e, it] e (fun i h => (∃ old, IsEnum h e it ((i : Nat) : Int) old) ∧ h.IsTupleIter it a i ∧ e ≠ it) where
  mem := by simp
  obj := fun i h st b hb => by
    obtain ⟨⟨old, he⟩, ⟨o, ho, hc, hd⟩, _⟩ := st
    have e' : b = e ∨ b = it := by simpa using hb
    rcases e' with z | z
    · rw [z]; exact ⟨_, he, fun v q => nomatch q⟩
    · rw [z]; exact ⟨o, ho, fun v q => by rw [hd] at q; cases q⟩
  keep := fun i h h' st k => let ⟨⟨old, he⟩, hi, hne⟩ := st; ⟨⟨old, k e (by simp) _ he⟩, hi.at fun o q => k it (by simp) o q, hne⟩
  item := by
    intro X hP hw hK hc i pins s σ H E I hf st hg
    subst hP hw hK
    obtain ⟨⟨old, he⟩, hit, hne⟩ := st
    obtain ⟨xs, x, hq, hx⟩ := hg
    obtain ⟨its, rv, p, hz⟩ := I.tuple hq
    obtain ⟨u, hu, ru⟩ := rv.get hx
    have hel : e < s.heap.objs.size := Heap.lt_size he
    have hil : it < s.heap.objs.size := by obtain ⟨_, q, _⟩ := hit; exact Heap.lt_size q
    have hlt : i < its.toArray.size := by
      have := (List.getElem?_eq_some_iff.mp hu).1
      simpa using this
    refine wpAny_pyNext_enum_itemD (Draws.tuple (prog := X.prog) (w := X.w) (A := X.A.in1) (I.ok.hd hc) it a (Ne.symm hia) its.toArray) he ⟨hit, p⟩ hlt hne (by simp [hne, hea]) fun x' h' tk hPx ho hst' hT hsz hk => ?_
    have hux : x' = u := by
      have h1 : its.toArray[i]? = some u := by simpa using hu
      rw [h1] at hPx
      exact (Option.some.inj hPx).symm
    subst hux
    refine ⟨_, rfl, wpAny_letOwnedTupleGo_enum (s := { s with heap := h', toks := tk + 1 }) ho fun h'' he' sb => ?_⟩
    have hT2 : h''.get? s.heap.objs.size = some { cls := .type "tuple", data := .seq #[.int i tk, x'] } := (sb.2 _ (Nat.ne_of_gt hel)).trans hT
    have new : ObjOk X.prog X.w (upd H s.heap.objs.size (.tup [.int (i : Nat), x])) h'' s.heap.objs.size (.tup [.int (i : Nat), x]) :=
      ⟨by show 2 ≤ sizeLine; decide, [.int i tk, x'], .cons ⟨_, rfl⟩ (.cons ru .nil), ⟨_, hT2, rfl, _, rfl⟩⟩
    have I1 : Inv X pins σ (upd H s.heap.objs.size (.tup [.int (i : Nat), x])) { s with heap := h'', toks := tk + 1 } :=
      I.turnedNew (ch := [e, it]) (fun b ob hb q => (sb.2 b (fun z => hb (by simp [z]))).trans (hk b ob (fun z => hb (by simp [z])) (fun z => hb (by simp [z])) q)) hf (Nat.le_refl _) new
    refine ⟨.ref s.heap.objs.size, _, I1, rfl, ⟨_, x, rfl, I.hok.fresh (Nat.le_refl _), rfl, fun ys hy => by rw [I.tuple_inj hy hq]; exact hx⟩, ⟨⟨x', ?_⟩, hst'.1.at fun o q => (sb.2 it (Ne.symm hne)).trans q, hne⟩, fun b hb => ?_⟩
    · have e1 : ((i + 1 : Nat) : Int) = (i : Int) + 1 := by omega
      rw [e1]; exact he'
    · have hb' : b < s.heap.objs.size := by
        have e' : b = e ∨ b = it := by simpa using hb
        rcases e' with z | z
        · rw [z]; exact hel
        · rw [z]; exact hil
      rw [upd_ne (Nat.ne_of_lt hb')]
      exact (hf b hb).1
  done := by
    intro X hP hw hK hc i pins s σ H E I hf st hg
    subst hP hw hK
    obtain ⟨⟨old, he⟩, hit, hne⟩ := st
    obtain ⟨xs, hq, hx⟩ := hg
    obtain ⟨its, rv, p, hz⟩ := I.tuple hq
    obtain ⟨f0, f1, f2, f3, f4, f5⟩ := hf it (by simp)
    have hl := rv.length
    have hT : s.TypeIs (.ref e) "enumerate" := ⟨_, he, rfl⟩
    unfold pyNext
    refine wpAny_bind (wpAny_attempt (wpAny_callSpecial?_slot (name := Str.ofString "__next__") hT F.slot_enumerate_next
      (wpAny_call_entry F.slot_enumerate_next hT F.entry_enumerate_next ?_ (F.args_enumerate_next_1 _))))
    show wpAny _ _ (field (.ref e) 2 >>= _) _ _ _
    refine wpAny_bind (wpAny_field he rfl (x := .ref it) rfl ?_)
    refine wpAny_bind (wpAny_nextOf_tuple_end (I.ok.hd hc) hit p (by simp; omega) fun h' x he' hx' => ?_)
    obtain ⟨o, ho, hc⟩ := hx'
    refine wpAny_bind (wpAny_isInstance (T := "StopIteration") (b := true) ⟨o, ho, hc⟩ isSubtype_stop ?_)
    exact wpAny_pure ⟨rfl, I.turned (t' := s.toks) (fun b o hb q => he' b o hb q) f0 f1 f3 f4 f5⟩
  self := fun A i s Q E st h => let ⟨⟨_, he⟩, _⟩ := st; wpAny_pyIter_enum he h
def iEnumT (K : PySem.W.Frag) (ta : TA) : TI := fun σ H R => ta σ H fun vs H1 => ∃ a xs, vs = [.ref a] ∧ SqT K H1 a xs ∧ R (IteT K a) H1
theorem pi_enumT {X : Cx} {e : Expr} {ta : TA} {p pos tpos : Pos} {elts : List Expr} {kk : Nat} (hg : Gl X "enumerate") (hm : X.mg "enumerate" = none) (ha : PA X [e] ta) (hs : starEach [e] X.env = [(false, eval e X.env)] := by rfl) :
    PI X (.Tuple elts kk tpos) (.Call (.Name "enumerate" p) [e] [] pos) (iEnumT X.K ta) := by
  refine ⟨fun pins s σ H R I h => ?_⟩
  refine Call_ (ld_blt I hg hm boot_enumerate (PyProof.Rows.callWith_type1 (thn (ha.run pos pins s σ H _ I h) fun us s1 ⟨vs, H1, I1, r1, q1⟩ => ?_) hs rfl))
  obtain ⟨a, xs, ex, hq, q⟩ := q1
  subst ex
  cases r1 with
  | cons r rr =>
    cases rr
    cases r
    obtain ⟨its, rv, p', hz⟩ := I1.tuple hq
    have hlt : a < s1.heap.objs.size := by obtain ⟨_, q, _⟩ := p'; exact Heap.lt_size q
    refine pu_call_enum p' fun h' he hit hsz hk => wpAny_pyIter_enum he ?_
    have I2 : Inv X pins σ H1 { s1 with heap := h' } := I1.kept (t' := s1.toks) hk
    refine ⟨s1.heap.objs.size + 1, [s1.heap.objs.size + 1, s1.heap.objs.size], _, _, H1, rfl, I2, turn_enumT a (s1.heap.objs.size + 1) s1.heap.objs.size (Nat.ne_of_gt (Nat.lt_succ_of_lt hlt)) (Nat.ne_of_gt hlt), ⟨⟨.none, he⟩, hit, Nat.succ_ne_self _⟩, fun b hb => ?_, q⟩
    have e' : b = s1.heap.objs.size + 1 ∨ b = s1.heap.objs.size := by simpa using hb
    have hle : s1.heap.objs.size ≤ b := by
      rcases e' with z | z
      · rw [z]; exact Nat.le_add_right _ _
      · rw [z]; exact Nat.le_refl _
    exact I1.fpOk hle (I1.hok.fresh hle)
end Pu
set_option Elab.async false
set_option linter.all false
set_option maxRecDepth 100000
set_option maxHeartbeats 4000000
namespace Pu
open PySem L2 Evl
/-! ### things that may change, read as data for a while -/
def frz (F H : Hp) (fp : List Addr) : Hp := fun a => if a ∈ fp then H a else F a
def thaw (F : Hp) (fp : List Addr) : Hp := fun a => if a ∈ fp then none else F a
def Mu : HO → Prop
  | .tup _ => False
  | .frz _ _ => False
  | _ => True
structure Fz (m : Cod) (d : DCod) where
  conv : m.α → d.α
  ok : ∀ {F H Fz : Hp} {fp : List Addr} {v : V} {x : m.α}, m.rel F H fp v x → Ex F Fz → (∀ a, a ∈ fp → Fz a = H a) → d.rel Fz v (conv x)
  mu : ∀ {F H : Hp} {fp : List Addr} {v : V} {x : m.α}, m.rel F H fp v x → ∀ a, a ∈ fp → ∀ o, H a = some o → Mu o
def fzL {c : DCod} : Fz (mLst c) (dLst c) := ⟨fun x => x, fun {F H Fz fp v x} h e k => let ⟨a, vs, h1, h0, h2, h3, h4⟩ := h; ⟨a, vs, h1, by rw [k a (by rw [h0]; simp)]; exact h2, h3.ext e, h4⟩,
  fun {F H fp v x} h a ha o ho => by
    obtain ⟨b, vs, rfl, rfl, h2, h3, h4⟩ := h
    have ha : a = b := by simpa using ha
    subst ha
    rw [h2] at ho; cases ho; exact True.intro⟩
inductive FzG : List Sl → List Sl → Type 1 where
  | nil : FzG [] []
  | no {Γ Γ' : List Sl} (r : FzG Γ Γ') : FzG (.no :: Γ) (.no :: Γ')
  | da {c : DCod} {Γ Γ' : List Sl} (r : FzG Γ Γ') : FzG (.da c :: Γ) (.da c :: Γ')
  | m {k : Kd} {m : Cod} {d : DCod} {Γ Γ' : List Sl} (z : Fz m d) (r : FzG Γ Γ') : FzG (.m k m :: Γ) (.da d :: Γ')
def FzG.conv : {Γ Γ' : List Sl} → FzG Γ Γ' → Env Γ → Env Γ'
  | _, _, .nil, ρ => ρ
  | _, _, .no r, ρ => (ρ.1, r.conv ρ.2)
  | _, _, .da r, ρ => (ρ.1, r.conv ρ.2)
  | _, _, .m z r, ρ => (z.conv ρ.1, r.conv ρ.2)
theorem FzG.mu {F H : Hp} : ∀ {Γ Γ' : List Sl} (r : FzG Γ Γ') {τ σ : St} {L : Fps} {ρ : Env Γ}, SRel Γ τ σ F H L ρ → ∀ k a, (k, a) ∈ L → ∀ o, H a = some o → Mu o
  | _, _, .nil, τ, σ, L, ρ, ⟨h1, h2⟩ => fun k a ha => by rw [h2] at ha; cases ha
  | _, _, .no r, τ, σ, L, ρ, ⟨w, σ', e, h⟩ => FzG.mu r h
  | _, _, .da r, τ, σ, L, ρ, ⟨w, σ', e, hr, h⟩ => FzG.mu r h
  | _, _, .m (k := kk) z r, τ, σ, L, ρ, ⟨w, σ', fp, L', e, e2, e3, hr, h⟩ => fun q a ha o ho => by
    rw [e3] at ha
    rcases List.mem_append.mp ha with g | g
    · exact z.mu hr a (mem_tag.mp g).2 o ho
    · exact FzG.mu r h q a g o ho
theorem FzG.rel {F H Fz : Hp} (eF : Ex F Fz) : ∀ {Γ Γ' : List Sl} (r : FzG Γ Γ') {τ σ : St} {L : Fps} {ρ : Env Γ}, SRel Γ τ σ F H L ρ → (∀ k a, (k, a) ∈ L → Fz a = H a) → SRel Γ' τ σ Fz H [] (r.conv ρ)
  | _, _, .nil, τ, σ, L, ρ, ⟨h1, h2⟩, k => ⟨h1, rfl⟩
  | _, _, .no r, τ, σ, L, ρ, ⟨w, σ', e, h⟩, k => ⟨w, σ', e, FzG.rel eF r h k⟩
  | _, _, .da r, τ, σ, L, ρ, ⟨w, σ', e, hr, h⟩, k => ⟨w, σ', e, DCod.ext _ hr eF, FzG.rel eF r h k⟩
  | _, _, .m (k := kk) z r, τ, σ, L, ρ, ⟨w, σ', fp, L', e, e2, e3, hr, h⟩, k =>
    ⟨w, σ', e, z.ok hr eF fun a ha => k kk a (by rw [e3]; exact List.mem_append_left _ (mem_tag.mpr ⟨rfl, ha⟩)), FzG.rel eF r h fun q a ha => k q a (by rw [e3]; exact List.mem_append_right _ ha)⟩
def fzO {C : Addr} {names : List Str} {Γf : List Sl} {fs : List DCod} (r : FzG Γf (fs.map Sl.da)) : Fz (mObj C names Γf) (dIns C names fs) := ⟨fun x => envD fs (r.conv x),
  fun {F H Fz fp v x} h e k => by
    obtain ⟨p, dx, vs, fp', rfl, h2, rfl, hv, hs⟩ := h
    have g1 := FzG.rel (Fz := Fz) e r hs fun q a ha => k a (List.mem_cons_of_mem _ (mem_tag.mp ha).2)
    obtain ⟨g2, _⟩ := envD_rel fs g1
    exact ⟨p, dx, vs, rfl, by rw [k p (by simp)]; exact h2, g2⟩,
  fun {F H fp v x} h a ha o ho => by
    obtain ⟨p, dx, vs, fp', rfl, h2, rfl, hv, hs⟩ := h
    rcases List.mem_cons.mp ha with e | ha
    · subst e
      rw [h2] at ho; cases ho; exact True.intro
    · exact FzG.mu r hs .lo a (mem_tag.mpr ⟨rfl, ha⟩) o ho⟩
def Und (c : DCod) : Prop := ∀ (F : Hp) (fp : List Addr) (v : V) (x : c.α), (∀ a, a ∈ fp → ∀ o, F a = some o → Mu o) → c.rel F v x → c.rel (thaw F fp) v x
theorem und_int : Und dInt := fun _ _ _ _ _ h => h
theorem und_bl : Und dBl := fun _ _ _ _ _ h => h
theorem und_opt {c : DCod} (u : Und c) : Und (dOpt c) := fun F fp v x k h => by
  cases x with
  | none => exact h
  | some y => exact ⟨u F fp v y k h.1, h.2⟩
theorem thaw_tup {F : Hp} {fp : List Addr} (k : ∀ a, a ∈ fp → ∀ o, F a = some o → Mu o) {a : Addr} {vs : List V} (h : F a = some (.tup vs)) : thaw F fp a = some (.tup vs) := by
  unfold thaw
  rw [if_neg fun ha => k a ha _ h]; exact h
theorem thaw_rd {F : Hp} {fp : List Addr} (k : ∀ a, a ∈ fp → ∀ o, F a = some o → Mu o) {a : Addr} {vs : List V} (h : Rd F a (.tup vs)) : Rd (thaw F fp) a (.tup vs) := by
  rcases h with h | ⟨o, h⟩
  · exact .inl (thaw_tup k h)
  · refine .inr ⟨o, ?_⟩
    unfold thaw
    rw [if_neg fun ha => k a ha _ h]; exact h
theorem PV.mono {c : DCod} {F F' : Hp} (q : ∀ v x, c.rel F v x → c.rel F' v x) : ∀ {vs : List V} {xs : List c.α}, PV c F vs xs → PV c F' vs xs
  | _, _, .nil => .nil
  | _, _, .cons r t => .cons (q _ _ r) (PV.mono q t)
theorem und_tup {c : DCod} (u : Und c) : Und (dTup c) := fun F fp v x k h => by
  obtain ⟨a, vs, h1, h2, h3, h4⟩ := h
  exact ⟨a, vs, h1, thaw_rd k h2, h3.mono fun v x r => u F fp v x k r, h4⟩
theorem und_p2 {a b : DCod} (u : Und a) (u2 : Und b) : Und (dP2 a b) := fun F fp v x k h => by
  obtain ⟨p, y, w, h1, h2, h3, h4⟩ := h
  exact ⟨p, y, w, h1, thaw_tup k h2, u F fp _ _ k h3, u2 F fp _ _ k h4⟩
section
variable {p : Bool} {E : XK} {XC : Str → Value} {Γ Γ' : List Sl} {te : TE} {c : DCod}
theorem ev_frz {T : (R : Type) → (c.α → Env Γ' → Res R) → Env Γ' → Res R} (fz : FzG Γ Γ') (und : Und c) (h : EvE true E XC Γ' te c T) : EvE p E XC Γ te c (fun R k ρ => T R (fun x _ => k x ρ) (fz.conv ρ)) := fun B σ F H ρ I R G hG k Q g q => by
  obtain ⟨L, r, w⟩ := id I
  have hno : ∀ a, a ∈ L.map (·.2) → F a = none := fun a ha => by
    obtain ⟨⟨kk, b⟩, hb, e⟩ := List.mem_map.mp ha
    have e : b = a := e
    subst e
    exact (w.fr kk b hb).1
  have hin : ∀ k a, (k, a) ∈ L → a ∈ L.map (·.2) := fun k a ha => List.mem_map.mpr ⟨_, ha, rfl⟩
  have eF : Ex F (frz F H (L.map (·.2))) := fun a o ha => by
    unfold frz
    rw [if_neg fun hm => by rw [hno a hm] at ha; cases ha]; exact ha
  have hfz : ∀ a, a ∈ L.map (·.2) → frz F H (L.map (·.2)) a = H a := fun a ha => by unfold frz; rw [if_pos ha]
  have r' := fz.rel eF r fun k a ha => hfz a (hin k a ha)
  have hmu := fz.mu r
  have eFH : Ex (frz F H (L.map (·.2))) H := fun a o ha => by
    unfold frz at ha
    by_cases hm : a ∈ L.map (·.2)
    · rw [if_pos hm] at ha; exact ha
    · rw [if_neg hm] at ha; exact w.fh a o ha
  have I' : SInv ⟨frz F H (L.map (·.2)), H, [], [], [], B.τ⟩ Γ' σ (frz F H (L.map (·.2))) H (fz.conv ρ) :=
    ⟨[], r', ⟨by simp, fun k a ha => (nomatch ha), eFH, Ex.refl _, fun a o h _ _ => h, fun a o h => ⟨o, h⟩, fun a o h => .inl h, fun a ha => (nomatch ha), fun a ha => (nomatch ha), fun a ha => (nomatch ha)⟩⟩
  refine h _ σ _ H _ I' R G ⟨hG.1, fun n H' gn f => hG.2 n H' gn fun a o h1 h2 h3 => f a o (w.keep a o h1 h2 h3) (by simp) (by simp)⟩ _ Q g fun x ρ' v F' H' I1 e1 r1 g1 => ?_
  obtain ⟨_, pe⟩ := e1.2 rfl
  have pp : Pext F (thaw F' (L.map (·.2))) H H' := by
    refine ⟨pe.hh, fun a o ha => ?_, fun a o ha => ?_, fun a o ha => ?_⟩
    · unfold thaw
      rw [if_neg fun hm => by rw [hno a hm] at ha; cases ha]
      exact pe.ff a o (eF a o ha)
    · unfold thaw at ha
      by_cases hm : a ∈ L.map (·.2)
      · rw [if_pos hm] at ha; cases ha
      · rw [if_neg hm] at ha; exact pe.fh a o ha
    · unfold thaw at ha
      by_cases hm : a ∈ L.map (·.2)
      · rw [if_pos hm] at ha; cases ha
      · rw [if_neg hm] at ha
        rcases pe.new a o ha with z | z
        · unfold frz at z
          rw [if_neg hm] at z; exact .inl z
        · exact .inr z
  refine q x ρ v _ H' (I.pext pp) ⟨pp.ff, fun _ => ⟨rfl, pp⟩⟩ (und F' _ v x (fun a ha o ho => ?_) r1) g1
  obtain ⟨⟨kk, b⟩, hb, e⟩ := List.mem_map.mp ha
  have e : b = a := e
  subst e
  obtain ⟨_, o', ho'⟩ := w.fr kk b hb
  have h1 : F' b = some o' := pe.ff b o' ((hfz b ha).trans ho')
  rw [h1] at ho; cases ho
  exact hmu kk b hb _ ho'
end
end Pu
set_option Elab.async false
set_option linter.all false
set_option maxRecDepth 100000
set_option maxHeartbeats 4000000
namespace Pu
open PySem PySem.Spec PyProof.Rows L2 Evl
/-! ### tuples of which it is known that they hold no fields -/
abbrev dTuN (c : DCod) : DCod := ⟨List c.α, fun F v xs => ∃ a vs ob, v = .ref a ∧ F a = some (.frz ob (.tup vs)) ∧ ob.dict = none ∧ ob.cls = .type "tuple" ∧ PV c F vs xs ∧ xs.length ≤ sizeLine,
  fun h e => let ⟨a, vs, ob, h1, h2, h3, h4, h5, h6⟩ := h; ⟨a, vs, ob, h1, e a _ h2, h3, h4, h5.ext e, h6⟩⟩
def Sb (a b : DCod) (f : a.α → b.α) : Prop := ∀ F v x, a.rel F v x → b.rel F v (f x)
theorem sb_tun {c : DCod} : Sb (dTuN c) (dTup c) (fun x => x) := fun F v x h => by
  obtain ⟨a, vs, ob, h1, h2, h3, h4, h5, h6⟩ := h
  exact ⟨a, vs, h1, .inr ⟨ob, h2⟩, h5, h6⟩
theorem sb_tunS {c : DCod} : Sb (dTuN c) (dSeq c) (fun x => x) := fun F v x h => by
  obtain ⟨a, vs, ob, h1, h2, h3, h4, h5, h6⟩ := h
  exact ⟨a, vs, h1, .inr (.inr ⟨ob, h2⟩), h5, h6⟩
theorem sb_tupS {c : DCod} : Sb (dTup c) (dSeq c) (fun x => x) := fun F v x h => by
  obtain ⟨a, vs, h1, h2, h3, h4⟩ := h
  exact ⟨a, vs, h1, .inr h2, h3, h4⟩
theorem PV.sb {a b : DCod} {f : a.α → b.α} {F : Hp} (s : Sb a b f) : ∀ {vs : List V} {xs : List a.α}, PV a F vs xs → PV b F vs (xs.map f)
  | _, _, .nil => .nil
  | _, _, .cons r t => .cons (s F _ _ r) (PV.sb s t)
theorem Sb.t {a b c : DCod} {f : a.α → b.α} {g : b.α → c.α} (s : Sb a b f) (t : Sb b c g) : Sb a c (fun x => g (f x)) := fun F v x h => t F v _ (s F v x h)
theorem ev_sb {p : Bool} {E : XK} {XC : Str → Value} {Γ : List Sl} {te : TE} {a b : DCod} {f : a.α → b.α} (s : Sb a b f) {T : (R : Type) → (a.α → Env Γ → Res R) → Env Γ → Res R} (h : EvE p E XC Γ te a T) : EvE p E XC Γ te b (fun R k ρ => T R (fun x => k (f x)) ρ) := Pu.ev_as f s h
def kTupN (K : PySem.W.Frag) (x : V) (H : Hp) (Q : VK) : Prop :=
  (∃ p xs, x = .ref p ∧ SqL K H p xs ∧ ∀ q ob, ob.dict = none → ob.cls = .type "tuple" → H q = none → Q (.ref q) (upd H q (.frz ob (.tup xs)))) ∨ (∃ p xs, x = .ref p ∧ SqT K H p xs ∧ Q (.ref p) H)
section
variable {X : Cx} {a e : Expr} {es : List Expr} {ta : TE}
theorem rl_tupleN (pins : List (Addr × Obj)) (s : Shared) (σ : L2.St) (H : Hp) (x : V) (v : Value) (Q : VK) (I : Inv X pins σ H s) (r : RelV x v) (h : kTupN X.K x H Q) :
    wpAny (model X.prog X.w) X.A (call (.type "tuple") [v]) (EP X pins σ Q) X.xe s := by
  rcases h with ⟨p, xs, rfl, hs, q⟩ | ⟨p, xs, rfl, hs, q⟩
  · obtain rfl : v = .ref p := r
    obtain ⟨its, rv, pl, hz⟩ := I.list hs
    refine call_tuple_list pl.isList (fun h' hk => ?_) (by rw [List.size_toArray, ← rv.length]; exact hz)
    have I1 : Inv X pins σ H { s with heap := h' } := I.kept (t' := s.toks) hk
    have I2 : Inv X pins σ (upd H h'.objs.size (.frz { cls := .type "tuple", data := .seq its.toArray } (.tup xs))) { s with heap := h'.push { cls := .type "tuple", data := .seq its.toArray } } :=
      I1.laid (t' := s.toks) (fun b o e => Heap.get?_push_of_some _ e) (Nat.le_refl _) (show ObjOk X.prog X.w _ _ _ (.frz _ (.tup xs)) from ⟨Heap.get?_push_size _ rfl, hz, its, rv, IsTup.new _ _⟩)
    exact ⟨.ref h'.objs.size, _, I2, rfl, q _ { cls := .type "tuple", data := .seq its.toArray } rfl rfl (I1.hok.fresh (Nat.le_refl _))⟩
  · obtain rfl : v = .ref p := r
    obtain ⟨its, rv, pl, hz⟩ := I.tuple hs
    exact call_tuple_tup pl ⟨.ref p, H, I, rfl, q⟩
theorem pe_tupleN {p pos : Pos} (hg : Gl X "tuple") (hm : X.mg "tuple" = none) (ha : PE X a ta) (na : starEach [a] X.env = (false, eval a X.env) :: starEach [] X.env := by rfl) :
    PE X (.Call (.Name "tuple" p) [a] [] pos) (tThen ta (kTupN X.K)) := by
  refine ⟨fun pins s σ H Q I h => ?_⟩
  exact Call_ (ld_blt I hg hm boot_tuple (PyProof.Rows.callWith_type1 (one_arg ha I h (fun v s2 x H2 I2 r q => rl_tupleN pins s2 σ H2 x v Q I2 r q) na) na))
theorem countP_eqU {x : V} : ∀ {xs : List V} {us : List Value}, Vals xs us → xs.all flatV = true → us.countP (eqU x) = xs.countP fun y => eqV y x
  | _, _, .nil, _ => rfl
  | _, _, .cons r t, f => by
    rw [List.all_cons, Bool.and_eq_true] at f
    rw [List.countP_cons, List.countP_cons, eqU_of r f.1, countP_eqU t f.2]
end
end Pu
set_option Elab.async false
set_option linter.all false
set_option maxRecDepth 100000
set_option maxHeartbeats 4000000
namespace Pu
open PySem L2 Evl
/-! ### dicts of whole numbers -/
def KVR (c : DCod) (F : Hp) (ks : List (Key × V)) (kvs : List (Int × c.α)) : Prop := Paired (fun (p : Key × V) (q : Int × c.α) => p.1 = .inl q.1 ∧ c.rel F p.2 q.2) ks kvs
def dget {α : Type} : List (Int × α) → Int → Option α
  | [], _ => none
  | p :: r, k => if p.1 = k then some p.2 else dget r k
def dput {α : Type} (kvs : List (Int × α)) (k : Int) (v : α) : List (Int × α) :=
  if (kvs.any fun q => decide (q.1 = k)) = true then kvs.map (fun q => if q.1 = k then (q.1, v) else q) else kvs ++ [(k, v)]
def dmerge {α : Type} (kvs xs : List (Int × α)) : List (Int × α) := xs.foldl (fun acc q => dput acc q.1 q.2) kvs
theorem dmerge_snoc {α : Type} (kvs xs : List (Int × α)) (q : Int × α) : dmerge kvs (xs ++ [q]) = dput (dmerge kvs xs) q.1 q.2 := by
  unfold dmerge; rw [List.foldl_append]; rfl
section
variable {c : DCod}
theorem KVR.ext {F F' : Hp} (e : Ex F F') {ks : List (Key × V)} {kvs : List (Int × c.α)} (h : KVR c F ks kvs) : KVR c F' ks kvs := Paired.mapP h fun _ _ q => ⟨q.1, c.ext q.2 e⟩
theorem KVR.get {F : Hp} {i : Int} : ∀ {ks : List (Key × V)} {kvs : List (Int × c.α)}, KVR c F ks kvs → (∀ z, dget kvs i = some z → ∃ v, valV ks (.inl i) = some v ∧ c.rel F v z) ∧ (dget kvs i = none → valV ks (.inl i) = none)
  | _, _, .nil => ⟨fun z h => (nomatch h), fun _ => rfl⟩
  | _, _, .cons (a := p) (b := q) r t => by
    obtain ⟨h1, h2⟩ := KVR.get (i := i) t
    unfold dget
    by_cases e : q.1 = i
    · rw [if_pos e]
      have e2 : p.1 = .inl i := by rw [r.1, e]
      exact ⟨fun z hz => by cases hz; exact ⟨p.2, valV_pos e2, r.2⟩, fun z => (nomatch z)⟩
    · rw [if_neg e]
      have e2 : ¬ p.1 = .inl i := fun z => by
        rw [r.1] at z
        exact e (by cases z; rfl)
      rw [valV_neg e2]
      exact ⟨h1, h2⟩
theorem KVR.any {F : Hp} {i : Int} : ∀ {ks : List (Key × V)} {kvs : List (Int × c.α)}, KVR c F ks kvs → (ks.any fun p => decide (p.1 = (.inl i : Key))) = kvs.any fun q => decide (q.1 = i)
  | _, _, .nil => rfl
  | _, _, .cons (a := p) (b := q) r t => by
    rw [List.any_cons, List.any_cons, KVR.any t, r.1]
    congr 1
    by_cases e : q.1 = i
    · simp [e]
    · have : ¬ (Sum.inl q.1 : Key) = Sum.inl i := fun z => e (by cases z; rfl)
      rw [decide_eq_false this, decide_eq_false e]
theorem KVR.map {F : Hp} {i : Int} {v : V} {x : c.α} (hx : c.rel F v x) : ∀ {ks : List (Key × V)} {kvs : List (Int × c.α)}, KVR c F ks kvs → KVR c F (ks.map fun p => if p.1 = (.inl i : Key) then (p.1, v) else p) (kvs.map fun q => if q.1 = i then (q.1, x) else q)
  | _, _, .nil => .nil
  | _, _, .cons (a := p) (b := q) r t => by
    refine .cons ?_ (KVR.map hx t)
    by_cases e : q.1 = i
    · have e2 : p.1 = (.inl i : Key) := by rw [r.1, e]
      dsimp only
      rw [if_pos e, if_pos e2]
      exact ⟨r.1, hx⟩
    · have e2 : ¬ p.1 = (.inl i : Key) := fun z => by
        rw [r.1] at z
        exact e (by cases z; rfl)
      dsimp only
      rw [if_neg e, if_neg e2]
      exact r
theorem KVR.app {F : Hp} : ∀ {ks ls : List (Key × V)} {kvs lvs : List (Int × c.α)}, KVR c F ks kvs → KVR c F ls lvs → KVR c F (ks ++ ls) (kvs ++ lvs)
  | _, _, _, _, .nil, s => s
  | _, _, _, _, .cons r t, s => .cons r (KVR.app t s)
theorem KVR.put {F : Hp} {i : Int} {v : V} {x : c.α} (hx : c.rel F v x) {ks : List (Key × V)} {kvs : List (Int × c.α)} (h : KVR c F ks kvs) : KVR c F (putK ks (.inl i) v) (dput kvs i x) := by
  unfold putK dput
  rw [h.any (i := i)]
  by_cases e : (kvs.any fun q => decide (q.1 = i)) = true
  · rw [if_pos e, if_pos e]; exact h.map hx
  · rw [if_neg e, if_neg e]; exact h.app (.cons ⟨rfl, hx⟩ .nil)
theorem KVR.merge {F : Hp} : ∀ {ls : List (Key × V)} {lvs : List (Int × c.α)}, KVR c F ls lvs → ∀ {ks : List (Key × V)} {kvs : List (Int × c.α)}, KVR c F ks kvs → KVR c F (mergeK ks ls) (dmerge kvs lvs)
  | _, _, .nil, _, _, h => h
  | _, _, .cons (a := p) (b := q) r t, ks, kvs, h => by
    show KVR c F (mergeK (putK ks p.1 p.2) _) (dmerge (dput kvs q.1 q.2) _)
    rw [r.1]
    exact KVR.merge t (h.put r.2)
end
theorem dput_len {α : Type} (kvs : List (Int × α)) (k : Int) (v : α) : (dput kvs k v).length ≤ kvs.length + 1 := by
  unfold dput
  split
  · rw [List.length_map]; omega
  · rw [List.length_append]; exact Nat.le_refl _
theorem dmerge_len {α : Type} : ∀ (xs kvs : List (Int × α)), (dmerge kvs xs).length ≤ kvs.length + xs.length
  | [], kvs => Nat.le_refl _
  | q :: xs, kvs => by
    show (dmerge (dput kvs q.1 q.2) xs).length ≤ _
    have h1 := dmerge_len xs (dput kvs q.1 q.2)
    have h2 := dput_len kvs q.1 q.2
    rw [List.length_cons]; omega
section
variable {p : Bool} {E : XK} {XC : Str → Value} {Rt : Ret} {K : PySem.W.Frag} {Γ Γ' Γ0 Γ1 Γ2 ΓL Γf : List Sl} {te ta tb tc : TE} {tt tu : TT} {tA : TA} {ti : TI} {tg : TG} {a b c d : DCod} {m : Cod} {cs : List DCod} {ts us : TS} {C : Addr} {names : List Str}
theorem ev_dget {Ta : (R : Type) → (List (Int × c.α) → Env Γ → Res R) → Env Γ → Res R} {Tb : (R : Type) → (Int → Env Γ → Res R) → Env Γ → Res R} (ha : EvE p E XC Γ ta (dDict c) Ta) (hb : EvE p E XC Γ tb dInt Tb) :
    EvE p E XC Γ (tDGet ta tb) c (fun R k ρ => Ta R (fun x ρ => Tb R (fun y ρ => opt (dget x y) fun z => k z ρ) ρ) ρ) := fun B σ F H ρ I R G hG k Q g q =>
  ha B σ F H ρ I R G hG _ _ g fun x ρ1 v F1 H1 I1 e1 r1 g1 => hb B σ F1 H1 ρ1 I1 R G hG _ _ g1 fun y ρ2 w F2 H2 I2 e2 r2 g2 => by
    obtain ⟨l, ks, rfl, hl, hk⟩ := (dDict c).ext r1 e2.1
    obtain ⟨h1, h2⟩ := KVR.get (i := y) hk
    cases hz : dget x y with
    | none => rw [hz] at g2; exact absurd g2 hG.1
    | some z =>
      rw [hz] at g2
      obtain ⟨u, hu, ru⟩ := h1 z hz
      rw [show w = V.int y from r2]
      exact ⟨l, u, rfl, hu ▸ DGet.k (k := .inl y) (I2.fh l _ hl), q z ρ2 u F2 H2 I2 (e1.trans e2) ru g2⟩
theorem ev_dnotin {Ta : (R : Type) → (Int → Env Γ → Res R) → Env Γ → Res R} {Tb : (R : Type) → (List (Int × c.α) → Env Γ → Res R) → Env Γ → Res R} (ha : EvE p E XC Γ ta dInt Ta) (hb : EvE p E XC Γ tb (dDict c) Tb) :
    EvE p E XC Γ (tDNotIn ta tb) dBl (fun R k ρ => Ta R (fun x ρ => Tb R (fun y ρ => k (!(dget y x).isSome) ρ) ρ) ρ) := fun B σ F H ρ I R G hG k Q g q =>
  ha B σ F H ρ I R G hG _ _ g fun x ρ1 v F1 H1 I1 e1 r1 g1 => hb B σ F1 H1 ρ1 I1 R G hG _ _ g1 fun y ρ2 w F2 H2 I2 e2 r2 g2 => by
    obtain ⟨l, ks, rfl, hl, hk⟩ := r2
    obtain ⟨h1, h2⟩ := KVR.get (i := x) hk
    rw [show v = V.int x from r1]
    refine ⟨l, valV ks (.inl x), rfl, DGet.k (k := .inl x) (I2.fh l _ hl), q _ ρ2 _ F2 H2 I2 (e1.trans e2) ?_ g2⟩
    show V.bl _ = V.bl _
    congr 1
    cases hz : dget y x with
    | none => rw [h2 hz]; rfl
    | some z =>
      obtain ⟨u, hu, _⟩ := h1 z hz
      rw [hu]; rfl
theorem o_lenD {c : DCod} : Op1b (fun xs H Q => ∃ a kvs, xs = [V.ref a] ∧ H a = some (.dK kvs) ∧ Q (.int kvs.length) H) (dDict c) dInt (fun xs => (xs.length : Int)) := fun F H v x Q e h k => by
  obtain ⟨l, ks, rfl, hl, hk⟩ := h
  exact ⟨l, ks, rfl, e l _ hl, by rw [Paired.length hk]; exact k _ F H (Pext.refl e) rfl⟩
theorem pairs_of {F H : Hp} (e : Ex F H) : ∀ {vs : List V} {xs : List (Int × c.α)}, PV (dP2 dInt c) F vs xs → ∃ (ps : List Addr) (kvs : List (Key × V)), vs = ps.map V.ref ∧ Paired (fun p kv => SqT K H p [kV kv.1, kv.2]) ps kvs ∧ KVR c F kvs xs
  | _, _, .nil => ⟨[], [], rfl, .nil, .nil⟩
  | _, _, .cons r t => by
    obtain ⟨ps, kvs, h1, h2, h3⟩ := pairs_of e t
    obtain ⟨l, u, w, rfl, hl, r1, r2⟩ := r
    have r1 : u = V.int _ := r1
    subst r1
    exact ⟨l :: ps, (.inl _, w) :: kvs, by rw [h1]; rfl, .cons (SqT.of (e l _ hl)) h2, .cons ⟨rfl, r2⟩ h3⟩
theorem o_dict {c : DCod} : Op1b (fun xs H Q => ∃ (a : Addr) (ps : List Addr) (kvs : List (Key × V)), xs = [.ref a] ∧ SqL K H a (ps.map V.ref) ∧ Paired (fun p kv => SqT K H p [kV kv.1, kv.2]) ps kvs ∧
    ∀ p, H p = none → Q (.ref p) (upd H p (.dK (mergeK [] kvs)))) (dLst (dP2 dInt c)) (dDict c) (fun xs => dmerge [] xs) := fun F H v x Q e h k => by
  obtain ⟨l, vs, rfl, hl, pv, hz⟩ := h
  obtain ⟨ps, kvs, h1, h2, h3⟩ := pairs_of (K := K) e pv
  exact ⟨l, ps, kvs, rfl, h1 ▸ SqL.of (e l _ hl), h2, fun q hq => k _ _ _ (Pext.one e hq) ⟨q, _, rfl, upd_same, (KVR.merge h3 .nil).ext (Ex.new (none_of e hq))⟩⟩
/-! ### tests, chains -/
theorem ev_chain {r r' : R2} {f : a.α → b.α → Bool} {g' : b.α → c.α → Bool} {Ta : (R : Type) → (a.α → Env Γ → Res R) → Env Γ → Res R} {Tb : (R : Type) → (b.α → Env Γ → Res R) → Env Γ → Res R} {Tc : (R : Type) → (c.α → Env Γ → Res R) → Env Γ → Res R}
    (o : Op2 r a b dBl f) (o' : Op2 r' b c dBl g') (ha : EvE p E XC Γ ta a Ta) (hb : EvE p E XC Γ tb b Tb) (hc : EvE p E XC Γ tc c Tc) :
    EvE p E XC Γ (tChain r r' ta tb tc) dBl (fun R k ρ => Ta R (fun x ρ => Tb R (fun y ρ => if f x y = true then Tc R (fun z ρ => k (g' y z) ρ) ρ else k false ρ) ρ) ρ) := fun B σ F H ρ I R G hG k Q g q =>
  ha B σ F H ρ I R G hG _ _ g fun x ρ1 v F1 H1 I1 e1 r1 g1 => hb B σ F1 H1 ρ1 I1 R G hG _ _ g1 fun y ρ2 w F2 H2 I2 e2 r2 g2 =>
    o F2 H2 v w x y _ I2.fh (a.ext r1 e2.1) r2 fun u F3 H3 pp r3 => by
      refine ⟨f x y, r3, ?_⟩
      cases hf : f x y with
      | false =>
        rw [if_neg (by decide)]
        rw [hf, if_neg (by decide)] at g2
        exact q _ ρ2 _ F3 H3 (I2.pext pp) ((e1.trans e2).pext pp) rfl g2
      | true =>
        rw [if_pos rfl]
        rw [hf, if_pos rfl] at g2
        exact hc B σ F3 H3 ρ2 (I2.pext pp) R G hG _ _ g2 fun z ρ4 u4 F4 H4 I4 e4 r4 g4 =>
          o' F4 H4 w u4 y z Q I4.fh (b.ext r2 (pp.ff.trans e4.1)) r4 fun u5 F5 H5 p5 r5 => q _ ρ4 u5 F5 H5 (I4.pext p5) (((((e1.trans e2).pext pp)).trans e4).pext p5) r5 g4
/-! ### iteration -/
theorem walk_enumT {a : Addr} {xs : List V} : Walk (IteT K a) xs.length (fun H => SqT K H a xs) (YPair (fun i => some (.int (i : Nat))) (fun i => xs[i]?)) := by
  refine ⟨fun i _ hi q => ⟨xs, xs[i], q, by simp [hi]⟩, fun _ q => ⟨xs, q, Nat.le_refl _⟩, fun i H v H' _ q y => ?_⟩
  obtain ⟨T, x, h1, h2, h3, h4⟩ := y
  exact ⟨T, .int (i : Nat), x, h1, h2, h3, rfl, h4 xs q⟩
theorem ei_enumT {T : (R : Type) → (DEnv [dTup c] → Env Γ → Res R) → Env Γ → Res R} (h : EvA p E XC Γ tA [dTup c] T) : EvI p E XC Γ (iEnumT K tA) (dP2 dInt c) (fun R k ρ => T R (fun x ρ => k (enumL x.1) ρ) ρ) := fun B σ F H ρ I R G hG k Q g qq =>
  h B σ F H ρ I R G hG _ _ g fun x ρ' vs F' H' I' e r g' => by
    obtain ⟨v, vs', rfl, r1, r2⟩ := r
    have r2 : vs' = [] := r2
    obtain ⟨xs, u⟩ := x
    obtain ⟨a, ws, rfl, g2, g3, g4⟩ := r1
    subst r2
    exact ⟨a, ws, rfl, SqT.rd I'.fh g2, qq _ ρ' _ F' H' I' e (walks_enum (a := a) walk_enumT (fun H2 e2 => SqT.rd e2 g2) g3) g' (by rw [enumL_len]; exact g4)⟩
end
end Pu
set_option Elab.async false
set_option linter.all false
set_option maxRecDepth 100000
set_option maxHeartbeats 4000000
namespace Pu
open PySem PySem.Spec PyProof.Rows L2 Evl
section
variable {X : Cx}
end
/-! ### fields of things that may change -/
def fIx : List Str → Str → Option Nat
  | [], _ => none
  | n :: ns, f => if (f == n) = true then some 0 else (fIx ns f).map (· + 1)
theorem fIx_look {f : Str} {v : V} : ∀ {names : List Str} {vs : List V} {j : Nat}, fIx names f = some j → vs[j]? = some v → (names.zip vs).lookup f = some v
  | [], _, _, h, _ => nomatch h
  | n :: ns, [], _, _, hv => by simp at hv
  | n :: ns, w :: ws, j, h, hv => by
    unfold fIx at h
    rw [List.zip_cons_cons, List.lookup]
    by_cases e : (f == n) = true
    · rw [if_pos e] at h
      cases h
      rw [e]
      simpa using hv
    · rw [if_neg e] at h
      have e2 : (f == n) = false := by simpa using e
      rw [e2]
      cases h2 : fIx ns f with
      | none => rw [h2] at h; cases h
      | some i =>
        rw [h2] at h
        cases h
        exact fIx_look h2 (by simpa using hv)
section
variable {p : Bool} {E : XK} {XC : Str → Value} {Rt : Ret} {K : PySem.W.Frag} {Γ Γ' Γ0 Γ1 Γ2 ΓL Γf : List Sl} {te ta tb tc : TE} {tt tu : TT} {tA : TA} {ti : TI} {tg : TG} {a b c d : DCod} {m : Cod} {cs : List DCod} {ts us : TS} {C : Addr} {names : List Str} {i j : Nat} {k : Kd} {f : Str}
theorem map_some_get {vs : List V} {j : Nat} {v : V} (h : (vs.map some)[j]? = some (some v)) : vs[j]? = some v := by
  rw [List.getElem?_map] at h
  cases e : vs[j]? with
  | none => rw [e] at h; cases h
  | some w => rw [e] at h; cases h; rfl
theorem ev_fldM (at_ : At Γ i (.m k (mObj C names Γf))) (atf : At Γf j (.da c)) (hn : fIx names f = some j) (hc : Cls K C) (hna : NoAttr K C f) : EvE p E XC Γ (tFld K (tVar i) f) c (fun R kk ρ => kk (atf.get (at_.get ρ)) ρ) := fun B σ F H ρ I R G hG kk Q g q => by
  obtain ⟨v, fp, h1, _, hr, _⟩ := I.mut at_
  obtain ⟨l, dx, vs, fp', rfl, hl, rfl, hv, hs⟩ := hr
  obtain ⟨u, hu, ru⟩ := hs.data atf
  exact ⟨_, h1, l, C, dx, _, u, rfl, hl, hc, hna, fIx_look hn (map_some_get hu), q _ ρ u F H I (Gt.refl I.fh) ru g⟩
theorem fld_step {B : Base} {σ : L2.St} {F H : Hp} {ρ : Env Γ} (hk : k ≠ .co) (I : SInv B Γ σ F H ρ) (at_ : At Γ i (.m k (mObj C names Γf))) (atf : At Γf j (.m .lo (mLst c))) (hn : fIx names f = some j) :
    ∃ q dx fs l vs, σ[i]? = some (some (.ref q)) ∧ H q = some (.ins C dx fs) ∧ fs.lookup f = some (.ref l) ∧ H l = some (.lst vs) ∧ PV c F vs (atf.get (at_.get ρ)) ∧ List.length (α := c.α) (atf.get (at_.get ρ)) ≤ sizeLine ∧
      ∀ vs' xs', PV c F vs' xs' → xs'.length ≤ sizeLine → SInv B Γ σ F (upd H l (.lst vs')) (at_.put ρ (atf.put (at_.get ρ) xs')) := by
  obtain ⟨v, fp, h1, _, hr, nd, hfp, hst⟩ := I.mut at_
  obtain ⟨q, dx, vs0, fp', rfl, hq, rfl, hv, hs⟩ := hr
  obtain ⟨u, fpl, L1, L2, g1, _, g3, g4, g5⟩ := hs.mut atf
  obtain ⟨l, vs, rfl, rfl, hl, pv, hz⟩ := g4
  have efp : fp' = L1.map (·.2) ++ [l] ++ L2.map (·.2) := by
    have := congrArg (List.map (·.2)) g3
    rw [tag_map] at this
    rw [this, List.map_append, List.map_append, tag_map]
  have hlm : l ∈ fp' := by rw [efp]; simp
  have hlq : l ≠ q := fun e => (List.nodup_cons.mp nd).1 (e ▸ hlm)
  have kinds : ∀ x, x ∈ L1 ++ [(Kd.lo, l)] ++ L2 → x.1 = .lo := fun x hx => by
    have : x ∈ tag .lo fp' := by rw [g3]; exact hx
    obtain ⟨kk, aa⟩ := x
    exact (mem_tag.mp this).1
  refine ⟨q, dx, _, l, vs, h1, hq, fIx_look hn (map_some_get g1), hl, pv, hz, fun vs' xs' pv' hz' => hst hk F _ (q :: fp') _ ⟨Ex.refl _, fun a o ha => ?_, fun a o ha hm => ?_, fun a o ha => ?_, fun a o ha => .inl ha, nd, fun a ha => ?_⟩ ⟨q, dx, vs0, fp', rfl, by rw [upd_ne (Ne.symm hlq)]; exact hq, rfl, hv, ?_⟩⟩
  · rw [upd_ne (ne_of_none ha (hfp l (List.mem_cons_of_mem _ hlm)).1)]; exact I.fh a o ha
  · rw [upd_ne (fun e => hm (by rw [e]; exact List.mem_cons_of_mem _ hlm))]; exact ha
  · by_cases he : a = l
    · subst he; exact ⟨_, upd_same⟩
    · exact ⟨o, by rw [upd_ne he]; exact ha⟩
  · obtain ⟨z1, ⟨o, z2⟩, _⟩ := hfp a ha
    refine ⟨.inl ha, z1, ?_⟩
    by_cases he : a = l
    · subst he; exact ⟨_, upd_same⟩
    · exact ⟨o, by rw [upd_ne he]; exact z2⟩
  · have w := g5 F (upd H l (.lst vs')) [l] xs' (Ex.refl _) (fun kk a ha => upd_ne fun e => ?_) ⟨l, vs', rfl, rfl, upd_same, pv', hz'⟩
    · rw [← g3] at w; exact w
    · subst e
      have nd2 := (List.nodup_cons.mp nd).2
      rw [efp] at nd2
      have n1 := List.nodup_append.mp nd2
      rcases List.mem_append.mp ha with z | z
      · exact (List.nodup_append.mp n1.1).2.2 a (List.mem_map.mpr ⟨_, z, rfl⟩) a (by simp) rfl
      · exact n1.2.2 a (by simp) a (List.mem_map.mpr ⟨_, z, rfl⟩) rfl
theorem fld_again {B : Base} {σ : L2.St} {F H : Hp} {ρ : Env Γ} (hk : k ≠ .co) (I : SInv B Γ σ F H ρ) (at_ : At Γ i (.m k (mObj C names Γf))) (atf : At Γf j (.m .lo (mLst c))) (hn : fIx names f = some j) {q dx l : Addr} {fs : List (Str × V)}
    (h1 : σ[i]? = some (some (.ref q))) (hq : H q = some (.ins C dx fs)) (hf : fs.lookup f = some (.ref l)) : ∃ vs, H l = some (.lst vs) ∧ PV c F vs (atf.get (at_.get ρ)) ∧ List.length (α := c.α) (atf.get (at_.get ρ)) ≤ sizeLine ∧
      ∀ vs' xs', PV c F vs' xs' → xs'.length ≤ sizeLine → SInv B Γ σ F (upd H l (.lst vs')) (at_.put ρ (atf.put (at_.get ρ) xs')) := by
  obtain ⟨q2, dx2, fs2, l2, vs, g1, g2, g3, g4⟩ := fld_step hk I at_ atf hn
  rw [h1] at g1
  cases g1
  rw [hq] at g2
  cases g2
  rw [hf] at g3
  cases g3
  exact ⟨vs, g4⟩
theorem st_setIxF (hk : k ≠ .co) (at_ : At Γ i (.m k (mObj C names Γf))) (atf : At Γf j (.m .lo (mLst c))) (hn : fIx names f = some j) (hc : Cls K C) (hna : NoAttr K C f) {T : (R : Type) → (c.α → Env Γ → Res R) → Env Γ → Res R} {Ti : (R : Type) → (Int → Env Γ → Res R) → Env Γ → Res R} (h : EvE p E XC Γ te c T) (hi : EvE true E XC Γ tb dInt Ti) :
    StE E XC Rt Γ (tAsg te (gSub (tFld K (tVar i) f) tb rSetL)) Γ ΓL (fun R nx rt bk ct ρ => T R (fun x ρ => Ti R (fun n ρ => opt (setL (atf.get (at_.get ρ)) n x) fun xs => nx (at_.put ρ (atf.put (at_.get ρ) xs))) ρ) ρ) := fun B σ F H ρ I R G hG nx rt bk ct D g qn qr qb qc =>
  h B σ F H ρ I R G hG _ _ g fun x ρ1 u F1 H1 I1 e1 r1 g1 => by
    obtain ⟨q0, dx0, fs0, l0, vs0, h1, hq, hf, _⟩ := fld_step hk I1 at_ atf hn
    refine ⟨.ref q0, h1, q0, C, dx0, fs0, .ref l0, rfl, hq, hc, hna, hf, hi B σ F1 H1 ρ1 I1 R G hG _ _ g1 fun n ρ2 w F2 H2 I2 e2 r2 g2 => ?_⟩
    obtain ⟨_, pe⟩ := e2.2 rfl
    obtain ⟨vs, hl, pv, hz, hs⟩ := fld_again hk I2 at_ atf hn h1 (pe.hh q0 _ hq) hf
    have g2 : G (opt (match ixN (List.length (α := c.α) (atf.get (at_.get ρ2))) n with
      | some j => some (List.set (atf.get (at_.get ρ2)) j x)
      | none => none) fun xs => nx (at_.put ρ2 (atf.put (at_.get ρ2) xs))) := g2
    rw [← pv.length] at g2
    cases hj : ixN vs.length n with
    | none => rw [hj] at g2; exact absurd g2 hG.1
    | some y =>
      rw [hj] at g2
      exact ⟨l0, vs, n, y, rfl, r2, hl, hj, qn _ σ F2 _ (hs _ _ (pv.set (c.ext r1 e2.1) y) (Nat.le_trans (Nat.le_of_eq (List.length_set (α := c.α))) hz)) (e1.1.trans e2.1) g2⟩
theorem st_appF (hk : k ≠ .co) (at_ : At Γ i (.m k (mObj C names Γf))) (atf : At Γf j (.m .lo (mLst c))) (hn : fIx names f = some j) (hc : Cls K C) (hna : NoAttr K C f) {T : (R : Type) → (c.α → Env Γ → Res R) → Env Γ → Res R} (h : EvE true E XC Γ te c T) :
    StE E XC Rt Γ (tDrop (tBM K "list" rAppend (tFld K (tVar i) f) (tCons te tNil))) Γ ΓL (fun R nx rt bk ct ρ => T R (fun x ρ => chk (decide (List.length (α := c.α) (atf.get (at_.get ρ)) < 16777216)) (nx (at_.put ρ (atf.put (at_.get ρ) (app1 (α := c.α) (atf.get (at_.get ρ)) x))))) ρ) := fun B σ F H ρ I R G hG nx rt bk ct D g qn qr qb qc => by
  obtain ⟨q0, dx0, fs0, l0, vs0, h1, hq, hf, hl0, _⟩ := fld_step hk I at_ atf hn
  refine ⟨.ref q0, h1, q0, C, dx0, fs0, .ref l0, rfl, hq, hc, hna, hf, .inl ⟨rfl, vs0, SqL.of hl0⟩, h B σ F H ρ I R G hG _ _ g fun x ρ1 u F1 H1 I1 e1 r1 g1 => ?_⟩
  obtain ⟨_, pe⟩ := e1.2 rfl
  obtain ⟨vs, hl, pv, hz, hs⟩ := fld_again hk I1 at_ atf hn h1 (pe.hh q0 _ hq) hf
  by_cases hx : List.length (α := c.α) (atf.get (at_.get ρ1)) < 16777216
  · rw [decide_eq_true hx] at g1
    have hsz := sizeLine_eq
    have hpl := pv.length
    exact ⟨l0, vs, u, rfl, rfl, hl, by omega, qn _ σ F1 _ (hs (vs ++ [u]) (app1 (α := c.α) (atf.get (at_.get ρ1)) x) (pv.append (.cons r1 .nil)) (Nat.le_trans (Nat.le_of_eq (app1_len (α := c.α) (atf.get (at_.get ρ1)) x)) (by omega))) e1.1 g1⟩
  · rw [decide_eq_false hx] at g1
    exact absurd g1 hG.1
theorem ev_methM {nm : Str} {fn : Env Γf → DEnv cs → Res (c.α × Env Γf)} (hk : k ≠ .co) (hn : names.contains nm = false) (at_ : At Γ i (.m k (mObj C names Γf))) {TA : (R : Type) → (DEnv cs → Env Γ → Res R) → Env Γ → Res R} (h : EvA true E XC Γ tA cs TA) :
    EvE false E XC Γ (tMeth C nm (spM XC (mObj C names Γf) cs c fn) [] E (tVar i) tA) c (fun R kk ρ => TA R (fun x ρ => (fn (at_.get ρ) x).bind fun z => kk z.1 (at_.put ρ z.2)) ρ) := fun B σ F H ρ I R G hG kk Q g q => by
  obtain ⟨v, fp0, h1, _, hr0, _⟩ := I.mut at_
  obtain ⟨q0, dx0, vs0, fp0', rfl, hq0, _⟩ := hr0
  refine ⟨_, h1, q0, dx0, _, rfl, hq0, zip_no hn _, h B σ F H ρ I R G hG _ _ g fun x ρ1 vs F1 H1 I1 e1 r1 g1 => ?_⟩
  obtain ⟨v', fp, h2, _, hr, nd, hfp, hst⟩ := I1.mut at_
  rw [h1] at h2
  cases h2
  refine ⟨F1, fp, .ref q0, vs ++ [], at_.get ρ1, x, rfl, I1.fh, hr, nd, fun a ha => ⟨(hfp a ha).1, (hfp a ha).2.1⟩, r1.app, fun e => ?_, fun z y' e u F' H' fp' st r' ru => ?_, fun n e H' eh => ?_⟩
  · rw [e] at g1; exact hG.1 g1
  · rw [e] at g1
    exact q z _ u F' H' (hst hk F' H' fp' y' st r') ⟨e1.1.trans st.ff, fun z => nomatch z⟩ ru g1
  · rw [e] at g1
    refine hG.2 n H' g1 fun a o ha hm hn2 => ?_
    have hk1 : H1 a = some o := I1.frm a o ha hm hn2
    refine eh a o hk1 fun hf => ?_
    obtain ⟨_, _, hp, hl⟩ := hfp a hf
    cases k with
    | pa => rcases hp rfl with z | z
            · exact hm z
            · rw [ha] at z; cases z
    | lo => rcases hl rfl with z | z
            · exact hn2 z
            · rw [ha] at z; cases z
    | co => exact hk rfl
end
end Pu
set_option Elab.async false
set_option linter.all false
set_option maxRecDepth 100000
set_option maxHeartbeats 4000000
namespace Pu
open PySem L2 Evl
section
variable {p : Bool} {E : XK} {XC : Str → Value} {Rt : Ret} {K : PySem.W.Frag} {Γ Γ' Γ0 Γ1 Γ2 ΓL Γf : List Sl} {te ta tb tc : TE} {tt tu : TT} {tA : TA} {ti : TI} {tg : TG} {a b c d : DCod} {m m2 : Cod} {cs : List DCod} {ts us : TS} {C : Addr} {names : List Str} {i j : Nat} {k : Kd} {f : Str}
/-! ### tuple(x) -/
theorem o_tupNL {c : DCod} : Op1 (kTupN K) (dLst c) (dTuN c) (fun xs => xs) := fun F H v x Q e h k => by
  obtain ⟨a, vs, rfl, g2, g3, g4⟩ := h
  exact .inl ⟨a, vs, rfl, SqL.of (e a _ g2), fun q ob hd hc hq => k _ _ _ (Pext.one e hq) ⟨q, vs, ob, rfl, upd_same, hd, hc, g3.ext (Ex.new (none_of e hq)), g4⟩⟩
theorem o_tupNT {c : DCod} : Op1 (kTupN K) (dTup c) (dTup c) (fun xs => xs) := fun F H v x Q e h k => by
  obtain ⟨a, vs, rfl, g2, g3, g4⟩ := id h
  exact .inr ⟨a, vs, rfl, SqT.rd e g2, k _ F H (Pext.refl e) h⟩
theorem ev_tupNM (at_ : At Γ i (.m k (mLst c))) : EvE p E XC Γ (tThen (tVar i) (kTupN K)) (dTuN c) (fun R kk ρ => kk (at_.get ρ) ρ) := fun B σ F H ρ I R G hG kk Q g qq => by
  obtain ⟨v, fp, h1, _, hr, _⟩ := I.mut at_
  obtain ⟨l, vs, rfl, rfl, hl, pv, hz⟩ := hr
  exact ⟨_, h1, .inl ⟨l, vs, rfl, SqL.of hl, fun q ob hd hc hq => qq _ ρ _ _ _ (I.pext (Pext.one I.fh hq)) ((Gt.refl I.fh).pext (Pext.one I.fh hq)) ⟨q, vs, ob, rfl, upd_same, hd, hc, pv.ext (Ex.new (none_of I.fh hq)), hz⟩ g⟩⟩
/-! ### t.index(x), t.count(x) -/
def countL {α : Type} (d : DecidableEq α) (xs : List α) (x : α) : Int := ((xs.countP fun y => @decide (y = x) (d y x) : Nat) : Int)
theorem countL_eq {F : Hp} (q : Fl c) {w : V} {x : c.α} (rw_ : c.rel F w x) : ∀ {vs : List V} {xs : List c.α}, PV c F vs xs → (vs.countP fun z => eqV z w) = xs.countP fun y => @decide (y = x) (q.dec y x)
  | _, _, .nil => rfl
  | _, _, .cons r t => by rw [List.countP_cons, List.countP_cons, countL_eq q rw_ t, q.eq r rw_]
/-! ### items of lists and tuples become options -/
theorem PV.some {F : Hp} : ∀ {vs : List V} {xs : List Int}, PV dInt F vs xs → PV (dOpt dInt) F vs (xs.map some)
  | _, _, .nil => .nil
  | _, _, .cons (a := v) (b := x) r t => .cons ⟨r, fun e => by
    have r : v = V.int x := r
    rw [r] at e; cases e⟩ (PV.some t)
theorem PV.nones {F : Hp} : ∀ {vs : List V} {xs : List Unit}, PV dNon F vs xs → PV (dOpt c) F vs (xs.map fun _ => (none : Option c.α))
  | _, _, .nil => .nil
  | _, _, .cons r t => .cons r (PV.nones t)
theorem sb_someL : Sb (dLst dInt) (dLst (dOpt dInt)) (fun xs => xs.map some) := fun F v x h => by
  obtain ⟨a, vs, h1, h2, h3, h4⟩ := h
  exact ⟨a, vs, h1, h2, h3.some, by rw [List.length_map]; exact h4⟩
theorem sb_noneL : Sb (dLst dNon) (dLst (dOpt c)) (fun xs => xs.map fun _ => (none : Option c.α)) := fun F v x h => by
  obtain ⟨a, vs, h1, h2, h3, h4⟩ := h
  exact ⟨a, vs, h1, h2, h3.nones, by rw [List.length_map]; exact h4⟩
/-! ### a, b = e1, e2 -/
theorem st_par2 {s1 s2 : Sl} (u : Up Γ i s1 (.da a) Γ1) (u2 : Up Γ1 j s2 (.da b) Γ') {Ta : (R : Type) → (a.α → Env Γ → Res R) → Env Γ → Res R} {Tb : (R : Type) → (b.α → Env Γ → Res R) → Env Γ → Res R} (ha : EvE p E XC Γ ta a Ta) (hb : EvE p E XC Γ tb b Tb) :
    StE E XC Rt Γ (tPar i j (tCons ta (tCons tb tNil))) Γ' ΓL (fun R nx rt bk ct ρ => Ta R (fun x ρ => Tb R (fun y ρ => nx (u2.set (u.set ρ x) y)) ρ) ρ) := fun B σ F H ρ I R G hG nx rt bk ct D g qn qr qb qc =>
  ha B σ F H ρ I R G hG _ _ g fun x ρ1 v F1 H1 I1 e1 r1 g1 => hb B σ F1 H1 ρ1 I1 R G hG _ _ g1 fun y ρ2 w F2 H2 I2 e2 r2 g2 =>
    ⟨v, w, rfl, qn _ _ F2 H2 ((I2.setD u (a.ext r1 e2.1)).setD u2 r2) (e1.1.trans e2.1) g2⟩
theorem New.ext {fp : List Addr} {H0 F H F' H' : Hp} (n : New fp H0 F H) (pp : Pext F F' H H') : New fp H0 F' H' := ⟨n.nd, fun a ha => by
  obtain ⟨h1, h2, o, h3⟩ := n.at_ a ha
  refine ⟨h1, ?_, o, pp.hh a o h3⟩
  cases e : F' a with
  | none => rfl
  | some u =>
    rcases pp.new a u e with z | z
    · rw [h2] at z; cases z
    · rw [h3] at z; cases z⟩
theorem New.later {fp : List Addr} {H0 H1 F H : Hp} (n : New fp H1 F H) (e : Ex H0 H1) : New fp H0 F H := ⟨n.nd, fun a ha => let ⟨h1, h2⟩ := n.at_ a ha; ⟨none_of e h1, h2⟩⟩
theorem st_parNN {s1 s2 : Sl} (u : Up Γ i s1 (.m .lo m) Γ1) (u2 : Up Γ1 j s2 (.m .lo m2) Γ') {Ta : (R : Type) → (m.α → Env Γ → Res R) → Env Γ → Res R} {Tb : (R : Type) → (m2.α → Env Γ → Res R) → Env Γ → Res R} (ha : EvN p E XC Γ ta m Ta) (hb : EvN true E XC Γ tb m2 Tb) :
    StE E XC Rt Γ (tPar i j (tCons ta (tCons tb tNil))) Γ' ΓL (fun R nx rt bk ct ρ => Ta R (fun x ρ => Tb R (fun y ρ => nx (u2.set (u.set ρ x) y)) ρ) ρ) := fun B σ F H ρ I R G hG nx rt bk ct D g qn qr qb qc =>
  ha B σ F H ρ I R G hG _ _ g fun x ρ1 v fp F0 H0 F1 H1 I0 e1 pp n r1 g1 => hb B σ F1 H1 ρ1 (I0.pext pp) R G hG _ _ g1 fun y ρ2 w fp2 F2 H2 F3 H3 I2 e2 pp2 n2 r2 g2 => by
    obtain ⟨er, pe⟩ := e2.2 rfl
    subst er
    have p0 : Pext F0 F2 H0 H2 := pp.trans pe
    have I3 := I0.setM p0 (n.ext pe) u (m.ext r1 pe.ff fun a ha => by
      obtain ⟨_, _, o, h⟩ := n.at_ a ha
      rw [h, pe.hh a o h])
    exact ⟨v, w, rfl, qn _ _ F3 H3 (I3.setM pp2 n2 u2 r2) ((e1.1.trans p0.ff).trans pp2.ff) g2⟩
end
end Pu
set_option Elab.async false
set_option linter.all false
set_option maxRecDepth 100000
set_option maxHeartbeats 4000000
namespace Pu
open PySem L2 Evl
section
variable {J : It} {n : Nat} {G : Hp → Prop} {Y : Nat → Hp → V → Hp → Prop}
theorem dc_it (w : Walk J n G Y) {g : TG} {tt : TT} {tk tv : TE} {vs : List Nat} {σ : St} {H1 : Hp} {D : Addr} {Qd : Hp → Prop} (Pv : Nat → Hp → Prop) (h0 : Pv 0 (upd H1 D (.dK []))) (hG : ∀ i H, i ≤ n → Pv i H → G H)
    (hs : ∀ i x H H', i < n → Pv i H → Y i H x H' → g x (wipe σ vs) H' fun σ2 H2 => wipe σ2 vs = wipe σ vs ∧ tt σ2 H2 fun b H3 =>
      if b = true then tk σ2 H3 fun y H4 => tv σ2 H4 fun z H5 => ∃ kvs k, y = kV k ∧ H5 D = some (.dK kvs) ∧ kvs.length < sizeLine ∧ Pv (i + 1) (upd H5 D (.dK (putK kvs k z))) else Pv (i + 1) H3) (hd : ∀ H, Pv n H → Qd H) :
    ∃ W : Nat → Nat → Hp → Prop, (∃ m, W 0 m (upd H1 D (.dK []))) ∧ ∀ i m H, W i m H →
      (J.stop i H ∧ Qd H) ∨ (J.go i H ∧ ∃ Nx : Hp → Prop, (∀ H', Nx H' → ∃ m', m' < m ∧ W (i + 1) m' H') ∧ ∀ x H', J.yld i H x H' → g x (wipe σ vs) H' fun σ2 H2 => wipe σ2 vs = wipe σ vs ∧ tt σ2 H2 fun b H3 =>
        if b = true then tk σ2 H3 fun y H4 => tv σ2 H4 fun z H5 => ∃ kvs k, y = kV k ∧ H5 D = some (.dK kvs) ∧ kvs.length < sizeLine ∧ Nx (upd H5 D (.dK (putK kvs k z))) else Nx H3) := by
  refine ⟨fun i m H => m = n - i ∧ i ≤ n ∧ Pv i H, ⟨n, by simp, Nat.zero_le _, h0⟩, ?_⟩
  rintro i m H ⟨rfl, hi, p⟩
  have q := hG i H hi p
  by_cases hlt : i < n
  · refine .inr ⟨w.goes i H hlt q, Pv (i + 1), fun H' p' => ⟨n - (i + 1), by omega, rfl, hlt, p'⟩, fun x H' y => hs i x H H' hlt p (w.yields i H x H' hlt q y)⟩
  · have e : i = n := by omega
    subst e
    exact .inl ⟨w.stops H q, hd H p⟩
end
section
variable {p : Bool} {E : XK} {XC : Str → Value} {Rt : Ret} {K : PySem.W.Frag} {Γ Γ' Γ0 Γ1 Γ2 ΓL Γf : List Sl} {te tk tv ta tb tc : TE} {tt tu : TT} {tA : TA} {ti : TI} {tg : TG} {a b c d : DCod} {m m2 : Cod} {cs : List DCod} {ts us : TS} {C : Addr} {names : List Str} {i j : Nat} {k : Kd} {f : Str}
theorem en_dc {vs is : List Nat} {q : Bool} {f : Env Γ → a.α → Env Γ1} {T0 : (R : Type) → (List a.α → Env Γ → Res R) → Env Γ → Res R} {Tk : (R : Type) → (Int → Env Γ1 → Res R) → Env Γ1 → Res R} {Tv : (R : Type) → (c.α → Env Γ1 → Res R) → Env Γ1 → Res R}
    (hv : allNo Γ vs = true) (his : ∀ i, i ∈ is → i ∈ vs) (bk : Bk Γ1 Γ) (h : EvI false E XC Γ ti a T0) (ht : TgE Γ tg a Γ1 f is) (hk : EvE q E0 XC Γ1 tk dInt Tk) (he : EvE q E0 XC Γ1 tv c Tv) :
    EvE false E XC Γ (tDc ti tg (fun σ H Q => Q true H) tk tv vs) (dDict c) (fun R k ρ => T0 R (fun xs ρ => opt (compL (fun x ρ0 => Tk _ (fun y ρ1 => Tv _ (fun z ρ2 => .ok (some (y, z), bk.f ρ2)) ρ1) (f ρ0 x)) xs ρ) fun ys => k (dmerge [] ys.1) ys.2) ρ) := fun B σ F H ρ I R G hG k Q g qq => by
  refine h B σ F H ρ I R G hG _ _ g fun xs ρ1 J F1 H1 I1 e1 w g1 hz D hD => ?_
  obtain ⟨Y, w, hy⟩ := w.ex
  generalize hcl : compL (fun x ρ0 => Tk _ (fun y ρ1 => Tv _ (fun z ρ2 => Res.ok (some (y, z), bk.f ρ2)) ρ1) (f ρ0 x)) xs ρ1 = cl at g1
  cases cl with
  | none => exact absurd g1 hG.1
  | some ys =>
  obtain ⟨ys, ρe⟩ := ys
  have g1 : G (k (dmerge [] ys) ρe) := g1
  have S0 : SApart B Γ σ F1 (upd H1 D (.dK [])) ρ1 D := I1.apart hD
  refine dc_it w (g := tg) (tt := fun σ H Q => Q true H) (tk := tk) (tv := tv) (vs := vs) (σ := σ) (fun i H' => i ≤ xs.length ∧ ∃ F' ρ0 acc vs' rest, SApart B Γ (wipe σ vs) F' H' ρ0 D ∧ Ex F1 F' ∧ H' D = some (.dK vs') ∧ KVR c F' vs' (dmerge [] acc) ∧ acc.length ≤ i ∧ compL (fun x ρ0 => Tk _ (fun y ρ1 => Tv _ (fun z ρ2 => Res.ok (some (y, z), bk.f ρ2)) ρ1) (f ρ0 x)) (xs.drop i) ρ0 = some (rest, ρe) ∧ ys = acc ++ rest)
    ⟨Nat.zero_le _, F1, ρ1, [], [], ys, S0.wiped hv, Ex.refl _, upd_same, .nil, Nat.le_refl _, hcl, rfl⟩ (fun i H' _ ⟨_, F', _, _, _, _, S, e', _⟩ => e'.trans S.inv.fh) ?_ ?_
  · rintro i v H' H2 hi ⟨_, F', ρ0, acc, vs', rest, S, e', hDl, pv, hacc, hcl', hys⟩ y
    obtain ⟨F2, x, hx, pp, r⟩ := hy i H' v H2 F' y e' S.inv.fh
    obtain ⟨hlt, hxe⟩ := List.getElem?_eq_some_iff.mp hx
    have ed : xs.drop i = x :: xs.drop (i + 1) := by rw [← hxe]; exact (List.drop_eq_getElem_cons hlt)
    rw [ed] at hcl'
    obtain ⟨o, ρ3, ys', hbody, hrest, hrr⟩ := compL_cons hcl'
    obtain ⟨B2, I2, hfr, back⟩ := S.go hDl
    have I2' := I2.pext pp
    refine ht B2 _ F2 H2 ρ0 v x I2' r _ fun σ3 I3 hag hln => ⟨?_, ?_⟩
    · have ew : wipe σ3 vs = wipe (wipe σ vs) vs := wipe_eq hln fun j hj => hag j fun z => hj (his j z)
      rw [ew]
      exact wipe_eq (wipe_length _ _) fun j hj => wipe_get _ _ _ hj
    · have hup : ∀ {Fz Hz : Hp} {ρz : Env Γ1}, SInv B2 Γ1 σ3 Fz Hz ρz → SApart B Γ (wipe σ vs) Fz Hz (bk.f ρz) D ∧ Hz D = some (.dK vs') := fun {Fz Hz ρz} Iz => by
        obtain ⟨Sz, hz⟩ := back _ _ _ _ _ (bk.inv Iz)
        have e3 : wipe σ3 vs = wipe σ vs := by
          have ew : wipe σ3 vs = wipe (wipe σ vs) vs := wipe_eq hln fun j hj => hag j fun z => hj (his j z)
          rw [ew]
          exact wipe_eq (wipe_length _ _) fun j hj => wipe_get _ _ _ hj
        have S2 := Sz.wiped hv
        rw [e3] at S2
        exact ⟨S2, hz⟩
      have hsl := sizeLine_eq
      show if true = true then _ else _
      rw [if_pos rfl]
      refine hk B2 σ3 F2 H2 _ I3 _ (fun r => r = Res.ok (o, ρ3)) (rs0 (fun z => nomatch z) fun n z => nomatch z) _ _ hbody fun kx ρ4 u4 F4 H4 I4 e4 r4 g4 => ?_
      refine he B2 σ3 F4 H4 ρ4 I4 _ (fun r => r = Res.ok (o, ρ3)) (rs0 (fun z => nomatch z) fun n z => nomatch z) _ _ g4 fun y ρ5 u F5 H5 I5 e5 r5 g5 => ?_
      cases g5
      obtain ⟨S5, h5⟩ := hup I5
      have pv5 := pv.ext ((pp.ff.trans e4.1).trans e5.1)
      refine ⟨vs', .inl kx, r4, h5, ?_, hlt, F5, _, acc ++ [(kx, y)], _, ys', S5.upd, ((e'.trans pp.ff).trans e4.1).trans e5.1, upd_same, ?_, ?_, hrest, ?_⟩
      · have := dmerge_len acc []
        have h2 : vs'.length = (dmerge [] acc).length := Paired.length pv5
        simp only [List.length_nil, Nat.zero_add] at this
        omega
      · rw [dmerge_snoc]; exact pv5.put r5
      · rw [List.length_append]; show _ + 1 ≤ _; omega
      · rw [hys, hrr]; simp
  · rintro H' ⟨_, F', ρ0, acc, vs', rest, S, e', hDl, pv, hacc, hcl', hys⟩
    rw [List.drop_length] at hcl'
    cases hcl'
    rw [List.append_nil] at hys
    subst hys
    have S2 := S.unwiped hv
    obtain ⟨L2, r2, w2, hn2, hF2, hB2⟩ := S2
    -- the dict joins what never changes
    have hne : ∀ a o, F' a = some o → a ≠ D := fun a o ha e => by rw [e, hF2] at ha; cases ha
    have w3 : Wd B (upd F' D (.dK vs')) H' L2 := ⟨w2.nd, fun k a ha => by
        obtain ⟨q1, o, q2⟩ := w2.fr k a ha
        have hne2 : a ≠ D := fun z => hn2 k (by rw [← z]; exact ha)
        exact ⟨by rw [upd_ne hne2]; exact q1, o, q2⟩, fun a u hu => by
          by_cases hb : a = D
          · subst hb; rw [upd_same] at hu; cases hu; exact hDl
          · rw [upd_ne hb] at hu; exact w2.fh a u hu, w2.bf.trans (Ex.new hF2), w2.keep, w2.there, fun a u hu => by
          by_cases hb : a = D
          · subst hb; exact .inr hB2
          · rw [upd_ne hb] at hu; exact w2.new a u hu, w2.own, w2.loc, w2.con⟩
    exact qq (dmerge [] ys) ρe (.ref D) (upd F' D (.dK vs')) H' ⟨L2, r2.ext (Ex.new hF2) fun _ _ _ => rfl, w3⟩ ⟨(e1.1.trans e').trans (Ex.new hF2), fun z => nomatch z⟩ ⟨D, vs', rfl, upd_same, pv.ext (Ex.new hF2)⟩ g1
end
end Pu
set_option Elab.async false
set_option linter.all false
set_option maxRecDepth 100000
set_option maxHeartbeats 4000000
namespace Pu
open PySem PySem.Spec PyProof.Rows L2 Evl
/-! ### the rules whose walks name the frame's constants, by a name of their own for these -/
section
variable {X : Cx} {K : PySem.W.Frag} {e o l : Expr} {es : List Expr} {ta tl to te tv : TE} {t : TA} {p pos pos' tpos apos cpos : Pos} {f : Str} {tgt value : Expr}
theorem pg_tupK {ks : List Expr} {k : Nat} {t : TGs} {n : Nat} (hc : X.calm = true) (h : PGs X ks t) (hn : (assignEach ks X.env).length = n := by rfl) (hst : (assignEach ks X.env).findIdx? (·.1) = none := by rfl) (hK : X.K = K := by rfl) : PG X (.Tuple ks k pos) (gTup K n t) := by
  subst hK; exact pg_tup hc h hn hst
theorem op_eqDK (hu : X.A.units + 64 < cLine) (hK : X.K = K := by rfl) : OpR X (compareOp .Eq) (rEqD K) := by subst hK; exact op_eqD hu
theorem op_neDK (hu : X.A.units + 64 < cLine) (hK : X.K = K := by rfl) : OpR X (compareOp .NotEq) (rNeD K) := by subst hK; exact op_neD hu
theorem ix_listK (hK : X.K = K := by rfl) : IxR X (rIxL K) := by subst hK; exact ix_list
theorem ix_tupK (hK : X.K = K := by rfl) : IxR X (rIxT K) := by subst hK; exact ix_tup
theorem op_in_seqK (hK : X.K = K := by rfl) : OpR X (compareOp .In) (rIn K false) := by subst hK; exact op_in_seq
theorem call_lenK (hK : X.K = K := by rfl) : CallR X (.builtin "len") (fun xs H Q => ∃ x n, xs = [x] ∧ LenV K x H n ∧ Q (.int n) H) := by subst hK; exact call_len
theorem call_list_ofK (hK : X.K = K := by rfl) : CallR X (.type "list") (fun xs H Q => ∃ p ys, xs = [.ref p] ∧ (SqL K H p ys ∨ SqT K H p ys) ∧ ∀ l, H l = none → Q (.ref l) (upd H l (.lst ys))) := by subst hK; exact call_list_of
theorem cr_anyK (hc : X.calm = true) (hK : X.K = K := by rfl) : CallR X (.builtin "any") (rAny K) := by subst hK; exact cr_any hc
theorem sl_listK (hK : X.K = K := by rfl) : SlR X (rSlL K) := by subst hK; exact sl_list
theorem pe_fldK (he : PE X e ta) (hb : attributeBase e f X.env (eval e X.env) = eval e X.env) (hK : X.K = K := by rfl) : PE X (.Attribute e f pos) (tFld K ta f) := by subst hK; exact pe_fld he hb
theorem pi_listK (hl : PE X l tl) (hK : X.K = K := by rfl) : PI X tgt l (iList K tl) := by subst hK; exact pi_list hl
theorem pi_tupK (hl : PE X l tl) (hK : X.K = K := by rfl) : PI X tgt l (iTup K tl) := by subst hK; exact pi_tup hl
theorem pi_enumK {elts : List Expr} {kk : Nat} (hg : Gl X "enumerate") (hm : X.mg "enumerate" = none) (ha : PA X [e] t) (hs : starEach [e] X.env = [(false, eval e X.env)] := by rfl) (hK : X.K = K := by rfl) :
    PI X (.Tuple elts kk tpos) (.Call (.Name "enumerate" p) [e] [] pos) (iEnum K t) := by subst hK; exact pi_enum hg hm ha hs
theorem pi_enumTK {elts : List Expr} {kk : Nat} (hg : Gl X "enumerate") (hm : X.mg "enumerate" = none) (ha : PA X [e] t) (hs : starEach [e] X.env = [(false, eval e X.env)] := by rfl) (hK : X.K = K := by rfl) :
    PI X (.Tuple elts kk tpos) (.Call (.Name "enumerate" p) [e] [] pos) (iEnumT K t) := by subst hK; exact pi_enumT hg hm ha hs
theorem pe_bmK {T id : String} {name : Str} {r : V → List V → Hp → VK → Prop} (pa : PlainAttrs T) (slot : Slot T name id) (hty : typeOf (.builtin id) = pure (.type "method_descriptor")) (hm : MtR X id r) (ho : PE X o to) (ha : PA X (e :: es) t)
    (hbase : attributeBase o name X.env (eval o X.env) = eval o X.env := by rfl)
    (hfew : ((backTo cpos (starEach (e :: es) X.env)).all (fun x => !x.1) && (backToKw cpos (keywordEach [] X.env)).all (fun x => x.1.isSome)
      && decide ((e :: es).length + ([] : List Keyword).length + (if ([] : List Keyword).isEmpty then 0 else 1) < 30)) = true := by rfl)
    (hline : (apos.endLine == cpos.line) = true := by rfl) (hs : starEach (e :: es) X.env = (false, eval e X.env) :: starEach es X.env := by rfl) (hplain : (backTo cpos (starEach es X.env)).any (·.1) = false := by rfl) (hK : X.K = K := by rfl) :
    PE X (.Call (.Attribute o name apos) (e :: es) [] cpos) (tBM K T r to t) := by subst hK; exact pe_bm pa slot hty hm ho ha hbase hfew hline hs hplain
theorem call_dictPK (hcalm : X.calm = true) (hK : X.K = K := by rfl) : CallR X (.type "dict") (fun xs H Q => ∃ (a : Addr) (ps : List Addr) (kvs : List (Key × V)), xs = [.ref a] ∧ SqL K H a (ps.map V.ref) ∧ Paired (fun p kv => SqT K H p [kV kv.1, kv.2]) ps kvs ∧
    ∀ p, H p = none → Q (.ref p) (upd H p (.dK (mergeK [] kvs)))) := by subst hK; exact call_dictP hcalm
theorem ps_fldK (ha : PE X o ta) (hv : PE X value tv) (hs : swapsWith value (some (.Attribute o f pos')) pos.line X.env = pure false) (hK : X.K = K := by rfl) : PS X (.Assign [.Attribute o f pos'] value pos) (sFld K ta tv f) := by subst hK; exact ps_fld ha hv hs
theorem pe_tupleNK (hg : Gl X "tuple") (hm : X.mg "tuple" = none) (ha : PE X e ta) (na : starEach [e] X.env = (false, eval e X.env) :: starEach [] X.env := by rfl) (hK : X.K = K := by rfl) :
    PE X (.Call (.Name "tuple" p) [e] [] pos) (tThen ta (kTupN K)) := by subst hK; exact pe_tupleN hg hm ha na
end
end Pu
set_option Elab.async false
set_option linter.all false
set_option maxRecDepth 100000
set_option maxHeartbeats 4000000
namespace Pu
open PySem L2 Evl
abbrev dScr (K : PySem.W.Frag) : DCod := ⟨List Int, fun F v xs => ∃ a, v = .ref a ∧ SqL K F a (xs.map V.int) ∧ xs.length ≤ sizeLine, fun h e => let ⟨a, h1, h2, h3⟩ := h; ⟨a, h1, h2.imp (Rd.ext e) id, h3⟩⟩
theorem pv_ints {F : Hp} : ∀ (xs : List Int), PV dInt F (xs.map V.int) xs
  | [] => .nil
  | x :: xs => .cons rfl (pv_ints xs)
def spN (XC : Str → Value) (cs : List DCod) (m : Cod) (f : DEnv cs → Res m.α) : Sp := fun vs H Q E => ∃ F x, Ex F H ∧ DRel cs F vs x ∧ f x ≠ .bad ∧
  (∀ z, f x = .ok z → ∀ u F' H' fp, Pext F F' H H' → New fp H F' H' → m.rel F' H' fp u z → Q u H') ∧ ∀ n, f x = .exc n → ∀ H', Ex H H' → E (XC n) none H'
theorem lenN {XC : Str → Value} {cs : List DCod} {m : Cod} {f : DEnv cs → Res m.α} {n : Nat} (h : cs.length = n) : ∀ vs H Q E, spN XC cs m f vs H Q E → vs.length = n := fun vs H Q E ⟨F, x, e, r, _⟩ => r.len.trans h
abbrev retN (m : Cod) : Ret := ⟨⟨Unit, fun _ _ _ => True, fun _ _ => True.intro⟩, m.α, fun B F H v y => B.M = [] → B.N = [] → ∃ fp, Pext B.F F B.H H ∧ New fp B.H F H ∧ m.rel F H fp v y⟩
abbrev mOne (m : Cod) : Cod := ⟨m.α, fun F H fp v x => ∃ a u, v = .ref a ∧ F a = some (.lst [u]) ∧ m.rel F H fp u x, fun {F F' H H' fp v x} h e k => let ⟨a, u, h1, h2, h3⟩ := h; ⟨a, u, h1, e a _ h2, m.ext h3 e k⟩⟩
def oneOk {α β : Type} (r : Res α) (k : α → Res β) : Res β := match r with
  | .ok x => k x
  | _ => .bad
def oneL {α β : Type} (xs : List α) (k : α → Res β) : Res β := match xs with
  | [x] => k x
  | _ => .bad
section
variable {p : Bool} {E : XK} {XC : Str → Value} {Rt : Ret} {K : PySem.W.Frag} {Γ Γ' Γ0 Γ1 Γ2 ΓL Γf : List Sl} {te tk tv ta tb tc : TE} {tt tu : TT} {tA : TA} {ti : TI} {tg : TG} {a b c d : DCod} {m m2 : Cod} {cs : List DCod} {ts us : TS} {C : Addr} {names : List Str} {i j : Nat} {k : Kd} {f : Str}
theorem en_slScr {to tu : TO} {T : (R : Type) → (List Int → Env Γ → Res R) → Env Γ → Res R} {T1 T2 : (R : Type) → (Option Int → Env Γ → Res R) → Env Γ → Res R} (h : EvE p E XC Γ te (dScr K) T) (h1 : EvO p E XC Γ to T1) (h2 : EvO p E XC Γ tu T2) :
    EvN p E XC Γ (L2.tSl (rSlL K) te to tu) (mLst dInt) (fun R k ρ => T R (fun xs ρ => T1 R (fun lo ρ => T2 R (fun hi ρ => k (cutL xs lo hi) ρ) ρ) ρ) ρ) := fun B σ F H ρ I R G hG k Q g qq =>
  h B σ F H ρ I R G hG _ _ g fun xs ρ1 v F1 H1 I1 e1 r1 g1 => h1 B σ F1 H1 ρ1 I1 R G hG _ _ g1 fun lo ρ2 F2 H2 I2 e2 g2 => h2 B σ F2 H2 ρ2 I2 R G hG _ _ g2 fun hi ρ3 F3 H3 I3 e3 g3 => by
    obtain ⟨a, rfl, q2, q4⟩ := (dScr K).ext ((dScr K).ext r1 (e2.1.trans e3.1)) I3.fh
    exact ⟨a, _, rfl, q2, fun l hl => new_list I3 hl (PV.cut (c := dInt) (pv_ints xs) lo hi) (Nat.le_trans (cutL_len _ _ _) q4) ((e1.trans e2).trans e3) g3 qq⟩
theorem st_retNew {T : (R : Type) → (m.α → Env Γ → Res R) → Env Γ → Res R} (h : EvN p E XC Γ te m T) : StE E XC (retN m) Γ (tRet te) Γ' ΓL (fun R nx rt bk ct ρ => T R (fun x ρ => rt () x) ρ) := fun B σ F H ρ I R G hG nx rt bk ct D g qn qr qb qc =>
  h B σ F H ρ I R G hG _ _ g fun x ρ' v fp F0 H0 F' H' I' e pp n r g' => qr () x v F' H' (fun hM hN => ⟨fp, (I'.pextB hM hN).trans pp, n.later (I'.pextB hM hN).hh, r⟩) True.intro g'
theorem run_N {N : List Str} {n : Nat} (hN : N.length = cs.length + n) {f : DEnv cs → Res m.α} {Γe : List Sl} {T : (R : Type) → (Env Γe → Res R) → (Unit → m.α → Res R) → (Env [] → Res R) → (Env [] → Res R) → Env (slots0 cs n) → Res R} (h : StE E XC (retN m) (slots0 cs n) ts Γe [] T)
    (hf : ∀ x, T m.α (fun _ => .bad) (fun _ z => .ok z) (fun _ => .bad) (fun _ => .bad) (env0 cs n x) = f x) (vs : List V) (H : Hp) (Q : VK) (hsp : spN XC cs m f vs H Q E) : ts { nx := fun _ H' => Q .non H', rt := Q } (L2.start N vs) H := by
  obtain ⟨F, x, e, r, hb, hq, hx⟩ := hsp
  have hl := r.len
  rw [start_eq (n := n) (by rw [hl]; exact hN)]
  refine h ⟨F, H, [], [], [], vs.map some ++ List.replicate n none⟩ _ F H (env0 cs n x) ⟨[], rel0 cs n _ r, wd0 e (by simp) (by simp) (by simp) (by simp) (by simp)⟩ m.α (fun z => z = f x) ⟨fun z => hb z.symm, fun nm H' z fr => hx nm z.symm H' fun a o ha => fr a o ha (by simp) (by simp)⟩ _ _ _ _ _ (hf x) ?_ ?_ ?_ ?_
  · intro ρ' σ' F' H' _ _ z; exact absurd z.symm hb
  · intro u z v F' H' ho _ z2
    obtain ⟨fp, h1, h2, h3⟩ := ho rfl rfl
    exact hq z z2.symm v F' H' fp h1 h2 h3
  · intro ρ' σ' F' H' _ _ z; exact absurd z.symm hb
  · intro ρ' σ' F' H' _ _ z; exact absurd z.symm hb
theorem ev_callN {f : DEnv cs → Res m.α} {TA : (R : Type) → (DEnv cs → Env Γ → Res R) → Env Γ → Res R} (h : EvA p E XC Γ tA cs TA) : EvN p E XC Γ (tCall (spN XC cs m f) [] E tA) m (fun R k ρ => TA R (fun x ρ => (f x).bind fun z => k z ρ) ρ) := fun B σ F H ρ I R G hG k Q g q =>
  h B σ F H ρ I R G hG _ _ g fun x ρ1 vs F1 H1 I1 e1 r1 g1 => ⟨F1, x, I1.fh, r1.app, fun e => (by rw [e] at g1; exact hG.1 g1), fun z e u F' H' fp pp n r => (by
    rw [e] at g1
    exact q z ρ1 u fp F1 H1 F' H' I1 e1 pp n r g1), fun n e H' eh => (by
    rw [e] at g1
    exact hG.2 n H' g1 (I1.frm.ex eh))⟩
theorem en_lc1 {vs is : List Nat} {f : Env Γ → a.α → Env Γ1} {T0 : (R : Type) → (List a.α → Env Γ → Res R) → Env Γ → Res R} {Te : (R : Type) → (m.α → Env Γ1 → Res R) → Env Γ1 → Res R}
    (hv : allNo Γ vs = true) (his : ∀ i, i ∈ is → i ∈ vs) (bk : Bk Γ1 Γ) (h : EvI false E XC Γ ti a T0) (ht : TgE Γ tg a Γ1 f is) (he : EvN false E0 XC Γ1 te m Te) :
    EvN false E XC Γ (tLc ti tg (fun σ H Q => Q true H) te vs) (mOne m) (fun R k ρ => T0 R (fun xs ρ => oneL xs fun x => oneOk (Te _ (fun y ρ2 => .ok (y, bk.f ρ2)) (f ρ x)) fun r => k r.1 r.2) ρ) := fun B σ F H ρ I R G hG k Q g qq => by
  refine h B σ F H ρ I R G hG _ _ g fun xs ρ1 J F1 H1 I1 e1 w g1 hz D hD => ?_
  obtain ⟨Y, w, hy⟩ := w.ex
  match xs, w, hy, g1 with
  | [], _, _, g1 => exact absurd g1 hG.1
  | _ :: _ :: _, _, _, g1 => exact absurd g1 hG.1
  | [x], w, hy, g1 =>
  have g1 : G (oneOk (Te _ (fun y ρ2 => Res.ok (y, bk.f ρ2)) (f ρ1 x)) fun r => k r.1 r.2) := g1
  generalize hbody : Te _ (fun y ρ2 => Res.ok (y, bk.f ρ2)) (f ρ1 x) = br at g1
  match br, g1 with
  | .exc n, g1 => exact absurd g1 hG.1
  | .bad, g1 => exact absurd g1 hG.1
  | .ok (yy, ρe), g1 =>
  have g1 : G (k yy ρe) := g1
  have S0 : SApart B Γ σ F1 (upd H1 D (.lst [])) ρ1 D := I1.apart hD
  refine lc_it w (tt := fun σ H Q => Q true H) (g := tg) (te := te) (vs := vs) (σ := σ) (fun i H2 => match i with
    | 0 => ∃ F', SApart B Γ (wipe σ vs) F' H2 ρ1 D ∧ Ex F1 F' ∧ H2 D = some (.lst [])
    | 1 => ∃ F0 H0 F' H' v fp, SApart B Γ (wipe σ vs) F0 H0 ρe D ∧ H0 D = some (.lst []) ∧ Ex F1 F0 ∧ Pext F0 F' H0 H' ∧ New fp H0 F' H' ∧ m.rel F' H' fp v yy ∧ H2 = upd H' D (.lst [v])
    | _ => False) ⟨F1, S0.wiped hv, Ex.refl _, upd_same⟩ ?_ ?_ ?_
  · intro i H2 hi hp
    match i, hp with
    | 0, ⟨F', S, e', _⟩ => exact e'.trans S.inv.fh
    | 1, ⟨F0, H0, F', H', v, fp, S, hd0, e', pp, n, r, eH⟩ =>
      intro b o hb
      have h1 : F' b = some o := pp.ff b o (e' b o hb)
      have hne : b ≠ D := fun z => by
        subst z
        obtain ⟨_, _, _, _, z1, _⟩ := S
        rw [e' b o hb] at z1; cases z1
      rw [eH, upd_ne hne]
      exact pp.fh b o h1
  · intro i v H2 H3 hi hp y
    match i, hp, hi with
    | 0, ⟨F', S, e', hDl⟩, _ =>
      obtain ⟨F2, x2, hx, pp, r⟩ := hy 0 H2 v H3 F' y e' S.inv.fh
      have hx : x2 = x := by simpa using hx.symm
      subst hx
      obtain ⟨B2, I2, hfr, back⟩ := S.go hDl
      have I2' := I2.pext pp
      refine ht B2 _ F2 H3 ρ1 v x2 I2' r _ fun σ3 I3 hag hln => ⟨?_, ?_⟩
      · have ew : wipe σ3 vs = wipe (wipe σ vs) vs := wipe_eq hln fun j hj => hag j fun z => hj (his j z)
        rw [ew]
        exact wipe_eq (wipe_length _ _) fun j hj => wipe_get _ _ _ hj
      · show if true = true then _ else _
        rw [if_pos rfl]
        refine he B2 σ3 F2 H3 _ I3 _ (fun r => r = Res.ok (yy, ρe)) (rs0 (fun z => nomatch z) fun n z => nomatch z) _ _ hbody fun y2 ρ5 u fp F4 H4 F5 H5 I4 e4 pp5 n5 r5 g5 => ?_
        cases g5
        obtain ⟨Sz, hz4⟩ := back _ _ _ _ _ (bk.inv I4)
        have e3 : wipe σ3 vs = wipe σ vs := by
          have ew : wipe σ3 vs = wipe (wipe σ vs) vs := wipe_eq hln fun j hj => hag j fun z => hj (his j z)
          rw [ew]
          exact wipe_eq (wipe_length _ _) fun j hj => wipe_get _ _ _ hj
        have S2 := Sz.wiped hv
        rw [e3] at S2
        have hsl := sizeLine_eq
        exact ⟨[], pp5.hh D _ hz4, by show 0 < sizeLine; omega, F4, H4, F5, H5, u, fp, S2, hz4, (e'.trans pp.ff).trans e4.1, pp5, n5, r5, rfl⟩
    | 1, _, hi => exact absurd hi (by simp)
  · intro H2 hp
    obtain ⟨F0, H0, F', H', v, fp, S, hd0, e', pp, n, r, rfl⟩ : ∃ F0 H0 F' H' v fp, SApart B Γ (wipe σ vs) F0 H0 ρe D ∧ H0 D = some (.lst []) ∧ Ex F1 F0 ∧ Pext F0 F' H0 H' ∧ New fp H0 F' H' ∧ m.rel F' H' fp v yy ∧ H2 = upd H' D (.lst [v]) := hp
    have S2 := S.unwiped hv
    obtain ⟨L2, r2, w2, hn2, hF2, hB2⟩ := S2
    have hFD : F' D = none := by
      cases e : F' D with
      | none => rfl
      | some u =>
        rcases pp.new D u e with z | z
        · rw [hF2] at z; cases z
        · rw [hd0] at z; cases z
    have hne : ∀ b, b ≠ D → (fun b => if b = D then none else H0 b : Hp) b = H0 b := fun b hb => if_neg hb
    have hDn : (fun b => if b = D then none else H0 b : Hp) D = none := if_pos rfl
    have w3 : Wd B F0 (fun b => if b = D then none else H0 b) L2 := ⟨w2.nd, fun k b hb => by
        obtain ⟨q1, o, q2⟩ := w2.fr k b hb
        exact ⟨q1, o, (hne b fun z => hn2 k (by rw [← z]; exact hb)).trans q2⟩, fun b u hu => (hne b (ne_of_none hu hF2)).trans (w2.fh b u hu), w2.bf, fun b u hu h1 h2 => (hne b (ne_of_none hu hB2)).trans (w2.keep b u hu h1 h2),
        fun b u hu => by
          obtain ⟨o, ho⟩ := w2.there b u hu
          exact ⟨o, (hne b (ne_of_none hu hB2)).trans ho⟩, w2.new, w2.own, w2.loc, w2.con⟩
    have r4 : SRel Γ B.τ σ F0 (fun b => if b = D then none else H0 b) L2 ρe := r2.ext (Ex.refl _) fun k b hb => hne b fun z => hn2 k (by rw [← z]; exact hb)
    have eFf : Ex F' (upd F' D (.lst [v])) := Ex.new hFD
    have fpD : ∀ b, b ∈ fp → b ≠ D := fun b hb z => by
      subst z
      rw [(n.at_ b hb).1] at hd0; cases hd0
    refine qq yy ρe (.ref D) fp F0 _ (upd F' D (.lst [v])) (upd H' D (.lst [v])) ⟨L2, r4, w3⟩ ⟨e1.1.trans e', fun z => nomatch z⟩ ⟨fun b o hb => ?_, pp.ff.trans eFf, ?_, fun b o hb => ?_⟩ ⟨n.nd, fun b hb => ?_⟩ ⟨D, v, rfl, upd_same, m.ext r eFf fun b hb => upd_ne (fpD b hb)⟩ g1
    · by_cases hbD : b = D
      · subst hbD
        have hb : (none : Option HO) = some o := hDn.symm.trans hb
        cases hb
      · rw [upd_ne hbD]
        exact pp.hh b o ((hne b hbD).symm.trans hb)
    · exact ex_upd pp.fh
    · by_cases hbD : b = D
      · subst hbD; exact .inr hDn
      · rw [upd_ne hbD] at hb
        rcases pp.new b o hb with z | z
        · exact .inl z
        · exact .inr ((hne b hbD).trans z)
    · obtain ⟨z1, z2, o, z3⟩ := n.at_ b hb
      have hbD := fpD b hb
      exact ⟨(hne b hbD).trans z1, by rw [upd_ne hbD]; exact z2, o, by rw [upd_ne hbD]; exact z3⟩
theorem st_for1 {s : Sl} (u : Up Γ j s (.m .lo m) Γ') {T0 : (R : Type) → (m.α → Env Γ → Res R) → Env Γ → Res R} {T : (R : Type) → (Env Γ2 → Res R) → (Rt.r.α → Rt.P → Res R) → (Env Γ2 → Res R) → (Env Γ2 → Res R) → Env Γ' → Res R} (h : EvN p E XC Γ te (mOne m) T0) (hb : StE E XC Rt Γ' ts Γ2 Γ2 T) :
    StE E XC Rt Γ (tFor (iList K te) (gName j) ts) Γ2 ΓL (fun R nx rt bk ct ρ => T0 R (fun x ρ => T R nx rt nx nx (u.set ρ x)) ρ) := fun B σ F H ρ I R G hG nx rt bk ct D g qn qr qb qc =>
  h B σ F H ρ I R G hG _ _ g fun x ρ1 v fp F0 H0 F1 H1 I0 e1 pp n r1 g1 => by
    obtain ⟨q, w, rfl, hq, hr⟩ := r1
    have I1 := I0.setM pp n u hr
    refine ⟨q, rfl, ⟨[w], SqL.of (pp.fh q _ hq)⟩, ?_⟩
    refine for_it (walk_list (K := K) (a := q) (xs := [w])) (fun i σ' H' => match i with
      | 0 => σ' = σ ∧ H' = H1
      | 1 => ∃ F' ρ', SInv B Γ2 σ' F' H' ρ' ∧ Ex F1 F' ∧ G (nx ρ')
      | _ => False) ⟨rfl, rfl⟩ ?_ ?_ ?_
    · intro i σ' H' hi hp
      match i, hp with
      | 0, ⟨_, e⟩ => rw [e]; exact SqL.of (pp.fh q _ hq)
      | 1, ⟨F', ρ', I', e', _⟩ => exact SqL.of (I'.fh q _ (e' q _ hq))
    · intro i v' σ' H' H2 hi hp y
      match i, hp, hi with
      | 0, ⟨e2, e3⟩, _ =>
        subst e2 e3
        obtain ⟨e4, e5⟩ := y
        have e5 : v' = w := by simpa using e5.symm
        subst e4 e5
        exact hb B _ F1 _ _ I1 R G hG nx rt nx nx _ g1 (fun ρ4 σ4 F4 H4 I4 e4 g4 => ⟨F4, ρ4, I4, e4, g4⟩) qr (fun ρ4 σ4 F4 H4 I4 e4 g4 => qn ρ4 σ4 F4 H4 I4 ((e1.1.trans pp.ff).trans e4) g4) (fun ρ4 σ4 F4 H4 I4 e4 g4 => ⟨F4, ρ4, I4, e4, g4⟩)
      | 1, _, hi => exact absurd hi (by simp)
    · intro σ' H' hp
      obtain ⟨F', ρ', I', e', g'⟩ : ∃ F' ρ', SInv B Γ2 σ' F' H' ρ' ∧ Ex F1 F' ∧ G (nx ρ') := hp
      exact qn ρ' σ' F' H' I' ((e1.1.trans pp.ff).trans e') g'
end
end Pu
set_option Elab.async false
set_option linter.all false
set_option maxRecDepth 100000
set_option maxHeartbeats 4000000
namespace Pu
open PySem PySem.Spec PyProof.Rows L2 Evl
theorem walk_end {l : PySem.W.OpenLaw} {n k : Nat} {q : Program} {loose : List Str} {XP : (Str → Option Value) → Heap → Prop} {YP : World → Heap → Prop} {d : DefRec} {CX : World → CXT} {x : Str}
    (hn : l.most = some n) (hn2 : n ≤ sizeLine) (hdf : d.params.defaults = []) (hr : Room k callerA)
    (F : ∀ (w : World) (mg : Str → Option Value) (fa : Addr) (h : Heap), YP w h → h.Ns mainGlobals mg → mg d.name = some (.ref fa) →
      ∃ (K : PySem.W.Frag) (fd : FuncData) (sp : Sp), K.In h ∧ (∀ (s : Shared) (u : Value), BindsTo s fd ⟨[u], []⟩ [(x, u)]) ∧
        (∀ (H : Hp) (a : Addr) (ns : List Int), ns.length ≤ n → Only H → SqL K H a (ns.map V.int) → sp [.ref a] H (fun v _ => v = .bl true) fun _ _ _ => False) ∧
        ∀ base : Heap, K.In base → base.Ns mainGlobals mg → FnOk l.prog w K mg base (CX w) k fa fd [x] sp)
    (hCX : ∀ (w : World) (H : Hp) (s : Shared) (e : Value) (s' : Shared), CX w [] H s (fun _ _ _ => False) e s' → False) :
    PySem.W.WalkO q loose XP YP l.row.toRowW d [] (fun f vs => PySem.call f vs) := by
  refine Att.attach_call hn hdf fun w s₀ s₁ mg mb fa o pm cd doc a vs ns G Y ho hd hcd hmg hobj hints hlen hg => ?_
  obtain ⟨K, fd, sp, KX, hb, hsp, hF⟩ := F w mg fa _ Y G.T.g hmg
  exact law_call KX G.T.g G.T.b G.T.builtins G.T.nolimit hg hobj hints (Nat.le_trans hlen hn2) hr hF hb (fun H hO hS => hsp H a ns hlen hO hS) fun H e s' => hCX w H s₁ e s'
theorem cx_end {P : Program} (w : World) (H : Hp) (s : Shared) (e : Value) (s' : Shared) (h : L2.CX P w [] H s (fun _ _ _ => False) e s') : False := by
  obtain ⟨a, B, H', cls, d, h1, h2, h3, h4, h5, h6, h7, h8⟩ := h
  exact h8
section
variable {P : Program} {w : World} {K : PySem.W.Frag} {mg : Str → Option Value} {base : Heap} {x qual : Str} {params : Arguments} {body : List Stmt} {scope : Scope} {f : Addr} {N ps : List Str} {k : Nat}
theorem okF2 {sp : Sp} {fd : FuncData} (F : FunD K x qual params body scope [] [] f fd) (S : FnScope N ps scope) (len : ∀ vs H Q E, sp vs H Q E → vs.length = ps.length)
    (hbody : ∀ (cdv : Value) (A : Around) (outer : List PySem.Env) (s : Shared) (H : Hp) (E : XK), Room k (A.deeper (envOfC qual scope s.heap.objs.size f cdv)) →
      ∃ t, PSs (cxOf (L2.CX P w) P w K mg base N qual scope f cdv A outer s H E) body t ∧ ∀ (vs : List V) (Q : VK), sp vs H Q E → t { nx := fun _ H' => Q .non H', rt := Q } (L2.start N vs) H) : FnOk P w K mg base (L2.CX P w) (k + 1) f fd ps sp := by
  refine F.ok S len fun cdv A outer s H vs Q E hr h => ?_
  obtain ⟨t, h1, h2⟩ := hbody cdv A outer s H E hr
  exact ⟨t, h1, h2 vs Q h⟩
end
theorem law_sp {XC : Str → Value} {K : PySem.W.Frag} {f : List Int → Res Bool} {H : Hp} {a : Addr} {ns : List Int} (hl : ns.length ≤ 63) (hS : SqL K H a (ns.map V.int)) (hf : f ns = .ok true) : spD XC [dScr K] dBl (fun x => f x.1) [.ref a] H (fun v _ => v = .bl true) fun _ _ _ => False := by
  have hsl := sizeLine_eq
  refine ⟨H, (ns, ()), Ex.refl H, ⟨.ref a, [], rfl, ⟨a, rfl, hS, by show ns.length ≤ sizeLine; omega⟩, rfl⟩, ?_, fun z hz u F' H' _ r => ?_, fun n hn => ?_⟩
  · show f ns ≠ .bad
    rw [hf]; exact fun z => nomatch z
  · have hz : f ns = .ok z := hz
    rw [hf] at hz
    cases hz
    exact r
  · have hn : f ns = .exc n := hn
    rw [hf] at hn; cases hn
end Pu
namespace Pu
open PySem L2 Evl
theorem StE.as {E : XK} {XC : Str → Value} {Rt : Ret} {Γ Γ' ΓL : List Sl} {ts : TS} {T T' : (R : Type) → (Env Γ' → Res R) → (Rt.r.α → Rt.P → Res R) → (Env ΓL → Res R) → (Env ΓL → Res R) → Env Γ → Res R} (h : StE E XC Rt Γ ts Γ' ΓL T) (e : T = T') : StE E XC Rt Γ ts Γ' ΓL T' := e ▸ h
theorem PV.tun {c : DCod} {F : Hp} : ∀ {vs : List V} {xs : List (List c.α)}, PV (dTuN c) F vs xs → PV (dTup c) F vs xs
  | _, _, .nil => .nil
  | _, _, .cons r t => .cons (sb_tun F _ _ r) (PV.tun t)
theorem sb_lstTun {c : DCod} : Sb (dLst (dTuN c)) (dLst (dTup c)) (fun x => x) := fun F v x h => by
  obtain ⟨a, vs, h1, h2, h3, h4⟩ := h
  exact ⟨a, vs, h1, h2, PV.tun h3, h4⟩
def forBody : List Stmt → Nat → List Stmt
  | [], _ => []
  | .For (body := b) .. :: _, 0 => b
  | _ :: r, 0 => []
  | _ :: r, n + 1 => forBody r n
end Pu
set_option Elab.async false
set_option linter.all false
set_option maxRecDepth 100000
set_option maxHeartbeats 4000000
namespace Pu
open PySem PySem.Spec PyProof.Rows L2 Evl
/-! ### tuples that are made and hold no fields; d.get(k) -/
def tTupF (t : TA) : TE := fun σ H Q => t σ H fun xs H1 => xs.length ≤ sizeLine ∧ ∀ p ob, ob.dict = none → ob.cls = .type "tuple" → H1 p = none → Q (.ref p) (upd H1 p (.frz ob (.tup xs)))
section
variable {X : Cx} {K : PySem.W.Frag} {es : List Expr} {t : TA} {pos apos cpos : Pos} {o e : Expr} {td ty : TE}
theorem pe_tupF {x1} (h : PA X es t) : PE X (.Tuple es x1 pos) (tTupF t) :=
  ⟨fun pins s σ H Q I hq => wpAny_Tuple_spliced (thn (h.run pos pins s σ H _ I hq) fun us s1 ⟨xs, H1, I1, r, z, q⟩ => by
    refine ⟨by rw [← r.length]; exact z, ?_⟩
    have I2 : Inv X pins σ (upd H1 s1.heap.objs.size (.frz { cls := .type "tuple", data := .seq us.toArray } (.tup xs))) { s1 with heap := s1.heap.push { cls := .type "tuple", data := .seq us.toArray } } :=
      I1.laid (t' := s1.toks) (fun b u e => Heap.get?_push_of_some _ e) (Nat.le_refl _) ⟨Heap.get?_push_size _ rfl, z, us, r, IsTup.new _ _⟩
    exact ⟨.ref s1.heap.objs.size, _, I2, rfl, q _ { cls := .type "tuple", data := .seq us.toArray } rfl rfl (I1.hok.fresh (Nat.le_refl _))⟩)⟩
theorem pe_dg1 (hu : X.A.units + 1 < cLine) (ho : PE X o td) (he : PE X e ty) (m : M1 X o "get" apos e cpos := by exact ⟨rfl, rfl, rfl, rfl⟩) : PE X (.Call (.Attribute o "get" apos) [e] [] cpos) (tDGet1 td ty) := pe_dget1 hu ho he m
end
section
variable {p : Bool} {E : XK} {XC : Str → Value} {Rt : Ret} {K : PySem.W.Frag} {Γ Γ' Γ0 Γ1 Γ2 ΓL Γf : List Sl} {te ta tb tc : TE} {tA : TA} {a b c d : DCod}
theorem ev_tupN (n : Nat) (hn : n ≤ 1000) {T : (R : Type) → (DEnv (List.replicate n c) → Env Γ → Res R) → Env Γ → Res R} (h : EvA p E XC Γ tA (List.replicate n c) T) : EvE p E XC Γ (tTupF tA) (dTuN c) (fun R k ρ => T R (fun x ρ => k (lstOf n x) ρ) ρ) := fun B σ F H ρ I R G hG k Q g qq =>
  h B σ F H ρ I R G hG _ _ g fun x ρ' vs F' H' I' e r g' => by
    have hl2 := r.len
    rw [List.length_replicate] at hl2
    have hsz := sizeLine_eq
    exact ⟨by omega, fun l ob h1 h2 hl => qq _ ρ' (.ref l) _ _ (I'.pext (Pext.one I'.fh hl)) (e.pext (Pext.one I'.fh hl)) ⟨l, vs, ob, rfl, upd_same, h1, h2, (lstOf_rel n x vs r).ext (Ex.new (none_of I'.fh hl)), by rw [lstOf_len]; omega⟩ g'⟩
theorem ev_dget1 {Ta : (R : Type) → (List (Int × Int) → Env Γ → Res R) → Env Γ → Res R} {Tb : (R : Type) → (Int → Env Γ → Res R) → Env Γ → Res R} (ha : EvE p E XC Γ ta (dDict dInt) Ta) (hb : EvE p E XC Γ tb dInt Tb) :
    EvE p E XC Γ (tDGet1 ta tb) (dOpt dInt) (fun R k ρ => Ta R (fun x ρ => Tb R (fun y ρ => k (dget x y) ρ) ρ) ρ) := fun B σ F H ρ I R G hG k Q g q =>
  ha B σ F H ρ I R G hG _ _ g fun x ρ1 v F1 H1 I1 e1 r1 g1 => by
    obtain ⟨l, ks, rfl, hl, hk⟩ := id r1
    refine ⟨l, rfl, .inl ⟨ks, .inl (I1.fh l _ hl)⟩, hb B σ F1 H1 ρ1 I1 R G hG _ _ g1 fun y ρ2 w F2 H2 I2 e2 r2 g2 => ?_⟩
    obtain ⟨l', ks', e', hl', hk'⟩ := (dDict dInt).ext r1 e2.1
    cases e'
    obtain ⟨h1, h2⟩ := KVR.get (i := y) hk'
    rw [show w = V.int y from r2]
    refine ⟨_, DGet.k (k := .inl y) (I2.fh l _ hl'), ?_⟩
    cases hz : dget x y with
    | none =>
      rw [h2 hz]
      exact q none ρ2 .non F2 H2 I2 (e1.trans e2) rfl (by rw [hz] at g2; exact g2)
    | some z =>
      obtain ⟨u, hu, ru⟩ := h1 z hz
      rw [hu]
      have ru : u = V.int z := ru
      subst ru
      exact q (some z) ρ2 _ F2 H2 I2 (e1.trans e2) ⟨rfl, fun h => nomatch h⟩ (by rw [hz] at g2; exact g2)
end
end Pu
set_option Elab.async false
set_option linter.all false
set_option maxRecDepth 100000
set_option maxHeartbeats 4000000
namespace Pu
open PySem PySem.Spec PyProof.Rows L2 Evl
section
variable {p : Bool} {E : XK} {XC : Str → Value} {Rt : Ret} {K : PySem.W.Frag} {Γ Γ' Γ0 Γ1 Γ2 ΓL Γf : List Sl} {te ta tb tc : TE} {tA : TA} {a b c d : DCod} {m m2 m3 : Cod} {i j l : Nat}
theorem st_asgNDN {s1 s2 s3 : Sl} (u : Up Γ i s1 (.m .lo m) Γ1) (u2 : Up Γ1 j s2 (.da b) Γ2) (u3 : Up Γ2 l s3 (.m .lo m3) Γ') {Ta : (R : Type) → (m.α → Env Γ → Res R) → Env Γ → Res R} {Tb : (R : Type) → (b.α → Env Γ → Res R) → Env Γ → Res R} {Tc : (R : Type) → (m3.α → Env Γ → Res R) → Env Γ → Res R}
    (ha : EvN p E XC Γ ta m Ta) (hb : EvE true E XC Γ tb b Tb) (hc : EvN true E XC Γ tc m3 Tc) :
    StE E XC Rt Γ (tAsg (tTup (tCons ta (tCons tb (tCons tc tNil)))) (gTup K 3 (gCons (gName i) (gCons (gName j) (gCons (gName l) gNil))))) Γ' ΓL (fun R nx rt bk ct ρ => Ta R (fun x ρ => Tb R (fun y ρ => Tc R (fun z ρ => nx (u3.set (u2.set (u.set ρ x) y) z)) ρ) ρ) ρ) := fun B σ F H ρ I R G hG nx rt bk ct D g qn qr qb qc =>
  ha B σ F H ρ I R G hG _ _ g fun x ρ1 v fp F0 H0 F1 H1 I0 e1 pp n r1 g1 => hb B σ F1 H1 ρ1 (I0.pext pp) R G hG _ _ g1 fun y ρ2 w F2 H2 I2 e2 r2 g2 => by
    obtain ⟨er, pe⟩ := e2.2 rfl
    subst er
    refine hc B σ F2 H2 ρ2 I2 R G hG _ _ g2 fun z ρ3 w3 fp3 F3 H3 F4 H4 I3 e3 pp3 n3 r3 g3 => ?_
    obtain ⟨er3, pe3⟩ := e3.2 rfl
    subst er3
    have p0 : Pext F0 F3 H0 H3 := (pp.trans pe).trans pe3
    have J1 := I0.setM p0 (n.ext (pe.trans pe3)) u (m.ext r1 (pe.trans pe3).ff fun a ha => by
      obtain ⟨_, _, o, h⟩ := n.at_ a ha
      rw [h, (pe.trans pe3).hh a o h])
    have J2 := (J1.setD u2 (b.ext r2 pe3.ff)).setM pp3 n3 u3 r3
    refine ⟨by show 3 ≤ sizeLine; decide, fun q hq => ?_⟩
    have J3 := J2.pext (Pext.one (o := .tup [v, w, w3]) J2.fh hq)
    exact ⟨q, [v, w, w3], rfl, .inl (.inl upd_same), rfl, v, [w, w3], rfl, w, [w3], rfl, w3, [], rfl, rfl, qn _ _ _ _ J3 ((e1.1.trans p0.ff).trans (pp3.ff.trans (Pext.one (o := .tup [v, w, w3]) J2.fh hq).ff)) g3⟩
end
end Pu
set_option Elab.async false
set_option linter.all false
set_option maxRecDepth 100000
set_option maxHeartbeats 4000000
namespace Pu
open PySem PySem.Spec PyProof.Rows L2 Evl SrtO Srt
/-! ### sorted of a tuple -/
section
variable {prog : Program} {w : World} {A : Around} {E : Value → Shared → Prop} {s : Shared}
end
end Pu
set_option Elab.async false
set_option linter.all false
set_option maxRecDepth 100000
set_option maxHeartbeats 4000000
namespace Pu
open PySem PySem.Spec PyProof.Rows L2 Evl
section
variable {X : Cx} {K : PySem.W.Frag}
end
/-! ### their mirrors -/
section
variable {K : PySem.W.Frag}
end
end Pu
set_option Elab.async false
set_option linter.all false
set_option maxRecDepth 100000
set_option maxHeartbeats 4000000
namespace Pu
open PySem L2 Evl
/-! ### comprehensions of two clauses -/
theorem go_it {J : It} {n : Nat} {Gh : Hp → Prop} {Y : Nat → Hp → V → Hp → Prop} (w : Walk J n Gh Y) {g : TG} {σw : St} {body : St → Hp → (Hp → Prop) → Prop} {H0 : Hp} {Qd : Hp → Prop} (Pv : Nat → Hp → Prop) (h0 : Pv 0 H0) (hG : ∀ i H, i ≤ n → Pv i H → Gh H)
    (hs : ∀ i x H H', i < n → Pv i H → Y i H x H' → g x σw H' fun σ2 H2 => body σ2 H2 (Pv (i + 1))) (hd : ∀ H, Pv n H → Qd H) :
    ∃ W : Nat → Nat → Hp → Prop, (∃ m, W 0 m H0) ∧ ∀ i m H, W i m H → (J.stop i H ∧ Qd H) ∨ (J.go i H ∧ ∃ Nx : Hp → Prop, (∀ H', Nx H' → ∃ m', m' < m ∧ W (i + 1) m' H') ∧ ∀ x H', J.yld i H x H' → g x σw H' fun σ2 H2 => body σ2 H2 Nx) := by
  refine ⟨fun i m H => (i ≤ n ∧ Pv i H) ∧ m = n - i, ⟨n, ⟨Nat.zero_le _, h0⟩, by simp⟩, fun i m H ⟨⟨hi, p⟩, e⟩ => ?_⟩
  subst e
  have q := hG i H hi p
  rcases Nat.lt_or_ge i n with hlt | hge
  · exact .inr ⟨w.goes i H hlt q, Pv (i + 1), fun H' p' => ⟨n - (i + 1), by omega, ⟨hlt, p'⟩, rfl⟩, fun x H' y => hs i x H H' hlt p (w.yields i H x H' hlt q y)⟩
  · have e : i = n := by omega
    subst e
    exact .inl ⟨w.stops H q, hd H p⟩
def compM {α β S : Type} (body : α → S → Res (List β × S)) : List α → S → Option (List β × S)
  | [], s => some ([], s)
  | x :: xs, s => match body x s with
    | .ok (o, s1) => (match compM body xs s1 with
      | some (ys, s2) => some (o ++ ys, s2)
      | none => none)
    | _ => none
theorem compM_cons {α β S : Type} {body : α → S → Res (List β × S)} {x : α} {xs : List α} {s s2 : S} {ys : List β} (h : compM body (x :: xs) s = some (ys, s2)) : ∃ o s1 ys', body x s = .ok (o, s1) ∧ compM body xs s1 = some (ys', s2) ∧ ys = o ++ ys' := by
  unfold compM at h
  split at h
  · rename_i o s1 e
    split at h
    · rename_i ys' s2' e2
      cases h
      exact ⟨o, s1, ys', e, e2, rfl⟩
    · cases h
  · cases h
section
variable {p : Bool} {E : XK} {XC : Str → Value} {Rt : Ret} {Γ Γ' Γ0 Γ1 Γ2 ΓL : List Sl} {te ta tb tc : TE} {tt tu : TT} {tA : TA} {ti ti1 : TI} {tg tg1 : TG} {a b c d a1 : DCod} {m : Cod} {cs : List DCod} {ts us : TS}
theorem wiped_on {B B2 : Base} {Γ Γx : List Sl} {σ σ3 : St} {D : Addr} {vs is : List Nat} {o : HO} (his : ∀ i, i ∈ is → i ∈ vs) (hag : ∀ i, i ∉ is → σ3[i]? = (wipe σ vs)[i]?) (hln : σ3.length = (wipe σ vs).length) : wipe σ3 vs = wipe σ vs := by
  rw [wipe_eq hln fun j hj => hag j fun z => hj (his j z)]
  exact wipe_eq (wipe_length _ _) fun j hj => wipe_get _ _ _ hj
end
end Pu
set_option Elab.async false
set_option linter.all false
set_option maxRecDepth 100000
set_option maxHeartbeats 4000000
namespace Pu
open PySem L2 Evl
section
variable {p : Bool} {E : XK} {XC : Str → Value} {Rt : Ret} {K : PySem.W.Frag} {Γ Γ' Γ0 Γ1 Γ2 ΓL Γf : List Sl} {te ta tb tc : TE} {tA : TA} {a b c d : DCod}
end
end Pu
set_option Elab.async false
set_option linter.all false
set_option maxRecDepth 100000
set_option maxHeartbeats 4000000
namespace PuMin
open PySem PySem.SeqAt
open PySem.AutoSeq1 (wpAny_loadPart')
open PySem.MeetsSeq PySem.MeetsSeq2 PySem.MeetsSeq3
section
variable {prog : Program} {w : World} {A : Around} {E : Value → Shared → Prop} {s : Shared}
end
end PuMin
namespace Pu
open PySem L2 Evl PySem.W
/-! ### str(x) of an int or nothing; min of (int, text, int or nothing) -/
section
variable {X : Cx} {K : PySem.W.Frag}
end
end Pu
set_option Elab.async false
set_option linter.all false
set_option maxRecDepth 100000
set_option maxHeartbeats 4000000
namespace Pu
open PySem L2 Evl
section
variable {K : PySem.W.Frag}
end
end Pu
set_option Elab.async false
set_option linter.all false
set_option maxRecDepth 100000
set_option maxHeartbeats 4000000
namespace PuMin
open PySem PySem.SeqAt
open PySem.AutoSeq1 (wpAny_loadPart')
open PySem.MeetsSeq PySem.MeetsSeq2 PySem.MeetsSeq3
end PuMin
namespace Pu
open PySem L2 Evl PySem.W
section
variable {X : Cx} {K : PySem.W.Frag}
end
end Pu
set_option Elab.async false
set_option linter.all false
set_option maxRecDepth 100000
set_option maxHeartbeats 4000000
namespace Pu
open PySem L2 Evl
/-! ### x in l, items of any depth -/
section
variable {K : PySem.W.Frag} {c : DCod} {n : Nat}
end
section
variable {X : Cx} {K : PySem.W.Frag}
end
end Pu
set_option Elab.async false
set_option linter.all false
set_option maxRecDepth 100000
set_option maxHeartbeats 4000000
namespace Pu
open PySem L2 Evl
/-! ### two things that change at once -/
theorem Wd.perm {B : Base} {F H : Hp} {L L' : Fps} (w : Wd B F H L) (h : L.Perm L') : Wd B F H L' :=
  ⟨(h.map _).nodup_iff.mp w.nd, fun k a ha => w.fr k a (h.mem_iff.mpr ha), w.fh, w.bf, w.keep, w.there, w.new, fun a ha => w.own a (h.mem_iff.mpr ha), fun a ha => w.loc a (h.mem_iff.mpr ha), fun a ha => w.con a (h.mem_iff.mpr ha)⟩
theorem Wd.change {B : Base} {F H F' H' : Hp} {k : Kd} {fp fp' : List Addr} {Lr : Fps} (hk : k ≠ .co) (w : Wd B F H (tag k fp ++ Lr)) (st : Step F H fp F' H' fp') : Wd B F' H' (tag k fp' ++ Lr) ∧ ∀ q a, (q, a) ∈ Lr → H' a = H a := by
  have hin : ∀ a, a ∈ fp → (k, a) ∈ tag k fp ++ Lr := fun a ha => List.mem_append_left _ (mem_tag.mpr ⟨rfl, ha⟩)
  have old : ∀ k' a, (k', a) ∈ Lr → (k', a) ∈ tag k fp ++ Lr := fun k' a ha => List.mem_append_right _ ha
  have nd := w.nd
  rw [List.map_append, tag_map] at nd
  have nd1 := List.nodup_append.mp nd
  have hrest : ∀ k' a, (k', a) ∈ Lr → ∃ o, H a = some o ∧ H' a = some o ∧ a ∉ fp := fun k' a ha => by
    obtain ⟨_, o, ho⟩ := w.fr k' a (old k' a ha)
    have hnot : a ∉ fp := fun hf => nd1.2.2 a hf a (List.mem_map.mpr ⟨_, ha, rfl⟩) rfl
    exact ⟨o, ho, st.keep a o ho hnot, hnot⟩
  have cases_ : ∀ k' a, (k', a) ∈ tag k fp' ++ Lr → (k', a) ∈ Lr ∨ (k' = k ∧ a ∈ fp') := fun k' a ha => by
    rcases List.mem_append.mp ha with ha | ha
    · exact .inr (mem_tag.mp ha)
    · exact .inl ha
  refine ⟨⟨?_, fun k' a ha => ?_, st.fh, w.bf.trans st.ff, fun a o h hm hn => ?_, fun a o h => ?_, fun a o e => ?_, fun a ha => ?_, fun a ha => ?_, fun a ha => ?_⟩, fun q a ha => ?_⟩
  · rw [List.map_append, tag_map]
    refine List.nodup_append.mpr ⟨st.nd, nd1.2.1, fun a ha b hb e => ?_⟩
    subst e
    obtain ⟨q, hq, e⟩ := List.mem_map.mp hb
    obtain ⟨k', a'⟩ := q
    have e : a' = a := e
    subst e
    obtain ⟨o, g1, g2, g3⟩ := hrest k' a' hq
    rcases (st.own a' ha).1 with q | q
    · exact g3 q
    · rw [g1] at q; cases q
  · rcases cases_ k' a ha with q | ⟨_, q⟩
    · obtain ⟨o, g1, g2, _⟩ := hrest k' a q
      refine ⟨?_, o, g2⟩
      have g0 := (w.fr k' a (old k' a q)).1
      cases e : F' a with
      | none => rfl
      | some u =>
        rcases st.new a u e with z | z
        · rw [g0] at z; cases z
        · rw [g1] at z; cases z
    · exact (st.own a q).2
  · by_cases hf : a ∈ fp
    · exfalso
      cases k with
      | pa =>
        rcases w.own a (hin a hf) with z | z
        · exact hm z
        · rw [h] at z; cases z
      | lo =>
        rcases w.loc a (hin a hf) with z | z
        · exact hn z
        · rw [h] at z; cases z
      | co => exact hk rfl
    · exact st.keep a o (w.keep a o h hm hn) hf
  · obtain ⟨o', h'⟩ := w.there a o h
    exact st.there a o' h'
  · rcases st.new a o e with q | q
    · exact w.new a o q
    · right
      cases e2 : B.H a with
      | none => rfl
      | some u =>
        obtain ⟨o', h'⟩ := w.there a u e2
        rw [q] at h'; cases h'
  · rcases cases_ _ a ha with q | ⟨e, q⟩
    · exact w.own a (old _ a q)
    · subst e
      rcases (st.own a q).1 with z | z
      · exact w.own a (hin a z)
      · right
        cases e2 : B.H a with
        | none => rfl
        | some u =>
          obtain ⟨o', h'⟩ := w.there a u e2
          rw [z] at h'; cases h'
  · rcases cases_ _ a ha with q | ⟨e, q⟩
    · exact w.loc a (old _ a q)
    · subst e
      rcases (st.own a q).1 with z | z
      · exact w.loc a (hin a z)
      · right
        cases e2 : B.H a with
        | none => rfl
        | some u =>
          obtain ⟨o', h'⟩ := w.there a u e2
          rw [z] at h'; cases h'
  · rcases cases_ _ a ha with q | ⟨e, q⟩
    · exact w.con a (old _ a q)
    · exact absurd e.symm hk
  · obtain ⟨o, g1, g2, _⟩ := hrest q a ha
    rw [g1, g2]
/-! ### a def with two arguments, side by side, that it may change -/
section
variable {p : Bool} {E : XK} {XC : Str → Value} {Γ : List Sl} {c : DCod} {m1 m2 : Cod} {cs0 cs : List DCod} {ts : TS}
end
end Pu
set_option Elab.async false
set_option linter.all false
set_option maxRecDepth 100000
set_option maxHeartbeats 4000000
namespace Pu
open PySem L2 Evl
/-! ### dicts by pairs of whole numbers, that may change -/
abbrev PK := Int × Int
def pkey (k : PK) : List Key := [.inl k.1, .inl k.2]
theorem pkey_inj {k k' : PK} (h : pkey k = pkey k') : k = k' := by
  unfold pkey at h
  obtain ⟨a, b⟩ := k
  obtain ⟨a', b'⟩ := k'
  simp at h
  rw [h.1, h.2]
def KTR (c : DCod) (F : Hp) (ks : List (List Key × V)) (kvs : List (PK × c.α)) : Prop := Paired (fun (p : List Key × V) (q : PK × c.α) => p.1 = pkey q.1 ∧ c.rel F p.2 q.2) ks kvs
def pget {α : Type} : List (PK × α) → PK → Option α
  | [], _ => none
  | p :: r, k => if p.1 = k then some p.2 else pget r k
def pput {α : Type} (kvs : List (PK × α)) (k : PK) (v : α) : List (PK × α) :=
  if (kvs.any fun q => decide (q.1 = k)) = true then kvs.map (fun q => if q.1 = k then (q.1, v) else q) else kvs ++ [(k, v)]
section
variable {c : DCod}
theorem KTR.ext {F F' : Hp} (e : Ex F F') {ks : List (List Key × V)} {kvs : List (PK × c.α)} (h : KTR c F ks kvs) : KTR c F' ks kvs := Paired.mapP h fun _ _ q => ⟨q.1, c.ext q.2 e⟩
theorem KTR.get {F : Hp} {i : PK} : ∀ {ks : List (List Key × V)} {kvs : List (PK × c.α)}, KTR c F ks kvs → (∀ z, pget kvs i = some z → ∃ v, valV ks (pkey i) = some v ∧ c.rel F v z) ∧ (pget kvs i = none → valV ks (pkey i) = none)
  | _, _, .nil => ⟨fun z h => (nomatch h), fun _ => rfl⟩
  | _, _, .cons (a := p) (b := q) r t => by
    obtain ⟨h1, h2⟩ := KTR.get (i := i) t
    unfold pget
    by_cases e : q.1 = i
    · rw [if_pos e]
      have e2 : p.1 = pkey i := by rw [r.1, e]
      exact ⟨fun z hz => by cases hz; exact ⟨p.2, valV_pos e2, r.2⟩, fun z => (nomatch z)⟩
    · rw [if_neg e]
      have e2 : ¬ p.1 = pkey i := fun z => by
        rw [r.1] at z
        exact e (pkey_inj z)
      rw [valV_neg e2]
      exact ⟨h1, h2⟩
theorem KTR.any {F : Hp} {i : PK} : ∀ {ks : List (List Key × V)} {kvs : List (PK × c.α)}, KTR c F ks kvs → (ks.any fun p => decide (p.1 = pkey i)) = kvs.any fun q => decide (q.1 = i)
  | _, _, .nil => rfl
  | _, _, .cons (a := p) (b := q) r t => by
    rw [List.any_cons, List.any_cons, KTR.any t, r.1]
    congr 1
    by_cases e : q.1 = i
    · simp [e]
    · have : ¬ pkey q.1 = pkey i := fun z => e (pkey_inj z)
      rw [decide_eq_false this, decide_eq_false e]
theorem KTR.map {F : Hp} {i : PK} {v : V} {x : c.α} (hx : c.rel F v x) : ∀ {ks : List (List Key × V)} {kvs : List (PK × c.α)}, KTR c F ks kvs → KTR c F (ks.map fun p => if p.1 = pkey i then (p.1, v) else p) (kvs.map fun q => if q.1 = i then (q.1, x) else q)
  | _, _, .nil => .nil
  | _, _, .cons (a := p) (b := q) r t => by
    refine .cons ?_ (KTR.map hx t)
    by_cases e : q.1 = i
    · have e2 : p.1 = pkey i := by rw [r.1, e]
      dsimp only
      rw [if_pos e, if_pos e2]
      exact ⟨r.1, hx⟩
    · have e2 : ¬ p.1 = pkey i := fun z => by
        rw [r.1] at z
        exact e (pkey_inj z)
      dsimp only
      rw [if_neg e, if_neg e2]
      exact r
theorem KTR.app {F : Hp} : ∀ {ks ls : List (List Key × V)} {kvs lvs : List (PK × c.α)}, KTR c F ks kvs → KTR c F ls lvs → KTR c F (ks ++ ls) (kvs ++ lvs)
  | _, _, _, _, .nil, s => s
  | _, _, _, _, .cons r t, s => .cons r (KTR.app t s)
theorem KTR.put {F : Hp} {i : PK} {v : V} {x : c.α} (hx : c.rel F v x) {ks : List (List Key × V)} {kvs : List (PK × c.α)} (h : KTR c F ks kvs) : KTR c F (putK ks (pkey i) v) (pput kvs i x) := by
  unfold putK pput
  rw [h.any (i := i)]
  by_cases e : (kvs.any fun q => decide (q.1 = i)) = true
  · rw [if_pos e, if_pos e]; exact h.map hx
  · rw [if_neg e, if_neg e]; exact h.app (.cons ⟨rfl, hx⟩ .nil)
end
section
variable {p : Bool} {E : XK} {XC : Str → Value} {Rt : Ret} {K : PySem.W.Frag} {Γ ΓL : List Sl} {te tb ta : TE} {c : DCod}
end
end Pu
set_option Elab.async false
set_option linter.all false
set_option maxRecDepth 100000
set_option maxHeartbeats 4000000
namespace Pu
open PySem L2 Evl
theorem pv_und {c : DCod} (u : Und c) {F : Hp} {fp : List Addr} (k : ∀ a, a ∈ fp → ∀ o, F a = some o → Mu o) : ∀ {vs : List V} {xs : List c.α}, PV c F vs xs → PV c (thaw F fp) vs xs
  | _, _, .nil => .nil
  | _, _, .cons r t => .cons (u F fp _ _ k r) (pv_und u k t)
theorem thaw_no {F : Hp} {fp : List Addr} {a : Addr} (h : F a = none) : thaw F fp a = none := by unfold thaw; rw [h, ite_self]
section
variable {p : Bool} {E : XK} {XC : Str → Value} {Γ Γ' : List Sl} {te : TE} {c : DCod}
end
end Pu
set_option Elab.async false
set_option linter.all false
set_option maxRecDepth 100000
set_option maxHeartbeats 4000000
namespace Pu
open PySem PySem.Spec PyProof.Rows L2 Evl
/-! ### lambdas handed to a def that tells what they give -/
section
variable {X : Cx} {pins : List (Addr × Obj)} {σ : L2.St} {H : Hp} {s : Shared}
end
structure Teller (X : Cx) (x : Str) (g : Addr) (pg : Arguments) (bg : List Stmt) (sg : Scope) (Ng : List Str) (a : Str) (TT : (XK → Hp → VK → Prop) → Hp → VK → Prop) : Prop where
  fn : ∃ fd, FunD X.K x x pg bg sg [] [] g fd
  bnd : ∀ (kV doc pm : Value) (an : Option Addr) (cdv ct : Value) (us : List Value), us.length = ([a] : List Str).length → bindArgs (PySem.W.fnOf x x pg bg sg .none kV doc pm an cdv ct) ⟨us, []⟩ = pure (([a] : List Str).zip us)
  sc : FnScope Ng [a] sg
  at0 : Ng[0]? = some a
  vis : Vis sg a
  gives : ∀ (q : Str) (cdg : Value), LamX.GivesTo X Ng x sg g cdg bg a q TT
section
variable {X : Cx}
end
end Pu
set_option Elab.async false
set_option linter.all false
set_option maxRecDepth 100000
set_option maxHeartbeats 4000000
namespace Pu
open PySem PySem.Spec PyProof.Rows L2 Evl
inductive HdTold (sg : Scope) (mg : Str → Option Value) : List ExceptHandler → List (Addr × Str) → Prop
  | nil : HdTold sg mg [] []
  | cons {e w : Str} {C : Addr} {j : Nat} {p4 p5 p6 p7 : Pos} {hds : List ExceptHandler} {cs : List (Addr × Str)} (hge : sg.names.lookup e = some .globalImplicit) (hme : mg e = some (.ref C)) (hde : (e == ("__debug__" : Str)) = false) (r : HdTold sg mg hds cs) :
      HdTold sg mg (.ExceptHandler (some (.Name e p4)) none [.Return (some (.Constant (.str w) j p5)) p6] p7 :: hds) ((C, w) :: cs)
section
variable {X : Cx}
end
/-! ### a value or a word -/
abbrev Wrd := {x : Str // PyData.strOk x = true}
def told {α : Type} (tab : List (Str × Wrd)) (r : Res α) : Res (α ⊕ Wrd) := match r with
  | .ok a => .ok (.inl a)
  | .exc n => (match tab.lookup n with
    | some w => .ok (.inr w)
    | none => .bad)
  | .bad => .bad
section
variable {E : XK} {XC : Str → Value} {K : PySem.W.Frag} {Γ Γ' : List Sl} {c : DCod} {P : Addr} {q : Str} {i : Nat} {cs : List (Addr × Str)} {tab : List (Str × Wrd)}
end
end Pu
set_option Elab.async false
set_option linter.all false
set_option maxRecDepth 100000
set_option maxHeartbeats 4000000
namespace Pu
open PySem PySem.Spec PyProof.Rows L2 Evl
/-! ### == and is of a value or a word -/
section
variable {K : PySem.W.Frag}
end
def rIsT : R2 := fun x y H Q => ∃ b : Bool, y = .bl b ∧ ((∃ a : Bool, x = .bl a ∧ Q (.bl (decide (a = b))) H) ∨ ∃ w : Str, x = .str w ∧ Q (.bl false) H)
section
variable {X : Cx}
theorem op_isT : OpR X (compareOp .Is) rIsT := fun pins s σ H x y v u Q I rx ry h => by
  obtain ⟨b, hy, ⟨a, hx, q⟩ | ⟨w, hx, q⟩⟩ := h
  · exact op_isBl pins s σ H x y v u Q I rx ry ⟨a, b, hx, hy, q⟩
  · subst hx hy
    obtain ⟨t, rfl⟩ : ∃ t, v = Value.str w t := rx
    cases (show u = Value.bool b from ry)
    exact wpAny_is_other rfl (fun z => nomatch z) ⟨.bl false, H, I, rfl, q⟩
end
theorem o_isB : Op2 rIsT dBl dBl dBl (fun x y => decide ((x : Bool) = y)) := fun F H v w x y Q e h1 h2 k => ⟨y, h2, .inl ⟨x, h1, k _ F H (Pext.refl e) rfl⟩⟩
/-! ### defaults -/
def DEnv.snoc {d : DCod} : (cs : List DCod) → DEnv cs → d.α → DEnv (cs ++ [d])
  | [], _, y => (y, ())
  | _ :: cs, x, y => (x.1, DEnv.snoc cs x.2 y)
theorem DRel.snoc {d : DCod} {F : Hp} {w : V} {y : d.α} (r : d.rel F w y) : ∀ {cs : List DCod} {vs : List V} {x : DEnv cs}, DRel cs F vs x → DRel (cs ++ [d]) F (vs ++ [w]) (DEnv.snoc cs x y)
  | [], vs, x, h => by rw [show vs = [] from h]; exact ⟨w, [], rfl, r, rfl⟩
  | c :: cs, vs, x, ⟨v, vs', e, h1, h2⟩ => by rw [e]; exact ⟨v, vs' ++ [w], rfl, h1, DRel.snoc r h2⟩
section
variable {P : Program} {w : World} {K : PySem.W.Frag} {mg : Str → Option Value} {base : Heap} {x qual : Str} {params : Arguments} {body : List Stmt} {scope : Scope} {f : Addr} {N ps : List Str} {dvs : List V} {k : Nat}
end
section
variable {p : Bool} {E : XK} {XC : Str → Value} {Γ : List Sl} {c d : DCod} {cs : List DCod} {tA : TA}
end
/-! ### the law with a table of code objects -/
section
variable {P : Program} {w : World} {K : PySem.W.Frag} {mg : Str → Option Value} {base : Heap} {x qual : Str} {params : Arguments} {body : List Stmt} {scope : Scope} {N ps : List Str} {k : Nat} {dn : He.Defn}
end
end Pu
namespace Pu
open PySem PySem.Spec PyProof.Rows L2 Evl
end Pu
set_option Elab.async false
set_option linter.all false
set_option maxRecDepth 100000
set_option maxHeartbeats 4000000
/-! dicts whose keys are whole numbers or None, that may change; readings that are never come to; whole numbers of the text -/
namespace Pu
open PySem PySem.Spec PyProof.Rows L2 Evl
/-! ### never come to -/
section
variable {p : Bool} {E : XK} {XC : Str → Value} {Γ : List Sl} {c : DCod}
end
/-! ### whole numbers of the text -/
/-! ### the kind of key -/
abbrev OK := Option Int
def okIs : OK → Value → Bool
  | none, .none => true
  | none, _ => false
  | some i, v => Value.isInt i v
theorem okIs_shape : ∀ {k : OK} {v : Value}, okIs k v = true → (k = none ∧ v = Value.none) ∨ ∃ i t, k = some i ∧ v = Value.int i t
  | none, v, h => by
    cases v <;> first | exact .inl ⟨rfl, rfl⟩ | exact nomatch h
  | some i, v, h => by
    obtain ⟨t, e⟩ := Value.isInt_shape (k := i) (v := v) h
    exact .inr ⟨i, t, rfl, e⟩
def okH : OK → Int
  | none => 0xFCA86420
  | some i => hashInt i
theorem typeIs_non (s : Shared) : s.TypeIs .none "NoneType" := rfl
theorem pyHash_non {prog : Program} {w : World} {A : Around} {E : Value → Shared → Prop} {s : Shared} {Q : Int → Shared → Prop} (h : Q 0xFCA86420 { s with toks := s.toks + 1 }) :
    wpAny (model prog w) A (pyHash .none) Q E s := by
  unfold pyHash
  have none_on : [Value.none].any Value.onHeap = false := rfl
  refine wpAny_bind ?_
  rw [cRoomFor, if_neg (by rw [none_on]; decide)]
  refine wpAny_pure (wpAny_bind (wpAny_specialOf (typeIs_non s) F.slot_NoneType_hash.lookup ?_))
  show wpAny _ _ (if (some (Value.builtin "NoneType.__hash__") == some Value.none) = true then _ else _) Q E s
  rw [if_neg (by rw [beq_builtin_none]; decide)]
  refine wpAny_bind (wpAny_specialOf (typeIs_non s) F.slot_NoneType_hash.lookup ?_)
  show wpAny _ _ (callSpecialIfBoundUnlessNone? .none "__hash__" _ >>= _) Q E s
  refine wpAny_bind (wpAny_callSpecialIfBoundUnlessNone?_slot (typeIs_non s) F.slot_NoneType_hash (wpAny_call_entry F.slot_NoneType_hash (typeIs_non s) F.entry_NoneType_hash
    (show wpAny _ _ (do ret (← mkInt (0xFCA86420 : Int))) _ _ s from wpAny_ret_mkInt ?_) (F.args_NoneType_hash_1 _)))
  show wpAny _ _ (if (decide (-(2 : Int) ^ 63 ≤ 0xFCA86420) && decide ((0xFCA86420 : Int) < 2 ^ 63)) = true then _ else _) Q E _
  rw [if_pos (by decide)]
  exact wpAny_pure h
theorem ok_ss (a b : Int) : decide ((some a : OK) = some b) = (a == b) := by
  by_cases e : a = b
  · subst e; simp
  · rw [decide_eq_false (fun q => e (Option.some.inj q))]
    exact (beq_eq_false_iff_ne.mpr e).symm
theorem eqBool_nn {prog : Program} {w : World} {A : Around} {E : Value → Shared → Prop} {s : Shared} {Q : Bool → Shared → Prop} (h : Q true s) : wpAny (model prog w) A (eqBool .none .none) Q E s := by
  unfold eqBool
  refine wpAny_holding ?_
  rw [if_pos (show (Value.none == Value.none) = true from rfl)]
  exact wpAny_bind (wpAny_rule (wpAny_pure h))
def okKind (prog : Program) (w : World) : PySem.KeyKind prog w OK where
  is := okIs
  hash := okH
  inj := fun v a b ha hb => by
    rcases okIs_shape ha with ⟨rfl, rfl⟩ | ⟨i, t, rfl, rfl⟩
    · rcases okIs_shape hb with ⟨rfl, _⟩ | ⟨j, u, _, e⟩
      · rfl
      · exact nomatch e
    · rcases okIs_shape hb with ⟨_, e⟩ | ⟨j, u, rfl, e⟩
      · exact nomatch e
      · injection e with e1 _
        rw [e1]
  byValue := fun k v h => by
    rcases okIs_shape h with ⟨_, rfl⟩ | ⟨i, t, _, rfl⟩
    · rfl
    · rfl
  pyHash := fun hv h => by
    rcases okIs_shape hv with ⟨rfl, rfl⟩ | ⟨i, t, rfl, rfl⟩
    · exact pyHash_non h
    · exact wpAny_pyHash_int h
  eqBool := fun hu hv h => by
    rcases okIs_shape hu with ⟨rfl, rfl⟩ | ⟨i, t, rfl, rfl⟩
    · rcases okIs_shape hv with ⟨rfl, rfl⟩ | ⟨j, u, rfl, rfl⟩
      · exact eqBool_nn h
      · exact SeqAt.EqAt.none_int j u _ _ _ _ h
    · rcases okIs_shape hv with ⟨rfl, rfl⟩ | ⟨j, u, rfl, rfl⟩
      · exact SeqAt.EqAt.int_none i t _ _ _ _ h
      · rw [ok_ss] at h
        exact wpAny_eqBool_int h
  «strs» := fun k x t v h => by
    rcases okIs_shape h with ⟨_, e⟩ | ⟨i, u, _, e⟩
    · exact nomatch e
    · exact nomatch e
/-! ### the dict, in the abstract heap -/
def DicO (h : Heap) (a : Addr) (vs : List (OK × Value)) : Prop := ∀ (P : Program) (w : World), h.DictOf (okKind P w) a vs
theorem pairs_ok {P P' : Program} {w w' : World} {es : List DictEntry} {vs : List (OK × Value)} (h : Pairs (okKind P w) es vs) : Pairs (okKind P' w') es vs := by
  induction h with
  | nil => exact .nil
  | cons h1 h2 _ ih => exact .cons h1 h2 ih
theorem DicO.of {P : Program} {w : World} {h : Heap} {a : Addr} {vs : List (OK × Value)} (d : h.DictOf (okKind P w) a vs) : DicO h a vs := fun P' w' =>
  let ⟨o, es, ep, h1, h2, h3, h4, h5, h6⟩ := d
  ⟨o, es, ep, h1, h2, h3, h4, pairs_ok h5, h6⟩
section
variable {P : Program} {w : World} {H : Hp} {h : Heap} {a : Addr} {kvs : List (OK × V)}
end
def oV : OK → V
  | none => .non
  | some i => .int i
theorem oV_is {k : OK} {u : Value} (r : RelV (oV k) u) : okIs k u = true := by
  cases k with
  | none => obtain rfl : u = Value.none := r; rfl
  | some i => obtain ⟨t, rfl⟩ := (show ∃ t, u = Value.int i t from r); simp [okIs, Value.isInt]
section
variable {X : Cx} {pos pos' : Pos} {o i value : Expr} {td ty tv : TE}
end
end Pu
set_option Elab.async false
set_option linter.all false
set_option maxRecDepth 100000
set_option maxHeartbeats 4000000
namespace Pu
open PySem L2 Evl
/-! ### dicts by whole numbers or None: the code -/
def OTR (c : DCod) (F : Hp) (ks : List (OK × V)) (kvs : List (OK × c.α)) : Prop := Paired (fun (p : OK × V) (q : OK × c.α) => p.1 = q.1 ∧ c.rel F p.2 q.2) ks kvs
def oget {α : Type} : List (OK × α) → OK → Option α
  | [], _ => none
  | p :: r, k => if p.1 = k then some p.2 else oget r k
def oput {α : Type} (kvs : List (OK × α)) (k : OK) (v : α) : List (OK × α) :=
  if (kvs.any fun q => decide (q.1 = k)) = true then kvs.map (fun q => if q.1 = k then (q.1, v) else q) else kvs ++ [(k, v)]
section
variable {c : DCod}
theorem OTR.ext {F F' : Hp} (e : Ex F F') {ks : List (OK × V)} {kvs : List (OK × c.α)} (h : OTR c F ks kvs) : OTR c F' ks kvs := Paired.mapP h fun _ _ q => ⟨q.1, c.ext q.2 e⟩
theorem OTR.isSome {F : Hp} {i : OK} : ∀ {ks : List (OK × V)} {kvs : List (OK × c.α)}, OTR c F ks kvs → (valV ks i).isSome = (oget kvs i).isSome
  | _, _, .nil => rfl
  | _, _, .cons (a := u) (b := w) r t => by
    unfold oget
    by_cases e : w.1 = i
    · rw [if_pos e, valV_pos (r.1.trans e)]
      rfl
    · rw [if_neg e, valV_neg (fun z => e (r.1.symm.trans z))]
      exact OTR.isSome t
theorem OTR.any {F : Hp} {i : OK} : ∀ {ks : List (OK × V)} {kvs : List (OK × c.α)}, OTR c F ks kvs → (ks.any fun p => decide (p.1 = i)) = kvs.any fun q => decide (q.1 = i)
  | _, _, .nil => rfl
  | _, _, .cons (a := u) (b := w) r t => by rw [List.any_cons, List.any_cons, OTR.any t, r.1]
theorem OTR.map {F : Hp} {i : OK} {v : V} {x : c.α} (hx : c.rel F v x) : ∀ {ks : List (OK × V)} {kvs : List (OK × c.α)}, OTR c F ks kvs → OTR c F (ks.map fun p => if p.1 = i then (p.1, v) else p) (kvs.map fun q => if q.1 = i then (q.1, x) else q)
  | _, _, .nil => .nil
  | _, _, .cons (a := u) (b := w) r t => by
    refine .cons ?_ (OTR.map hx t)
    dsimp only
    by_cases e : w.1 = i
    · rw [if_pos e, if_pos (r.1.trans e)]; exact ⟨r.1, hx⟩
    · rw [if_neg e, if_neg (fun z => e (r.1.symm.trans z))]; exact r
theorem OTR.put {F : Hp} {i : OK} {v : V} {x : c.α} (hx : c.rel F v x) {ks : List (OK × V)} {kvs : List (OK × c.α)} (h : OTR c F ks kvs) : OTR c F (putK ks i v) (oput kvs i x) := by
  unfold putK oput
  rw [h.any (i := i)]
  by_cases e : (kvs.any fun q => decide (q.1 = i)) = true
  · rw [if_pos e, if_pos e]; exact h.map hx
  · rw [if_neg e, if_neg e]; exact Paired.snoc h ⟨rfl, hx⟩
end
section
variable {p : Bool} {E : XK} {XC : Str → Value} {Rt : Ret} {K : PySem.W.Frag} {Γ ΓL : List Sl} {te tb ta : TE} {c : DCod}
end
section
variable {p : Bool} {E : XK} {XC : Str → Value} {Rt : Ret} {K : PySem.W.Frag} {Γ Γ1 Γ' ΓL : List Sl} {ta tc : TE} {m m3 : Cod} {i l : Nat}
end
section
variable {p : Bool} {E : XK} {XC : Str → Value} {Γ Γ' : List Sl} {tt : TT}
theorem et_frz {T : (R : Type) → (Bool → Env Γ' → Res R) → Env Γ' → Res R} (fz : FzG Γ Γ') (h : EvT true E XC Γ' tt T) : EvT p E XC Γ tt (fun R k ρ => T R (fun x _ => k x ρ) (fz.conv ρ)) := fun B σ F H ρ I R G hG k Q g q =>
  ev_frz (te := fun σ H Q => tt σ H fun b H' => Q (.bl b) H') (c := dBl) (p := p) fz und_bl (fun B σ F H ρ I R G hG k Q g q => h B σ F H ρ I R G hG k _ g fun b ρ' F' H' I' gt gk => q b ρ' (.bl b) F' H' I' gt rfl gk) B σ F H ρ I R G hG k
    (fun v H' => match v with
      | .bl b => Q b H'
      | _ => False) g fun x ρ' v F' H' I' gt r gk => by
        obtain rfl : v = V.bl x := r
        exact q x ρ' F' H' I' gt gk
end
end Pu
set_option Elab.async false
set_option linter.all false
set_option maxRecDepth 100000
set_option maxHeartbeats 4000000
/-! tuple(zip(a, b)) -/
namespace PuZ
open PySem PySem.W
section
variable {prog : Program} {w : World} {A : Around} {E : Value → Shared → Prop} {s : Shared} {z TI TO T i1 i2 : Addr} {fp1 fp2 : List Addr} {n1 n2 i : Nat} {P1 P2 : Nat → Value → Prop} {St1 St2 : Nat → Heap → Prop} {f : Bool} {oT : Obj}
end
end PuZ
set_option Elab.async false
set_option linter.all false
set_option maxRecDepth 100000
set_option maxHeartbeats 4000000
namespace PuZ
open PySem PySem.Spec PyProof.Rows L2
def Laid : Hp → List Addr → List (V × V) → Hp → Prop
  | H, [], [], H' => H' = H
  | H, p :: ps, q :: qs, H' => H p = none ∧ Laid (upd H p (.tup [q.1, q.2])) ps qs H'
  | _, _, _, _ => False
theorem Laid.snoc {p : Addr} {q : V × V} : ∀ {H : Hp} {ps : List Addr} {qs : List (V × V)} {H' : Hp}, Laid H ps qs H' → H' p = none → Laid H (ps ++ [p]) (qs ++ [q]) (upd H' p (.tup [q.1, q.2]))
  | H, [], [], H', h, n => by
    have h : H' = H := h
    subst h
    exact ⟨n, rfl⟩
  | H, a :: ps, b :: qs, H', ⟨h1, h2⟩, n => ⟨h1, Laid.snoc h2 n⟩
theorem Laid.len : ∀ {H : Hp} {ps : List Addr} {qs : List (V × V)} {H' : Hp}, Laid H ps qs H' → ps.length = qs.length
  | H, [], [], H', h => rfl
  | H, a :: ps, b :: qs, H', ⟨h1, h2⟩ => congrArg Nat.succ (Laid.len h2)
structure ZSt (z TI TO i1 i2 L a b : Addr) (us ws : Array Value) (i : Nat) (h : Heap) : Prop where
  pair : IsTupOf2 h TI (.ref i1) (.ref i2)
  t1 : h.IsTupleIter i1 a i
  t2 : h.IsTupleIter i2 b i
  l1 : h.IsTuple a us
  l2 : h.IsTuple b ws
  to : ∃ o, h.get? TO = some o
  zz : (IsZip h z TI TO .none ∧ ∃ p q, IsTupOf2 h TO p q) ∨ ∃ T f oT, IsZipHeld h z TI TO T f ∧ h.get? T = some oT ∧ T ≠ z ∧ T ≠ i1 ∧ T ≠ i2 ∧ T ≠ L
structure ZSep (z TI TO i1 i2 L a b : Addr) : Prop where
  s : ZipSep2 z TI TO i1 i2 [i1, a] [i2, b]
  i1a : a ≠ i1
  i2b : b ≠ i2
  az : a ≠ z
  aTO : a ≠ TO
  bz : b ≠ z
  bTO : b ≠ TO
  ai2 : a ≠ i2
  bi1 : b ≠ i1
  Lz : L ≠ z
  LTI : L ≠ TI
  LTO : L ≠ TO
  Li1 : L ≠ i1
  Li2 : L ≠ i2
  La : L ≠ a
  Lb : L ≠ b
section
variable {X : Cx} {pins : List (Addr × Obj)} {σ : L2.St} {H : Hp} {A : Around} {E : Value → Shared → Prop} {z TI TO i1 i2 L a b : Addr} {us ws : Array Value} {xs ys : List V}
def Way (X : Cx) (pins : List (Addr × Obj)) (σ : L2.St) (H : Hp) (z TI TO i1 i2 L a b : Addr) (us ws : Array Value) (xs ys : List V) (i : Nat) (acc : Array Value) (s : Shared) : Prop :=
  ∃ H' ps c, L2.Inv X pins σ H' s ∧ (∀ d ∈ [z, TO, i1, i2, L], H' d = none) ∧ ZSt z TI TO i1 i2 L a b us ws i s.heap ∧ s.heap.get? L = some { cls := .type "list", dict := none, data := .seq acc c, slots := #[] } ∧
    Laid H ps ((xs.zip ys).take i) H' ∧ acc.toList = ps.map Value.ref
theorem Way.size {i : Nat} {acc : Array Value} {s : Shared} (W : Way X pins σ H z TI TO i1 i2 L a b us ws xs ys i acc s) (hi : i ≤ (xs.zip ys).length) : acc.size = i := by
  obtain ⟨H', ps, c, _, _, _, _, hl, ha⟩ := W
  have h1 := hl.len
  rw [List.length_take, Nat.min_eq_left hi] at h1
  have h2 := congrArg List.length ha
  rw [List.length_map, h1] at h2
  simpa using h2
end
end PuZ
set_option Elab.async false
set_option linter.all false
set_option maxRecDepth 100000
set_option maxHeartbeats 4000000
namespace PuZ
open PySem PySem.Spec PyProof.Rows L2
section
variable {X : Cx} {pins : List (Addr × Obj)} {σ : L2.St} {H : Hp} {A : Around} {E : Value → Shared → Prop} {z TI TO i1 i2 L a b : Addr} {us ws : Array Value} {xs ys : List V}
theorem ZSt.keep (S : ZSep z TI TO i1 i2 L a b) {i : Nat} {h h' : Heap} (Z : ZSt z TI TO i1 i2 L a b us ws i h) (k : ∀ d o, d ≠ L → h.get? d = some o → h'.get? d = some o) : ZSt z TI TO i1 i2 L a b us ws i h' where
  pair := k _ _ (Ne.symm S.LTI) Z.pair
  t1 := Z.t1.at fun o e => k _ o (Ne.symm S.Li1) e
  t2 := Z.t2.at fun o e => k _ o (Ne.symm S.Li2) e
  l1 := Z.l1.at fun o e => k _ o (Ne.symm S.La) e
  l2 := Z.l2.at fun o e => k _ o (Ne.symm S.Lb) e
  to := let ⟨o, e⟩ := Z.to; ⟨o, k _ _ (Ne.symm S.LTO) e⟩
  zz := by
    rcases Z.zz with ⟨h1, p, q, h2⟩ | ⟨T, f, oT, h1, h2, c1, c2, c3, c4⟩
    · exact .inl ⟨k _ _ (Ne.symm S.Lz) h1, p, q, k _ _ (Ne.symm S.LTO) h2⟩
    · exact .inr ⟨T, f, oT, k _ _ (Ne.symm S.Lz) h1, k _ _ c4 h2, c1, c2, c3, c4⟩
end
end PuZ
set_option Elab.async false
set_option linter.all false
set_option maxRecDepth 100000
set_option maxHeartbeats 4000000
namespace PuZ
open PySem PySem.Spec PyProof.Rows L2
section
variable {X : Cx} {pins : List (Addr × Obj)} {σ : L2.St} {H : Hp} {A : Around} {E : Value → Shared → Prop} {z TI TO i1 i2 L a b : Addr} {us ws : Array Value} {xs ys : List V}
end
end PuZ
namespace PuZ
open PySem PySem.Spec PyProof.Rows L2
section
variable {X : Cx} {pins : List (Addr × Obj)} {σ : L2.St} {H : Hp} {A : Around} {E : Value → Shared → Prop} {z TI TO i1 i2 L a b : Addr} {us ws : Array Value} {xs ys : List V}
end
section
variable {X : Cx} {e e2 : Expr} {ta : TA} {p0 pos0 p pos : Pos}
end
end PuZ
set_option Elab.async false
set_option linter.all false
set_option maxRecDepth 100000
set_option maxHeartbeats 4000000
namespace Pu
open PySem PySem.Spec PyProof.Rows L2 Evl
/-! ### tuple(zip(x, y)) -/
section
variable {p : Bool} {E : XK} {XC : Str → Value} {K : PySem.W.Frag} {Γ : List Sl} {tA : TA} {a b : DCod}
end
end Pu
set_option Elab.async false
set_option linter.all false
set_option maxRecDepth 100000
set_option maxHeartbeats 4000000
namespace Pu
open PySem PySem.Spec PyProof.Rows L2 Evl
/-! ### min of a tuple of ints -/
section
variable {prog : Program} {w : World} {A : Around} {E : Value → Shared → Prop} {s : Shared} {l : Addr}
end
section
variable {X : Cx} {K : PySem.W.Frag}
def minI : List Int → Option Int
  | [] => none
  | x :: xs => some (xs.foldl (fun m y => if y < m then y else m) x)
theorem foldl_min : ∀ (xs : List Int) (x : Int), (xs.foldl (fun m y => if y < m then y else m) x ∈ x :: xs) ∧ ∀ y ∈ x :: xs, xs.foldl (fun m y => if y < m then y else m) x ≤ y
  | [], x => by simp
  | z :: zs, x => by
    rw [List.foldl_cons]
    obtain ⟨h1, h2⟩ := foldl_min zs (if z < x then z else x)
    have h3 := h2 _ (List.mem_cons_self ..)
    refine ⟨?_, fun y hy => ?_⟩
    · rcases List.mem_cons.mp h1 with h | h
      · rw [h]
        split
        · simp
        · simp
      · simp [h]
    · have h4 : (if z < x then z else x) ≤ x ∧ (if z < x then z else x) ≤ z := by split <;> omega
      rcases List.mem_cons.mp hy with h | h
      · rw [h]; exact Int.le_trans h3 h4.1
      · rcases List.mem_cons.mp h with h | h
        · rw [h]; exact Int.le_trans h3 h4.2
        · exact h2 y (List.mem_cons_of_mem _ h)
end
/-! ### in of tuples, by data -/
section
variable {X : Cx} {K : PySem.W.Frag} {n : Nat} {c : DCod}
/-! ### a number's opposite -/
theorem o_neg : Op1 (rU fun i => V.int (-i)) dInt dInt (fun x => -x) := fun F H v x Q e h k => ⟨x, h, k _ F H (Pext.refl e) rfl⟩
end
/-! ### == () of a tuple of anything -/
section
variable {X : Cx} {K : PySem.W.Frag} {c : DCod}
end
section
variable {p : Bool} {E : XK} {XC : Str → Value} {K : PySem.W.Frag} {Γ : List Sl} {ta tb : TE} {c d : DCod}
end
/-! ### range(lo, hi) -/
section
variable {p : Bool} {E : XK} {XC : Str → Value} {K : PySem.W.Frag} {Γ : List Sl} {tA : TA}
end
end Pu
set_option Elab.async false
set_option linter.all false
set_option maxRecDepth 100000
set_option maxHeartbeats 4000000
namespace Pu
open PySem PySem.Spec PyProof.Rows L2 Evl
/-! ### bodies that are never come to -/
/-! ### dicts by whole numbers that may change -/
abbrev mDicI (c : DCod) : Cod := ⟨List (Int × c.α), fun F H fp v kvs => ∃ l ks, v = .ref l ∧ fp = [l] ∧ H l = some (.dK ks) ∧ KVR c F ks kvs, fun ⟨l, ks, h1, h0, h2, h3⟩ e k => ⟨l, ks, h1, h0, by rw [k l (by rw [h0]; simp)]; exact h2, h3.ext e⟩⟩
def fzDI {c : DCod} : Fz (mDicI c) (dDict c) := ⟨fun x => x, fun {F H Fz fp v x} h e k => let ⟨l, ks, h1, h0, h2, h3⟩ := h; ⟨l, ks, h1, by rw [k l (by rw [h0]; simp)]; exact h2, h3.ext e⟩,
  fun {F H fp v x} h a ha o ho => by
    obtain ⟨l, ks, rfl, rfl, h2, h3⟩ := h
    obtain rfl : a = l := by simpa using ha
    rw [h2] at ho; cases ho
    trivial⟩
abbrev dDicF (c : DCod) : DCod := ⟨List (Int × c.α), fun F v kvs => ∃ l od ks, v = .ref l ∧ F l = some (.frz od (.dK ks)) ∧ KVR c F ks kvs ∧ kvs.length ≤ sizeLine, fun ⟨l, od, ks, h1, h2, h3, h4⟩ e => ⟨l, od, ks, h1, e l _ h2, h3.ext e, h4⟩⟩
def tLockD (te : TE) : TE := fun σ H Q => te σ H fun v H1 => ∃ l u, v = .ref l ∧ H1 l = some u ∧ Mut (some u) ∧ ∀ od, Q v (upd H1 l (.frz od u))
theorem pe_lockD {X : Cx} {e : Expr} {te : TE} (h : PE X e te) : PE X e (tLockD te) := ⟨fun pins s σ H Q I q => thn (h.run pins s σ H _ I q) fun v s1 ⟨x, H1, I1, r, l, u, ex, hl, mu, q1⟩ => by
  obtain ⟨od, I2⟩ := I1.lock hl mu
  exact ⟨x, _, I2, r, q1 od⟩⟩
section
variable {p : Bool} {E : XK} {XC : Str → Value} {Rt : Ret} {K : PySem.W.Frag} {Γ ΓL : List Sl} {te tb tk tv : TE} {c : DCod}
theorem ev_lockD {T : (R : Type) → (List (Int × c.α) → Env Γ → Res R) → Env Γ → Res R} (h : EvN p E XC Γ te (mDicI c) T) : EvE p E XC Γ (tLockD te) (dDicF c) (fun R k ρ => T R (fun x ρ => chk (decide (List.length (α := Int × c.α) x ≤ 16777216)) (k x ρ)) ρ) := fun B σ F H ρ I R G hG k Q g q =>
  h B σ F H ρ I R G hG _ _ g fun x ρ' v fp F0 H0 F' H' I0 e pp n r g' => by
    by_cases hx : List.length (α := Int × c.α) x ≤ 16777216
    · rw [decide_eq_true hx] at g'
      obtain ⟨l, ks, rfl, rfl, hl, pv⟩ := r
      obtain ⟨n1, n2, _⟩ := n.at_ l (by simp)
      have hsz := sizeLine_eq
      refine ⟨l, _, rfl, hl, True.intro, fun od => ?_⟩
      have p2 : Pext F0 (upd F' l (.frz od (.dK ks))) H0 (upd H' l (.frz od (.dK ks))) := ⟨fun a u ea => by
        have : a ≠ l := ne_of_none ea n1
        rw [upd_ne this]; exact pp.hh a u ea, pp.ff.trans (Ex.new n2), fun a u ea => by
        by_cases hb : a = l
        · subst hb; rw [upd_same] at ea ⊢; exact ea
        · rw [upd_ne hb] at ea ⊢; exact pp.fh a u ea, fun a u ea => by
        by_cases hb : a = l
        · subst hb; exact .inr n1
        · rw [upd_ne hb] at ea; exact pp.new a u ea⟩
      exact q x ρ' (.ref l) _ _ (I0.pext p2) (e.pext p2) ⟨l, od, ks, rfl, upd_same, pv.ext (Ex.new n2), by rw [hsz]; exact hx⟩ g'
    · rw [decide_eq_false hx] at g'
      exact absurd g' hG.1
theorem en_disp1 {Tk : (R : Type) → (Int → Env Γ → Res R) → Env Γ → Res R} {Tv : (R : Type) → (c.α → Env Γ → Res R) → Env Γ → Res R} (hk : EvE true E XC Γ tk dInt Tk) (hv : EvE true E XC Γ tv c Tv) :
    EvN p E XC Γ (tDisp [(tk, tv)]) (mDicI c) (fun R k ρ => Tk R (fun x ρ => Tv R (fun y ρ => k [(x, y)] ρ) ρ) ρ) := fun B σ F H ρ I R G hG k Q g qq l hl => by
  have p0 : Pext F F H (upd H l (.dK [])) := Pext.own I.fh hl
  refine hk B σ F _ ρ (I.pext p0) R G hG _ _ g fun x ρ1 v F1 H1 I1 e1 r1 g1 => hv B σ F1 H1 ρ1 I1 R G hG _ _ g1 fun y ρ2 w F2 H2 I2 e2 r2 g2 => ?_
  obtain ⟨rfl, p1⟩ := e1.2 rfl
  obtain ⟨rfl, p2⟩ := e2.2 rfl
  have p3 := p1.trans p2
  have r1 : v = V.int x := r1
  subst r1
  have hL : H2 l = some (.dK []) := p3.hh l _ upd_same
  have nF : F2 l = none := by
    cases hf : F2 l with
    | none => rfl
    | some o =>
      rcases p3.new l o hf with z | z
      · rw [none_of I.fh hl] at z; cases z
      · rw [upd_same] at z; cases z
  have hh : ∀ a u, H a = some u → (upd H2 l (.dK (mergeK [] [((.inl x : Key), w)]))) a = some u := fun a u ea => by
    have hne : a ≠ l := ne_of_none ea hl
    rw [upd_ne hne]
    exact p3.hh a u (by rw [upd_ne hne]; exact ea)
  refine ⟨hL, [((.inl x : Key), w)], rfl, by show 1 ≤ 15; decide, qq [(x, y)] ρ2 (.ref l) [l] F H F2 _ I (Gt.refl I.fh) ⟨hh, p3.ff, fun a u ea => ?_, fun a u ea => ?_⟩ ⟨by simp, fun a ha => ?_⟩ ⟨l, _, rfl, rfl, upd_same, .cons ⟨rfl, r2⟩ .nil⟩ g2⟩
  · by_cases hb : a = l
    · subst hb; rw [nF] at ea; cases ea
    · rw [upd_ne hb]; exact p3.fh a u ea
  · rcases p3.new a u ea with z | z
    · exact .inl z
    · by_cases hb : a = l
      · subst hb; exact .inr hl
      · rw [upd_ne hb] at z; exact .inr z
  · obtain rfl : a = l := by simpa using ha
    exact ⟨hl, nF, _, upd_same⟩
theorem dici_step {B : Base} {σ : L2.St} {F H : Hp} {ρ : Env Γ} {i : Nat} {k : Kd} (hk : k ≠ .co) (I : SInv B Γ σ F H ρ) (at_ : At Γ i (.m k (mDicI c))) : ∃ l ks, σ[i]? = some (some (.ref l)) ∧ H l = some (.dK ks) ∧ KVR c F ks (at_.get ρ) ∧
    ∀ ks' xs', KVR c F ks' xs' → SInv B Γ σ F (upd H l (.dK ks')) (at_.put ρ xs') := by
  obtain ⟨v, fp, h1, _, hr, nd, hfp, hst⟩ := I.mut at_
  obtain ⟨l, ks, rfl, rfl, hl, pv⟩ := hr
  refine ⟨l, ks, h1, hl, pv, fun ks' xs' pv' => hst hk F _ [l] xs' ⟨Ex.refl _, fun a o ha => ?_, fun a o ha hm => ?_, fun a o ha => ?_, fun a o ha => .inl ha, by simp, fun a ha => ?_⟩ ⟨l, ks', rfl, rfl, upd_same, pv'⟩⟩
  · rw [upd_ne (ne_of_none ha (hfp l (by simp)).1)]; exact I.fh a o ha
  · rw [upd_ne (by simpa using hm)]; exact ha
  · by_cases he : a = l
    · subst he; exact ⟨_, upd_same⟩
    · exact ⟨o, by rw [upd_ne he]; exact ha⟩
  · obtain rfl : a = l := by simpa using ha
    exact ⟨.inl (by simp), (hfp a (by simp)).1, _, upd_same⟩
theorem st_iput {i : Nat} {k : Kd} (hk : k ≠ .co) (at_ : At Γ i (.m k (mDicI c))) {T : (R : Type) → (c.α → Env Γ → Res R) → Env Γ → Res R} {Ti : (R : Type) → (Int → Env Γ → Res R) → Env Γ → Res R} (h : EvE p E XC Γ te c T) (hi : EvE p E XC Γ tb dInt Ti) :
    StE E XC Rt Γ (sDPut (tVar i) tb te) Γ ΓL (fun R nx rt bk ct ρ => T R (fun x ρ => Ti R (fun j ρ => chk (decide (List.length (α := Int × c.α) (at_.get ρ) < 16777216)) (nx (at_.put ρ (dput (α := c.α) (at_.get ρ) j x)))) ρ) ρ) := fun B σ F H ρ I R G hG nx rt bk ct D g qn qr qb qc =>
  h B σ F H ρ I R G hG _ _ g fun x ρ1 u F1 H1 I1 e1 r1 g1 => by
    obtain ⟨l0, ks0, h1, _⟩ := dici_step hk I1 at_
    refine ⟨.ref l0, h1, hi B σ F1 H1 ρ1 I1 R G hG _ _ g1 fun j ρ2 w F2 H2 I2 e2 r2 g2 => ?_⟩
    obtain ⟨l, ks, h2, hl, pv, hs⟩ := dici_step hk I2 at_
    rw [h1] at h2
    cases h2
    have r2 : w = V.int j := r2
    subst r2
    by_cases hx : List.length (α := Int × c.α) (at_.get ρ2) < 16777216
    · rw [decide_eq_true hx] at g2
      have hsz := sizeLine_eq
      have hpl := Paired.length pv
      exact ⟨l0, _, rfl, DPut.k (k := .inl j) hl (by rw [hsz, hpl]; exact hx), qn _ σ F2 _ (hs _ _ (pv.put (c.ext r1 e2.1))) (e1.1.trans e2.1) g2⟩
    · rw [decide_eq_false hx] at g2
      exact absurd g2 hG.1
/-! ### pop(0), insert(0, x) -/
theorem ev_pop0 {i : Nat} {k : Kd} (hk : k ≠ .co) (at_ : At Γ i (.m k (mLst c))) : EvE false E XC Γ (tBM K "list" rPopAt (tVar i) (tCons (tC (.int 0)) tNil)) c (fun R k ρ => opt (List.head? (α := c.α) (at_.get ρ)) fun x => k x (at_.put ρ (List.tail (α := c.α) (at_.get ρ)))) := fun B σ F H ρ I R G hG k Q g q => by
  obtain ⟨l, vs, h1, hl, pv, hz, hs⟩ := lst_step hk I at_
  refine ⟨.ref l, h1, .inl ⟨rfl, vs, SqL.of hl⟩, ?_⟩
  have g : G (opt (List.head? (α := c.α) (at_.get ρ)) fun x => k x (at_.put ρ (List.tail (α := c.α) (at_.get ρ)))) := g
  generalize hx : (at_.get ρ) = xs at g pv hz
  match xs, vs, pv with
  | [], _, _ => exact absurd g hG.1
  | x :: xs, v :: vs, .cons r t =>
    refine ⟨l, v :: vs, 0, 0, v, rfl, rfl, hl, by decide, by decide, seqIndex_of (by decide) (by rw [List.length_cons]; omega), rfl, ?_⟩
    have hz' : (x :: xs).length ≤ sizeLine := hz
    exact q x _ v F _ (hs vs xs t (by rw [List.length_cons] at hz'; omega)) ⟨Ex.refl F, fun z => nomatch z⟩ r g
theorem st_retDI {Γ' : List Sl} {i : Nat} (at_ : At Γ i (.m .lo (mDicI c))) : StE E XC (retD (dDicF c)) Γ (tRet (tLockD (tVar i))) Γ' ΓL (fun R nx rt bk ct ρ => chk (decide (List.length (α := Int × c.α) (at_.get ρ) ≤ 16777216)) (rt (at_.get ρ) ())) := fun B σ F H ρ I R G hG nx rt bk ct D g qn qr qb qc => by
  obtain ⟨v, fp, h1, _, hr, nd, hfp, _⟩ := I.mut at_
  obtain ⟨l, ks, rfl, rfl, hl, pv⟩ := hr
  obtain ⟨f1, _, _, f4⟩ := hfp l (by simp)
  have g : G (chk (decide (List.length (α := Int × c.α) (at_.get ρ) ≤ 16777216)) (rt (at_.get ρ) ())) := g
  by_cases hx : List.length (α := Int × c.α) (at_.get ρ) ≤ 16777216
  · rw [decide_eq_true hx] at g
    have hsz := sizeLine_eq
    refine ⟨_, h1, l, _, rfl, hl, True.intro, fun od => qr _ () _ (upd F l (.frz od (.dK ks))) _ (fun hM hN => ?_) ⟨l, od, ks, rfl, upd_same, pv.ext (Ex.new f1), by rw [hsz]; exact hx⟩ g⟩
    have pp := I.pextB hM hN
    have nB : B.H l = none := by
      rcases f4 rfl with z | z
      · rw [hN] at z; cases z
      · exact z
    refine ⟨fun a o ha => ?_, pp.ff.trans (Ex.new f1), fun a o ha => ?_, fun a o ha => ?_⟩
    · have hne : a ≠ l := ne_of_none ha nB
      rw [upd_ne hne]; exact pp.hh a o ha
    · by_cases he : a = l
      · subst he; rw [upd_same] at ha ⊢; exact ha
      · rw [upd_ne he] at ha ⊢; exact I.fh a o ha
    · by_cases he : a = l
      · subst he; exact .inr nB
      · rw [upd_ne he] at ha; exact pp.new a o ha
  · rw [decide_eq_false hx] at g
    exact absurd g hG.1
end
section
variable {p : Bool} {E : XK} {XC : Str → Value} {Γ Γ' : List Sl} {te : TE} {c : DCod}
theorem ev_frzLM {T : (R : Type) → (List c.α → Env Γ' → Res R) → Env Γ' → Res R} (fz : FzG Γ Γ') (und : Und c) (h : EvN false E XC Γ' te (mLst c) T) : EvE p E XC Γ te (dLst c) (fun R k ρ => T R (fun x _ => k x ρ) (fz.conv ρ)) := freeze (fun B σ F H ρ I R G hG k Q g q => by
  obtain ⟨L, r, w⟩ := id I
  have hno : ∀ a, a ∈ L.map (·.2) → F a = none := fun a ha => by
    obtain ⟨⟨kk, b⟩, hb, e⟩ := List.mem_map.mp ha
    have e : b = a := e
    subst e
    exact (w.fr kk b hb).1
  have hin : ∀ k a, (k, a) ∈ L → a ∈ L.map (·.2) := fun k a ha => List.mem_map.mpr ⟨_, ha, rfl⟩
  have eF : Ex F (frz F H (L.map (·.2))) := fun a o ha => by
    unfold frz
    rw [if_neg fun hm => by rw [hno a hm] at ha; cases ha]; exact ha
  have hfz : ∀ a, a ∈ L.map (·.2) → frz F H (L.map (·.2)) a = H a := fun a ha => by unfold frz; rw [if_pos ha]
  have r' := fz.rel eF r fun k a ha => hfz a (hin k a ha)
  have hmu := fz.mu r
  have eFH : Ex (frz F H (L.map (·.2))) H := fun a o ha => by
    unfold frz at ha
    by_cases hm : a ∈ L.map (·.2)
    · rw [if_pos hm] at ha; exact ha
    · rw [if_neg hm] at ha; exact w.fh a o ha
  have I' : SInv ⟨frz F H (L.map (·.2)), H, [], [], [], B.τ⟩ Γ' σ (frz F H (L.map (·.2))) H (fz.conv ρ) :=
    ⟨[], r', ⟨by simp, fun k a ha => (nomatch ha), eFH, Ex.refl _, fun a o h _ _ => h, fun a o h => ⟨o, h⟩, fun a o h => .inl h, fun a ha => (nomatch ha), fun a ha => (nomatch ha), fun a ha => (nomatch ha)⟩⟩
  refine h _ σ _ H _ I' R G ⟨hG.1, fun n H' gn f => hG.2 n H' gn fun a o h1 h2 h3 => f a o (w.keep a o h1 h2 h3) (by simp) (by simp)⟩ _ Q g fun x ρ' v fp F0 H0 F' H' I1 e1 pq nw r1 g1 => ?_
  have pe : Pext (frz F H (L.map (·.2))) F0 H H0 := I1.pextB rfl rfl
  have pp : Pext F (thaw F0 (L.map (·.2))) H H0 := by
    refine ⟨pe.hh, fun a o ha => ?_, fun a o ha => ?_, fun a o ha => ?_⟩
    · unfold thaw
      rw [if_neg fun hm => by rw [hno a hm] at ha; cases ha]
      exact pe.ff a o (eF a o ha)
    · unfold thaw at ha
      by_cases hm : a ∈ L.map (·.2)
      · rw [if_pos hm] at ha; cases ha
      · rw [if_neg hm] at ha; exact pe.fh a o ha
    · unfold thaw at ha
      by_cases hm : a ∈ L.map (·.2)
      · rw [if_pos hm] at ha; cases ha
      · rw [if_neg hm] at ha
        rcases pe.new a o ha with z | z
        · unfold frz at z
          rw [if_neg hm] at z; exact .inl z
        · exact .inr z
  have p2 : Pext (thaw F0 (L.map (·.2))) (thaw F' (L.map (·.2))) H0 H' := by
    refine ⟨pq.hh, fun a o ha => ?_, fun a o ha => ?_, fun a o ha => ?_⟩
    · unfold thaw at ha ⊢
      by_cases hm : a ∈ L.map (·.2)
      · rw [if_pos hm] at ha; cases ha
      · rw [if_neg hm] at ha ⊢; exact pq.ff a o ha
    · unfold thaw at ha
      by_cases hm : a ∈ L.map (·.2)
      · rw [if_pos hm] at ha; cases ha
      · rw [if_neg hm] at ha; exact pq.fh a o ha
    · unfold thaw at ha
      by_cases hm : a ∈ L.map (·.2)
      · rw [if_pos hm] at ha; cases ha
      · rw [if_neg hm] at ha
        rcases pq.new a o ha with z | z
        · left; unfold thaw; rw [if_neg hm]; exact z
        · exact .inr z
  have nw2 : New fp H0 (thaw F' (L.map (·.2))) H' := ⟨nw.nd, fun a ha => ⟨(nw.at_ a ha).1, thaw_no (nw.at_ a ha).2.1, (nw.at_ a ha).2.2⟩⟩
  refine q x ρ v fp _ H0 _ H' (I.pext pp) ⟨pp.ff, fun _ => ⟨rfl, pp⟩⟩ p2 nw2 ?_ g1
  obtain ⟨l, vs, h1, h0, hl, pv, hz⟩ := r1
  refine ⟨l, vs, h1, h0, hl, pv_und und (fun a ha o ho => ?_) pv, hz⟩
  obtain ⟨⟨kk, b⟩, hb, e⟩ := List.mem_map.mp ha
  have e : b = a := e
  subst e
  obtain ⟨_, o', ho'⟩ := w.fr kk b hb
  have h1 : F' b = some o' := pq.ff b o' (pe.ff b o' ((hfz b ha).trans ho'))
  rw [h1] at ho; cases ho
  exact hmu kk b hb _ ho')
end
end Pu
set_option Elab.async false
set_option linter.all false
set_option maxRecDepth 100000
set_option maxHeartbeats 4000000
namespace Pu
open PySem PySem.Spec PyProof.Rows L2 Evl
section
variable {K : PySem.W.Frag} {c : DCod}
/-! ### sum and min of a list of whole numbers -/
theorem o_minL : Op1bP (rMin K) (dLst dInt) dInt minI := fun F H v x z Q e h hz k => by
  obtain ⟨a, vs, rfl, g2, g3, g4⟩ := h
  rw [ints_of g3] at g2
  cases x with
  | nil => cases hz
  | cons y ys =>
    have hz : some (ys.foldl (fun m y => if y < m then y else m) y) = some z := hz
    cases hz
    obtain ⟨f1, f2⟩ := foldl_min ys y
    refine ⟨a, y :: ys, rfl, SqL.of (e a _ g2), by simp, fun m hm hle => ?_⟩
    have hmm : m = ys.foldl (fun m y => if y < m then y else m) y := Int.le_antisymm (hle _ f1) (f2 m hm)
    rw [hmm]
    exact k _ F H (Pext.refl e) rfl
end
/-! ### xs.index(x), a list that is data -/
section
variable {p : Bool} {E : XK} {XC : Str → Value} {K : PySem.W.Frag} {Γ : List Sl} {ta tb : TE} {c : DCod}
end
end Pu
set_option Elab.async false
set_option linter.all false
set_option maxRecDepth 100000
set_option maxHeartbeats 4000000
namespace Pu
open PySem PySem.Spec PyProof.Rows L2 Evl
section
variable {p : Bool} {E : XK} {XC : Str → Value} {Rt : Ret} {K : PySem.W.Frag} {Γ Γ' Γ0 Γ1 Γ2 ΓL Γf : List Sl} {te tk tv ta tb tc : TE} {tt tu : TT} {tA : TA} {ti : TI} {tg : TG} {a b c d : DCod} {m m2 : Cod} {cs : List DCod} {ts us : TS} {C : Addr} {names : List Str} {i j : Nat} {k : Kd} {f : Str}
end
end Pu
set_option Elab.async false
set_option linter.all false
set_option maxRecDepth 100000
set_option maxHeartbeats 4000000
/-! sorted(set(..)) of tuples of whole numbers, however long each -/
namespace PuU
open PySem PySem.Spec PyProof.Rows L2 SrtO
section
variable {prog : Program} {w : World} {A : Around} {E : Value → Shared → Prop} {s : Shared}
theorem lex_any {Q : Bool → Shared → Prop} {b fin : Bool} {xs ys : List Value} {ns ms : List Int} (i : Nat) (hx : IntsAre xs ns) (hy : IntsAre ys ms) (hf : fin = decide (ns.length < ms.length)) (h : Q (HT.lexLt ns ms) s) :
    PySem.W.KatLex prog w A b fin Q (xs.zip ys) i s := by
  subst hf
  induction hx generalizing ys ms i with
  | nil =>
    rw [List.zip_nil_left]
    refine PySem.W.kat_nil ?_
    cases hy with
    | nil => exact h
    | cons _ _ _ => exact h
  | @cons p t xs ns hx ih =>
    cases hy with
    | nil => exact PySem.W.kat_nil h
    | @cons q u ys ms hy =>
      refine PySem.W.kat_cons (wpAny_eqBool_int ?_)
      have el : decide ((p :: ns).length < (q :: ms).length) = decide (ns.length < ms.length) := decide_eq_decide.mpr (by rw [List.length_cons, List.length_cons]; omega)
      rw [el]
      rw [HT.lexLt_cons] at h
      by_cases e : p = q
      · rw [if_pos e] at h
        rw [show (p == q) = true from beq_iff_eq.mpr e]
        exact PySem.W.kat_yes (ih (i + 1) hy h)
      · rw [if_neg e] at h
        rw [show (p == q) = false from beq_eq_false_iff_ne.mpr e]
        exact PySem.W.kat_no (TS.oneLt_ints _ h)
theorem firsts {h : Heap} {k : Value → List Int} : ∀ vs : List Value, (∀ v ∈ vs, TS.TupInts h v (k v) ∧ k v ≠ []) → ∃ fs, PySem.W.KatTups h vs fs ∧ fs.length = vs.length ∧ ∀ f, f ∈ fs → ∃ n t, f = Value.int n t
  | [], _ => ⟨[], PySem.W.KatTups.nil, rfl, fun f z => nomatch z⟩
  | v :: vs, x => by
    obtain ⟨fs, g1, g2, g3⟩ := firsts vs fun u hu => x u (List.mem_cons_of_mem _ hu)
    obtain ⟨⟨a, xs, ev, ⟨o, ho, hc, n, hd⟩, i⟩, ne⟩ := x v (List.mem_cons_self ..)
    generalize k v = ns at i ne
    subst ev
    cases hx : xs.toList with
    | nil =>
      rw [hx] at i
      cases i
      exact absurd rfl ne
    | cons y ys =>
      rw [hx] at i
      cases i with
      | cons m t i =>
        refine ⟨Value.int m t :: fs, PySem.W.KatTups.cons ho hc hd ?_ g1, by rw [List.length_cons, List.length_cons, g2], fun f hf => ?_⟩
        · rw [← Array.getElem?_toList, hx]; rfl
        · rcases List.mem_cons.mp hf with rfl | hf
          · exact ⟨m, t, rfl⟩
          · exact g3 f hf
theorem tups_sortable {a : Addr} {vs : List Value} {k : Value → List Int} (h0 : 0 < vs.length) (hp : ∀ v ∈ vs, TS.TupInts s.heap v (k v) ∧ k v ≠ []) (ha : ∀ o, s.heap.get? a = some o → o.cls ≠ .type "tuple") :
    SortableO prog w A s a vs fun v u => HT.lexLt (k v) (k u) := by
  intro h' keep
  have hp' : ∀ v ∈ vs, TS.TupInts h' v (k v) ∧ k v ≠ [] := fun v hm => ⟨(hp v hm).1.keeps fun b o e c => keep b o (fun z => by subst z; exact ha o e c) e, (hp v hm).2⟩
  obtain ⟨fs, g1, g2, g3⟩ := firsts vs hp'
  refine ⟨tuples' (Value.type "int" != Value.type "tuple"), fun Q E hq => PySem.W.kat_kind (s := { s with heap := h' }) (T := Value.type "int") g1 (by omega) (fun f hf => ?_) rfl hq, fun p q hm hm' => ?_⟩
  · obtain ⟨n, t, rfl⟩ := g3 f hf
    exact PySem.W.Looks.of_pure rfl
  · obtain ⟨⟨x, xs, ex, ⟨o, ho, hc, n, hd⟩, ix⟩, _⟩ := hp' p.1 hm
    obtain ⟨⟨y, ys, ey, ⟨o', ho', hc', n', hd'⟩, iy⟩, _⟩ := hp' q.1 hm'
    show wpAny (model prog w) A (keyLt' (tuples' (Value.type "int" != Value.type "tuple")) p.1 q.1) (fun r s' => s' = { s with heap := h' } ∧ r = HT.lexLt (k p.1) (k q.1)) (fun _ _ => False) { s with heap := h' }
    generalize k p.1 = ns at ix ⊢
    generalize k q.1 = ms at iy ⊢
    rw [ex, ey]
    refine PySem.W.kat_lt (s := { s with heap := h' }) ho hd ho' hd' (lex_any 0 ix iy ?_ ⟨rfl, rfl⟩)
    have l1 := ix.length
    have l2 := iy.length
    rw [Array.length_toList] at l1 l2
    rw [l1, l2]
end
end PuU
set_option Elab.async false
set_option linter.all false
set_option maxRecDepth 100000
set_option maxHeartbeats 4000000
namespace PuU
open PySem PySem.Spec PyProof.Rows L2 SrtO Pu Evl
/-! ### the mirror: rising lists of lists of whole numbers, each once -/
def lexL : List Int → List Int → Bool
  | [], [] => false
  | [], _ :: _ => true
  | _ :: _, [] => false
  | x :: xs, y :: ys => if x = y then lexL xs ys else decide (x < y)
theorem lexL_eq : ∀ xs ys, HT.lexLt xs ys = lexL xs ys
  | [], [] => rfl
  | [], _ :: _ => rfl
  | _ :: _, [] => rfl
  | x :: xs, y :: ys => by
    rw [HT.lexLt_cons]
    unfold lexL
    rw [lexL_eq xs ys]
def insS (x : List Int) : List (List Int) → List (List Int)
  | [] => [x]
  | y :: ys => if x = y then y :: ys else if lexL x y = true then x :: y :: ys else y :: insS x ys
def setS (xs : List (List Int)) : List (List Int) := xs.foldr insS []
theorem lex_irr (x : List Int) : lexL x x = false := by
  induction x with
  | nil => rfl
  | cons a x ih => unfold lexL; rw [if_pos rfl]; exact ih
theorem lex_or : ∀ x y : List Int, lexL x y = true ∨ x = y ∨ lexL y x = true
  | [], [] => .inr (.inl rfl)
  | [], _ :: _ => .inl rfl
  | _ :: _, [] => .inr (.inr rfl)
  | a :: x, b :: y => by
    unfold lexL
    by_cases e : a = b
    · rw [if_pos e, if_pos e.symm]
      rcases lex_or x y with h | h | h
      · exact .inl h
      · exact .inr (.inl (by rw [e, h]))
      · exact .inr (.inr h)
    · rw [if_neg e, if_neg (fun z => e z.symm)]
      rcases Int.lt_or_gt_of_ne e with h | h
      · exact .inl (decide_eq_true h)
      · exact .inr (.inr (decide_eq_true h))
theorem lex_trans : ∀ x y z : List Int, lexL x y = true → lexL y z = true → lexL x z = true
  | [], [], _, h, _ => nomatch h
  | [], _ :: _, [], _, h => nomatch h
  | [], _ :: _, _ :: _, _, _ => rfl
  | _ :: _, [], _, h, _ => nomatch h
  | _ :: _, _ :: _, [], _, h => nomatch h
  | a :: x, b :: y, c :: z, h1, h2 => by
    unfold lexL at h1 h2 ⊢
    by_cases e1 : a = b
    · rw [if_pos e1] at h1
      by_cases e2 : b = c
      · rw [if_pos e2] at h2
        rw [if_pos (e1.trans e2)]
        exact lex_trans x y z h1 h2
      · rw [if_neg e2] at h2
        rw [if_neg (fun q => e2 (e1.symm.trans q)), e1]
        exact h2
    · rw [if_neg e1] at h1
      have h1 := of_decide_eq_true h1
      by_cases e2 : b = c
      · rw [if_neg (fun q => e1 (q.trans e2.symm)), ← e2]
        exact decide_eq_true h1
      · rw [if_neg e2] at h2
        have h2 := of_decide_eq_true h2
        rw [if_neg (by omega)]
        exact decide_eq_true (by omega)
theorem ins_mem {x z : List Int} : ∀ {ys : List (List Int)}, z ∈ insS x ys ↔ z = x ∨ z ∈ ys
  | [] => by unfold insS; simp
  | y :: ys => by
    unfold insS
    by_cases e : x = y
    · rw [if_pos e]
      constructor
      · exact .inr
      · rintro (h | h)
        · rw [h, e]; exact List.mem_cons_self ..
        · exact h
    · rw [if_neg e]
      by_cases h : lexL x y = true
      · rw [if_pos h]; exact List.mem_cons
      · rw [if_neg h, List.mem_cons, ins_mem, List.mem_cons]
        constructor
        · rintro (h | h | h)
          · exact .inr (.inl h)
          · exact .inl h
          · exact .inr (.inr h)
        · rintro (h | h | h)
          · exact .inr (.inl h)
          · exact .inl h
          · exact .inr (.inr h)
abbrev Ups (ys : List (List Int)) : Prop := ys.Pairwise fun x y => lexL x y = true
theorem ins_ups {x : List Int} : ∀ {ys : List (List Int)}, Ups ys → Ups (insS x ys)
  | [], _ => List.pairwise_singleton _ _
  | y :: ys, h => by
    obtain ⟨h1, h2⟩ := List.pairwise_cons.mp h
    unfold insS
    by_cases e : x = y
    · rw [if_pos e]; exact h
    · rw [if_neg e]
      by_cases l : lexL x y = true
      · rw [if_pos l]
        exact List.pairwise_cons.mpr ⟨fun z hz => by
          rcases List.mem_cons.mp hz with rfl | hz
          · exact l
          · exact lex_trans _ _ _ l (h1 z hz), h⟩
      · rw [if_neg l]
        refine List.pairwise_cons.mpr ⟨fun z hz => ?_, ins_ups h2⟩
        rcases ins_mem.mp hz with rfl | hz
        · rcases lex_or z y with q | q | q
          · exact absurd q l
          · exact absurd q e
          · exact q
        · exact h1 z hz
theorem set_mem {z : List Int} : ∀ {xs : List (List Int)}, z ∈ setS xs ↔ z ∈ xs
  | [] => Iff.rfl
  | x :: xs => by
    show z ∈ insS x (setS xs) ↔ _
    rw [ins_mem, set_mem, List.mem_cons]
theorem set_ups : ∀ xs : List (List Int), Ups (setS xs)
  | [] => List.Pairwise.nil
  | x :: xs => ins_ups (set_ups xs)
theorem ups_eq : ∀ {xs ys : List (List Int)}, Ups xs → Ups ys → (∀ z, z ∈ xs ↔ z ∈ ys) → xs = ys
  | [], [], _, _, _ => rfl
  | [], y :: ys, _, _, h => absurd ((h y).mpr (List.mem_cons_self ..)) (fun q => nomatch q)
  | x :: xs, [], _, _, h => absurd ((h x).mp (List.mem_cons_self ..)) (fun q => nomatch q)
  | x :: xs, y :: ys, h1, h2, h => by
    obtain ⟨a1, a2⟩ := List.pairwise_cons.mp h1
    obtain ⟨b1, b2⟩ := List.pairwise_cons.mp h2
    have e : x = y := by
      rcases List.mem_cons.mp ((h x).mp (List.mem_cons_self ..)) with q | q
      · exact q
      · rcases List.mem_cons.mp ((h y).mpr (List.mem_cons_self ..)) with q2 | q2
        · exact q2.symm
        · have z1 := b1 x q
          have z2 := a1 y q2
          have := lex_trans _ _ _ z1 z2
          rw [lex_irr] at this
          cases this
    subst e
    have hx : ∀ z, z ∈ xs → lexL x z = true := a1
    rw [ups_eq a2 b2 fun z => ⟨fun hz => by
      rcases List.mem_cons.mp ((h z).mp (List.mem_cons_of_mem _ hz)) with q | q
      · have := a1 z hz
        rw [q, lex_irr] at this
        cases this
      · exact q, fun hz => by
      rcases List.mem_cons.mp ((h z).mpr (List.mem_cons_of_mem _ hz)) with q | q
      · have := b1 z hz
        rw [q, lex_irr] at this
        cases this
      · exact q⟩]
theorem ups_of {xs : List (List Int)} (h : xs.Pairwise fun x y => HT.lexLt y x = false) (nd : xs.Nodup) : Ups xs := by
  refine (h.and nd).imp fun {x y} q => ?_
  obtain ⟨h1, h2⟩ := q
  rw [lexL_eq] at h1
  rcases lex_or x y with z | z | z
  · exact z
  · exact absurd z h2
  · rw [h1] at z; cases z
/-! ### the walk -/
section
variable {X : Cx}
theorem sorted_setU {P : Program} {w : World} {A : Around} {E : Value → Shared → Prop} {s : Shared} {a : Addr} {L : List (Addr × List Int)} {es : Array (Int × Value)} {ep : Nat} {t : SetTable} {Q : Value → Shared → Prop} (R : SetTR P w s.heap a L es ep t) (hh : A.handled = none) (hne : ∀ p ∈ L, p.2 ≠ [])
    (hQ : ∀ s' p (out : Array Value) (c : Nat) (L' : List (Addr × List Int)), (∀ b o, s.heap.get? b = some o → s'.heap.get? b = some o) → s'.gens = s.gens → s'.os = s.os → s.heap.objs.size ≤ p → s'.heap.get? p = some (seqObj "list" out c) →
      out.toList = L'.map (fun q => Value.ref q.1) → L'.Perm L → L'.Pairwise (fun q r => HT.lexLt r.2 q.2 = false) → Q (.ref p) s') : wpAny (model P w) A (call (.builtin "sorted") [.ref a]) Q E s := by
  obtain ⟨o, ho, hex, hd⟩ := R.ob
  have hfew := R.few
  have hsz := R.size
  refine Calls.call_function_entry kind_sorted plain_sorted entry_sorted (args_sorted1 _) (by
    unfold Builtin.«sorted»
    refine wpAny_bind (m := checkCount "sorted" 1 1 _) (wpAny_pure (wpAny_bind (collect_set (A := A.in1) hh ⟨o, ho, hex.1, hd⟩ R.fits (by unfold scanBound; omega) R.tab.ris R.led fun s1 vs k1 hz g1 o1 pm => ?_)))
    rw [R.rows, show (rowsOf P w L).map (·.2) = L.map fun q => Value.ref q.1 by unfold rowsOf; rw [List.map_map]; rfl] at pm
    have hlen : vs.length < 64 := by rw [pm.length_eq, List.length_map]; exact hfew
    have hbig := sizeLine_eq
    refine wpAny_bind (wpAny_newList ?_ (by omega))
    have hoL : (s1.heap.push (seqObj "list" vs.toArray 0)).get? s1.heap.objs.size = some (seqObj "list" vs.toArray 0) := Heap.get?_push_size _ rfl
    have tk : ∀ q ∈ L, TS.TupInts (s1.heap.push (seqObj "list" vs.toArray 0)) (.ref q.1) q.2 := fun q hq => tupInts_of (P := P) (w := w) (isT_keep (R.tup q hq) fun b u e => Heap.get?_push_of_some _ (k1 b u e))
    have tv : ∀ v ∈ vs, TS.TupInts (s1.heap.push (seqObj "list" vs.toArray 0)) v (TS.intsOf (s1.heap.push (seqObj "list" vs.toArray 0)) v) ∧ TS.intsOf (s1.heap.push (seqObj "list" vs.toArray 0)) v ≠ [] := fun v hv => by
      obtain ⟨q, hq, rfl⟩ := List.mem_map.mp (pm.mem_iff.mp hv)
      rw [(tk q hq).ints]
      exact ⟨tk q hq, hne q hq⟩
    refine wpAny_bind (wpAny_holding (wpAny_call_entry slot_list_sort ⟨_, hoL, rfl⟩ entry_list_sort (list_sort_ord (s := { s1 with heap := s1.heap.push (seqObj "list" vs.toArray 0) }) (NtL.swo_lexL (TS.intsOf (s1.heap.push (seqObj "list" vs.toArray 0)))) hoL (by omega)
      (fun h2 => tups_sortable (by omega) tv fun u hu => ?_) fun out hs hb => ⟨_, rfl, ?_⟩) (args_list_sort _)))
    · rw [show u = seqObj "list" vs.toArray 0 from (Option.some.inj (hu.symm.trans hoL))]
      show Value.type "list" ≠ Value.type "tuple"
      decide
    · obtain ⟨c, hc⟩ := sortedHeap_at (vs := vs) (out := out.toArray) hoL
      obtain ⟨L', p1, p2⟩ := L2.perm_lift (fun q : Addr × List Int => Value.ref q.1) (hb.perm.trans pm) L rfl
      refine wpAny_pure ⟨_, rfl, hQ _ s1.heap.objs.size out.toArray c L' (fun b u e => ?_) g1 o1 hz hc (by rw [List.toList_toArray]; exact p2.symm) p1 ?_⟩
      · have q := k1 b u e
        have hlt := Heap.lt_size q
        show (sortedHeap (s1.heap.push (seqObj "list" vs.toArray 0)) s1.heap.objs.size vs out.toArray).get? b = some u
        rw [sortedHeap_old (Nat.ne_of_lt hlt) (by rw [size_push']; exact Nat.lt_succ_of_lt hlt)]
        exact Heap.get?_push_of_some _ q
      · rw [← p2] at hs
        refine List.Pairwise.imp_of_mem (fun {q r} hq hr hle => ?_) (List.pairwise_map.mp hs)
        dsimp only at hle
        rw [(tk q (p1.mem_iff.mp hq)).ints, (tk r (p1.mem_iff.mp hr)).ints] at hle
        exact hle)
def rSortedU (K : PySem.W.Frag) (P : Program) (w : World) : List V → Hp → VK → Prop := fun vs H Q => ∃ (a : Addr) (L : List (Addr × List Int)), vs = [V.ref a] ∧ H a = some (SetTO P w a L) ∧ (∀ p ∈ L, SqT K H p.1 (p.2.map V.int)) ∧ (∀ p ∈ L, p.2 ≠ []) ∧
  ∀ (L' : List (Addr × List Int)) (p : Addr), L'.Perm L → (L'.map (·.2)).Nodup → L'.Pairwise (fun q r => HT.lexLt r.2 q.2 = false) → H p = none → Q (.ref p) (upd H p (.lst (L'.map fun q => V.ref q.1)))
theorem cr_sortedU (hc : X.calm = true) : CallR X (.builtin "sorted") (rSortedU X.K X.prog X.w) := fun pins s σ H vs us Q I r h => by
  obtain ⟨a, L, rfl, ha, hk, hne, q⟩ := h
  obtain ⟨es, ep, t, R⟩ := SetT0.full (show SetT0 X.prog X.w s.heap a L from (I.hok a _ ha).1) fun p hp => I.isT (hk p hp)
  rw [Vals.ref1 r]
  refine sorted_setU R (I.ok.hd hc) hne fun s' p out c L' k g o hp hg hout pm pw => ?_
  have hn : H p = none := I.hok.fresh hp
  have hfew := R.few
  have J := I.call (ch := []) (h' := s'.heap) (g' := s'.gens) (d' := s'.drawn) (t' := s'.toks) (H' := upd H p (.lst (L'.map fun q => V.ref q.1))) (Un.laid k hp hn)
    (I.hok.laid k hp ⟨by rw [List.length_map, pm.length_eq, sizeLine_eq]; omega, out.toList, c, by rw [hout]; exact vals_of_refs L', hg⟩) (by rw [g]; exact I.bare) (fun _ z => nomatch z)
  have e : s' = { s with heap := s'.heap, gens := s'.gens, drawn := s'.drawn, toks := s'.toks } := by
    cases s'
    cases s
    cases o
    rfl
  rw [e]
  exact ⟨.ref p, _, J, rfl, q L' p pm ((pm.map (·.2)).nodup_iff.mpr R.nd) pw hn⟩
end
theorem len_sub {α : Type} [DecidableEq α] : ∀ {xs ys : List α}, xs.Nodup → (∀ x, x ∈ xs → x ∈ ys) → xs.length ≤ ys.length
  | [], ys, _, _ => Nat.zero_le _
  | x :: xs, ys, nd, h => by
    obtain ⟨n1, n2⟩ := List.nodup_cons.mp nd
    have k := len_sub (ys := ys.erase x) n2 fun y hy => (List.mem_erase_of_ne (show y ≠ x from fun e => n1 (by rw [← e]; exact hy))).mpr (h y (List.mem_cons_of_mem _ hy))
    rw [List.length_erase_of_mem (h x (List.mem_cons_self ..))] at k
    have := List.length_pos_of_mem (h x (List.mem_cons_self ..))
    rw [List.length_cons]
    omega
/-! ### the mirror kept -/
section
variable {p : Bool} {E : XK} {XC : Str → Value} {K : PySem.W.Frag} {P : Program} {w : World} {Γ : List Sl} {te : TE}
end
end PuU
set_option Elab.async false
set_option linter.all false
set_option maxRecDepth 100000
set_option maxHeartbeats 4000000
/-! {k: v for .. in .. for .. in ..}, no conditions -/
namespace PuU
open PySem PySem.Spec PyProof.Rows L2
section
variable {prog : Program} {w : World} {A : Around} {R : Result → Shared → Prop} {s : Shared} {kx vx t0 i0 t1 i1 : Expr} {scope : Scope} {pos : Pos} {it acc : Value} {env : Env} {D : Addr}
abbrev two (kx vx t0 i0 t1 i1 : Expr) (scope : Scope) (pos : Pos) : Expr := .DictComp kx vx [⟨t0, i0, [], 0⟩, ⟨t1, i1, [], 0⟩] scope pos
abbrev Nb (prog : Program) (w : World) (A : Around) (env : Env) (R : Result → Shared → Prop) : Value → Shared → Prop := notedBy (model prog w) A env fun e s' => R (.error e) s'
theorem outer (hs : ∀ x, foldedSetIterable i1 env x = pure x) (I : Nat → Shared → Prop)
    (turn : ∀ n s, I n s → wpAny (model prog w) A (pyNext it) (fun r s1 => match r with
      | none => R (.ok .next) s1
      | some v => wpAny (model prog w) A (letOwnedTupleGo t0 it v) (fun _ s2 => wpAny (model prog w) A (assign t0 env v) (fun _ s3 => wpAny (model prog w) A (eval i1 env) (fun x s4 => wpAny (model prog w) A (pyIter x) (fun j s5 =>
          codeAny (model prog w) A (.compStart (two kx vx t0 i0 t1 i1 scope pos) 1 j acc env) (fun r s6 => (∃ f, r = .ok f) ∧ ∃ m, m < n ∧ I m s6) s5) (Nb prog w A env R) s4) (Nb prog w A env R) s3) (Nb prog w A env R) s2) (Nb prog w A env R) s1) (Nb prog w A env R) s)
    (n : Nat) (h : I n s) : codeAny (model prog w) A (.compLoop (two kx vx t0 i0 t1 i1 scope pos) 0 it acc env) R s := by
  refine codeAny_loop rfl I (fun n s hI => ?_) n h
  show wpAny _ A ((compTurn (two kx vx t0 i0 t1 i1 scope pos) 0 it acc env).onRaise (fun x => do noteFrame x env; theTreesLotGoes x)) _ _ s
  refine wpAny_noted ?_
  show wpAny _ _ (standAt i0.pos >>= fun _ => pyNext it >>= _) _ _ s
  refine wpAny_bind (wpAny_standAt (wpAny_bind (wpAny_mono (turn n s hI) (fun r s1 h1 => ?_) fun _ _ z => z)))
  cases r with
  | none => exact wpAny_pure h1
  | some v =>
    show wpAny _ _ (letOwnedTupleGo t0 it v >>= fun _ => assign t0 env v >>= _) _ _ s1
    refine wpAny_bind (wpAny_mono h1 (fun _ s2 h2 => wpAny_bind (wpAny_mono h2 (fun _ s3 h3 => ?_) fun _ _ z => z)) fun _ _ z => z)
    refine wpAny_bind (wpAny_pure ?_)
    show wpAny _ _ (eval i1 env >>= fun x => standAt i1.pos >>= fun _ => foldedSetIterable i1 env x >>= _) _ _ s3
    refine wpAny_bind (wpAny_mono h3 (fun x s4 h4 => wpAny_bind (wpAny_standAt (wpAny_bind (wpAny_of_eq (hs x) ?_)))) fun _ _ z => z)
    show wpAny _ _ (holding [x] (pyIter x) >>= fun j => runOwn (.compStart (two kx vx t0 i0 t1 i1 scope pos) 1 j acc env) env >>= _) _ _ s4
    refine wpAny_bind (wpAny_holding (wpAny_mono h4 (fun j s5 h5 => wpAny_bind (wpAny_runOwn ?_)) fun _ _ z => z))
    rw [Around.mark_none]
    refine codeAny_mono h5 fun r s6 hr => ?_
    obtain ⟨⟨f, rfl⟩, hm⟩ := hr
    first
      | exact wpAny_pure ⟨rfl, hm⟩
      | exact wpAny_bind (wpAny_pure (wpAny_pure ⟨rfl, hm⟩))
theorem inner (I : Nat → Shared → Prop)
    (turn : ∀ n s, I n s → wpAny (model prog w) A (pyNext it) (fun r s1 => match r with
      | none => R (.ok .next) s1
      | some v => wpAny (model prog w) A (letOwnedTupleGo t1 it v) (fun _ s2 => wpAny (model prog w) A (assign t1 env v) (fun _ s3 => wpAny (model prog w) A (eval kx env) (fun kv s4 => wpAny (model prog w) A (eval vx env) (fun vv s5 =>
          wpAny (model prog w) A (dictSet D kv vv) (fun _ s6 => ∃ m, m < n ∧ I m s6) (Nb prog w A env R) s5) (Nb prog w A env R) s4) (Nb prog w A env R) s3) (Nb prog w A env R) s2) (Nb prog w A env R) s1) (Nb prog w A env R) s)
    (n : Nat) (h : I n s) : codeAny (model prog w) A (.compLoop (two kx vx t0 i0 t1 i1 scope pos) 1 it (.ref D) env) R s := by
  refine codeAny_loop rfl I (fun n s hI => ?_) n h
  show wpAny _ A ((compTurn (two kx vx t0 i0 t1 i1 scope pos) 1 it (.ref D) env).onRaise (fun x => do noteFrame x env; theTreesLotGoes x)) _ _ s
  refine wpAny_noted ?_
  show wpAny _ _ (standAt i1.pos >>= fun _ => pyNext it >>= _) _ _ s
  refine wpAny_bind (wpAny_standAt (wpAny_bind (wpAny_mono (turn n s hI) (fun r s1 h1 => ?_) fun _ _ z => z)))
  cases r with
  | none => exact wpAny_pure h1
  | some v =>
    show wpAny _ _ (letOwnedTupleGo t1 it v >>= fun _ => assign t1 env v >>= _) _ _ s1
    refine wpAny_bind (wpAny_mono h1 (fun _ s2 h2 => wpAny_bind (wpAny_mono h2 (fun _ s3 h3 => ?_) fun _ _ z => z)) fun _ _ z => z)
    refine wpAny_bind (wpAny_pure ?_)
    exact wpAny_bind (wpAny_bind (wpAny_mono h3 (fun kv s4 h4 => wpAny_bind (wpAny_holding (wpAny_mono h4 (fun vv s5 h5 => wpAny_bind (wpAny_standAt (wpAny_holding (wpAny_mono h5 (fun _ s6 h6 => wpAny_pure ⟨rfl, h6⟩) fun _ _ z => z)))) fun _ _ z => z))) fun _ _ z => z))
theorem starts1 (h0 : codeAny (model prog w) A (.compLoop (two kx vx t0 i0 t1 i1 scope pos) 1 it acc env) R s)
    (h : wpAny (model prog w) A (pyIter it) (fun j s' => codeAny (model prog w) A (.compLoop (two kx vx t0 i0 t1 i1 scope pos) 1 j acc env) R s') (Nb prog w A env R) s) :
    codeAny (model prog w) A (.compStart (two kx vx t0 i0 t1 i1 scope pos) 1 it acc env) R s := by
  refine codeAny_of_tree ?_
  show wpAny _ _ ((compStart (two kx vx t0 i0 t1 i1 scope pos) 1 it acc env).onRaise (fun x => do noteFrame x env; standAt theWindowsPlace)) _ _ s
  refine wpAny_notedAt ?_
  unfold compStart
  show wpAny _ _ (ask >>= _) _ _ s
  refine wpAny_bind (wpAny_askSetting (wpAny_ite ?_))
  split
  · first
      | exact wpAny_pure (And.intro rfl h0)
      | exact wpAny_bind (wpAny_pure (wpAny_pure (And.intro rfl h0)))
  · refine wpAny_bind (wpAny_rule ?_)
    show wpAny _ _ (standAt i1.pos >>= _) _ _ s
    exact wpAny_bind (wpAny_standAt (wpAny_bind (wpAny_mono h (fun j s' h' => wpAny_pure (And.intro rfl h')) fun _ _ z => z)))
end
end PuU
set_option Elab.async false
set_option linter.all false
set_option maxRecDepth 100000
set_option maxHeartbeats 4000000
namespace PuU
open PySem PySem.Spec PyProof.Rows L2
def tDc2 (wi : TI) (g : TG) (wi1 : TI) (g1 : TG) (tk tv : TE) (vs vs1 : List Nat) : TE := fun σ H Q => wi σ H fun J H1 => ∀ D, H1 D = none → ∃ W : Nat → Nat → Hp → Prop, (∃ m, W 0 m (upd H1 D (.dK []))) ∧ ∀ i m H, W i m H →
  (J.stop i H ∧ Q (.ref D) H) ∨ (J.go i H ∧ ∃ Nx : Hp → Prop, (∀ H', Nx H' → ∃ m', m' < m ∧ W (i + 1) m' H') ∧ ∀ x H', J.yld i H x H' → g x (wipe σ vs) H' fun σ2 H2 => wipe σ2 vs = wipe σ vs ∧
    wi1 σ2 H2 fun J1 H4 => ∃ W1 : Nat → Nat → Hp → Prop, (∃ m, W1 0 m H4) ∧ ∀ j k H, W1 j k H →
      (J1.stop j H ∧ Nx H) ∨ (J1.go j H ∧ ∃ Nx1 : Hp → Prop, (∀ H', Nx1 H' → ∃ k', k' < k ∧ W1 (j + 1) k' H') ∧ ∀ x H', J1.yld j H x H' → g1 x (wipe σ2 vs1) H' fun σ3 H5 => wipe σ3 vs1 = wipe σ2 vs1 ∧
        tk σ3 H5 fun y H6 => tv σ3 H6 fun z H7 => ∃ kvs k, y = kV k ∧ H7 D = some (.dK kvs) ∧ kvs.length < sizeLine ∧ Nx1 (upd H7 D (.dK (putK kvs k z)))))
section
variable {X : Cx}
theorem pinned_keep {Y : Cx} {pins : List (Addr × Obj)} {σ : L2.St} {H : Hp} {s : Shared} {fp : List Addr} {h0 : Heap} (I : Inv Y (pins ++ pinsAt fp h0) σ H s) {b : Addr} (hb : b ∈ fp) {o : Obj} (e : h0.get? b = some o) : s.heap.get? b = some o ∧ H b = none :=
  let z := I.pin (b, o) (List.mem_append_right _ (List.mem_append_right _ (mem_pinsAt hb e)))
  ⟨z.1, z.2.1⟩
theorem pe_dc2 {kx vx tg iter tg1 iter1 : Expr} {scope : Scope} {own : List (Str × Nat)} {vs1 : List Nat} {pos : Pos} {wi wi1 : TI} {g g1 : TG} {tk tv : TE} (hc : X.calm = true) (hN : X.N.Nodup) (hi : PI X tg iter wi) (ok : BlkOk X.N X.env.scope scope own) (hv : ∀ i ∈ vs1, i ∈ own.map (·.2))
    (hg : ∀ (s : Shared) (H : Hp) (C : Addr) (cl : List (Str × Addr)) (fp : List Addr), PG (X.blk s H scope (compEnvC scope cl C X.env) fp) tg g)
    (hi1 : ∀ (s : Shared) (H : Hp) (C : Addr) (cl : List (Str × Addr)) (fp : List Addr), PI (X.blk s H scope (compEnvC scope cl C X.env) fp) tg1 iter1 wi1)
    (hg1 : ∀ (s : Shared) (H : Hp) (C : Addr) (cl : List (Str × Addr)) (fp : List Addr), PG (X.blk s H scope (compEnvC scope cl C X.env) fp) tg1 g1)
    (hk : ∀ (s : Shared) (H : Hp) (C : Addr) (cl : List (Str × Addr)) (fp : List Addr), PE (X.blk s H scope (compEnvC scope cl C X.env) fp) kx tk)
    (he : ∀ (s : Shared) (H : Hp) (C : Addr) (cl : List (Str × Addr)) (fp : List Addr), PE (X.blk s H scope (compEnvC scope cl C X.env) fp) vx tv)
    (hs : ∀ x, foldedSetIterable iter X.env x = pure x := by intro _; rfl) (hs1 : ∀ env x, foldedSetIterable iter1 env x = pure x := by intro _ _; rfl) :
    PE X (two kx vx tg iter tg1 iter1 scope pos) (tDc2 wi g wi1 g1 tk tv (own.map (·.2)) vs1) := ⟨fun pins s σ H Q I h => by
  have hfree : ∀ y ∈ scope.names, y.2 = .free → ∃ c, X.env.cells.lookup y.1 = some c := fun y hy e => (ok.free y hy e).elim (fun k => I.ok.has _ (.inl k)) fun k => I.ok.has _ (.inr k)
  rw [arm_eval_DictComp]
  refine wpAny_comprehension_free (use := _) rfl hs (closure_ok hfree) ok.kind (fun y hy e => by rw [ok.uniq y hy, e]) (thn (hi.run pins s σ H _ I h) fun xv s1 hx => thn hx fun itv s2 h2 => ?_)
  obtain ⟨it, fp, tn, J, H2, rfl, I2, T, st2, f2, q⟩ := h2
  refine wpAny_newObj_type (newEnv_comp ?_)
  generalize hD : s2.heap.objs.size = D
  obtain ⟨W, ⟨m0, w0⟩, turn⟩ := q D (I2.hok.fresh (Nat.le_of_eq hD))
  generalize hs3 : ({ s2 with heap := s2.heap.push { cls := .type "dict", data := .dict #[] } } : Shared) = s3
  have h3 : s3.heap = s2.heap.push { cls := .type "dict", data := .dict #[] } := by rw [← hs3]
  have I3 : Inv X pins σ (upd H2 D (.dK [])) s3 := by
    rw [← hs3]
    refine I2.laid (t' := s2.toks) (fun b o e => Heap.get?_push_of_some _ e) (Nat.le_of_eq hD) ?_
    rw [← hD]
    exact dk_empty s2.heap I2.big
  have f3 : ∀ b ∈ fp, FpOk X pins (upd H2 D (.dK [])) b ∧ b < s3.heap.objs.size := fun b hb => by
    obtain ⟨o, e, _⟩ := T.obj _ _ st2 b hb
    have hlt := Heap.lt_size e
    exact ⟨⟨by rw [upd_ne (by rw [← hD]; exact Nat.ne_of_lt hlt)]; exact (f2 b hb).1, (f2 b hb).2⟩, by rw [h3, Heap.size_push]; exact Nat.lt_succ_of_lt hlt⟩
  have st3 : tn 0 s3.heap := T.keep _ _ _ st2 fun b _ o e => by rw [h3]; exact Heap.get?_push_of_some _ e
  have I4 := block_start I3 ok hN f3
  have pg := hg s3 (upd H2 D (.dK [])) s3.heap.objs.size (cellsFrom (s3.heap.objs.size + 1) scope.names (cloFrom X.env.cells scope.names [])) fp
  have pi1 := hi1 s3 (upd H2 D (.dK [])) s3.heap.objs.size (cellsFrom (s3.heap.objs.size + 1) scope.names (cloFrom X.env.cells scope.names [])) fp
  have pg1 := hg1 s3 (upd H2 D (.dK [])) s3.heap.objs.size (cellsFrom (s3.heap.objs.size + 1) scope.names (cloFrom X.env.cells scope.names [])) fp
  have pk := hk s3 (upd H2 D (.dK [])) s3.heap.objs.size (cellsFrom (s3.heap.objs.size + 1) scope.names (cloFrom X.env.cells scope.names [])) fp
  have pv := he s3 (upd H2 D (.dK [])) s3.heap.objs.size (cellsFrom (s3.heap.objs.size + 1) scope.names (cloFrom X.env.cells scope.names [])) fp
  have nfp : ∀ b ∈ fp, (upd H2 D (.dK [])) b = none := fun b hb => (f3 b hb).1.1
  show codeAny _ _ (.compStart (two kx vx tg iter tg1 iter1 scope pos) 0 (.ref it) (.ref D) (compEnvC scope (cellsFrom (s3.heap.objs.size + 1) scope.names (cloFrom X.env.cells scope.names [])) s3.heap.objs.size X.env)) (compPost (model X.prog X.w) X.A X.xe _ _ (.ref D) s3.heap.objs.size) { s3 with heap := pushCells (s3.heap.push { cls := .type "dict", data := .dict #[] }) scope.names }
  generalize hce : compEnvC scope (cellsFrom (s3.heap.objs.size + 1) scope.names (cloFrom X.env.cells scope.names [])) s3.heap.objs.size X.env = ce at I4 pg pk pv pi1 pg1 ⊢
  have cL : ce.locals = s3.heap.objs.size := by rw [← hce]; rfl
  generalize hH3 : upd H2 D (.dK []) = H3 at I3 I4 pg pk pv pi1 pg1 w0 nfp f3
  generalize hs4 : ({ s3 with heap := pushCells (s3.heap.push { cls := .type "dict", data := .dict #[] }) scope.names } : Shared) = s4 at I4 ⊢
  have st4 : tn 0 s4.heap := T.keep _ _ _ st3 fun b _ o e => by rw [← hs4]; exact pushCells_keeps _ _ _ _ (Heap.get?_push_of_some _ e)
  have stat : ∀ {σ' : L2.St} {H' : Hp} {s' : Shared}, Inv (X.blk s3 H3 scope ce fp) [] σ' H' s' → (∀ b ∈ fp, H' b = none) → ∀ b ∈ fp, FpOk (X.blk s3 H3 scope ce fp) [] H' b := fun {σ' H' s'} I' hn b hb =>
    ⟨hn b hb, (I'.ok.exf b hb).1, I'.ok.exfs b hb, .inl hb, fun x c e => (I'.ok.exf b hb).2 x c e, fun p hp => nomatch (show p ∈ ([] : List (Addr × Obj)) from hp)⟩
  have loop : codeAny (model X.prog X.w) X.A (.compLoop (two kx vx tg iter tg1 iter1 scope pos) 0 (.ref it) (.ref D) ce) (compPost (model X.prog X.w) X.A X.xe none (EP X pins σ Q) (.ref D) s3.heap.objs.size) s4 := by
    refine outer (hs1 ce) (fun n s' => ∃ i H', Inv (X.blk s3 H3 scope ce fp) [] (wipe σ (own.map (·.2))) H' s' ∧ tn i s'.heap ∧ (∀ b ∈ fp, H' b = none) ∧ W i n H') ?_ m0 ⟨0, H3, I4, st4, nfp, w0⟩
    rintro n s5 ⟨i, H5, I5, st5, n5, w5⟩
    rcases turn i n H5 w5 with ⟨stop, qq⟩ | ⟨go, Nx, hNx, step⟩
    · refine thnF (T.done (X.blk s3 H3 scope ce fp) rfl rfl rfl hc i [] s5 _ H5 (fun _ _ => False) I5 (stat I5 n5) st5 stop) fun r s6 ⟨hr, I6⟩ => ?_
      subst hr
      have I7 : Inv X pins σ H5 s6 := I3.call' (ch := fp) I6.os I6.base I6.hok I6.bare fun b hb => ⟨(f3 b hb).1.2.2.2.1, (f3 b hb).1.2.1, (f3 b hb).1.2.2.2.2.1, (f3 b hb).1.2.2.2.2.2⟩
      have nC : H5 s3.heap.objs.size = none := cL ▸ (show H5 ce.locals = none from I6.free)
      obtain ⟨m, hn, _⟩ := I6.loc
      have hn : s6.heap.Ns ce.locals m := hn
      rw [cL] at hn
      refine ⟨m, hn, fun h'' sb => ?_⟩
      obtain ⟨x0, x1, x2, x3, x4, x5⟩ := I3.fpOk (Nat.le_refl _) nC
      exact ⟨.ref D, H5, I7.turned (t' := s6.toks) (fun b o hb e => (sb.2 b hb).trans e) x0 x1 x3 x4 x5, rfl, qq⟩
    · refine thnF (T.item (X.blk s3 H3 scope ce fp) rfl rfl rfl hc i [] s5 _ H5 (fun _ _ => False) I5 (stat I5 n5) st5 go) fun r s6 ⟨u, hr, h6⟩ => ?_
      subst hr
      refine thnF h6 fun _ s7 ⟨x, H7, I7, r7, y7, st7, n7⟩ => ?_
      refine thnF (pg.run _ s7 _ H7 x u _ (I7.pinned (stat I7 n7) (T.obj _ _ st7)) r7 (step x H7 y7)) fun _ s8 ⟨σ8, H8, I8, hw8, q8⟩ => ?_
      refine thnF (pi1.run _ s8 σ8 H8 _ I8 q8) fun xv s10 hx => thnF hx fun itv s11 h11 => ?_
      obtain ⟨it1, fp1, tn1, J1, H11, rfl, I11, T1, st11, f11, W1, ⟨m1, w1⟩, turn1⟩ := h11
      have stat1 : ∀ {H' : Hp}, (∀ b ∈ fp1, H' b = none) → ∀ b ∈ fp1, FpOk (X.blk s3 H3 scope ce fp) ([] ++ pinsAt fp s7.heap) H' b := fun hn b hb => ⟨hn b hb, (f11 b hb).2⟩
      have loop1 : codeAny (model X.prog X.w) X.A (.compLoop (two kx vx tg iter tg1 iter1 scope pos) 1 (.ref it1) (.ref D) ce)
          (fun r s' => (∃ f, r = .ok f) ∧ ∃ m, m < n ∧ ∃ i H', Inv (X.blk s3 H3 scope ce fp) [] (wipe σ (own.map (·.2))) H' s' ∧ tn i s'.heap ∧ (∀ b ∈ fp, H' b = none) ∧ W i m H') s11 := by
        refine inner (fun k s' => ∃ j H', Inv (X.blk s3 H3 scope ce fp) ([] ++ pinsAt fp s7.heap) (wipe σ8 vs1) H' s' ∧ tn1 j s'.heap ∧ (∀ b ∈ fp1, H' b = none) ∧ W1 j k H') ?_ m1 ⟨0, H11, I11.weak (wipe_length _ _) (fun j v e => (wipe_some e).1), st11, fun b hb => (f11 b hb).1, w1⟩
        rintro k s12 ⟨j, H12, I12, st12, n12, w12⟩
        rcases turn1 j k H12 w12 with ⟨stop1, nx1⟩ | ⟨go1, Nx1, hNx1, step1⟩
        · refine thnF (T1.done (X.blk s3 H3 scope ce fp) rfl rfl rfl hc j _ s12 (wipe σ8 vs1) H12 (fun _ _ => False) I12 (stat1 n12) st12 stop1) fun r s13 ⟨hr, I13⟩ => ?_
          subst hr
          obtain ⟨m', hm, w'⟩ := hNx H12 nx1
          refine ⟨⟨_, rfl⟩, m', hm, i + 1, H12, (I13.unpinned (pins := [])).weak (by rw [← hw8, wipe_length, wipe_length]) (fun j v e => ?_), T.keep _ _ _ st7 fun b hb o e => (pinned_keep I13 hb e).1, fun b hb => ?_, w'⟩
          · rw [← hw8] at e
            obtain ⟨e1, e2⟩ := wipe_some e
            rw [wipe_out fun z => e2 (hv j z)]
            exact e1
          · obtain ⟨o, e, _⟩ := T.obj _ _ st7 b hb
            exact (pinned_keep I13 hb e).2
        · refine thnF (T1.item (X.blk s3 H3 scope ce fp) rfl rfl rfl hc j _ s12 (wipe σ8 vs1) H12 (fun _ _ => False) I12 (stat1 n12) st12 go1) fun r s13 ⟨u1, hr, h13⟩ => ?_
          subst hr
          refine thnF h13 fun _ s14 ⟨x1, H14, I14, r14, y14, st14, n14⟩ => ?_
          refine thnF (pg1.run _ s14 (wipe σ8 vs1) H14 x1 u1 _ (I14.pinned (stat1 n14) (T1.obj _ _ st14)) r14 (step1 x1 H14 y14)) fun _ s15 ⟨σ15, H15, I15, hw15, q15⟩ => ?_
          refine thnF (pk.run _ s15 σ15 H15 _ I15 q15) fun z s16 ⟨yk, H16, I16, r16, q16⟩ => ?_
          refine thnF (pv.run _ s16 σ15 H16 _ I16 q16) fun z2 s17 ⟨yv, H17, I17, r17, kvs, key, ek, hD17, hz17, nx⟩ => ?_
          subst ek
          refine d_dictSet (X := X.blk s3 H3 scope ce fp) I17 hD17 hz17 r16 r17 fun s18 I18 => ?_
          obtain ⟨m', hm, w'⟩ := hNx1 _ nx
          refine ⟨m', hm, j + 1, _, I18.unpinned.weak (by rw [← hw15, wipe_length]) (fun j v e => by rw [← hw15] at e; exact (wipe_some e).1), T1.keep _ _ _ st14 fun b hb o e => (pinned_keep I18 hb e).1, fun b hb => ?_, w'⟩
          obtain ⟨o, e, _⟩ := T1.obj _ _ st14 b hb
          exact (pinned_keep I18 hb e).2
      exact starts1 loop1 (T1.self X.A 0 _ _ _ st11 loop1)
  exact codeAny_compStart_dict loop (T.self X.A 0 _ _ _ st4 loop)⟩
end
end PuU
set_option Elab.async false
set_option linter.all false
set_option maxRecDepth 100000
set_option maxHeartbeats 4000000
namespace PuU
open PySem L2 Evl Pu
section
variable {p : Bool} {E : XK} {XC : Str → Value} {Γ Γ1 Γ2 : List Sl} {tk tv : TE} {ti ti1 : TI} {tg tg1 : TG} {a c a1 : DCod}
end
end PuU
set_option Elab.async false
set_option linter.all false
set_option maxRecDepth 100000
set_option maxHeartbeats 4000000
namespace PuU
open PySem PySem.Spec PyProof.Rows L2 Evl Pu
/-! ### d.update(e): dicts by whole numbers -/
section
variable {p : Bool} {E : XK} {XC : Str → Value} {Rt : Ret} {K : PySem.W.Frag} {Γ ΓL : List Sl} {te : TE} {c : DCod}
end
end PuU
set_option Elab.async false
set_option linter.all false
set_option maxRecDepth 100000
set_option maxHeartbeats 4000000
namespace PuU
open PySem L2 Evl Pu
section
variable {p : Bool} {E : XK} {XC : Str → Value} {Γ Γ1 : List Sl} {tk tv : TE} {tt : TT} {ti : TI} {tg : TG} {a c : DCod}
theorem en_dcTN {vs is : List Nat} {q : Bool} {f : Env Γ → a.α → Env Γ1} {T0 : (R : Type) → (List a.α → Env Γ → Res R) → Env Γ → Res R} {Tt : (R : Type) → (Bool → Env Γ1 → Res R) → Env Γ1 → Res R} {Tk : (R : Type) → (Int → Env Γ1 → Res R) → Env Γ1 → Res R} {Tv : (R : Type) → (c.α → Env Γ1 → Res R) → Env Γ1 → Res R}
    (hv : allNo Γ vs = true) (his : ∀ i, i ∈ is → i ∈ vs) (bk : Bk Γ1 Γ) (h : EvI false E XC Γ ti a T0) (ht : TgE Γ tg a Γ1 f is) (hc : EvT q E0 XC Γ1 tt Tt) (hk : EvE q E0 XC Γ1 tk dInt Tk) (he : EvE q E0 XC Γ1 tv c Tv) :
    EvN false E XC Γ (tDc ti tg tt tk tv vs) (mDicI c) (fun R k ρ => T0 R (fun xs ρ => opt (compL (fun x ρ0 => Tt _ (fun b ρ9 => if b = true then Tk _ (fun y ρ1 => Tv _ (fun z ρ2 => .ok (some (y, z), bk.f ρ2)) ρ1) ρ9 else .ok (none, bk.f ρ9)) (f ρ0 x)) xs ρ) fun ys => k (dmerge [] ys.1) ys.2) ρ) := fun B σ F H ρ I R G hG k Q g qq => by
  refine h B σ F H ρ I R G hG _ _ g fun xs ρ1 J F1 H1 I1 e1 w g1 hz D hD => ?_
  obtain ⟨Y, w, hy⟩ := w.ex
  generalize hcl : compL (fun x ρ0 => Tt _ (fun b ρ9 => if b = true then Tk _ (fun y ρ1 => Tv _ (fun z ρ2 => Res.ok (some (y, z), bk.f ρ2)) ρ1) ρ9 else Res.ok (none, bk.f ρ9)) (f ρ0 x)) xs ρ1 = cl at g1
  cases cl with
  | none => exact absurd g1 hG.1
  | some ys =>
  obtain ⟨ys, ρe⟩ := ys
  have g1 : G (k (dmerge [] ys) ρe) := g1
  have S0 : SApart B Γ σ F1 (upd H1 D (.dK [])) ρ1 D := I1.apart hD
  refine dc_it w (g := tg) (tt := tt) (tk := tk) (tv := tv) (vs := vs) (σ := σ) (fun i H' => i ≤ xs.length ∧ ∃ F' ρ0 acc vs' rest, SApart B Γ (wipe σ vs) F' H' ρ0 D ∧ Ex F1 F' ∧ H' D = some (.dK vs') ∧ KVR c F' vs' (dmerge [] acc) ∧ acc.length ≤ i ∧ compL (fun x ρ0 => Tt _ (fun b ρ9 => if b = true then Tk _ (fun y ρ1 => Tv _ (fun z ρ2 => Res.ok (some (y, z), bk.f ρ2)) ρ1) ρ9 else Res.ok (none, bk.f ρ9)) (f ρ0 x)) (xs.drop i) ρ0 = some (rest, ρe) ∧ ys = acc ++ rest)
    ⟨Nat.zero_le _, F1, ρ1, [], [], ys, S0.wiped hv, Ex.refl _, upd_same, .nil, Nat.le_refl _, hcl, rfl⟩ (fun i H' _ ⟨_, F', _, _, _, _, S, e', _⟩ => e'.trans S.inv.fh) ?_ ?_
  · rintro i v H' H2 hi ⟨_, F', ρ0, acc, vs', rest, S, e', hDl, pv, hacc, hcl', hys⟩ y
    obtain ⟨F2, x, hx, pp, r⟩ := hy i H' v H2 F' y e' S.inv.fh
    obtain ⟨hlt, hxe⟩ := List.getElem?_eq_some_iff.mp hx
    have ed : xs.drop i = x :: xs.drop (i + 1) := by rw [← hxe]; exact (List.drop_eq_getElem_cons hlt)
    rw [ed] at hcl'
    obtain ⟨o, ρ3, ys', hbody, hrest, hrr⟩ := compL_cons hcl'
    obtain ⟨B2, I2, hfr, back⟩ := S.go hDl
    have I2' := I2.pext pp
    refine ht B2 _ F2 H2 ρ0 v x I2' r _ fun σ3 I3 hag hln => ?_
    have e3 : wipe σ3 vs = wipe σ vs := wiped_on (B := B) (B2 := B2) (Γ := Γ) (Γx := Γ) (D := D) (o := .dK []) his hag hln
    refine ⟨e3, ?_⟩
    refine hc B2 σ3 F2 H2 _ I3 _ (fun r => r = Res.ok (o, ρ3)) (rs0 (fun z => nomatch z) fun n z => nomatch z) _ _ hbody fun bb ρ9 F9 H9 I9 e9 g9 => ?_
    have hup : ∀ {Fz Hz : Hp} {ρz : Env Γ1}, SInv B2 Γ1 σ3 Fz Hz ρz → SApart B Γ (wipe σ vs) Fz Hz (bk.f ρz) D ∧ Hz D = some (.dK vs') := fun {Fz Hz ρz} Iz => by
      obtain ⟨Sz, hz⟩ := back _ _ _ _ _ (bk.inv Iz)
      have S2 := Sz.wiped hv
      rw [e3] at S2
      exact ⟨S2, hz⟩
    have hsl := sizeLine_eq
    cases bb with
    | true =>
      rw [if_pos rfl] at g9 ⊢
      refine hk B2 σ3 F9 H9 _ I9 _ (fun r => r = Res.ok (o, ρ3)) (rs0 (fun z => nomatch z) fun n z => nomatch z) _ _ g9 fun kx ρ4 u4 F4 H4 I4 e4 r4 g4 => ?_
      refine he B2 σ3 F4 H4 ρ4 I4 _ (fun r => r = Res.ok (o, ρ3)) (rs0 (fun z => nomatch z) fun n z => nomatch z) _ _ g4 fun y ρ5 u F5 H5 I5 e5 r5 g5 => ?_
      cases g5
      obtain ⟨S5, h5⟩ := hup I5
      have pv5 := pv.ext (((pp.ff.trans e9.1).trans e4.1).trans e5.1)
      refine ⟨vs', .inl kx, r4, h5, ?_, hlt, F5, _, acc ++ [(kx, y)], _, ys', S5.upd, (((e'.trans pp.ff).trans e9.1).trans e4.1).trans e5.1, upd_same, ?_, ?_, hrest, ?_⟩
      · have := dmerge_len acc []
        have h2 : vs'.length = (dmerge [] acc).length := Paired.length pv5
        simp only [List.length_nil, Nat.zero_add] at this
        omega
      · rw [dmerge_snoc]; exact pv5.put r5
      · rw [List.length_append]; show _ + 1 ≤ _; omega
      · rw [hys, hrr]; simp
    | false =>
      rw [if_neg (by decide)] at g9 ⊢
      cases g9
      obtain ⟨S5, h5⟩ := hup I9
      exact ⟨hlt, F9, _, acc, vs', ys', S5, (e'.trans pp.ff).trans e9.1, h5, pv.ext (pp.ff.trans e9.1), by omega, hrest, by rw [hys, hrr]; simp⟩
  · rintro H' ⟨_, F', ρ0, acc, vs', rest, S, e', hDl, pv, hacc, hcl', hys⟩
    rw [List.drop_length] at hcl'
    cases hcl'
    rw [List.append_nil] at hys
    subst hys
    obtain ⟨L2, r3, w2, hn2, hF2, hB2⟩ := S.unwiped hv
    have hne : ∀ a, a ≠ D → (fun b => if b = D then none else H' b : Hp) a = H' a := fun a ha => if_neg ha
    have hDn : (fun b => if b = D then none else H' b : Hp) D = none := if_pos rfl
    have w3 : Wd B F' (fun b => if b = D then none else H' b) L2 := ⟨w2.nd, fun k a ha => by
        obtain ⟨q1, o, q2⟩ := w2.fr k a ha
        exact ⟨q1, o, (hne a fun z => hn2 k (z ▸ ha)).trans q2⟩, fun a u hu => (hne a (ne_of_none hu hF2)).trans (w2.fh a u hu), w2.bf, fun a u hu h1 h2 => (hne a (ne_of_none hu hB2)).trans (w2.keep a u hu h1 h2),
        fun a u hu => by
          obtain ⟨o, ho⟩ := w2.there a u hu
          exact ⟨o, (hne a (ne_of_none hu hB2)).trans ho⟩, w2.new, w2.own, w2.loc, w2.con⟩
    have r4 : SRel Γ B.τ σ F' (fun b => if b = D then none else H' b) L2 ρe := r3.ext (Ex.refl _) fun k a ha => hne a fun z => hn2 k (z ▸ ha)
    refine qq (dmerge [] ys) _ (.ref D) [D] F' _ F' H' ⟨L2, r4, w3⟩ ⟨e1.1.trans e', fun z => nomatch z⟩ ⟨fun a o ho => ?_, Ex.refl _, w2.fh, fun a o ho => .inl ho⟩ ⟨by simp, fun a ha => ?_⟩ ⟨D, vs', rfl, rfl, hDl, pv⟩ g1
    · by_cases ha : a = D
      · subst ha
        have ho : (none : Option HO) = some o := hDn.symm.trans ho
        cases ho
      · exact (hne a ha).symm.trans ho
    · have ha : a = D := by simpa using ha
      subst ha
      exact ⟨hDn, hF2, _, hDl⟩
end
end PuU
set_option Elab.async false
set_option linter.all false
set_option maxRecDepth 100000
set_option maxHeartbeats 4000000
/-! zip of a list, a tuple and a list; len(set(t)) of a tuple; k in d, d that is walked -/
namespace PuU
open PySem PySem.Spec PyProof.Rows L2
end PuU
set_option Elab.async false
set_option linter.all false
set_option maxRecDepth 100000
set_option maxHeartbeats 4000000
namespace PuU
open PySem PySem.Spec PyProof.Rows L2 Evl Pu
section
variable {p : Bool} {E : XK} {XC : Str → Value} {K : PySem.W.Frag} {Γ : List Sl} {te ta tb : TE} {tA : TA} {a b c : DCod}
/-! ### k in d, d that may be walked -/
theorem ev_fin {Ta : (R : Type) → (Int → Env Γ → Res R) → Env Γ → Res R} {Tb : (R : Type) → (List (Int × c.α) → Env Γ → Res R) → Env Γ → Res R} (ha : EvE p E XC Γ ta dInt Ta) (hb : EvE p E XC Γ tb (dDicF c) Tb) :
    EvE p E XC Γ (tDIn ta tb) dBl (fun R k ρ => Ta R (fun x ρ => Tb R (fun y ρ => k (dget y x).isSome ρ) ρ) ρ) := fun B σ F H ρ I R G hG k Q g q =>
  ha B σ F H ρ I R G hG _ _ g fun x ρ1 v F1 H1 I1 e1 r1 g1 => hb B σ F1 H1 ρ1 I1 R G hG _ _ g1 fun y ρ2 w F2 H2 I2 e2 r2 g2 => by
    obtain ⟨l, od, ks, rfl, hl, hk, _⟩ := r2
    obtain ⟨h1, h2⟩ := KVR.get (i := x) hk
    rw [show v = V.int x from r1]
    refine ⟨l, valV ks (.inl x), rfl, .inl ⟨ks, .inl x, .inr ⟨od, I2.fh l _ hl⟩, rfl, rfl⟩, q _ ρ2 _ F2 H2 I2 (e1.trans e2) ?_ g2⟩
    show V.bl _ = V.bl _
    congr 1
    cases hz : dget y x with
    | none => rw [h2 hz]; rfl
    | some z =>
      obtain ⟨u, hu, _⟩ := h1 z hz
      rw [hu]; rfl
end
/-! ### len(set(t)), t a tuple of unlike whole numbers -/
section
variable {p : Bool} {E : XK} {XC : Str → Value} {K : PySem.W.Frag} {Γ : List Sl} {te : TE}
end
end PuU
set_option Elab.async false
set_option linter.all false
set_option maxRecDepth 100000
set_option maxHeartbeats 4000000
namespace PuU
open PySem PySem.Spec PyProof.Rows L2 Evl Pu
/-! ### three of a kind as a tuple; d.setdefault(k, x); xs[i] += x -/
theorem sb_p2tup {c : DCod} : Sb (dP2 c c) (dTup c) (fun x => [x.1, x.2]) := fun F v x h => by
  obtain ⟨p, u, w, rfl, h2, h3, h4⟩ := h
  have hsz := sizeLine_eq
  exact ⟨p, [u, w], rfl, .inl h2, .cons h3 (.cons h4 .nil), by show 2 ≤ sizeLine; omega⟩
section
variable {p : Bool} {E : XK} {XC : Str → Value} {Rt : Ret} {K : PySem.W.Frag} {Γ ΓL : List Sl} {te tb : TE} {c : DCod}
end
end PuU
set_option Elab.async false
set_option linter.all false
set_option maxRecDepth 100000
set_option maxHeartbeats 4000000
namespace PuU
open PySem PySem.Spec PyProof.Rows L2 Evl Pu
/-! ### list(d.values()) -/
section
variable {X : Cx} {e : Expr} {te : TE} {p apos cpos pos : Pos}
end
section
variable {p : Bool} {E : XK} {XC : Str → Value} {K : PySem.W.Frag} {Γ : List Sl} {c : DCod}
end
end PuU
set_option Elab.async false
set_option linter.all false
set_option maxRecDepth 100000
set_option maxHeartbeats 4000000
namespace PuU
open PySem PySem.Spec PyProof.Rows L2 Evl Pu
/-! ### x in range(n) -/
section
variable {X : Cx}
end
section
variable {p : Bool} {E : XK} {XC : Str → Value} {Γ : List Sl} {te : TE}
end
end PuU
namespace Pu
open PySem L2 Evl
section
variable {K : PySem.W.Frag}
end
end Pu
namespace Pu
open PySem L2 Evl
theorem cr_minLK {X : Cx} {K : PySem.W.Frag} (hc : X.calm = true) (hK : X.K = K := by rfl) : CallR X (.builtin "min") (L2.rMin K) := by subst hK; exact L2.cr_min hc
end Pu
set_option Elab.async false
set_option linter.all false
set_option maxRecDepth 100000
set_option maxHeartbeats 4000000
namespace Pu
open PySem PySem.Spec PyProof.Rows L2 Evl
/-! ### lambdas as values -/
def FunO (f : Addr) (o : Obj) : HO := .ext fun h => h.get? f = some o
abbrev lamObj (q : Str) (d : Arguments × Expr × Scope) (cells : List (Str × Addr)) (pm : Value) (c' : Addr) (ctv : Value) : Obj := PySem.W.kla_obj "<lambda>" q d.1 d.2.1 d.2.2 (cloFrom cells d.2.2.names []) pm c' ctv
section
variable {X : Cx} {pins : List (Addr × Obj)} {σ : L2.St} {H : Hp} {s : Shared}
end
section
variable {X : Cx}
end
section
variable {X : Cx} {pins : List (Addr × Obj)} {σ : L2.St} {H HZ : Hp} {s s1 : Shared}
end
section
variable {X : Cx}
end
end Pu
set_option Elab.async false
set_option linter.all false
set_option maxRecDepth 100000
set_option maxHeartbeats 4000000
namespace Pu
open PySem PySem.Spec PyProof.Rows L2 Evl
/-! ### == [] of a list of anything -/
section
variable {X : Cx} {K : PySem.W.Frag} {c : DCod}
end
section
variable {p : Bool} {E : XK} {XC : Str → Value} {K : PySem.W.Frag} {Γ : List Sl} {ta tb : TE} {c d : DCod}
end
/-! ### which lambda -/
abbrev LamD := Arguments × Expr × Scope
def void {α : Type} : Res α → Res Unit
  | .ok _ => .ok ()
  | .exc n => .exc n
  | .bad => .bad
section
variable {p : Bool} {E : XK} {XC : Str → Value} {K : PySem.W.Frag} {Γ Γ' : List Sl} {P : Addr} {q : Str} {j : Nat} {cells : List (Str × Addr)} {ds : List LamD} {cs : List (Addr × Str)} {tab : List (Str × Wrd)}
end
end Pu
namespace Pu
open PySem PySem.Spec PyProof.Rows L2 Evl
/-! ### some lambdas -/
inductive LamBs (X : Cx) (k : Nat) : List LamD → List (XK → TE) → Prop
  | nil : LamBs X k [] []
  | cons {d : LamD} {t : XK → TE} {ds : List LamD} {ts : List (XK → TE)} (L : LamX.LamS X.env.scope d.2.2) (hbody : ∀ (A : Around) (outer : List PySem.Env) (s : Shared) (H : Hp) (E : XK) (f c' : Addr), Room k (A.deeper (LamX.lamEnv X d.2.2 s.heap.objs.size f c')) → PE (LamX.lamCx X A outer s H E d.2.2 f c') d.2.1 (t E))
      (r : LamBs X k ds ts) (hb : ∀ (q : Str) (cl : List (Str × Addr)) (pm cv ctv : Value), bindArgs (PySem.W.kla_fn "<lambda>" q d.1 d.2.1 d.2.2 cl pm cv ctv) ⟨[], []⟩ = pure [] := by intros; rfl) : LamBs X k (d :: ds) (t :: ts)
def tNoLam : TE := fun _ _ _ => False
def tNth (ts : List (XK → TE)) : Nat → XK → TE := fun i E => (ts.getD i fun _ => tNoLam) E
theorem LamBs.at {X : Cx} {k : Nat} : ∀ {ds : List LamD} {ts : List (XK → TE)}, LamBs X k ds ts → ∀ (i : Nat) (d : LamD), ds[i]? = some d → LamX.LamS X.env.scope d.2.2 ∧ (∀ (q : Str) (cl : List (Str × Addr)) (pm cv ctv : Value), bindArgs (PySem.W.kla_fn "<lambda>" q d.1 d.2.1 d.2.2 cl pm cv ctv) ⟨[], []⟩ = pure []) ∧
    ∀ (A : Around) (outer : List PySem.Env) (s : Shared) (H : Hp) (E : XK) (f c' : Addr), Room k (A.deeper (LamX.lamEnv X d.2.2 s.heap.objs.size f c')) → PE (LamX.lamCx X A outer s H E d.2.2 f c') d.2.1 (tNth ts i E)
  | _, _, .nil, i, d, h => by simp at h
  | _, _, .cons L hb r hd, 0, d, h => by
    cases h
    exact ⟨L, hd, hb⟩
  | _, _, .cons L hb r hd, i + 1, d, h => LamBs.at r i d h
inductive LamEs (XC : Str → Value) (Γ' : List Sl) : List (XK → TE) → List (Env Γ' → Res Unit) → Prop
  | nil : LamEs XC Γ' [] []
  | cons {t : XK → TE} {ts : List (XK → TE)} {ms : List (Env Γ' → Res Unit)} {c : DCod} {T : (R : Type) → (c.α → Env Γ' → Res R) → Env Γ' → Res R} (h : ∀ E', EvE true E' XC Γ' (t E') c T) (r : LamEs XC Γ' ts ms) : LamEs XC Γ' (t :: ts) ((fun ρ' => void (T c.α (fun x _ => .ok x) ρ')) :: ms)
theorem LamEs.at {XC : Str → Value} {Γ' : List Sl} : ∀ {ts : List (XK → TE)} {ms : List (Env Γ' → Res Unit)}, LamEs XC Γ' ts ms → ∀ (i : Nat), i < ts.length → ∃ (c : DCod) (T : (R : Type) → (c.α → Env Γ' → Res R) → Env Γ' → Res R), (∀ E', EvE true E' XC Γ' (tNth ts i E') c T) ∧ ∀ ρ', (ms.getD i fun _ => .bad) ρ' = void (T c.α (fun x _ => .ok x) ρ')
  | _, _, .nil, i, h => by simp at h
  | _, _, .cons h r, 0, _ => ⟨_, _, h, fun _ => rfl⟩
  | _, _, .cons h r, i + 1, hi => LamEs.at r i (Nat.lt_of_succ_lt_succ hi)
end Pu
set_option Elab.async false
set_option linter.all false
set_option maxRecDepth 100000
set_option maxHeartbeats 4000000
namespace Pu
open PySem PySem.Spec PyProof.Rows L2 Evl
/-! ### lambdas that capture nothing: made in the def, called wherever -/
abbrev noSc : Scope := ⟨.function, [], false, false, []⟩
abbrev LamZ (scope : Scope) : Prop := LamX.LamS noSc scope
theorem LamZ.nofree {scope : Scope} (L : LamZ scope) : ∀ y ∈ scope.names, y.2 ≠ .free := fun y hy e => by
  rcases L.free y hy e with z | z <;> cases z
theorem LamZ.any {scope : Scope} (L : LamZ scope) (sc : Scope) : LamX.LamS sc scope := ⟨L.kind, L.co, L.gen, L.own, fun y hy e => absurd e (L.nofree y hy)⟩
section
variable {X : Cx} {q : Str}
end
inductive LamBz (X : Cx) (k : Nat) : List LamD → List (XK → TE) → Prop
  | nil : LamBz X k [] []
  | cons {d : LamD} {t : XK → TE} {ds : List LamD} {ts : List (XK → TE)} (L : LamZ d.2.2) (hbody : ∀ (A : Around) (outer : List PySem.Env) (s : Shared) (H : Hp) (E : XK) (f c' : Addr), Room k (A.deeper (LamX.lamEnv X d.2.2 s.heap.objs.size f c')) → PE (LamX.lamCx X A outer s H E d.2.2 f c') d.2.1 (t E))
      (r : LamBz X k ds ts) (hb : ∀ (q : Str) (cl : List (Str × Addr)) (pm cv ctv : Value), bindArgs (PySem.W.kla_fn "<lambda>" q d.1 d.2.1 d.2.2 cl pm cv ctv) ⟨[], []⟩ = pure [] := by intros; rfl) : LamBz X k (d :: ds) (t :: ts)
theorem LamBz.at {X : Cx} {k : Nat} : ∀ {ds : List LamD} {ts : List (XK → TE)}, LamBz X k ds ts → ∀ (i : Nat) (d : LamD), ds[i]? = some d → LamZ d.2.2 ∧ (∀ (q : Str) (cl : List (Str × Addr)) (pm cv ctv : Value), bindArgs (PySem.W.kla_fn "<lambda>" q d.1 d.2.1 d.2.2 cl pm cv ctv) ⟨[], []⟩ = pure []) ∧
    ∀ (A : Around) (outer : List PySem.Env) (s : Shared) (H : Hp) (E : XK) (f c' : Addr), Room k (A.deeper (LamX.lamEnv X d.2.2 s.heap.objs.size f c')) → PE (LamX.lamCx X A outer s H E d.2.2 f c') d.2.1 (tNth ts i E)
  | _, _, .nil, i, d, h => by simp at h
  | _, _, .cons L hb r hd, 0, d, h => by
    cases h
    exact ⟨L, hd, hb⟩
  | _, _, .cons L hb r hd, i + 1, d, h => LamBz.at r i d h
end Pu
namespace Pu
open PySem L2 Evl
end Pu
set_option Elab.async false
set_option linter.all false
set_option maxRecDepth 100000
set_option maxHeartbeats 4000000
namespace PuE
open PySem PySem.Spec PyProof.Rows L2 Evl Pu
/-! ### a comprehension out of which an exception may come -/
def airE (X : Cx) (E : XK) (u : Value) (s' : Shared) : Prop := ∃ (pins : List (Addr × Obj)) (σ : L2.St) (H : Hp) (sb : Shared), Inv X pins σ H sb ∧ L2.CX X.prog X.w X.stack H sb E u s'
abbrev blkE (X : Cx) (s : Shared) (H : Hp) (scope : Scope) (cenv : PySem.Env) (fp : List Addr) (E : XK) : Cx := (X.blk s H scope cenv fp).tr [] (airE (X.blk s H scope cenv fp) E)
section
variable {X : Cx} {s : Shared} {H : Hp} {scope : Scope} {cenv : PySem.Env} {fp : List Addr} {E : XK}
end
structure Tk (X : Cx) (E : XK) : Prop where
  st : X.stack = X.env :: X.outer
  fr : X.env.frame = some X.env.locals
  tk : Takes X fun cls d _ H => E cls d H
section
variable {X : Cx} {pins : List (Addr × Obj)} {σ : L2.St} {H H3 : Hp} {s3 s' : Shared} {scope : Scope} {ce : PySem.Env} {fp : List Addr} {E : XK}
end
end PuE
set_option Elab.async false
set_option linter.all false
set_option maxRecDepth 100000
set_option maxHeartbeats 4000000
namespace PuE
open PySem PySem.Spec PyProof.Rows L2 Evl Pu
section
variable {p : Bool} {E : XK} {XC : Str → Value} {Γ Γ' Γ0 Γ1 : List Sl} {te : TE} {tt : TT} {ti : TI} {tg : TG} {a c : DCod}
end
end PuE
set_option Elab.async false
set_option linter.all false
set_option maxRecDepth 100000
set_option maxHeartbeats 4000000
namespace PuE
open PySem PySem.Spec PyProof.Rows L2 Evl Pu
section
variable {p : Bool} {E : XK} {XC : Str → Value} {K : PySem.W.Frag} {Γ : List Sl} {c : DCod} {cs : List DCod} {tA : TA} {P : Addr} {q : Str} {i : Nat} {ts : List (Addr × Str)} {tab : List (Str × Wrd)}
end
end PuE
set_option Elab.async false
set_option linter.all false
set_option maxRecDepth 100000
set_option maxHeartbeats 4000000
namespace PuE
open PySem PySem.Spec PyProof.Rows L2 Evl Pu
section
variable {p : Bool} {E : XK} {XC : Str → Value} {Rt : Ret} {K : PySem.W.Frag} {Γ Γ' Γ1 Γ2 ΓL : List Sl} {ta tb tc : TE} {a b c d : DCod} {m m2 m3 : Cod} {i j l : Nat}
end
end PuE
set_option Elab.async false
set_option linter.all false
set_option maxRecDepth 100000
set_option maxHeartbeats 4000000
namespace PuE
open PySem PySem.Spec PyProof.Rows L2 Evl Pu
/-! ### a def that makes lambdas: the table of its code objects is handed on unseen -/
section
variable {P : Program} {w : World} {K : PySem.W.Frag} {mg : Str → Option Value} {base : Heap} {x qual : Str} {params : Arguments} {body : List Stmt} {scope : Scope} {N ps : List Str} {k : Nat} {dn : He.Defn}
end
section
variable {E : XK} {XC : Str → Value} {Γ : List Sl} {c : DCod} {cs : List DCod} {tA : TA} {P : Addr} {q : Str} {i : Nat}
end
end PuE
set_option Elab.async false
set_option linter.all false
set_option maxRecDepth 100000
set_option maxHeartbeats 4000000
namespace PuE
open PySem PySem.Spec PyProof.Rows L2 Evl Pu
/-! ### lambdas in a list that capture: told within a comprehension -/
def BlkJ (X : Cx) (σ : L2.St) (s : Shared) (H : Hp) (fp : List Addr) : Prop := ∃ (pins : List (Addr × Obj)), Inv X pins σ H s ∧ ∀ b ∈ fp, FpOk X pins H b ∧ b < s.heap.objs.size
section
variable {p : Bool} {E : XK} {XC : Str → Value} {σ0 : L2.St} {vs : List Nat} {Γ : List Sl} {ta tb : TE} {tt : TT} {a b c : DCod}
end
section
variable {p : Bool} {E : XK} {XC : Str → Value} {Γ Γ' Γ0 Γ1 : List Sl} {te : TE} {tt : L2.St → TT} {ti : TI} {tg : TG} {a c : DCod}
end
section
variable {X : Cx} {σ0 : L2.St} {s3 : Shared} {H3 : Hp} {scope : Scope} {cenv : PySem.Env} {fp : List Addr} {E : XK}
theorem BlkJ.out (b : BlkJ X σ0 s3 H3 fp) {pins : List (Addr × Obj)} {σ : L2.St} {H : Hp} {s : Shared} (I : Inv (blkE X s3 H3 scope cenv fp E) pins σ H s) : ∃ pins0, Inv X pins0 σ0 H s := by
  obtain ⟨pins0, I3, f3⟩ := b
  exact ⟨pins0, I3.call' (ch := fp) I.os I.base I.hok I.bare fun b hb => ⟨(f3 b hb).1.2.2.2.1, (f3 b hb).1.2.1, (f3 b hb).1.2.2.2.2.1, (f3 b hb).1.2.2.2.2.2⟩⟩
end
section
variable {p : Bool} {E : XK} {XC : Str → Value} {K : PySem.W.Frag} {Γ0 Γ1 Γ' : List Sl} {q : Str} {cells : List (Str × Addr)} {ds : List LamD} {cs : List (Addr × Str)} {tab : List (Str × Wrd)} {vs : List Nat} {σ0 : L2.St}
end
end PuE
set_option Elab.async false
set_option linter.all false
set_option maxRecDepth 100000
set_option maxHeartbeats 4000000
namespace PuE
open PySem PySem.Spec PyProof.Rows L2 Evl Pu
/-! ### slices of tuples that hold no fields -/
def rSlF (K : PySem.W.Frag) : V → Option Int → Option Int → Hp → VK → Prop := fun x lo hi H Q => ∃ a xs, x = .ref a ∧ SqT K H a xs ∧
  ((HT.sIx xs.length 0 lo = 0 ∧ HT.sIx xs.length xs.length hi = xs.length) → Q (.ref a) H) ∧ (¬ (HT.sIx xs.length 0 lo = 0 ∧ HT.sIx xs.length xs.length hi = xs.length) → ∀ p ob, ob.dict = none → ob.cls = .type "tuple" → H p = none → Q (.ref p) (upd H p (.frz ob (.tup (cutV xs lo hi)))))
theorem sl_tupF {X : Cx} : SlR X (rSlF X.K) := by
  intro pins s σ H x v vl vu lo hi sl Q I rx hs pl pu h
  obtain ⟨a, xs, rfl, hx, q0, q1⟩ := h
  by_cases hw : HT.sIx xs.length 0 lo = 0 ∧ HT.sIx xs.length xs.length hi = xs.length
  · exact sl_tupA pins s σ H (.ref a) v vl vu lo hi sl Q I rx hs pl pu ⟨a, xs, rfl, hx, fun _ => q0 hw, fun z => absurd hw z⟩
  cases rx
  obtain ⟨its, r, ht, hz⟩ := I.tuple hx
  have hlen : its.toArray.size = xs.length := by rw [List.size_toArray]; exact r.length.symm
  refine ⟨"tuple", _, PyProof.Rows.slot_tuple_getitem.lookup, ht.typeIs, ?_⟩
  refine HT.getItem_tuple_cut ht hs pl pu (by rw [hlen]; exact hw) ?_ (by rw [hlen]; exact hz)
  rw [hlen]
  have rr := (r.drop (HT.sIx xs.length 0 lo)).take (HT.sIx xs.length xs.length hi - HT.sIx xs.length 0 lo)
  refine ⟨.ref s.heap.objs.size, _, I.laid (t' := s.toks) (o := .frz { cls := .type "tuple", data := .seq ((its.drop (HT.sIx xs.length 0 lo)).take (HT.sIx xs.length xs.length hi - HT.sIx xs.length 0 lo)).toArray } (.tup (cutV xs lo hi))) (fun b ob q => Heap.get?_push_of_some _ q) (Nat.le_refl _) ?_, rfl, q1 hw _ _ rfl rfl (I.hok.fresh (Nat.le_refl _))⟩
  exact ⟨Heap.get?_push_size _ rfl, Nat.le_trans (cutV_length xs lo hi) hz, _, rr, IsTup.new _ _⟩
theorem sl_tupFK {X : Cx} {K : PySem.W.Frag} (hK : X.K = K := by rfl) : SlR X (rSlF K) := by subst hK; exact sl_tupF
section
variable {p : Bool} {E : XK} {XC : Str → Value} {K : PySem.W.Frag} {Γ : List Sl} {te : TE} {c : DCod}
theorem ev_slTN {to tu : TO} {T : (R : Type) → (List c.α → Env Γ → Res R) → Env Γ → Res R} {T1 T2 : (R : Type) → (Option Int → Env Γ → Res R) → Env Γ → Res R} (h : EvE p E XC Γ te (dTuN c) T) (h1 : EvO p E XC Γ to T1) (h2 : EvO p E XC Γ tu T2) :
    EvE p E XC Γ (L2.tSl (rSlF K) te to tu) (dTuN c) (fun R k ρ => T R (fun xs ρ => T1 R (fun lo ρ => T2 R (fun hi ρ => k (cutL xs lo hi) ρ) ρ) ρ) ρ) := fun B σ F H ρ I R G hG k Q g qq =>
  h B σ F H ρ I R G hG _ _ g fun xs ρ1 v F1 H1 I1 e1 r1 g1 => h1 B σ F1 H1 ρ1 I1 R G hG _ _ g1 fun lo ρ2 F2 H2 I2 e2 g2 => h2 B σ F2 H2 ρ2 I2 R G hG _ _ g2 fun hi ρ3 F3 H3 I3 e3 g3 => by
    obtain ⟨a, vs, ob, rfl, q2, q5, q6, q3, q4⟩ := (dTuN c).ext r1 (e2.1.trans e3.1)
    refine ⟨a, vs, rfl, SqT.rd I3.fh (.inr ⟨ob, q2⟩), fun hw => ?_, fun hw l ob2 h1 h2 hl => qq _ ρ3 (.ref l) _ _ (I3.pext (Pext.one I3.fh hl)) (((e1.trans e2).trans e3).pext (Pext.one I3.fh hl)) ⟨l, _, ob2, rfl, upd_same, h1, h2, (q3.cut lo hi).ext (Ex.new (none_of I3.fh hl)), Nat.le_trans (cutL_len _ _ _) q4⟩ g3⟩
    refine qq _ ρ3 (.ref a) F3 H3 I3 ((e1.trans e2).trans e3) ⟨a, vs, ob, rfl, q2, q5, q6, ?_, Nat.le_trans (cutL_len _ _ _) q4⟩ g3
    have w := q3.cut lo hi
    have ew : cutV vs lo hi = vs := by
      unfold cutV
      rw [hw.1, hw.2]
      simp
    rw [ew] at w
    exact w
end
end PuE
set_option Elab.async false
set_option linter.all false
set_option maxRecDepth 100000
set_option maxHeartbeats 4000000
namespace PuE
open PySem PySem.Spec PyProof.Rows L2 Evl Pu SrtO Srt
/-! ### sorted of a dict's keys -/
section
variable {prog : Program} {w : World} {A : Around} {E : Value → Shared → Prop} {s : Shared} {T : String} {r d : Addr} {n : Nat} {P : Nat → Value → Prop} {OK : Heap → Prop}
theorem gather_src {Q : List Value → Shared → Prop} (K : PySem.W.KdlSrc prog w T r d n P OK) (hh : A.handled = none) (hok : OK s.heap) (hn : n ≤ sizeLine)
    (h : ∀ h' tk acc, (∀ b o, s.heap.get? b = some o → h'.get? b = some o) → s.heap.objs.size < h'.objs.size → ItemsOf P acc n → Q acc.toList { s with heap := h', toks := tk }) : wpAny (model prog w) A (collect (.ref r)) Q E s := by
  have hlt := K.there _ hok
  have g5 : (s.heap.push (seqObj "list" #[] 0)).get? s.heap.objs.size = some (seqObj "list" #[] 0) := Heap.get?_push_size _ rfl
  unfold collect
  refine wpAny_bind (wpAny_runValue (codeAny_builtin F.entry_proto_collect ?_))
  rw [Around.under_plainId F.plain_proto_collect _]
  show wpAny _ A.in1 (newList [] >>= fun l => again (.builtin "list.__iadd__" ⟨[l, .ref r], []⟩)) _ _ s
  refine wpAny_bind (wpAny_newObj_type ?_)
  refine wpAny_pure ⟨plainId_quiet F.plain_list_iadd _, codeAny_builtin F.entry_list_iadd ?_⟩
  rw [Around.under_plainId F.plain_list_iadd _]
  show wpAny _ A.in1 (Builtin.List.listExtendWith (.ref s.heap.objs.size) (.ref r) (.ref s.heap.objs.size)) _ _ { s with heap := s.heap.push (seqObj "list" #[] 0) }
  refine PySem.W.kdl_extend (R := fun rr s' => match rr with
    | .ok (.ret v) => wpAny (model prog w) A (match v with
      | .ref a => do
        let o ← load a
        match o.data with | .seq xs _ => pure xs.toList | _ => unsupported "internal:collect"
      | _ => unsupported "internal:collect") Q E s'
    | .ok _ => False
    | .error e => E e s') (s := { s with heap := s.heap.push (seqObj "list" #[] 0) }) K hh (K.keep _ _ hok fun b _ o e => Heap.get?_push_of_some _ e) _ (Nat.ne_of_gt hlt.1) (Nat.ne_of_gt hlt.2) (.ref s.heap.objs.size) 0 g5 (fun h' tk acc' c' hk hS' hacc => ?_) hn
  show wpAny (model prog w) A (do
      let o ← load s.heap.objs.size
      match o.data with | .seq xs _ => pure xs.toList | _ => unsupported "internal:collect") Q E { s with heap := h', toks := tk }
  exact wpAny_bind (wpAny_load hS' (wpAny_pure (h h' tk acc' (fun b o e => hk b o (Nat.ne_of_lt (Heap.lt_size e)) (Heap.get?_push_of_some _ e)) (Heap.lt_size hS') hacc)))
end
section
variable {p : Bool} {E : XK} {XC : Str → Value} {K : PySem.W.Frag} {Rt : Ret} {Γ Γ' ΓL : List Sl} {te ta tb tc td : TE} {c : DCod} {i : Nat} {k : Kd}
/-! ### xs[i], xs[j] = a, b -/
end
end PuE
set_option Elab.async false
set_option linter.all false
set_option maxRecDepth 100000
set_option maxHeartbeats 4000000
namespace PuE
open PySem PySem.Spec PyProof.Rows L2 Evl Pu RT
/-! ### tuple(reversed(t)), t a tuple -/
section
variable {prog : Program} {w : World} {A : Around} {E : Value → Shared → Prop} {s : Shared}
end
section
variable {X : Cx}
end
end PuE
set_option Elab.async false
set_option linter.all false
set_option maxRecDepth 100000
set_option maxHeartbeats 4000000
namespace PuE
open PySem PySem.Spec PyProof.Rows L2 Evl Pu RT
/-! ### len(dict(pairs)), the keys tuples of whole numbers -/
section
variable {X : Cx}
end
section
variable {p : Bool} {E : XK} {XC : Str → Value} {K : PySem.W.Frag} {Γ : List Sl} {te : TE}
end
end PuE
namespace Pu
open PySem PySem.Spec PyProof.Rows L2 Evl
section
variable {X : Cx} {K : PySem.W.Frag}
end
end Pu
set_option Elab.async false
set_option linter.all false
set_option maxRecDepth 100000
set_option maxHeartbeats 4000000
namespace PuE
open PySem PySem.Spec PyProof.Rows L2 Evl Pu
/-! ### x in d, x a whole number or None, the keys whole numbers -/
section
variable {p : Bool} {E : XK} {XC : Str → Value} {Γ : List Sl} {c : DCod} {ta tb : TE}
end
end PuE
set_option Elab.async false
set_option linter.all false
set_option maxRecDepth 100000
set_option maxHeartbeats 4000000
namespace PuX
open PySem L2 Evl Pu
/-! ### a def with arguments of any kind, data or things that it may change, in any order -/
inductive Ar where
  | d (c : DCod) | v (c : Cod)
def ds : List Ar → List DCod
  | [] => []
  | .d c :: as => c :: ds as
  | .v _ :: as => ds as
def Mu : List Ar → Type
  | [] => Unit
  | .d _ :: as => Mu as
  | .v c :: as => c.α × Mu as
def EnA : List Ar → Type
  | [] => Unit
  | .d c :: as => c.α × EnA as
  | .v c :: as => c.α × EnA as
def ARel : (as : List Ar) → List V → Hp → Hp → List Addr → EnA as → Prop
  | [], vs, _, _, L, _ => vs = [] ∧ L = []
  | .d c :: as, vs, F, H, L, x => ∃ v vs', vs = v :: vs' ∧ c.rel F v x.1 ∧ ARel as vs' F H L x.2
  | .v c :: as, vs, F, H, L, x => ∃ v vs' fp L', vs = v :: vs' ∧ L = fp ++ L' ∧ c.rel F H fp v x.1 ∧ ARel as vs' F H L' x.2
def MRel : (as : List Ar) → List V → Hp → Hp → List Addr → Mu as → Prop
  | [], vs, _, _, L, _ => vs = [] ∧ L = []
  | .d _ :: as, vs, F, H, L, y => ∃ v vs', vs = v :: vs' ∧ MRel as vs' F H L y
  | .v c :: as, vs, F, H, L, y => ∃ v vs' fp L', vs = v :: vs' ∧ L = fp ++ L' ∧ c.rel F H fp v y.1 ∧ MRel as vs' F H L' y.2
def MRelT : (as : List Ar) → St → Hp → Hp → List Addr → Mu as → Prop
  | [], _, _, _, L, _ => L = []
  | .d _ :: as, τ, F, H, L, y => MRelT as τ.tail F H L y
  | .v c :: as, τ, F, H, L, y => ∃ v fp L', τ.head? = some (some v) ∧ L = fp ++ L' ∧ c.rel F H fp v y.1 ∧ MRelT as τ.tail F H L' y.2
theorem ARel.len {F H : Hp} : ∀ {as : List Ar} {vs : List V} {L : List Addr} {x : EnA as}, ARel as vs F H L x → vs.length = as.length
  | [], _, _, _, h => by rw [h.1]; rfl
  | .d _ :: as, _, _, _, ⟨v, vs', e, _, h⟩ => by rw [e, List.length_cons, List.length_cons, ARel.len h]
  | .v _ :: as, _, _, _, ⟨v, vs', _, _, e, _, _, h⟩ => by rw [e, List.length_cons, List.length_cons, ARel.len h]
theorem MRelT.back {F H : Hp} {τ' : St} : ∀ {as : List Ar} {vs : List V} {L : List Addr} {y : Mu as}, vs.length = as.length → MRelT as (vs.map some ++ τ') F H L y → MRel as vs F H L y
  | [], vs, L, y, hl, h => ⟨List.length_eq_zero_iff.mp hl, h⟩
  | .d _ :: as, [], L, y, hl, h => by simp at hl
  | .d _ :: as, v :: vs, L, y, hl, h => ⟨v, vs, rfl, MRelT.back (as := as) (by simpa using hl) h⟩
  | .v _ :: as, [], L, y, hl, h => by simp at hl
  | .v _ :: as, v :: vs, L, y, hl, ⟨w, fp, L', e, e2, r, h⟩ => by
    have e : some (some v) = some (some w) := e
    cases e
    exact ⟨v, vs, fp, L', rfl, e2, r, MRelT.back (as := as) (by simpa using hl) h⟩
inductive MA : List Ar → List Sl → Type 1 where
  | nil {Γ : List Sl} : MA [] Γ
  | d {c : DCod} {as : List Ar} {s : Sl} {Γ : List Sl} (r : MA as Γ) : MA (.d c :: as) (s :: Γ)
  | v {c : Cod} {as : List Ar} {Γ : List Sl} (r : MA as Γ) : MA (.v c :: as) (.m .pa c :: Γ)
def MA.get : {as : List Ar} → {Γ : List Sl} → MA as Γ → Env Γ → Mu as
  | _, _, .nil, _ => ()
  | _, _, .d r, ρ => r.get ρ.2
  | _, _, .v r, ρ => (ρ.1, r.get ρ.2)
section
variable {p : Bool} {E : XK} {XC : Str → Value} {Γ : List Sl} {c : DCod} {as : List Ar} {ts : TS}
end
/-! the caller's side -/
def Solid (c : Cod) : Prop := ∀ F H fp v x, c.rel F H fp v x → ∃ a, v = .ref a ∧ fp = [a]
inductive Ups (k0 : Kd) : List Sl → List Ar → List Sl → Type 1 where
  | nil {Γ : List Sl} : Ups k0 Γ [] Γ
  | d {c : DCod} {as : List Ar} {Γ Γ' : List Sl} (r : Ups k0 Γ as Γ') : Ups k0 Γ (.d c :: as) Γ'
  | v {c : Cod} {k : Kd} {i : Nat} {as : List Ar} {Γ Γ1 Γ' : List Sl} (u : Up Γ i (.m k c) .no Γ1) (hk : k ≠ .co) (hs : k = k0 ∨ Solid c) (r : Ups k0 Γ1 as Γ') : Ups k0 Γ (.v c :: as) Γ'
def Ups.get {k0 : Kd} : {Γ Γ' : List Sl} → {as : List Ar} → Ups k0 Γ as Γ' → Env Γ → DEnv (ds as) → EnA as
  | _, _, _, .nil, _, _ => ()
  | _, _, _, .d r, ρ, x => (x.1, r.get ρ x.2)
  | _, _, _, .v u _ _ r, ρ, x => (u.old ρ, r.get (u.set ρ ()) x)
def Ups.put {k0 : Kd} : {Γ Γ' : List Sl} → {as : List Ar} → Ups k0 Γ as Γ' → Env Γ → Mu as → Env Γ
  | _, _, _, .nil, ρ, _ => ρ
  | _, _, _, .d r, ρ, y => r.put ρ y
  | _, _, _, .v u _ _ r, ρ, y => u.inv.set (r.put (u.set ρ ()) y.2) y.1
def AR {k0 : Kd} : {Γ Γ' : List Sl} → {as : List Ar} → Ups k0 Γ as Γ' → St → Hp → List V → DEnv (ds as) → Prop
  | _, _, _, .nil, _, _, vs, _ => vs = []
  | _, _, _, .d (c := c) r, σ, F, vs, x => ∃ v vs', vs = v :: vs' ∧ c.rel F v x.1 ∧ AR r σ F vs' x.2
  | _, _, _, .v (i := i) _ _ _ r, σ, F, vs, x => ∃ v vs', vs = v :: vs' ∧ σ[i]? = some (some v) ∧ AR r σ F vs' x
theorem AR.ext {k0 : Kd} {F F' : Hp} (e : Ex F F') : ∀ {Γ Γ' : List Sl} {as : List Ar} (s : Ups k0 Γ as Γ') {σ : St} {vs : List V} {x : DEnv (ds as)}, AR s σ F vs x → AR s σ F' vs x
  | _, _, _, .nil, _, _, _, h => h
  | _, _, _, .d (c := c) r, σ, vs, x, h => let ⟨v, vs', e1, h1, h2⟩ := h; ⟨v, vs', e1, c.ext h1 e, AR.ext e r h2⟩
  | _, _, _, .v _ _ _ r, σ, vs, x, h => let ⟨v, vs', e1, h1, h2⟩ := h; ⟨v, vs', e1, h1, AR.ext e r h2⟩
section
variable {E : XK} {XC : Str → Value} {Γ Γ' : List Sl} {c a : DCod} {m : Cod} {as : List Ar} {k0 k : Kd} {i : Nat} {tA : TA} {te : TE}
end
end PuX
set_option Elab.async false
set_option linter.all false
set_option maxRecDepth 100000
set_option maxHeartbeats 4000000
namespace PuX
open PySem L2 Evl Pu
section
variable {p : Bool} {E : XK} {XC : Str → Value} {Rt : Ret} {Γ Γ' Γ1 Γ2 ΓL : List Sl} {te : TE} {ts us : TS} {c : DCod} {k : Kd} {i : Nat} {K : PySem.W.Frag}
/-! ### list(xs), xs a list that changes -/
/-! ### a local list that is not changed any more becomes data -/
def StE0 (E : XK) (XC : Str → Value) (Rt : Ret) (Γ : List Sl) (ts : TS) (Γ' ΓL : List Sl) (T : (R : Type) → (Env Γ' → Pu.Res R) → (Rt.r.α → Rt.P → Pu.Res R) → (Env ΓL → Pu.Res R) → (Env ΓL → Pu.Res R) → Env Γ → Pu.Res R) : Prop :=
  ∀ (B : Base) (σ : St) (F H : Hp) (ρ : Env Γ), B.N = [] → SInv B Γ σ F H ρ → ∀ (R : Type) (G : Pu.Res R → Prop), Rs E XC B G → ∀ (nx : Env Γ' → Pu.Res R) (rt : Rt.r.α → Rt.P → Pu.Res R) (bk ct : Env ΓL → Pu.Res R) (D : Ends), G (T R nx rt bk ct ρ) →
    (∀ ρ' σ' F' H', SInv B Γ' σ' F' H' ρ' → Ex F F' → G (nx ρ') → D.nx σ' H') → (∀ x y v F' H', Rt.ok B F' H' v y → Rt.r.rel F' v x → G (rt x y) → D.rt v H') →
    (∀ ρ' σ' F' H', SInv B ΓL σ' F' H' ρ' → Ex F F' → G (bk ρ') → D.bk σ' H') → (∀ ρ' σ' F' H', SInv B ΓL σ' F' H' ρ' → Ex F F' → G (ct ρ') → D.ct σ' H') → ts D σ H
theorem st_of {T : (R : Type) → (Env Γ' → Pu.Res R) → (Rt.r.α → Rt.P → Pu.Res R) → (Env ΓL → Pu.Res R) → (Env ΓL → Pu.Res R) → Env Γ → Pu.Res R} (h : StE E XC Rt Γ ts Γ' ΓL T) : StE0 E XC Rt Γ ts Γ' ΓL T :=
  fun B σ F H ρ _ I R G hG nx rt bk ct D g qn qr qb qc => h B σ F H ρ I R G hG nx rt bk ct D g qn qr qb qc
theorem st_seq0 {T : (R : Type) → (Env Γ1 → Pu.Res R) → (Rt.r.α → Rt.P → Pu.Res R) → (Env ΓL → Pu.Res R) → (Env ΓL → Pu.Res R) → Env Γ → Pu.Res R} {U : (R : Type) → (Env Γ' → Pu.Res R) → (Rt.r.α → Rt.P → Pu.Res R) → (Env ΓL → Pu.Res R) → (Env ΓL → Pu.Res R) → Env Γ1 → Pu.Res R}
    (h : StE E XC Rt Γ ts Γ1 ΓL T) (h2 : StE0 E XC Rt Γ1 us Γ' ΓL U) : StE0 E XC Rt Γ (tSeq ts us) Γ' ΓL (fun R nx rt bk ct ρ => T R (fun ρ => U R nx rt bk ct ρ) rt bk ct ρ) := fun B σ F H ρ hN I R G hG nx rt bk ct D g qn qr qb qc =>
  h B σ F H ρ I R G hG _ rt bk ct { D with nx := us D } g (fun ρ' σ' F' H' I' e' g' => h2 B σ' F' H' ρ' hN I' R G hG nx rt bk ct D g' (fun ρ2 σ2 F2 H2 I2 e2 g2 => qn ρ2 σ2 F2 H2 I2 (e'.trans e2) g2) qr (fun ρ2 σ2 F2 H2 I2 e2 g2 => qb ρ2 σ2 F2 H2 I2 (e'.trans e2) g2) (fun ρ2 σ2 F2 H2 I2 e2 g2 => qc ρ2 σ2 F2 H2 I2 (e'.trans e2) g2)) qr qb qc
theorem frzL {F H : Hp} : ∀ {Γ Γ1 : List Sl} {i : Nat} (u : Up Γ i (.m .lo (mLst c)) (.da (dLst c)) Γ1) {τ σ : St} {L : Fps} {ρ : Env Γ}, SRel Γ τ σ F H L ρ → ∃ l vs L1 L2, L = L1 ++ [(Kd.lo, l)] ++ L2 ∧ H l = some (.lst vs) ∧
    ∀ F1, Ex F F1 → F1 l = some (.lst vs) → SRel Γ1 τ σ F1 H (L1 ++ L2) (u.set ρ (u.old ρ))
  | _, _, _, .z, τ, σ, L, ρ, ⟨v, σ', fp, L', e, e2, e3, r, h⟩ => by
    obtain ⟨l, vs, rfl, rfl, hl, pv, hz⟩ := r
    exact ⟨l, vs, [], L', e3, hl, fun F1 eF h1 => ⟨.ref l, σ', e, ⟨l, vs, rfl, h1, pv.ext eF, hz⟩, h.ext eF fun _ _ _ => rfl⟩⟩
  | .no :: Γ, _, _, .s u, τ, σ, L, ρ, ⟨w, σ', e, h⟩ => by
    obtain ⟨l, vs, L1, L2, h1, h2, h3⟩ := frzL u h
    exact ⟨l, vs, L1, L2, h1, h2, fun F1 eF g => ⟨w, σ', e, h3 F1 eF g⟩⟩
  | .da c' :: Γ, _, _, .s u, τ, σ, L, ρ, ⟨w, σ', e, hr, h⟩ => by
    obtain ⟨l, vs, L1, L2, h1, h2, h3⟩ := frzL u h
    exact ⟨l, vs, L1, L2, h1, h2, fun F1 eF g => ⟨w, σ', e, c'.ext hr eF, h3 F1 eF g⟩⟩
  | .m k' c' :: Γ, _, _, .s u, τ, σ, L, ρ, ⟨w, σ', fp0, L0, e, e2, e3, hr, h⟩ => by
    obtain ⟨l, vs, L1, L2, h1, h2, h3⟩ := frzL u h
    refine ⟨l, vs, tag k' fp0 ++ L1, L2, by rw [e3, h1]; simp [List.append_assoc], h2, fun F1 eF g => ⟨w, σ', fp0, L1 ++ L2, e, e2, by rw [List.append_assoc], c'.ext hr eF fun _ _ => rfl, h3 F1 eF g⟩⟩
theorem SInv.frzL {B : Base} {σ : St} {F H : Hp} {ρ : Env Γ} (hN : B.N = []) (I : SInv B Γ σ F H ρ) (u : Up Γ i (.m .lo (mLst c)) (.da (dLst c)) Γ1) : ∃ F1, Ex F F1 ∧ SInv B Γ1 σ F1 H (u.set ρ (u.old ρ)) := by
  obtain ⟨L, r, w⟩ := I
  obtain ⟨l, vs, L1, L2, h1, h2, h3⟩ := PuX.frzL u r
  subst h1
  have hm : (Kd.lo, l) ∈ L1 ++ [(Kd.lo, l)] ++ L2 := by simp
  obtain ⟨f0, _⟩ := w.fr _ l hm
  have hs : (L1 ++ L2).Sublist (L1 ++ [(Kd.lo, l)] ++ L2) := by
    rw [List.append_assoc]
    exact List.Sublist.append (List.Sublist.refl _) (List.sublist_append_right _ _)
  have w2 := w.sub hs
  have hne : ∀ k a, (k, a) ∈ L1 ++ L2 → a ≠ l := fun k a ha e => by
    subst e
    have nd := w.nd
    rw [List.map_append, List.map_append] at nd
    have n1 := List.nodup_append.mp nd
    have n2 := List.nodup_append.mp n1.1
    rcases List.mem_append.mp ha with ha | ha
    · exact n2.2.2 a (List.mem_map.mpr ⟨_, ha, rfl⟩) a (by simp) rfl
    · exact n1.2.2 a (by simp) a (List.mem_map.mpr ⟨_, ha, rfl⟩) rfl
  have eF : Ex F (upd F l (.lst vs)) := Ex.new f0
  refine ⟨upd F l (.lst vs), eF, L1 ++ L2, h3 _ eF upd_same, w2.nd, fun k a ha => ?_, fun a o e => ?_, w.bf.trans eF, w.keep, w.there, fun a o e => ?_, w2.own, w2.loc, w2.con⟩
  · obtain ⟨g1, g2⟩ := w2.fr k a ha
    exact ⟨by rw [upd_ne (hne k a ha)]; exact g1, g2⟩
  · by_cases hb : a = l
    · subst hb; rw [upd_same] at e; cases e; exact h2
    · rw [upd_ne hb] at e; exact w.fh a o e
  · by_cases hb : a = l
    · subst hb
      rcases w.loc a hm with z | z
      · rw [hN] at z; cases z
      · exact .inr z
    · rw [upd_ne hb] at e; exact w.new a o e
theorem st_frz0 (u : Up Γ i (.m .lo (mLst c)) (.da (dLst c)) Γ1) {T : (R : Type) → (Env Γ' → Pu.Res R) → (Rt.r.α → Rt.P → Pu.Res R) → (Env ΓL → Pu.Res R) → (Env ΓL → Pu.Res R) → Env Γ1 → Pu.Res R} (h : StE0 E XC Rt Γ1 ts Γ' ΓL T) :
    StE0 E XC Rt Γ ts Γ' ΓL (fun R nx rt bk ct ρ => T R nx rt bk ct (u.set ρ (u.old ρ))) := fun B σ F H ρ hN I R G hG nx rt bk ct D g qn qr qb qc => by
  obtain ⟨F1, eF, I1⟩ := SInv.frzL hN I u
  exact h B σ F1 H _ hN I1 R G hG nx rt bk ct D g (fun ρ2 σ2 F2 H2 I2 e2 g2 => qn ρ2 σ2 F2 H2 I2 (eF.trans e2) g2) qr (fun ρ2 σ2 F2 H2 I2 e2 g2 => qb ρ2 σ2 F2 H2 I2 (eF.trans e2) g2) (fun ρ2 σ2 F2 H2 I2 e2 g2 => qc ρ2 σ2 F2 H2 I2 (eF.trans e2) g2)
theorem run_D0 {cs : List DCod} {N : List Str} {n : Nat} (hN : N.length = cs.length + n) {f : DEnv cs → Pu.Res c.α} {Γe : List Sl} {T : (R : Type) → (Env Γe → Pu.Res R) → (c.α → Unit → Pu.Res R) → (Env [] → Pu.Res R) → (Env [] → Pu.Res R) → Env (slots0 cs n) → Pu.Res R} (h : StE0 E XC (retD c) (slots0 cs n) ts Γe [] T)
    (hf : ∀ x, T c.α (fun _ => .bad) (fun z _ => .ok z) (fun _ => .bad) (fun _ => .bad) (env0 cs n x) = f x) (vs : List V) (H : Hp) (Q : VK) (hsp : spD XC cs c f vs H Q E) : ts { nx := fun _ H' => Q .non H', rt := Q } (L2.start N vs) H := by
  obtain ⟨F, x, e, r, hb, hq, hx⟩ := hsp
  have hl := r.len
  rw [start_eq (n := n) (by rw [hl]; exact hN)]
  refine h ⟨F, H, [], [], [], vs.map some ++ List.replicate n none⟩ _ F H (env0 cs n x) rfl ⟨[], rel0 cs n _ r, wd0 e (by simp) (by simp) (by simp) (by simp) (by simp)⟩ c.α (fun z => z = f x) ⟨fun z => hb z.symm, fun nm H' z fr => hx nm z.symm H' fun a o ha => fr a o ha (by simp) (by simp)⟩ _ _ _ _ _ (hf x) ?_ ?_ ?_ ?_
  · intro ρ' σ' F' H' _ _ z; exact absurd z.symm hb
  · intro z y v F' H' ho rv z2
    exact hq z z2.symm v F' H' (ho rfl rfl) rv
  · intro ρ' σ' F' H' _ _ z; exact absurd z.symm hb
  · intro ρ' σ' F' H' _ _ z; exact absurd z.symm hb
end
/-! ### len(set(xs)), xs a list of whole numbers -/
section
variable {p : Bool} {E : XK} {XC : Str → Value} {K : PySem.W.Frag} {Γ : List Sl} {te : TE}
end
end PuX
namespace PuX
open PySem L2 Evl Pu
end PuX
namespace PuX
open PySem PySem.Spec PyProof.Rows L2
section
variable {X : Cx}
end
end PuX
set_option Elab.async false
set_option linter.all false
set_option maxRecDepth 100000
set_option maxHeartbeats 4000000
namespace PuX
open PySem PySem.Spec PyProof.Rows L2 Evl Pu
/-! ### sum of a tuple of ints -/
section
variable {prog : Program} {w : World} {A : Around} {E : Value → Shared → Prop} {s : Shared} {l : Addr}
end
section
variable {X : Cx} {K : PySem.W.Frag}
end
end PuX
namespace PuX
open PySem L2 Evl Pu
end PuX
set_option Elab.async false
set_option linter.all false
set_option maxRecDepth 100000
set_option maxHeartbeats 4000000
namespace PuX
open PySem PySem.Spec PyProof.Rows L2 Evl Pu
/-! ### set(xs), xs a list of whole numbers; sorted of it -/
section
variable {P : Program} {w : World} {A : Around} {E : Value → Shared → Prop} {s : Shared}
set_option maxHeartbeats 3200000 in
end
def rSetL (K : PySem.W.Frag) (w : World) : List V → Hp → VK → Prop := fun vs H Q => ∃ (l : Addr) (ns : List Int), vs = [V.ref l] ∧ SqL K H l (ns.map V.int) ∧ ns.length < 64 ∧
  ∀ (a : Addr) (c : Nat), H a = none → c ≤ ns.length → Q (.ref a) (upd H a (SetO w a (fun j => decide (j ∈ ns)) c))
section
variable {p : Bool} {E : XK} {XC : Str → Value} {K : PySem.W.Frag} {P : Program} {w : World} {Γ : List Sl} {te : TE}
end

/-! ### t * n, t a tuple, n two or more -/
end PuX
set_option Elab.async false
set_option linter.all false
set_option maxRecDepth 100000
set_option maxHeartbeats 4000000
/-! zip of two, lists and tuples -/
namespace PuX
open PySem PySem.Spec PyProof.Rows L2 Evl Pu PuU
theorem cell5 {α : Type} {c z TI TO i1 i2 : α} (h : c ∈ [z, TI, TO, i1, i2]) : c = z ∨ c = TI ∨ c = TO ∨ c = i1 ∨ c = i2 := by simpa using h

def ItzLT (K : PySem.W.Frag) (a b : Addr) : It :=
  ⟨fun i H => ∃ xs ys : List V, SqL K H a xs ∧ SqT K H b ys ∧ i < xs.length ∧ i < ys.length,
    fun i H v H' => ∃ T x y, v = .ref T ∧ H T = none ∧ H' = upd H T (.tup [x, y]) ∧ (∀ xs, SqL K H a xs → xs[i]? = some x) ∧ ∀ ys, SqT K H b ys → ys[i]? = some y,
    fun i H => ∃ xs ys : List V, SqL K H a xs ∧ SqT K H b ys ∧ i ≤ xs.length ∧ i ≤ ys.length ∧ (i = xs.length ∨ i = ys.length)⟩
theorem turn_zipLT {P : Program} {w : World} {K : PySem.W.Frag} {elts : List Expr} {kk : Nat} {tpos : Pos} {a b z TI TO i1 i2 : Addr} (S : ZipSep2 z TI TO i1 i2 [i1, a] [i2, b]) (na : a ≠ i1) (nb : b ≠ i2) :
    Turn P w K (.Tuple elts kk tpos) (ItzLT K a b) [z, TI, TO, i1, i2] z (fun i h => IsZip h z TI TO .none ∧ IsTupOf2 h TI (.ref i1) (.ref i2) ∧ (∃ x y, IsTupOf2 h TO x y) ∧ h.IsListIter i1 a i ∧ h.IsTupleIter i2 b i) where
  mem := by simp
  obj := fun i h ⟨hz, hTI, ⟨_, _, hTO⟩, ⟨o1, e1, _, d1⟩, ⟨o2, e2, _, d2⟩⟩ d hd => by
    rcases cell5 hd with q | q | q | q | q
    · rw [q]; exact ⟨_, hz, fun v q => nomatch q⟩
    · rw [q]; exact ⟨_, hTI, fun v q => nomatch q⟩
    · rw [q]; exact ⟨_, hTO, fun v q => nomatch q⟩
    · rw [q]; exact ⟨o1, e1, fun v q => by rw [d1] at q; cases q⟩
    · rw [q]; exact ⟨o2, e2, fun v q => by rw [d2] at q; cases q⟩
  keep := fun i h h' ⟨hz, hTI, ⟨x, y, hTO⟩, h1, h2⟩ k => ⟨k z (by simp) _ hz, k TI (by simp) _ hTI, ⟨x, y, k TO (by simp) _ hTO⟩, h1.at fun o q => k i1 (by simp) o q, h2.at fun o q => k i2 (by simp) o q⟩
  item := fun X hP hw hK hc i pins s σ H E I hf ⟨hz, hTI, ⟨_, _, hTO⟩, h1, h2⟩ ⟨xs, ys, qx, qy, l1, l2⟩ => by
    subst hP hw hK
    obtain ⟨ux, rx, px, _⟩ := I.list qx
    obtain ⟨uy, ry, py, _⟩ := I.tuple qy
    have hh := I.ok.hd hc
    have D1 := Draws.list (prog := X.prog) (w := X.w) (A := X.A.in1) hh i1 a na ux.toArray
    have D2 := Draws.tuple (prog := X.prog) (w := X.w) (A := X.A.in1) hh i2 b nb uy.toArray
    have n1 := rx.length
    have n2 := ry.length
    have zl := Heap.lt_size hz
    refine wpAny_pyNext_zipD2_item S D1 D2 hz hTI hTO ⟨h1, px.isList⟩ ⟨h2, py⟩ (by simp; omega) (by simp; omega) fun x1 x2 h' tk e1 e2 z' TO' s1 s2 hT hsz hk => ⟨_, rfl, ?_⟩
    refine wpAny_letOwnedTupleGo_zip (s := { s with heap := h', toks := tk }) z' fun h'' z'' sb => ?_
    obtain ⟨x, hx, r1⟩ : ∃ x, xs[i]? = some x ∧ RelV x x1 := by
      obtain ⟨u, hu, r⟩ := rx.get (List.getElem?_eq_getElem l1)
      refine ⟨_, List.getElem?_eq_getElem l1, ?_⟩
      have : ux[i]? = some x1 := by simpa using e1
      rw [hu] at this
      cases this
      exact r
    obtain ⟨y, hy, r2⟩ : ∃ x, ys[i]? = some x ∧ RelV x x2 := by
      obtain ⟨u, hu, r⟩ := ry.get (List.getElem?_eq_getElem l2)
      refine ⟨_, List.getElem?_eq_getElem l2, ?_⟩
      have : uy[i]? = some x2 := by simpa using e2
      rw [hu] at this
      cases this
      exact r
    have hT2 : h''.get? s.heap.objs.size = some { cls := .type "tuple", data := .seq #[x1, x2] } := (sb.2 _ (Nat.ne_of_gt zl)).trans hT
    have I1 : Inv X pins σ (upd H s.heap.objs.size (.tup [x, y])) { s with heap := h'', toks := tk } :=
      I.turnedNew (t' := tk) (ch := [z, TI, TO, i1, i2]) (fun d o hb q => by
        simp only [List.mem_cons, List.not_mem_nil, or_false, not_or] at hb
        exact (sb.2 d hb.1).trans (hk d o hb.1 hb.2.2.1 hb.2.2.2.1 hb.2.2.2.2 q)) hf (Nat.le_refl _) ⟨by show 2 ≤ sizeLine; decide, [x1, x2], .cons r1 (.cons r2 .nil), ⟨_, hT2, rfl, _, rfl⟩⟩
    refine ⟨.ref s.heap.objs.size, _, I1, rfl, ⟨_, x, y, rfl, I.hok.fresh (Nat.le_refl _), rfl, fun l hl => by rw [I.list_inj hl qx]; exact hx, fun l hl => by rw [I.tuple_inj hl qy]; exact hy⟩,
      ⟨z'', (sb.2 _ S.TIz).trans (hk _ _ S.TIz S.TITO S.TIi1 S.TIi2 hTI), ⟨x1, x2, (sb.2 _ S.TOz).trans TO'⟩, s1.1.at fun o q => (sb.2 _ (Ne.symm S.zi1)).trans q, s2.1.at fun o q => (sb.2 _ (Ne.symm S.zi2)).trans q⟩, fun d hd => ?_⟩
    have hlt : d < s.heap.objs.size := by
      rcases cell5 hd with q | q | q | q | q
      · rw [q]; exact zl
      · rw [q]; exact Heap.lt_size hTI
      · rw [q]; exact Heap.lt_size hTO
      · rw [q]; obtain ⟨_, e, _⟩ := h1; exact Heap.lt_size e
      · rw [q]; obtain ⟨_, e, _⟩ := h2; exact Heap.lt_size e
    rw [upd_ne (Nat.ne_of_lt hlt)]
    exact (hf d hd).1
  done := fun X hP hw hK hc i pins s σ H E I hf ⟨hz, hTI, ⟨_, _, hTO⟩, h1, h2⟩ ⟨xs, ys, qx, qy, l1, l2, hend⟩ => by
    subst hP hw hK
    obtain ⟨ux, rx, px, _⟩ := I.list qx
    obtain ⟨uy, ry, py, _⟩ := I.tuple qy
    have hh := I.ok.hd hc
    have D1 := Draws.list (prog := X.prog) (w := X.w) (A := X.A.in1) hh i1 a na ux.toArray
    have D2 := Draws.tuple (prog := X.prog) (w := X.w) (A := X.A.in1) hh i2 b nb uy.toArray
    have n1 := rx.length
    have n2 := ry.length
    refine wpAny_pyNext_zipD2_end S D1 D2 hz hTI hTO ⟨h1, px.isList⟩ ⟨h2, py⟩ (by simp; omega) (by simp; omega) (by simp; omega) fun h' tk hk => ⟨rfl, I.turnedL (t' := tk) (ch := [z, TI, TO, i1, i2]) (fun d o hb q => ?_) hf⟩
    simp only [List.mem_cons, List.not_mem_nil, or_false, not_or] at hb
    exact hk d o hb.1 hb.2.2.1 hb.2.2.2.1 hb.2.2.2.2 q
  self := fun A i s Q E st h => wpAny_pyIter_zip st.1 h
def iZipLT (K : PySem.W.Frag) (ta : TA) : TI := fun σ H R => ta σ H fun vs H1 => ∃ (a b : Addr) (xs ys : List V), vs = [.ref a, .ref b] ∧ SqL K H1 a xs ∧ SqT K H1 b ys ∧ R (ItzLT K a b) H1
theorem pi_zipLT {X : Cx} {K : PySem.W.Frag} {e e2 : Expr} {ta : TA} {p pos tpos : Pos} {elts : List Expr} {kk : Nat} (hg : Gl X "zip") (hm : X.mg "zip" = none) (ha : PA X [e, e2] ta)
    (hs : starEach [e, e2] X.env = (false, eval e X.env) :: starEach [e2] X.env := by rfl) (hpl : (backTo pos (starEach [e2] X.env)).any (·.1) = false := by rfl) (hK : X.K = K := by rfl) :
    PI X (.Tuple elts kk tpos) (.Call (.Name "zip" p) [e, e2] [] pos) (iZipLT K ta) := by
  subst hK
  refine ⟨fun pins s σ H R I h => Call_ (ld_blt I hg hm PyProof.Rows.boot_zip (PyProof.Rows.callWith_type1 (thn (ha.run pos pins s σ H _ I h) fun us s1 ⟨vs, H1, I1, r1, a, b, xs, ys, ex, qx, qy, q⟩ => ?_) hs hpl))⟩
  subst ex
  obtain ⟨u1, us1, rfl, r1a, r1⟩ : ∃ u us', us = u :: us' ∧ RelV (.ref a) u ∧ Vals [V.ref b] us' := by cases r1 with | cons r t => exact ⟨_, _, rfl, r, t⟩
  obtain rfl := Vals.ref1 r1
  obtain rfl : u1 = Value.ref a := r1a
  obtain ⟨ux, rx, px, _⟩ := I1.list qx
  obtain ⟨uy, ry, py, _⟩ := I1.tuple qy
  have la : a < s1.heap.objs.size := px.lt
  have lb : b < s1.heap.objs.size := (let ⟨_, e, _⟩ := py; Heap.lt_size e)
  refine zip_begins2 (begins_list a ux.toArray) (begins_tuple b uy.toArray) px.isList py fun h' hz hTI hTO g1 g2 hsz hk => wpAny_pyIter_zip hz ?_
  have I2 : Inv X pins σ H1 { s1 with heap := h' } := I1.kept (t' := s1.toks) hk
  refine ⟨s1.heap.objs.size + 4, [s1.heap.objs.size + 4, s1.heap.objs.size + 2, s1.heap.objs.size + 3, s1.heap.objs.size, s1.heap.objs.size + 1], _, _, H1, rfl, I2,
    turn_zipLT (zip_sep2 (fp1 := [a]) (fp2 := [b]) (fun d hd => by rw [List.mem_singleton.mp hd]; exact la) (fun d hd => by rw [List.mem_singleton.mp hd]; exact lb)) (Nat.ne_of_lt la) (Nat.ne_of_lt (Nat.lt_succ_of_lt lb)),
    ⟨hz, hTI, ⟨_, _, hTO⟩, ⟨_, g1, rfl, rfl⟩, ⟨_, g2, rfl, rfl⟩⟩, fun d hd => ?_, q⟩
  have hle : s1.heap.objs.size ≤ d := by
    rcases cell5 hd with q | q | q | q | q
    all_goals (rw [q]; first | exact Nat.le_refl _ | exact Nat.le_add_right _ _)
  exact I1.fpOk hle (I1.hok.fresh hle)
theorem ei_zipLT {p : Bool} {E : XK} {XC : Str → Value} {K : PySem.W.Frag} {Γ : List Sl} {tA : TA} {a b : DCod} {T : (R : Type) → (DEnv [dLst a, dTup b] → Env Γ → Pu.Res R) → Env Γ → Pu.Res R} (h : EvA p E XC Γ tA [dLst a, dTup b] T) :
    EvI p E XC Γ (iZipLT K tA) (dP2 a b) (fun R k ρ => T R (fun x ρ => k (List.zip (α := a.α) (β := b.α) x.1 x.2.1) ρ) ρ) := fun B σ F H ρ I R G hG k Q g qq =>
  h B σ F H ρ I R G hG _ _ g fun x ρ' vs F' H' I' e r g' => by
    obtain ⟨v1, vs1, rfl, r1, v2, vs2, rfl, r2, r3⟩ := r
    have r3 : vs2 = [] := r3
    subst r3
    obtain ⟨l1, us, rfl, h1, p1, z1⟩ := r1
    obtain ⟨l2, ws, rfl, h2, p2, z2⟩ := r2
    have n1 := p1.length
    have n2 := p2.length
    have W : Walks (ItzLT K l1 l2) (dP2 a b) (List.zip (α := a.α) (β := b.α) x.1 x.2.1) F' := ⟨fun i H2 v H3 => ∃ T x y, v = .ref T ∧ H2 T = none ∧ H3 = upd H2 T (.tup [x, y]) ∧ us[i]? = some x ∧ ws[i]? = some y,
      ⟨fun i H2 hi q => ⟨us, ws, SqL.of (q l1 _ h1), SqT.rd q h2, by rw [List.length_zip] at hi; omega, by rw [List.length_zip] at hi; omega⟩,
       fun H2 q => ⟨us, ws, SqL.of (q l1 _ h1), SqT.rd q h2, by rw [List.length_zip]; omega, by rw [List.length_zip]; omega, by rw [List.length_zip]; omega⟩,
       fun i H2 v H3 hi q y => by
        obtain ⟨T, x, y, e1, e2, e3, e4, e5⟩ := y
        exact ⟨T, x, y, e1, e2, e3, e4 _ (SqL.of (q l1 _ h1)), e5 _ (SqT.rd q h2)⟩⟩,
      fun i H2 v H3 F1 y e1 e2 => by
        obtain ⟨T, x, y, rfl, hT, rfl, hx, hy⟩ := y
        obtain ⟨x', hx', rx⟩ := p1.get' hx
        obtain ⟨y', hy', ry⟩ := p2.get' hy
        have P1 := Pext.one (o := .tup [x, y]) e2 hT
        refine ⟨_, (x', y'), ?_, P1, T, x, y, rfl, upd_same, a.ext rx (e1.trans P1.ff), b.ext ry (e1.trans P1.ff)⟩
        rw [List.getElem?_zip_eq_some]
        exact ⟨hx', hy'⟩⟩
    exact ⟨l1, l2, us, ws, rfl, SqL.of (I'.fh l1 _ h1), SqT.rd I'.fh h2, qq _ ρ' _ F' H' I' e W g' (by rw [List.length_zip]; have z1 : List.length (α := a.α) x.1 ≤ sizeLine := z1; omega)⟩

end PuX
set_option Elab.async false
set_option linter.all false
set_option maxRecDepth 100000
set_option maxHeartbeats 4000000
/-! a dict comprehension whose keys are pairs of whole numbers; d[x, y] -/
namespace PuX
open PySem PySem.Spec L2
open PyProof.Rows hiding St
section
variable {X : Cx}
end
end PuX
namespace PuX
open PySem L2 Evl Pu
section
variable {J : It} {n : Nat} {G : Hp → Prop} {Y : Nat → Hp → V → Hp → Prop}
end
section
variable {p : Bool} {E : XK} {XC : Str → Value} {Rt : Ret} {K : PySem.W.Frag} {Γ Γ' Γ0 Γ1 Γ2 ΓL Γf : List Sl} {te tk tv ta tb tc : TE} {tt tu : TT} {tA : TA} {ti : TI} {tg : TG} {a b c d : DCod}
end
end PuX
set_option Elab.async false
set_option linter.all false
set_option maxRecDepth 100000
set_option maxHeartbeats 4000000
namespace PuX
open PySem PySem.Spec PyProof.Rows L2 Evl Pu
/-! ### sorted(xs, key=lambda x: 0 - 1 if x is None else x) -/
section
variable {prog : Program} {w : World} {A : Around} {E : Value → Shared → Prop} {s : Shared} {env : PySem.Env} {a : Str} {m : Str → Option Value} {v : Value} {j1 j2 j3 : Nat} {p1 p2 p3 p4 p5 p6 p7 p8 : Pos}
end
section
variable {prog : Program} {w : World} {A : Around} {s : Shared} {a : Str} {f c' : Addr} {q : Str} {params : Arguments} {scope : Scope} {pm ctv v : Value} {x : V} {j1 j2 j3 : Nat} {p1 p2 p3 p4 p5 p6 p7 p8 : Pos}
end
end PuX
namespace PuX
open PySem PySem.Spec PyProof.Rows L2 Evl Pu
section
variable {X : Cx} {a : Str} {q : Str} {params : Arguments} {scope : Scope} {j1 j2 j3 k : Nat} {p1 p2 p3 p4 p5 p6 p7 p8 : Pos}
end
section
variable {p : Bool} {E : XK} {XC : Str → Value} {K : PySem.W.Frag} {Γ : List Sl} {te : TE} {P : Addr} {q : Str} {j : Nat} {d : LamD}
def vOpt : Option Int → V
  | some i => .int i
  | none => .non
end
end PuX
set_option Elab.async false
set_option linter.all false
set_option maxRecDepth 100000
set_option maxHeartbeats 4000000
namespace PuX
open PySem PySem.Spec PyProof.Rows L2 Evl Pu
/-! ### min(xs, key=lambda x: ys[x]), ys a list of the def's own that changes -/
def keyAt (ys : List (Option Int)) (x : Int) : Option Int := if 0 ≤ x then (ys[x.toNat]?).getD none else none
def minKey (ys : List (Option Int)) (xs : List Int) : Option Int :=
  if xs.all fun x => (keyAt ys x).isSome then xs.find? fun x => xs.all fun y => decide ((keyAt ys x).getD 0 ≤ (keyAt ys y).getD 0) else none
section
variable {prog : Program} {w : World} {A : Around} {s : Shared} {a b : Str} {f c' c l : Addr} {q : Str} {params : Arguments} {scope : Scope} {cells : List (Str × Addr)} {pm ctv : Value} {its : List Value} {k n : Int} {t tn : Tok} {p1 p2 p3 : Pos}
end
section
variable {X : Cx} {pins : List (Addr × Obj)} {σ : L2.St} {H : Hp} {s : Shared}
end
section
variable {X : Cx} {pins : List (Addr × Obj)} {σ : L2.St} {H : Hp} {s : Shared} {a b : Str} {f c' l lb : Addr} {q : Str} {params : Arguments} {scope : Scope} {pm ctv : Value} {xs : List Int} {ys : List (Option Int)} {j k : Nat} {m0 : Int} {p1 p2 p3 : Pos} {Q : VK}
end
def rMin (K : PySem.W.Frag) (q : Str) (d : LamD) (cells : List (Str × Addr)) (j : Nat) (σ : L2.St) (vs : List V) (w : V) (H2 : Hp) (Q : VK) : Prop := ∃ (l lb f c' : Addr) (xs : List Int) (ys : List (Option Int)) (pm ctv : Value) (m0 : Int), vs = [V.ref l] ∧ w = V.ref f ∧ SqL K H2 l (xs.map V.int) ∧
  H2 f = some (FunO f (lamObj q d cells pm c' ctv)) ∧ H2 c' = some (LamX.CodeO c' q) ∧ σ[j]? = some (some (V.ref lb)) ∧ SqL K H2 lb (ys.map vOpt) ∧ minKey ys xs = some m0 ∧ Q (.int m0) H2
section
variable {X : Cx} {a b : Str} {q : Str} {params : Arguments} {scope : Scope} {j k : Nat} {p1 p2 p3 : Pos}
end
section
variable {E : XK} {XC : Str → Value} {K : PySem.W.Frag} {Γ : List Sl} {te : TE} {P : Addr} {q : Str} {jt j : Nat} {d : LamD} {cells : List (Str × Addr)} {kd : Kd}
end
end PuX
set_option Elab.async false
set_option linter.all false
set_option maxRecDepth 100000
set_option maxHeartbeats 4000000
namespace PuX
open PySem L2 Evl Pu
/-! ### a def to which the table of some def's code objects is handed on unseen, behind its arguments -/
section
variable {E : XK} {XC : Str → Value} {c : DCod} {as : List Ar} {ts : TS} {P : Addr} {k : Nat}
end
section
variable {E : XK} {XC : Str → Value} {Γ Γ' : List Sl} {c a : DCod} {m : Cod} {as : List Ar} {k0 k : Kd} {i : Nat} {tA : TA} {te : TE} {P : Addr} {q : Str}
end
end PuX
set_option Elab.async false
set_option linter.all false
set_option maxRecDepth 100000
set_option maxHeartbeats 4000000
namespace PuX
open PySem PySem.Spec PyProof.Rows L2 Evl Pu
/-! ### the law with two tables of code objects: its own, and that of a def of the program -/
end PuX
set_option Elab.async false
set_option linter.all false
set_option maxRecDepth 100000
set_option maxHeartbeats 4000000
/-! for k, (x, y) in enumerate(zip(a, b)) with tuples a, b: the zip's pair lies in the enumerate's, so the zip may find its own tuple still out, or gone -/
namespace PuX
open PySem PySem.W
abbrev ZipF (h : Heap) (z TI TO : Addr) (v : Value) (f : Bool) : Prop :=
  h.get? z = some { cls := .type "zip", dict := none, data := .fields #[v, .bool f, .bool false, .ref TI, .ref TO], slots := #[] }
section
variable {prog : Program} {w : World} {A : Around} {E : Value → Shared → Prop} {s : Shared} {z TI TO T i1 i2 : Addr} {fp1 fp2 : List Addr} {n1 n2 i : Nat} {P1 P2 : Nat → Value → Prop} {St1 St2 : Nat → Heap → Prop} {f : Bool} {v a1 a2 : Value}
structure ZE (z TI TO i1 i2 : Addr) (St1 St2 : Nat → Heap → Prop) (i : Nat) (h : Heap) : Prop where
  zz : ∃ v f, ZipF h z TI TO v f ∧ (v = .none ∨ ∃ T : Addr, v = rawInt T)
  ti : IsTupOf2 h TI (.ref i1) (.ref i2)
  to : ∃ a1 a2, IsTupOf2 h TO a1 a2
  s1 : St1 i h
  s2 : St2 i h
end
end PuX
set_option Elab.async false
set_option linter.all false
set_option maxRecDepth 100000
set_option maxHeartbeats 4000000
namespace PuX
open PySem PySem.W
section
variable {prog : Program} {w : World} {A : Around} {E : Value → Shared → Prop} {s : Shared} {e z TI TO T i1 i2 : Addr} {fp1 fp2 : List Addr} {n1 n2 i : Nat} {P1 P2 : Nat → Value → Prop} {St1 St2 : Nat → Heap → Prop} {old : Value}
theorem ZE.lt (Z : ZE z TI TO i1 i2 St1 St2 i s.heap) : z < s.heap.objs.size := let ⟨_, _, h, _⟩ := Z.zz; Heap.lt_size h
theorem ZE.keep {h h' : Heap} (S : ZipSep2 z TI TO i1 i2 fp1 fp2) (D1 : Draws prog w A i1 fp1 n1 P1 St1) (D2 : Draws prog w A i2 fp2 n2 P2 St2) (Z : ZE z TI TO i1 i2 St1 St2 i h) (he : e ∉ z :: TI :: TO :: (fp1 ++ fp2)) (k : ∀ b o, b ≠ e → h.get? b = some o → h'.get? b = some o) : ZE z TI TO i1 i2 St1 St2 i h' := by
  simp only [List.mem_cons, List.mem_append, not_or] at he
  obtain ⟨ez, eI, eO, e1, e2⟩ := he
  obtain ⟨⟨v, f, hz, hv⟩, hTI, ⟨a1, a2, hTO⟩, st1, st2⟩ := Z
  exact ⟨⟨v, f, k _ _ (Ne.symm ez) hz, hv⟩, k _ _ (Ne.symm eI) hTI, ⟨a1, a2, k _ _ (Ne.symm eO) hTO⟩, D1.frame _ _ _ st1 fun b hb o q => k b o (fun x => e1 (x ▸ hb)) q, D2.frame _ _ _ st2 fun b hb o q => k b o (fun x => e2 (x ▸ hb)) q⟩
end
open AutoSeq1 (wpAny_loadPart')
end PuX
set_option Elab.async false
set_option linter.all false
set_option maxRecDepth 100000
set_option maxHeartbeats 4000000
namespace PuX
open PySem PySem.Spec PyProof.Rows L2 Evl Pu
end PuX
set_option Elab.async false
set_option linter.all false
set_option maxRecDepth 100000
set_option maxHeartbeats 4000000
/-! a def to which a table is handed on, with a local list that is no more changed from some place on -/
namespace PuX
open PySem PySem.Spec PyProof.Rows L2 Evl Pu
section
variable {E : XK} {XC : Str → Value} {Γ Γ' : List Sl} {c : DCod} {as : List Ar} {P : Addr} {ts : TS} {k : Nat}
end
end PuX
set_option Elab.async false
set_option linter.all false
set_option maxRecDepth 100000
set_option maxHeartbeats 4000000
/-! xs.count(x) of a list of whole numbers, xs[::-1] of a list, one tuple of whole numbers ahead of another -/
namespace PuX
open PySem PySem.Spec PyProof.Rows L2 Evl Pu
section
variable {p : Bool} {E : XK} {XC : Str → Value} {K : PySem.W.Frag} {Γ : List Sl} {ta tb : TE} {c : DCod}
end
end PuX
set_option Elab.async false
set_option linter.all false
set_option maxRecDepth 100000
set_option maxHeartbeats 4000000
/-! max(xs, default=d) of a list of whole numbers -/
namespace PuX
open PySem PySem.Spec PyProof.Rows L2 Evl Pu
section
variable {X : Cx} {K : PySem.W.Frag}
end
section
variable {p : Bool} {E : XK} {XC : Str → Value} {K : PySem.W.Frag} {Γ : List Sl} {te td : TE}
end
end PuX
set_option Elab.async false
set_option linter.all false
set_option maxRecDepth 100000
set_option maxHeartbeats 4000000
namespace PuE
open PySem PySem.Spec PyProof.Rows L2 Evl Pu SrtO Srt
/-! ### sorted of a dict by whole numbers that nobody changes any more; tuple of a pair -/
section
variable {p : Bool} {E : XK} {XC : Str → Value} {K : PySem.W.Frag} {Rt : Ret} {Γ Γ' ΓL : List Sl} {te ta tb tc td : TE} {c a b : DCod} {i : Nat} {k : Kd}
end
end PuE
set_option Elab.async false
set_option linter.all false
set_option maxRecDepth 100000
set_option maxHeartbeats 4000000
namespace Pu
open PySem PySem.Spec PyProof.Rows L2 Evl
/-! ### fields that are dicts by pairs of whole numbers: self.f[a, b], self.f.get((a, b), n), self.f[a, b] = e, self.f[a, b] += e -/
section
variable {p : Bool} {E : XK} {XC : Str → Value} {Rt : Ret} {K : PySem.W.Frag} {Γ ΓL Γf : List Sl} {te tb tx : TE} {c : DCod} {C : Addr} {names : List Str} {i j : Nat} {k : Kd} {f : Str}
end
end Pu
set_option Elab.async false
set_option linter.all false
set_option maxRecDepth 100000
set_option maxHeartbeats 4000000
namespace Pu
open PySem PySem.Spec PyProof.Rows L2 Evl
/-! ### d.setdefault((a, b), x) -/
section
variable {X : Cx} {pins : List (Addr × Obj)} {σ : L2.St} {H : Hp} {s : Shared} {a b : Addr} {r : Value} {d : V} {A : Around} {E : Value → Shared → Prop}
end
section
variable {p : Bool} {E : XK} {XC : Str → Value} {Rt : Ret} {K : PySem.W.Frag} {Γ ΓL Γf : List Sl} {te tb tx : TE} {c : DCod} {C : Addr} {names : List Str} {i j : Nat} {k : Kd} {f : Str}
end
end Pu
set_option Elab.async false
set_option linter.all false
set_option maxRecDepth 100000
set_option maxHeartbeats 4000000
namespace Pu
open PySem PySem.Spec PyProof.Rows L2 Evl
/-! ### a dict of dicts, all of which may change: {x: {} for x in xs} -/
inductive DDR (c : DCod) (F H : Hp) : List (Key × V) → List Addr → List (Int × List (Int × c.α)) → Prop
  | nil : DDR c F H [] [] []
  | cons {a : Addr} {i : Int} {m : List (Int × c.α)} {ks' ks : List (Key × V)} {as : List Addr} {x : List (Int × List (Int × c.α))} : H a = some (.dK ks') → KVR c F ks' m → DDR c F H ks as x → DDR c F H ((.inl i, .ref a) :: ks) (a :: as) ((i, m) :: x)
variable {c : DCod}
theorem DDR.ext {F F' H H' : Hp} {ks : List (Key × V)} {as : List Addr} {x : List (Int × List (Int × c.α))} (h : DDR c F H ks as x) (e : Ex F F') (k : ∀ a, a ∈ as → H' a = H a) : DDR c F' H' ks as x := by
  induction h with
  | nil => exact .nil
  | cons h1 h2 h3 ih => exact .cons (by rw [k _ List.mem_cons_self]; exact h1) (h2.ext e) (ih fun a ha => k a (List.mem_cons_of_mem _ ha))
theorem DDR.len {F H : Hp} {ks : List (Key × V)} {as : List Addr} {x : List (Int × List (Int × c.α))} (h : DDR c F H ks as x) : ks.length = x.length := by
  induction h with
  | nil => rfl
  | cons _ _ _ ih => rw [List.length_cons, List.length_cons, ih]
theorem DDR.there {F H : Hp} {ks : List (Key × V)} {as : List Addr} {x : List (Int × List (Int × c.α))} (h : DDR c F H ks as x) : ∀ a, a ∈ as → ∃ o, H a = some o := by
  induction h with
  | nil => exact fun _ ha => nomatch ha
  | cons h1 _ _ ih => exact fun a ha => (List.mem_cons.mp ha).elim (fun e => e ▸ ⟨_, h1⟩) (ih a)
theorem DDR.snoc {F H : Hp} {a : Addr} {i : Int} {m : List (Int × c.α)} {ks' : List (Key × V)} (h1 : H a = some (.dK ks')) (h2 : KVR c F ks' m) {ks : List (Key × V)} {as : List Addr} {x : List (Int × List (Int × c.α))} (h : DDR c F H ks as x) : DDR c F H (ks ++ [(.inl i, .ref a)]) (as ++ [a]) (x ++ [(i, m)]) := by
  induction h with
  | nil => exact .cons h1 h2 .nil
  | cons g1 g2 _ ih => exact .cons g1 g2 ih
theorem DDR.no {F H : Hp} {i : Int} {ks : List (Key × V)} {as : List Addr} {x : List (Int × List (Int × c.α))} (h : DDR c F H ks as x) (hi : i ∉ x.map Prod.fst) : (ks.any fun kv => decide (kv.1 = Sum.inl i)) = false := by
  induction h with
  | nil => rfl
  | @cons a j m ks' ks as x _ _ _ ih =>
    rw [List.map_cons, List.mem_cons] at hi
    rw [List.any_cons, ih fun z => hi (.inr z)]
    have : (Sum.inl j : Key) ≠ Sum.inl i := fun e => hi (.inl (by cases e; rfl))
    simp [this]
section
variable {E : XK} {XC : Str → Value} {E0 : XK} {K : PySem.W.Frag} {Γ Γ1 : List Sl} {tk : TE} {ti : TI} {tg : TG} {a : DCod}
theorem SInv.wipedD {B : Base} {F H : Hp} {σ : L2.St} {ρ : Env Γ} {vs : List Nat} (hv : allNo Γ vs = true) (h : SInv B Γ σ F H ρ) : SInv B Γ (wipe σ vs) F H ρ := let ⟨L, r, w⟩ := h; ⟨L, r.wiped hv, w⟩
end
end Pu
set_option Elab.async false
set_option linter.all false
set_option maxRecDepth 100000
set_option maxHeartbeats 4000000
namespace Pu
open PySem PySem.Spec PyProof.Rows L2 Evl
/-! ### self.f[i][k] = e and sorted(self.f[i]), the field a dict of dicts -/
def ddput {α : Type} : List (Int × List (Int × α)) → Int → List (Int × α) → List (Int × List (Int × α))
  | [], _, _ => []
  | q :: r, i, m => if q.1 = i then (q.1, m) :: r else q :: ddput r i m
variable {c : DCod}
theorem DDR.at_ {F H : Hp} {i : Int} {m : List (Int × c.α)} {ks : List (Key × V)} {as : List Addr} {x : List (Int × List (Int × c.α))} (h : DDR c F H ks as x) (e : dget x i = some m) (nd : as.Nodup) :
    ∃ a ks', valV ks (.inl i) = some (.ref a) ∧ a ∈ as ∧ H a = some (.dK ks') ∧ KVR c F ks' m ∧ ∀ ks'' m', KVR c F ks'' m' → DDR c F (upd H a (.dK ks'')) ks as (ddput x i m') := by
  induction h with
  | nil => cases e
  | @cons a j mj ks' ks as x h1 h2 h3 ih =>
    unfold dget at e
    obtain ⟨n1, n2⟩ := List.nodup_cons.mp nd
    by_cases hj : j = i
    · rw [if_pos hj] at e
      cases e
      subst hj
      refine ⟨a, ks', valV_pos rfl, List.mem_cons_self, h1, h2, fun ks'' m' k => ?_⟩
      unfold ddput
      rw [if_pos rfl]
      exact .cons upd_same k (h3.ext (Ex.refl F) fun b hb => upd_ne fun z => n1 (z ▸ hb))
    · rw [if_neg hj] at e
      obtain ⟨b, kb, g1, g2, g3, g4, g5⟩ := ih e n2
      refine ⟨b, kb, by rw [valV_neg (fun z => hj (by cases z; rfl))]; exact g1, List.mem_cons_of_mem _ g2, g3, g4, fun ks'' m' k => ?_⟩
      unfold ddput
      rw [if_neg hj]
      exact .cons (by rw [upd_ne fun z => n1 (by rw [z]; exact g2)]; exact h1) h2 (g5 ks'' m' k)
section
variable {p : Bool} {E : XK} {XC : Str → Value} {Rt : Ret} {K : PySem.W.Frag} {Γ ΓL Γf : List Sl} {te ta tb : TE} {C : Addr} {names : List Str} {i j : Nat} {k : Kd} {f : Str}
end
theorem hk_var {Γ : List Sl} {A : Type} {i : Nat} (at_ : At Γ i (.da dInt)) {f : A → Int → Env Γ} (hf : ∀ ρ x, at_.get (f ρ x) = x) : ∀ (B : Base) (σ : L2.St) (F H : Hp) (ρ : A) (x : Int), SInv B Γ σ F H (f ρ x) → ∀ Q : VK, Q (.int x) H → tVar i σ H Q := fun B σ F H ρ x I Q q => by
  obtain ⟨v, h1, h2⟩ := I.data at_
  have h2 : v = V.int (at_.get (f ρ x)) := h2
  rw [hf] at h2
  exact ⟨v, h1, by rw [h2]; exact q⟩
theorem DDR.mono {F F' H H' : Hp} {ks : List (Key × V)} {as : List Addr} {x : List (Int × List (Int × c.α))} (h : DDR c F H ks as x) (e : Ex F F') (k : ∀ a o, a ∈ as → H a = some o → H' a = some o) : DDR c F' H' ks as x := by
  induction h with
  | nil => exact .nil
  | cons h1 h2 h3 ih => exact .cons (k _ _ List.mem_cons_self h1) (h2.ext e) (ih fun a o ha => k a o (List.mem_cons_of_mem _ ha))
end Pu
set_option Elab.async false
set_option linter.all false
set_option maxRecDepth 100000
set_option maxHeartbeats 4000000
namespace Pu
open PySem PySem.Spec PyProof.Rows L2 Evl
/-! ### return xs of a def that changes its first argument: a local list is handed out -/
section
variable {E : XK} {XC : Str → Value} {Γ Γ' ΓL : List Sl} {c : DCod} {m : Cod} {i j : Nat}
end
end Pu
set_option Elab.async false
set_option linter.all false
set_option maxRecDepth 100000
set_option maxHeartbeats 4000000
namespace PuX
open PySem PySem.Spec PyProof.Rows L2 Evl Pu
/-! ### sorted(set(t)), t a tuple of whole numbers -/
section
variable {p : Bool} {E : XK} {XC : Str → Value} {K : PySem.W.Frag} {P : Program} {w : World} {Γ : List Sl} {te : TE}
end
end PuX
set_option Elab.async false
set_option linter.all false
set_option maxRecDepth 100000
set_option maxHeartbeats 4000000
namespace PuX
open PySem PySem.Spec PyProof.Rows L2 Evl Pu
/-! ### a triple whose first thing changes -/
section
variable {p : Bool} {E : XK} {XC : Str → Value} {Rt : Ret} {K : PySem.W.Frag} {Γ Γ' Γ1 Γ2 ΓL : List Sl} {te tb tc : TE} {t2 t3 : TG} {b c : DCod} {m : Cod} {i : Nat}
end
end PuX
set_option Elab.async false
set_option linter.all false
set_option maxRecDepth 100000
set_option maxHeartbeats 4000000
namespace PuX
open PySem PySem.Spec PyProof.Rows L2 Evl Pu
/-! ### len(set(xs)), xs a list of pairs of whole numbers -/
def prL (p : Int × Int) : List Int := [p.1, p.2]
theorem keysP {F : Hp} : ∀ {vs : List V} {xs : List (Int × Int)}, PV (dP2 dInt dInt) F vs xs → ∃ ks : List (Addr × List Int), vs = ks.map (fun p => V.ref p.1) ∧ ks.map (·.2) = xs.map prL ∧ ∀ p, p ∈ ks → F p.1 = some (.tup (p.2.map V.int))
  | _, _, .nil => ⟨[], rfl, rfl, fun p h => nomatch h⟩
  | _, _, .cons (a := v) (b := x) r t => by
    obtain ⟨ks, h1, h2, h3⟩ := keysP t
    obtain ⟨a, u, w, rfl, hp, r1, r2⟩ := r
    have r1 : u = V.int x.1 := r1
    have r2 : w = V.int x.2 := r2
    subst r1
    subst r2
    refine ⟨(a, prL x) :: ks, by rw [List.map_cons, ← h1], by rw [List.map_cons, List.map_cons, ← h2], fun p hp2 => ?_⟩
    rcases List.mem_cons.mp hp2 with rfl | hp2
    · exact hp
    · exact h3 p hp2
section
variable {p : Bool} {E : XK} {XC : Str → Value} {K : PySem.W.Frag} {P : Program} {w : World} {Γ : List Sl} {te : TE}
end
end PuX
namespace PuX
open PySem PySem.Spec PyProof.Rows L2 Evl Pu
end PuX
set_option Elab.async false
set_option linter.all false
set_option maxRecDepth 100000
set_option maxHeartbeats 4000000
namespace PuX
open PySem PySem.Spec PyProof.Rows L2 Evl Pu
/-! ### a list of lists, all of which may change -/
inductive LLR (c : DCod) (F H : Hp) : List Addr → List (List c.α) → Prop
  | nil : LLR c F H [] []
  | cons {a : Addr} {vs : List V} {m : List c.α} {as : List Addr} {x : List (List c.α)} : H a = some (.lst vs) → PV c F vs m → m.length ≤ sizeLine → LLR c F H as x → LLR c F H (a :: as) (m :: x)
variable {c : DCod}
theorem LLR.ext {F F' H H' : Hp} {as : List Addr} {x : List (List c.α)} (h : LLR c F H as x) (e : Ex F F') (k : ∀ a, a ∈ as → H' a = H a) : LLR c F' H' as x := by
  induction h with
  | nil => exact .nil
  | cons h1 h2 h4 h3 ih => exact .cons (by rw [k _ List.mem_cons_self]; exact h1) (h2.ext e) h4 (ih fun a ha => k a (List.mem_cons_of_mem _ ha))
theorem LLR.len {F H : Hp} {as : List Addr} {x : List (List c.α)} (h : LLR c F H as x) : as.length = x.length := by
  induction h with
  | nil => rfl
  | cons _ _ _ _ ih => rw [List.length_cons, List.length_cons, ih]
theorem LLR.there {F H : Hp} {as : List Addr} {x : List (List c.α)} (h : LLR c F H as x) : ∀ a, a ∈ as → ∃ vs, H a = some (.lst vs) := by
  induction h with
  | nil => exact fun _ ha => nomatch ha
  | cons h1 _ _ _ ih => exact fun a ha => (List.mem_cons.mp ha).elim (fun e => e ▸ ⟨_, h1⟩) (ih a)
theorem LLR.snoc {F H : Hp} {a : Addr} {m : List c.α} {vs : List V} (h1 : H a = some (.lst vs)) (h2 : PV c F vs m) (h4 : m.length ≤ sizeLine) {as : List Addr} {x : List (List c.α)} (h : LLR c F H as x) : LLR c F H (as ++ [a]) (x ++ [m]) := by
  induction h with
  | nil => exact .cons h1 h2 h4 .nil
  | cons g1 g2 g4 _ ih => exact .cons g1 g2 g4 ih
theorem LLR.at_ {F H : Hp} {n : Nat} {m : List c.α} : ∀ {as : List Addr} {x : List (List c.α)}, LLR c F H as x → x[n]? = some m → as.Nodup →
    ∃ a vs, as[n]? = some a ∧ a ∈ as ∧ H a = some (.lst vs) ∧ PV c F vs m ∧ m.length ≤ sizeLine ∧ ∀ vs' m', PV c F vs' m' → m'.length ≤ sizeLine → LLR c F (upd H a (.lst vs')) as (x.set n m') := by
  intro as x h e nd
  induction h generalizing n with
  | nil => cases e
  | @cons a vs mj as x h1 h2 h4 h3 ih =>
    obtain ⟨n1, n2⟩ := List.nodup_cons.mp nd
    cases n with
    | zero =>
      have e : mj = m := by simpa using e
      subst e
      exact ⟨a, vs, rfl, List.mem_cons_self, h1, h2, h4, fun vs' m' k l => .cons upd_same k l (h3.ext (Ex.refl F) fun b hb => upd_ne fun z => n1 (z ▸ hb))⟩
    | succ n =>
      obtain ⟨b, vb, g1, g2, g3, g4, g5, g6⟩ := ih (n := n) (by simpa using e) n2
      exact ⟨b, vb, by simpa using g1, List.mem_cons_of_mem _ g2, g3, g4, g5, fun vs' m' k l => .cons (by rw [upd_ne fun z => n1 (by rw [z]; exact g2)]; exact h1) h2 h4 (g6 vs' m' k l)⟩
theorem LLR.pv {F Fz H : Hp} {as : List Addr} {x : List (List c.α)} (h : LLR c F H as x) (e : Ex F Fz) (k : ∀ a, a ∈ as → Fz a = H a) : PV (dLst c) Fz (as.map V.ref) x := by
  induction h with
  | nil => exact .nil
  | cons h1 h2 h4 h3 ih => exact .cons ⟨_, _, rfl, (k _ List.mem_cons_self).trans h1, h2.ext e, h4⟩ (ih fun a ha => k a (List.mem_cons_of_mem _ ha))
abbrev mLL (c : DCod) : Cod := ⟨List (List c.α), fun F H fp v x => ∃ l as, v = .ref l ∧ fp = l :: as ∧ H l = some (.lst (as.map V.ref)) ∧ LLR c F H as x ∧ x.length ≤ sizeLine,
  fun ⟨l, as, h1, h0, h2, h3, h4⟩ e k => ⟨l, as, h1, h0, by rw [k l (by rw [h0]; simp)]; exact h2, h3.ext e fun a ha => k a (by rw [h0]; exact List.mem_cons_of_mem _ ha), h4⟩⟩
def fzLL {c : DCod} : Fz (mLL c) (dLst (dLst c)) := ⟨fun x => x, fun {F H Fz fp v x} h e k => let ⟨l, as, h1, h0, h2, h3, h4⟩ := h; ⟨l, _, h1, by rw [k l (by rw [h0]; simp)]; exact h2, h3.pv e fun a ha => k a (by rw [h0]; exact List.mem_cons_of_mem _ ha), h4⟩,
  fun {F H fp v x} h a ha o ho => by
    obtain ⟨l, as, h1, h0, h2, h3, h4⟩ := h
    rw [h0] at ha
    rcases List.mem_cons.mp ha with e | e
    · subst e
      rw [h2] at ho; cases ho
      trivial
    · obtain ⟨vs, e2⟩ := h3.there a e
      rw [e2] at ho; cases ho
      trivial⟩
/-! ### slots without what changes -/
def dropM : List Sl → List Sl
  | [] => []
  | .m _ _ :: Γ => .no :: dropM Γ
  | .no :: Γ => .no :: dropM Γ
  | .da c :: Γ => .da c :: dropM Γ
def dropE : {Γ : List Sl} → Env Γ → Env (dropM Γ)
  | [], _ => ()
  | .m _ _ :: _, ρ => ((), dropE ρ.2)
  | .no :: _, ρ => ((), dropE ρ.2)
  | .da _ :: _, ρ => (ρ.1, dropE ρ.2)
theorem SRel.dropM {F H : Hp} : ∀ {Γ : List Sl} {τ τ' σ : L2.St} {L : Fps} {ρ : Env Γ}, SRel Γ τ σ F H L ρ → SRel (dropM Γ) τ' σ F H [] (dropE ρ)
  | [], _, _, _, _, _, ⟨h1, _⟩ => ⟨h1, rfl⟩
  | .no :: _, _, _, _, _, _, ⟨w, σ', e, h⟩ => ⟨w, σ', e, SRel.dropM h⟩
  | .da _ :: _, _, _, _, _, _, ⟨w, σ', e, r, h⟩ => ⟨w, σ', e, r, SRel.dropM h⟩
  | .m _ _ :: _, _, _, _, _, _, ⟨w, σ', fp, L', e, _, _, _, h⟩ => ⟨some w, σ', e, SRel.dropM h⟩
theorem SInv.dropM {B : Base} {Γ : List Sl} {σ : L2.St} {F H : Hp} {ρ : Env Γ} (I : SInv B Γ σ F H ρ) : SInv ⟨F, H, [], [], [], []⟩ (dropM Γ) σ F H (dropE ρ) := by
  obtain ⟨L, r, w⟩ := I
  exact ⟨[], SRel.dropM r, wd0 w.fh (by simp) (by simp) (by simp) (by simp) (by simp)⟩
section
variable {p : Bool} {E : XK} {XC : Str → Value} {Rt : Ret} {K : PySem.W.Frag} {Γ Γ1 ΓL Γf : List Sl} {te ta tb : TE} {ti : TI} {tg : TG} {a : DCod} {C : Addr} {names : List Str} {i j : Nat} {k : Kd} {f : Str}
theorem en_lcLL {vs is : List Nat} {f : Env Γ → a.α → Env Γ1} {T0 : (R : Type) → (List a.α → Env Γ → Pu.Res R) → Env Γ → Pu.Res R} {Te : (R : Type) → (List c.α → Env (dropM Γ1) → Pu.Res R) → Env (dropM Γ1) → Pu.Res R}
    (hv : allNo Γ vs = true) (his : ∀ i, i ∈ is → i ∈ vs) (h : EvI false E XC Γ ti a T0) (ht : TgE Γ tg a Γ1 f is) (he : EvN false E0 XC (dropM Γ1) te (mLst c) Te) :
    EvN false E XC Γ (tLc ti tg (fun σ H Q => Q true H) te vs) (mLL c) (fun R k ρ => T0 R (fun xs ρ => opt (compL (fun x (_ : Unit) => Te _ (fun y _ => .ok (some y, ())) (dropE (f ρ x))) xs ()) fun ys => k ys.1 ρ) ρ) := fun B σ F H ρ I R G hG k Q g qq => by
  refine h B σ F H ρ I R G hG _ _ g fun xs ρ1 J F1 H1 I1 e1 w g1 hz D hD => ?_
  obtain ⟨Y, w, hy⟩ := w.ex
  generalize hcl : compL (fun x (_ : Unit) => Te _ (fun y _ => Pu.Res.ok (some y, ())) (dropE (f ρ1 x))) xs () = cl at g1
  cases cl with
  | none => exact absurd g1 hG.1
  | some ys =>
  obtain ⟨ys, ue⟩ := ys
  have g1 : G (k ys ρ1) := g1
  refine lc_it w (tt := fun σ H Q => Q true H) (g := tg) (te := te) (vs := vs) (σ := σ) (fun i H' => i ≤ xs.length ∧ ∃ F' as acc rest, Pext F1 F' H1 H' ∧ H' D = some (.lst (as.map V.ref)) ∧ LLR c F' H' as acc ∧ acc.length = i ∧ (D :: as).Nodup ∧ (∀ b, b ∈ D :: as → H1 b = none ∧ F' b = none) ∧
      compL (fun x (_ : Unit) => Te _ (fun y _ => Pu.Res.ok (some y, ())) (dropE (f ρ1 x))) (xs.drop i) () = some (rest, ue) ∧ ys = acc ++ rest)
    ⟨Nat.zero_le _, F1, [], [], ys, Pext.own I1.fh hD, upd_same, .nil, rfl, by simp, fun b hb => ?_, hcl, rfl⟩ (fun i H' _ ⟨_, F', _, _, _, pe, _⟩ => pe.ff.trans pe.fh) ?_ ?_
  · obtain rfl : b = D := by simpa using hb
    exact ⟨hD, none_of I1.fh hD⟩
  · rintro i v H' H2 hi ⟨_, F', as, acc, rest, pe, hDl, dd, hacc, nd, fr, hcl', hys⟩ y
    obtain ⟨F2, x, hx, pp, r⟩ := hy i H' v H2 F' y pe.ff pe.fh
    obtain ⟨hlt, hxe⟩ := List.getElem?_eq_some_iff.mp hx
    have pq := pe.trans pp
    have ed : xs.drop i = x :: xs.drop (i + 1) := by rw [← hxe]; exact (List.drop_eq_getElem_cons hlt)
    rw [ed] at hcl'
    obtain ⟨o, s1, ys', hbody, hrest, hrr⟩ := compL_cons hcl'
    refine ht B _ F2 H2 ρ1 v x ((I1.pext pq).wipedD hv) r _ fun σ3 I3 hag hln => ⟨?_, ?_⟩
    · have ew : wipe σ3 vs = wipe (wipe σ vs) vs := wipe_eq hln fun j hj => hag j fun z => hj (his j z)
      rw [ew]
      exact wipe_eq (wipe_length _ _) fun j hj => wipe_get _ _ _ hj
    · show if true = true then _ else _
      rw [if_pos rfl]
      refine he _ σ3 F2 H2 _ (SInv.dropM I3) _ (fun r => r = Pu.Res.ok (o, s1)) (rs0 (fun z => nomatch z) fun n z => nomatch z) _ _ hbody fun y5 ρ5 u fp F4 H4 F5 H5 I5 e5 pp5 n5 r5 g5 => ?_
      cases g5
      have px : Pext F2 F4 H2 H4 := I5.pextB rfl rfl
      obtain ⟨l, vl, rfl, rfl, hl, pvl, hzl⟩ := r5
      obtain ⟨nl1, nl2, _⟩ := n5.at_ l (by simp)
      have pz := (pq.trans px).trans pp5
      have hold : ∀ b, b ∈ D :: as → b ≠ l ∧ F5 b = none ∧ ∃ o, H' b = some o ∧ H5 b = some o := fun b hb => by
        obtain ⟨o, ho⟩ : ∃ o, H' b = some o := (List.mem_cons.mp hb).elim (fun e => e ▸ ⟨_, hDl⟩) fun z => let ⟨vs, q⟩ := dd.there b z; ⟨_, q⟩
        have ho4 : H4 b = some o := px.hh b o (pp.hh b o ho)
        refine ⟨fun e => (by rw [← e, ho4] at nl1; cases nl1), ?_, o, ho, pp5.hh b o ho4⟩
        cases h2 : F5 b with
        | none => rfl
        | some o2 =>
          rcases ((pp.trans px).trans pp5).new b o2 h2 with z | z
          · rw [(fr b hb).2] at z; cases z
          · rw [ho] at z; cases z
      have hlen := dd.len
      have hD5 : H5 D = some (.lst (as.map V.ref)) := by
        obtain ⟨_, _, o, q1, q2⟩ := hold D List.mem_cons_self
        rw [hDl] at q1; cases q1; exact q2
      have hDl2 : D ≠ l := (hold D List.mem_cons_self).1
      have hsl := sizeLine_eq
      refine ⟨as.map V.ref, hD5, by rw [List.length_map]; omega, hlt, F5, as ++ [l], acc ++ [y5], ys', ?_, ?_, ?_, ?_, ?_, ?_, hrest, ?_⟩
      · refine ⟨fun b u hb => ?_, pz.ff, fun b u hb => ?_, pz.new⟩
        · have : b ≠ D := fun e => by rw [e, hD] at hb; cases hb
          rw [upd_ne this]; exact pz.hh b u hb
        · have : b ≠ D := fun e => by rw [e, (hold D List.mem_cons_self).2.1] at hb; cases hb
          rw [upd_ne this]; exact pz.fh b u hb
      · rw [upd_same, List.map_append]; rfl
      · refine LLR.snoc (vs := vl) (by rw [upd_ne (Ne.symm hDl2)]; exact hl) pvl hzl (dd.ext ((pp.trans px).trans pp5).ff fun b hb => ?_)
        have hbD : b ≠ D := fun e => (List.nodup_cons.mp nd).1 (e ▸ hb)
        obtain ⟨_, _, o, q1, q2⟩ := hold b (List.mem_cons_of_mem _ hb)
        rw [upd_ne hbD, q1, q2]
      · rw [List.length_append, hacc]; rfl
      · rw [← List.cons_append, List.nodup_append]
        exact ⟨nd, by simp, fun b hb d hd => by rw [List.mem_singleton.mp hd]; exact (hold b hb).1⟩
      · intro b hb
        rw [← List.cons_append, List.mem_append] at hb
        rcases hb with hb | hb
        · exact ⟨(fr b hb).1, (hold b hb).2.1⟩
        · rw [List.mem_singleton.mp hb]
          exact ⟨none_of (pq.trans px).hh nl1, nl2⟩
      · rw [hys, hrr]; simp
  · rintro H' ⟨_, F', as, acc, rest, pe, hDl, dd, hacc, nd, fr, hcl', hys⟩
    rw [List.drop_length] at hcl'
    cases hcl'
    rw [List.append_nil] at hys
    subst hys
    refine qq _ ρ1 (.ref D) (D :: as) F1 H1 F' H' I1 e1 pe ⟨nd, fun b hb => ⟨(fr b hb).1, (fr b hb).2, ?_⟩⟩ ⟨D, as, rfl, rfl, hDl, dd, by rw [hacc]; exact hz⟩ g1
    exact (List.mem_cons.mp hb).elim (fun e => e ▸ ⟨_, hDl⟩) fun z => let ⟨vs, q⟩ := dd.there b z; ⟨_, q⟩
/-! ### xs[i][j] = e, xs[i].append(e) -/
theorem ll_step {B : Base} {σ : L2.St} {F H : Hp} {ρ : Env Γ} (hk : k ≠ .co) (I : SInv B Γ σ F H ρ) (at_ : At Γ i (.m k (mLL c))) : ∃ l as, σ[i]? = some (some (.ref l)) ∧ H l = some (.lst (as.map V.ref)) ∧ LLR c F H as (at_.get ρ) ∧ as.Nodup ∧
    ∀ b o xs', b ∈ as → LLR c F (upd H b o) as xs' → List.length (α := List c.α) xs' = List.length (α := List c.α) (at_.get ρ) → SInv B Γ σ F (upd H b o) (at_.put ρ xs') := by
  obtain ⟨v, fp, h1, _, hr, nd, hfp, hst⟩ := I.mut at_
  obtain ⟨l, as, rfl, rfl, hl, dd, hz⟩ := hr
  have n3 := List.nodup_cons.mp nd
  refine ⟨l, as, h1, hl, dd, n3.2, fun b o xs' hb dd' hz' => hst hk F _ (l :: as) xs' ⟨Ex.refl _, fun d u hd => ?_, fun d u hd hm => ?_, fun d u hd => ?_, fun d u hd => .inl hd, nd, fun d hd => ?_⟩ ⟨l, as, rfl, rfl, ?_, dd', by rw [hz']; exact hz⟩⟩
  · rw [upd_ne (ne_of_none hd (hfp b (List.mem_cons_of_mem _ hb)).1)]; exact I.fh d u hd
  · rw [upd_ne (fun e => hm (by rw [e]; exact List.mem_cons_of_mem _ hb))]; exact hd
  · by_cases he : d = b
    · subst he; exact ⟨_, upd_same⟩
    · exact ⟨u, by rw [upd_ne he]; exact hd⟩
  · obtain ⟨z1, ⟨u, z2⟩, _⟩ := hfp d hd
    refine ⟨.inl hd, z1, ?_⟩
    by_cases he : d = b
    · subst he; exact ⟨_, upd_same⟩
    · exact ⟨u, by rw [upd_ne he]; exact z2⟩
  · rw [upd_ne fun e => n3.1 (by rw [e]; exact hb)]; exact hl
theorem atI_at {α : Type} {xs : List α} {n : Int} {m : α} (h : L2.atI xs n = some m) : ∃ y, ixN xs.length n = some y ∧ xs[y]? = some m := by
  unfold L2.atI at h
  cases hy : ixN xs.length n with
  | none => rw [hy] at h; cases h
  | some y => rw [hy] at h; exact ⟨y, rfl, h⟩
theorem atI_refs {as : List Addr} {n : Int} {y : Nat} {b : Addr} {m : Nat} (hl : as.length = m) (h : ixN m n = some y) (hb : as[y]? = some b) : L2.atI (as.map V.ref) n = some (.ref b) := by
  unfold L2.atI
  rw [List.length_map, hl, h]
  show (as.map V.ref)[y]? = _
  rw [List.getElem?_map, hb]; rfl
def setLL {α : Type} (xs : List (List α)) (n m : Int) (x : α) : Option (List (List α)) := match ixN xs.length n with
  | some y => (match xs[y]? with
    | some row => (match setL row m x with
      | some row' => some (xs.set y row')
      | none => none)
    | none => none)
  | none => none
theorem refs_inj {as bs : List Addr} (h : as.map V.ref = bs.map V.ref) : as = bs := (List.map_inj_right (fun a b e => by injection e)).mp h
theorem lst_inj {F : Hp} {l : Addr} {as bs : List Addr} (h1 : F l = some (.lst (as.map V.ref))) (h2 : F l = some (.lst (bs.map V.ref))) : as = bs := by
  rw [h1] at h2
  have : HO.lst (as.map V.ref) = HO.lst (bs.map V.ref) := Option.some.inj h2
  injection this with this
  exact refs_inj this
theorem st_setLL (hk : k ≠ .co) (at_ : At Γ i (.m k (mLL c))) {T : (R : Type) → (c.α → Env Γ → Pu.Res R) → Env Γ → Pu.Res R} {Ta Tb : (R : Type) → (Int → Env Γ → Pu.Res R) → Env Γ → Pu.Res R} (h : EvE p E XC Γ te c T) (ha : EvE true E XC Γ ta dInt Ta) (hb : EvE true E XC Γ tb dInt Tb) :
    StE E XC Rt Γ (tAsg te (gSub (L2.tOp (rIxL K) (tVar i) ta) tb L2.rSetL)) Γ ΓL (fun R nx rt bk ct ρ => T R (fun x ρ => Ta R (fun n ρ => opt (L2.atI (α := List c.α) (at_.get ρ) n) fun _ => Tb R (fun m ρ => opt (setLL (α := c.α) (at_.get ρ) n m x) fun xs => nx (at_.put ρ xs)) ρ) ρ) ρ) := fun B σ F H ρ I R G hG nx rt bk ct D g qn qr qb qc =>
  h B σ F H ρ I R G hG _ _ g fun x ρ1 u F1 H1 I1 e1 r1 g1 => by
    obtain ⟨l, as, h1, hl, dd, nd, _⟩ := ll_step hk I1 at_
    refine ⟨.ref l, h1, ha B σ F1 H1 ρ1 I1 R G hG _ _ g1 fun n ρ2 w F2 H2 I2 e2 r2 g2 => ?_⟩
    have r2 : w = V.int n := r2
    subst r2
    obtain ⟨_, pe2⟩ := e2.2 rfl
    obtain ⟨l2, as2, h2, hl2, dd2, nd2, _⟩ := ll_step hk I2 at_
    rw [h1] at h2; cases h2
    have hl' := pe2.hh l _ hl
    obtain rfl := lst_inj hl' hl2
    cases hrow : L2.atI (α := List c.α) (at_.get ρ2) n with
    | none => rw [hrow] at g2; exact absurd g2 hG.1
    | some row =>
      rw [hrow] at g2
      obtain ⟨y, hy, hrow2⟩ := atI_at hrow
      obtain ⟨b, _, hb2, _⟩ := dd2.at_ hrow2 nd2
      refine ⟨l, as.map V.ref, n, .ref b, rfl, rfl, SqL.of hl', atI_refs dd2.len hy hb2, hb B σ F2 H2 ρ2 I2 R G hG _ _ g2 fun m ρ3 w3 F3 H3 I3 e3 r3 g3 => ?_⟩
      have r3 : w3 = V.int m := r3
      subst r3
      obtain ⟨er3, pe3⟩ := e3.2 rfl
      subst er3
      obtain ⟨l3, as3, h3, hl3, dd3, nd3, hs⟩ := ll_step hk I3 at_
      rw [h1] at h3; cases h3
      obtain rfl := lst_inj (pe3.hh l _ hl') hl3
      have g3 : G (opt (setLL (α := c.α) (at_.get ρ3) n m x) fun xs => nx (at_.put ρ3 xs)) := g3
      obtain ⟨b3, vs, k1, k2, k3, k4, k5, k6⟩ := dd3.at_ hrow2 nd3
      rw [hb2] at k1
      cases k1
      unfold setLL at g3
      rw [hy] at g3
      dsimp only at g3
      rw [hrow2] at g3
      dsimp only at g3
      unfold setL at g3
      cases hm : ixN row.length m with
      | none => rw [hm] at g3; exact absurd g3 hG.1
      | some z =>
        rw [hm] at g3
        exact ⟨b, vs, m, z, rfl, rfl, k3, by rw [k4.length]; exact hm, qn _ σ F3 _ (hs b _ _ k2 (k6 _ _ (k4.set (c.ext r1 (e2.1.trans e3.1)) z) (by rw [List.length_set]; exact k5)) (List.length_set ..)) ((e1.1.trans e2.1).trans e3.1) g3⟩
end
end PuX
set_option Elab.async false
set_option linter.all false
set_option maxRecDepth 100000
set_option maxHeartbeats 4000000
/-! dicts whose keys are tuples of whole numbers or None: dict([(t, v) ..]), d[t] -/
namespace PuX
open PySem PySem.Spec L2 Evl Pu
open PyProof.Rows hiding St
abbrev TK := List OK
def entO (x : TK × Addr × Value) : DictEntry := ⟨reduceHash (Builtin.Tuple.tupleHashOf (x.1.map okH)), .ref x.2.1, x.2.2⟩
def RawT (h : Heap) (a : Addr) (xs : List (TK × Addr × Value)) : Prop := ∃ o es ep, h.get? a = some o ∧ o.ExactDict ∧ o.data = .dict es ep ∧ es.toList = xs.map entO ∧ (xs.map (·.1)).Nodup
abbrev KTO : List (TK × Addr × V) → List (TK × Addr × Value) → Prop := Paired fun p q => p.1 = q.1 ∧ p.2.1 = q.2.1 ∧ RelV p.2.2 q.2.2
def mapTO (a : Addr) (kvs : List (TK × Addr × V)) : HO := .ext fun h => (a == sysModules) = false ∧ ∃ xs, KTO kvs xs ∧ RawT h a xs
theorem mapTO_ok {P : Program} {w : World} {H : Hp} {h : Heap} {a : Addr} {kvs : List (TK × Addr × V)} {xs : List (TK × Addr × Value)} (hd : (a == sysModules) = false) (rel : KTO kvs xs) (dd : RawT h a xs) : ObjOk P w H h a (mapTO a kvs) :=
  ⟨⟨hd, xs, rel, dd⟩, let ⟨o, _, _, ho, _⟩ := dd; ⟨o, ho⟩, fun h1 h2 ⟨hd', xs', r', o, es, ep, ho, q⟩ k => ⟨hd', xs', r', o, es, ep, k o ho, q⟩⟩
theorem RawT.of {P : Program} {w : World} {h : Heap} {a : Addr} {xs : List (TK × Addr × Value)} (d : h.DictOfH (tupleKind (okKind P w)) a xs) : RawT h a xs :=
  let ⟨o, es, ep, h1, h2, h3, h4, _, h6⟩ := d
  ⟨o, es, ep, h1, h2, h3, h4, h6⟩
theorem RawT.dict {P : Program} {w : World} {h : Heap} {a : Addr} {xs : List (TK × Addr × Value)} (d : RawT h a xs) (his : ∀ x ∈ xs, IsTupleKey (okKind P w) h x.1 x.2.1) : h.DictOfH (tupleKind (okKind P w)) a xs :=
  let ⟨o, es, ep, h1, h2, h3, h4, h6⟩ := d
  ⟨o, es, ep, h1, h2, h3, h4, his, h6⟩
theorem mapTO_of {P : Program} {w : World} {H : Hp} {h : Heap} {a : Addr} {kvs : List (TK × Addr × V)} (ok : HOk P w H h) (e : H a = some (mapTO a kvs)) : (a == sysModules) = false ∧ ∃ xs, KTO kvs xs ∧ RawT h a xs :=
  (show ObjOk P w H h a (mapTO a kvs) from ok a _ e).1
theorem items_areO {P : Program} {w : World} : ∀ {ks : TK} {us : List Value}, Vals (ks.map oV) us → ItemsAre (okKind P w) ks us
  | [], _, r => by rw [List.map_nil] at r; cases r; exact .nil
  | k :: ks, _, r => by
    rw [List.map_cons] at r
    cases r with
    | cons h t => exact .cons (oV_is h) (items_areO t)
theorem key_ofO {P : Program} {w : World} {H : Hp} {h : Heap} {a : Addr} {ks : TK} (ok : HOk P w H h) (e : Rd H a (.tup (ks.map oV))) : IsTupleKey (okKind P w) h ks a := by
  obtain ⟨_, its, r, o, h1, h2, n, h3⟩ := (show ObjOk P w H h a (.tup (ks.map oV)) from e.ok ok)
  exact ⟨o, its.toArray, n, h1, h2, h3, by simpa using items_areO r⟩
/-! ### by what the walk says -/
def gaT (ks : List (TK × Addr × V)) (k : TK) : Option V := (ks.find? fun x => decide (x.1 = k)).map fun x => x.2.2
def puT (ks : List (TK × Addr × V)) (k : TK) (b : Addr) (v : V) : List (TK × Addr × V) := if (ks.any fun x => decide (x.1 = k)) = true then ks.map (fun x => if x.1 = k then (x.1, x.2.1, v) else x) else ks ++ [(k, b, v)]
def puAll (ks more : List (TK × Addr × V)) : List (TK × Addr × V) := more.foldl (fun acc x => puT acc x.1 x.2.1 x.2.2) ks
theorem atKey_some (xs : List (TK × Addr × Value)) (k : TK) : (atKey xs k).isSome = xs.any fun x => decide (x.1 = k) := by
  induction xs with
  | nil => rfl
  | cons x r ih =>
    unfold atKey at ih ⊢
    rw [List.any_cons, List.find?_cons]
    by_cases e : x.1 = k
    · rw [decide_eq_true e]; rfl
    · rw [decide_eq_false e]
      simpa using ih
theorem KTO.any {k : TK} : ∀ {ks : List (TK × Addr × V)} {xs : List (TK × Addr × Value)}, KTO ks xs → (ks.any fun x => decide (x.1 = k)) = xs.any fun x => decide (x.1 = k)
  | _, _, .nil => rfl
  | _, _, .cons r t => by rw [List.any_cons, List.any_cons, KTO.any t, r.1]
theorem KTO.get {k : TK} {v : V} : ∀ {ks : List (TK × Addr × V)} {xs : List (TK × Addr × Value)}, KTO ks xs → gaT ks k = some v → ∃ p, atKey xs k = some p ∧ RelV v p.2
  | _, _, .nil, h => nomatch h
  | _, _, .cons (a := u) (b := q) r t, h => by
    unfold gaT at h
    unfold atKey
    rw [List.find?_cons] at h ⊢
    rw [← r.1]
    by_cases e : u.1 = k
    · rw [decide_eq_true e] at h ⊢
      cases h
      exact ⟨_, rfl, r.2.2⟩
    · rw [decide_eq_false e] at h ⊢
      exact KTO.get t h
theorem KTO.put {k : TK} {b : Addr} {v : V} {u : Value} (rv : RelV v u) {ks : List (TK × Addr × V)} {xs : List (TK × Addr × Value)} (r : KTO ks xs) : KTO (puT ks k b v) (storedH xs k b u) := by
  unfold puT storedH
  rw [r.any, atKey_some]
  by_cases e : (xs.any fun x => decide (x.1 = k)) = true
  · rw [if_pos e, if_pos e]
    clear e
    induction r with
    | nil => exact .nil
    | @cons p q ps qs h t ih =>
      refine .cons ?_ ih
      unfold putAt
      dsimp only
      rw [← h.1]
      by_cases e2 : p.1 = k
      · rw [if_pos e2, if_pos e2]; exact ⟨rfl, h.2.1, rv⟩
      · rw [if_neg e2, if_neg e2]; exact h
  · rw [if_neg e, if_neg e]
    exact Paired.snoc r ⟨rfl, rfl, rv⟩
theorem KTO.all {more : List (TK × Addr × V)} {ps : List (TK × Addr × Value)} (h : KTO more ps) : ∀ {ks : List (TK × Addr × V)} {xs : List (TK × Addr × Value)}, KTO ks xs → KTO (puAll ks more) (storedAllH xs ps) := by
  induction h with
  | nil => exact fun r => r
  | @cons p q ps qs h t ih =>
    intro ks xs r
    have r2 : KTO (puT ks p.1 p.2.1 p.2.2) (storedH xs q.1 q.2.1 q.2.2) := by rw [← h.1, ← h.2.1]; exact r.put h.2.2
    exact ih r2
theorem KTO.src {P : TK → Addr → Prop} {ks : List (TK × Addr × V)} {xs : List (TK × Addr × Value)} (h : KTO ks xs) : (∀ z ∈ ks, P z.1 z.2.1) → ∀ x ∈ xs, P x.1 x.2.1 := by
  induction h with
  | nil => exact fun _ x hx => nomatch hx
  | @cons p q ps qs h t ih =>
    intro hP x hx
    rcases List.mem_cons.mp hx with e | hx
    · rw [e, ← h.1, ← h.2.1]; exact hP _ List.mem_cons_self
    · exact ih (fun z hz => hP z (List.mem_cons_of_mem _ hz)) x hx
theorem KTO.length {ks : List (TK × Addr × V)} {xs : List (TK × Addr × Value)} (h : KTO ks xs) : ks.length = xs.length := Paired.length h
/-! ### dict([(t, v) ..]) -/
def rDictT (K : PySem.W.Frag) : List V → Hp → VK → Prop := fun xs H Q => ∃ (a : Addr) (ps : List Addr) (kvs : List (TK × Addr × V)), xs = [.ref a] ∧ SqL K H a (ps.map V.ref) ∧ Paired (fun p kv => SqT K H p [.ref kv.2.1, kv.2.2]) ps kvs ∧
  (∀ kv ∈ kvs, Rd H kv.2.1 (.tup (kv.1.map oV))) ∧ ∀ p, H p = none → Q (.ref p) (upd H p (mapTO p (puAll [] kvs)))
section
variable {X : Cx}
theorem tpairs_of {pins : List (Addr × Obj)} {σ : L2.St} {H : Hp} {s : Shared} (I : Inv X pins σ H s) : ∀ {ps : List Addr} {kvs : List (TK × Addr × V)}, Paired (fun p kv => SqT X.K H p [.ref kv.2.1, kv.2.2]) ps kvs →
    ∃ prs : List (TK × Addr × Value), KTO kvs prs ∧ prs.length = ps.length ∧ ∀ (j : Nat) (q : TK × Addr × Value), prs[j]? = some q → ∃ b : Addr, ps[j]? = some b ∧ IsTup s.heap b #[.ref q.2.1, q.2.2]
  | _, _, .nil => ⟨[], .nil, rfl, fun j q e => by simp at e⟩
  | _, _, .cons (a := p) (b := kv) h t => by
    obtain ⟨prs, r, hl, hp⟩ := tpairs_of I t
    obtain ⟨its, rv, ht, _⟩ := I.tuple h
    obtain ⟨u, y, ei, ru, ry⟩ := vals2 rv
    subst ei
    obtain rfl : u = Value.ref kv.2.1 := ru
    refine ⟨(kv.1, kv.2.1, y) :: prs, .cons ⟨rfl, rfl, ry⟩ r, by rw [List.length_cons, List.length_cons, hl], fun j q e => ?_⟩
    cases j with
    | zero =>
      have e' : (kv.1, kv.2.1, y) = q := Option.some.inj e
      subst e'
      exact ⟨p, rfl, ht⟩
    | succ j =>
      obtain ⟨b, e1, e2⟩ := hp j q (by simpa using e)
      exact ⟨b, by simpa using e1, e2⟩
theorem call_dictTO (hcalm : X.calm = true) (hu : X.A.units + 64 < cLine) : CallR X (.type "dict") (rDictT X.K) := by
  intro pins s σ H xs us Q I r q
  obtain ⟨a, ps, kvs, ex, hq, hp, hk, q⟩ := q
  subst ex
  obtain ⟨u, eu, rx⟩ := vals1 r
  subst eu
  cases rx
  obtain ⟨its, rv, pl, hz⟩ := I.list hq
  have ei := refs_at rv
  subst ei
  rw [List.length_map] at hz
  obtain ⟨prs, rel, hl, hpr⟩ := tpairs_of I hp
  obtain ⟨o, n, ho, hc, hd, hdat⟩ := pl
  have hall : ∀ x ∈ prs, Rd H x.2.1 (.tup (x.1.map oV)) := rel.src (P := fun k b => Rd H b (.tup (k.map oV))) hk
  have hall2 : ∀ x ∈ prs, IsTupleKey (okKind X.prog X.w) s.heap x.1 x.2.1 := fun x hx => key_ofO I.hok (hall x hx)
  refine call_dict_pairsH (knd := tupleKind (okKind X.prog X.w)) (ps := prs) (PairArg.list a (ps.map Value.ref).toArray (fun j => ps.getD j 0) (prs.map fun q => (Value.ref q.2.1, q.2.2))) (I.ok.hd hcalm)
    (show X.A.units + 1 + 1 < cLine by omega) ⟨⟨o, n, ho, hc, hd, hdat⟩, by simp [hl], fun j k v e => ?_⟩ ⟨by simp, fun i key v e => ?_⟩ (fun h' hk' x hx => ?_) (by rw [List.length_map, hl]; exact hz) fun h' tk hd' k => ?_
  · rw [List.getElem?_map] at e
    obtain ⟨q0, hq0, e0⟩ := Option.map_eq_some_iff.mp e
    cases e0
    obtain ⟨b, h1, h2⟩ := hpr j q0 hq0
    have hb : ps.getD j 0 = b := by rw [List.getD_eq_getElem?_getD, h1]; rfl
    obtain ⟨ob, g1, g2, m, g3⟩ := h2
    show _ = some (Value.ref (ps.getD j 0)) ∧ PairAt _ (ps.getD j 0) _ _
    rw [hb]
    exact ⟨by simp [h1], .inl ⟨ob, g1, g2, m, g3⟩⟩
  · have e : (prs.map fun q => (Value.ref q.2.1, q.2.2))[i]? = some (key, v) := e
    rw [List.getElem?_map] at e
    obtain ⟨q0, hq0, e0⟩ := Option.map_eq_some_iff.mp e
    cases e0
    exact ⟨q0.1, q0.2.1, hq0, rfl⟩
  · obtain ⟨ob, items, m, g1, g2, g3, g4⟩ := hall2 x hx
    exact ⟨ob, items, m, hk' _ _ (Nat.ne_of_lt (Heap.lt_size g1)) (fun z => nomatch z) g1, g2, g3, g4⟩
  · have hm : (s.heap.objs.size == sysModules) = false := beq_eq_false_iff_ne.mpr (Nat.ne_of_gt I.big)
    exact ⟨.ref s.heap.objs.size, upd H s.heap.objs.size (mapTO s.heap.objs.size (puAll [] kvs)), I.laid (t' := tk) (fun b u hb => k b u (fun z => nomatch z) hb) (Nat.le_refl _) (mapTO_ok hm (KTO.all rel .nil) (RawT.of hd')), rfl, q _ (I.hok.fresh (Nat.le_refl _))⟩
theorem call_dictTOK {K : PySem.W.Frag} (hcalm : X.calm = true) (hu : X.A.units + 64 < cLine) (hK : X.K = K := by rfl) : CallR X (.type "dict") (rDictT K) := by subst hK; exact call_dictTO hcalm hu
end
end PuX
namespace PuX
open PySem L2 Evl Pu
/-! ### as data -/
def TTR (c : DCod) (F : Hp) (ks : List (TK × Addr × V)) (kvs : List (TK × c.α)) : Prop := Paired (fun (p : TK × Addr × V) (q : TK × c.α) => p.1 = q.1 ∧ Rd F p.2.1 (.tup (p.1.map oV)) ∧ c.rel F p.2.2 q.2) ks kvs
def tget {α : Type} : List (TK × α) → TK → Option α
  | [], _ => none
  | p :: r, k => if p.1 = k then some p.2 else tget r k
def tput {α : Type} (kvs : List (TK × α)) (k : TK) (v : α) : List (TK × α) :=
  if (kvs.any fun q => decide (q.1 = k)) = true then kvs.map (fun q => if q.1 = k then (q.1, v) else q) else kvs ++ [(k, v)]
def tmerge {α : Type} (kvs more : List (TK × α)) : List (TK × α) := more.foldl (fun acc q => tput acc q.1 q.2) kvs
theorem rd_ext {F F' : Hp} {a : Addr} {u : HO} (h : Rd F a u) (e : Ex F F') : Rd F' a u := by
  rcases h with h | ⟨o, h⟩
  · exact .inl (e a _ h)
  · exact .inr ⟨o, e a _ h⟩
section
variable {c : DCod}
theorem TTR.ext {F F' : Hp} (e : Ex F F') {ks : List (TK × Addr × V)} {kvs : List (TK × c.α)} (h : TTR c F ks kvs) : TTR c F' ks kvs := Paired.mapP h fun _ _ q => ⟨q.1, rd_ext q.2.1 e, c.ext q.2.2 e⟩
theorem TTR.any {F : Hp} {k : TK} : ∀ {ks : List (TK × Addr × V)} {kvs : List (TK × c.α)}, TTR c F ks kvs → (ks.any fun p => decide (p.1 = k)) = kvs.any fun q => decide (q.1 = k)
  | _, _, .nil => rfl
  | _, _, .cons r t => by rw [List.any_cons, List.any_cons, TTR.any t, r.1]
theorem TTR.get {F : Hp} {k : TK} {z : c.α} : ∀ {ks : List (TK × Addr × V)} {kvs : List (TK × c.α)}, TTR c F ks kvs → tget kvs k = some z → ∃ v, gaT ks k = some v ∧ c.rel F v z
  | _, _, .nil, h => nomatch h
  | _, _, .cons (a := u) (b := q) r t, h => by
    unfold tget at h
    unfold gaT
    rw [List.find?_cons]
    rw [← r.1] at h
    by_cases e : u.1 = k
    · rw [if_pos e] at h
      rw [decide_eq_true e]
      cases h
      exact ⟨_, rfl, r.2.2⟩
    · rw [if_neg e] at h
      rw [decide_eq_false e]
      exact TTR.get t h
theorem TTR.put {F : Hp} {k : TK} {b : Addr} {v : V} {x : c.α} (hb : Rd F b (.tup (k.map oV))) (hx : c.rel F v x) {ks : List (TK × Addr × V)} {kvs : List (TK × c.α)} (h : TTR c F ks kvs) : TTR c F (puT ks k b v) (tput kvs k x) := by
  unfold puT tput
  rw [h.any (k := k)]
  by_cases e : (kvs.any fun q => decide (q.1 = k)) = true
  · rw [if_pos e, if_pos e]
    clear e
    induction h with
    | nil => exact .nil
    | @cons p q ps qs h t ih =>
      refine .cons ?_ ih
      dsimp only
      rw [← h.1]
      by_cases e2 : p.1 = k
      · rw [if_pos e2, if_pos e2]; exact ⟨rfl, h.2.1, hx⟩
      · rw [if_neg e2, if_neg e2]; exact h
  · rw [if_neg e, if_neg e]
    exact Paired.snoc h ⟨rfl, hb, hx⟩
theorem TTR.all {F : Hp} {more : List (TK × Addr × V)} {ps : List (TK × c.α)} (h : TTR c F more ps) : ∀ {ks : List (TK × Addr × V)} {xs : List (TK × c.α)}, TTR c F ks xs → TTR c F (puAll ks more) (tmerge xs ps) := by
  induction h with
  | nil => exact fun r => r
  | @cons p q ps qs h t ih =>
    intro ks xs r
    have r2 : TTR c F (puT ks p.1 p.2.1 p.2.2) (tput xs q.1 q.2) := by rw [← h.1]; exact r.put h.2.1 h.2.2
    exact ih r2
theorem TTR.keys {F : Hp} {ks : List (TK × Addr × V)} {kvs : List (TK × c.α)} (h : TTR c F ks kvs) : ∀ z ∈ ks, Rd F z.2.1 (.tup (z.1.map oV)) := by
  induction h with
  | nil => exact fun z hz => nomatch hz
  | @cons p q ps qs h t ih =>
    intro z hz
    rcases List.mem_cons.mp hz with e | hz
    · rw [e]; exact h.2.1
    · exact ih z hz
end
section
variable {p : Bool} {E : XK} {XC : Str → Value} {K : PySem.W.Frag} {Γ : List Sl} {ta tb : TE} {c : DCod}
end
end PuX
set_option Elab.async false
set_option linter.all false
set_option maxRecDepth 100000
set_option maxHeartbeats 4000000
/-! t[::-1] of a tuple; reversed(t) as it is walked; max of a list of tuples of whole numbers -/
namespace PuX
open PySem PySem.Spec L2 Evl Pu
open PyProof.Rows hiding St
section
variable {prog : Program} {w : World} {A : Around} {E : Value → Shared → Prop} {s : Shared}
end
section
variable {X : Cx}
end
section
variable {p : Bool} {E : XK} {XC : Str → Value} {K : PySem.W.Frag} {Γ : List Sl} {ta tb : TE} {c : DCod}
/-! ### reversed(t), walked -/
end
/-! ### max of tuples of whole numbers -/
section
open PySem.W
variable {X : Cx} {K : PySem.W.Frag}
end
end PuX
set_option Elab.async false
set_option linter.all false
set_option maxRecDepth 100000
set_option maxHeartbeats 4000000
/-! sorted(set(xs)) and sorted(dict(xs)) where pairs of whole numbers are the keys -/
namespace PuX
open PySem PySem.Spec PyProof.Rows L2 Evl Pu
def prU (l : List Int) : Int × Int := (l.getD 0 0, l.getD 1 0)
def sortPr (xs : List (Int × Int)) : List (Int × Int) := (PuU.setS (xs.map prL)).map prU
theorem pv_prs {F : Hp} : ∀ (L : List (Addr × List Int)), (∀ p, p ∈ L → F p.1 = some (.tup (p.2.map V.int)) ∧ ∃ q, p.2 = prL q) → PV (dP2 dInt dInt) F (L.map fun p => V.ref p.1) (L.map fun p => prU p.2)
  | [], _ => .nil
  | p :: L, h => by
    obtain ⟨h1, q, h2⟩ := h p List.mem_cons_self
    refine .cons ?_ (pv_prs L fun q hq => h q (List.mem_cons_of_mem _ hq))
    show (dP2 dInt dInt).rel F (V.ref p.1) (prU p.2)
    rw [h2] at h1 ⊢
    exact ⟨p.1, _, _, rfl, h1, rfl, rfl⟩
section
variable {p : Bool} {E : XK} {XC : Str → Value} {K : PySem.W.Frag} {P : Program} {w : World} {Γ : List Sl} {te : TE} {c : DCod}
theorem ev_sortUP {T : (R : Type) → (List (Int × Int) → Env Γ → Pu.Res R) → Env Γ → Pu.Res R} (h : EvE p E XC Γ te (dLst (dP2 dInt dInt)) T) :
    EvE p E XC Γ (tCB (PuU.rSortedU K P w) (tCons (tCB (rSetOfT K P w) (tCons te tNil)) tNil)) (dLst (dP2 dInt dInt)) (fun R k ρ => T R (fun xs ρ => opt (if xs.length < 64 then some (sortPr xs) else none) fun z => k z ρ) ρ) := fun B σ F H ρ I R G hG k Q g qq =>
  h B σ F H ρ I R G hG _ _ g fun xs ρ' v F1 H1 I1 e1 r1 g1 => by
    by_cases hx : List.length (α := Int × Int) xs < 64
    · rw [if_pos hx] at g1
      obtain ⟨l, vs, rfl, hl, pv, hz⟩ := r1
      have fh := I1.fh
      obtain ⟨ks, rfl, hke, hk⟩ := keysP pv
      have hlen : ks.length = List.length (α := Int × Int) xs := by
        have := congrArg List.length hke
        simpa using this
      have prs : ∀ q, q ∈ ks → ∃ y, y ∈ (xs : List (Int × Int)) ∧ q.2 = prL y := fun q hq => by
        have : q.2 ∈ ks.map (·.2) := List.mem_map.mpr ⟨q, hq, rfl⟩
        rw [hke] at this
        obtain ⟨y, hy, e⟩ := List.mem_map.mp this
        exact ⟨y, hy, e.symm⟩
      refine ⟨l, ks, rfl, SqL.of (fh l _ hl), fun q hq => SqT.rd fh (.inl (hk q hq)), by omega, fun a L ha h1 h2 => ?_⟩
      have P1 := Pext.own (o := SetTO P w a L) fh ha
      refine ⟨a, L, rfl, upd_same, fun q hq => SqT.rd P1.fh (.inl (hk q (h1 q hq))), fun q hq => by
        obtain ⟨y, _, e⟩ := prs q (h1 q hq)
        rw [e]; exact List.cons_ne_nil _ _, fun L' b pm nd pw hb => ?_⟩
      have hL' : ∀ q, q ∈ L' → q ∈ ks := fun q hq => h1 q (pm.mem_iff.mp hq)
      have P2 := P1.trans (Pext.one (o := .lst (L'.map fun q => V.ref q.1)) P1.fh hb)
      have eq : L'.map (·.2) = PuU.setS (List.map prL xs) := PuU.ups_eq (PuU.ups_of (List.pairwise_map.mpr pw) nd) (PuU.set_ups _) fun z => by
        rw [PuU.set_mem, ← hke]
        constructor
        · intro hzm
          obtain ⟨q, hq, rfl⟩ := List.mem_map.mp hzm
          exact List.mem_map.mpr ⟨q, hL' q hq, rfl⟩
        · intro hzm
          obtain ⟨q, hq, rfl⟩ := List.mem_map.mp hzm
          obtain ⟨r, hr, er⟩ := List.mem_map.mp (h2 q hq)
          exact List.mem_map.mpr ⟨r, pm.mem_iff.mpr hr, er⟩
      have hlen2 : L'.length ≤ 64 := by
        have hsub : (L'.map (·.2)).length ≤ (ks.map (·.2)).length := PuU.len_sub nd fun z hzm => by
          obtain ⟨q, hq, rfl⟩ := List.mem_map.mp hzm
          exact List.mem_map.mpr ⟨q, hL' q hq, rfl⟩
        rw [List.length_map, List.length_map] at hsub
        omega
      have pv2 := pv_prs (F := upd F1 b (.lst (L'.map fun q => V.ref q.1))) L' fun q hq => ⟨P2.ff q.1 _ (hk q (hL' q hq)), let ⟨y, _, e⟩ := prs q (hL' q hq); ⟨y, e⟩⟩
      have e3 : (L'.map fun q => prU q.2) = sortPr xs := by
        unfold sortPr
        rw [← eq, List.map_map]
        rfl
      rw [e3] at pv2
      exact qq _ ρ' (.ref b) _ _ (I1.pext P2) (e1.pext P2) ⟨b, _, rfl, upd_same, pv2, by
        rw [← e3]
        have z : (L'.map fun q => prU q.2).length = L'.length := List.length_map _
        have := sizeLine_eq
        show (L'.map fun q => prU q.2).length ≤ sizeLine
        omega⟩ g1
    · rw [if_neg hx] at g1
      exact absurd g1 hG.1
end
/-! ### dict([(pair, v) ..]) -/
def pK (q : Int × Int) : TK := [some q.1, some q.2]
section
variable {p : Bool} {E : XK} {XC : Str → Value} {K : PySem.W.Frag} {P : Program} {w : World} {Γ : List Sl} {te : TE} {c : DCod}
theorem pprs_of {F H : Hp} (e : Ex F H) : ∀ {vs : List V} {xs : List ((Int × Int) × c.α)}, PV (dP2 (dP2 dInt dInt) c) F vs xs →
    ∃ (ps : List Addr) (kvs : List (TK × Addr × V)), vs = ps.map V.ref ∧ Paired (fun p kv => SqT K H p [.ref kv.2.1, kv.2.2]) ps kvs ∧ TTR c F kvs (xs.map fun q => (pK q.1, q.2)) ∧ ∀ z ∈ kvs, F z.2.1 = some (.tup (z.1.map oV))
  | _, _, .nil => ⟨[], [], rfl, .nil, .nil, fun z hz => nomatch hz⟩
  | _, _, .cons (b := x) r t => by
    obtain ⟨ps, kvs, h1, h2, h3, h4⟩ := pprs_of e t
    obtain ⟨l, u, w, rfl, hl, r1, r2⟩ := r
    obtain ⟨b, u1, u2, rfl, hb, q1, q2⟩ := r1
    have q1 : u1 = V.int x.1.1 := q1
    have q2 : u2 = V.int x.1.2 := q2
    subst q1 q2
    refine ⟨l :: ps, (pK x.1, b, w) :: kvs, by rw [h1]; rfl, .cons (SqT.of (e l _ hl)) h2, .cons ⟨rfl, .inl hb, r2⟩ h3, fun z hz => ?_⟩
    rcases List.mem_cons.mp hz with rfl | hz
    · exact hb
    · exact h4 z hz
end
end PuX
namespace PuX
open PySem PySem.Spec PyProof.Rows L2 Evl Pu SrtO Srt
/-! ### sorted of its keys -/
section
variable {prog : Program} {w : World} {A : Around} {E : Value → Shared → Prop} {s : Shared} {T : String} {r d : Addr} {n : Nat} {P : Nat → Value → Prop} {OK : Heap → Prop}
theorem sorted_srcT {Q : Value → Shared → Prop} (K : PySem.W.KdlSrc prog w T r d n P OK) (hh : A.handled = none) (hok : OK s.heap) (hn : n ≤ sizeLine)
    (hS : ∀ (vs : List Value), ItemsOf P vs.toArray n → ∀ v ∈ vs, TS.TupInts s.heap v (TS.intsOf s.heap v) ∧ TS.intsOf s.heap v ≠ [])
    (h : ∀ (vs out : List Value) (h' : Heap) (tk : Nat) (p : Addr) (c : Nat), ItemsOf P vs.toArray n → SrtO.Srtd (fun v u => HT.lexLt (TS.intsOf s.heap v) (TS.intsOf s.heap u)) out → SrtO.Stb (fun v u => HT.lexLt (TS.intsOf s.heap v) (TS.intsOf s.heap u)) out vs → (∀ b o, s.heap.get? b = some o → h'.get? b = some o) → s.heap.objs.size ≤ p → h'.get? p = some (seqObj "list" out.toArray c) → Q (.ref p) { s with heap := h', toks := tk }) :
    wpAny (model prog w) A (call (.builtin "sorted") [.ref r]) Q E s := by
  refine Calls.call_function_entry kind_sorted plain_sorted entry_sorted (args_sorted1 _) (by
    unfold Builtin.«sorted»
    refine wpAny_bind (m := checkCount "sorted" 1 1 _) (wpAny_pure (wpAny_bind (PuE.gather_src K hh hok hn fun h' tk acc hk hlt hit => ?_)))
    have hit' : ItemsOf P acc.toList.toArray n := by rw [Array.toArray_toList]; exact hit
    refine wpAny_bind (wpAny_newList ?_ (by rw [Array.length_toList, hit.1]; exact hn))
    have k2 : (h'.push (seqObj "list" acc.toList.toArray 0)).get? h'.objs.size = some (seqObj "list" acc.toList.toArray 0) := Heap.get?_push_size _ rfl
    show wpAny _ _ _ _ _ { s with heap := h'.push (seqObj "list" acc.toList.toArray 0), toks := tk }
    exact wpAny_bind (wpAny_holding (wpAny_call_entry slot_list_sort ⟨_, k2, rfl⟩ entry_list_sort (list_sort_ord (s := { s with heap := h'.push (seqObj "list" acc.toList.toArray 0), toks := tk }) (NtL.swo_lexL (TS.intsOf s.heap)) k2 (by rw [Array.length_toList, hit.1]; exact hn)
      (fun h2 => PuU.tups_sortable (by omega) (fun v hv => ⟨(hS _ hit' v hv).1.keeps fun b o e _ => Heap.get?_push_of_some _ (hk b o e), (hS _ hit' v hv).2⟩) fun u hu => by
        rw [show u = seqObj "list" acc.toList.toArray 0 from (Option.some.inj (hu.symm.trans k2))]
        show Value.type "list" ≠ Value.type "tuple"
        decide) fun out hs hb => ⟨_, rfl, (by
      obtain ⟨c, hc⟩ := sortedHeap_at (vs := acc.toList) (out := out.toArray) k2
      refine wpAny_pure ⟨_, rfl, h acc.toList out _ tk _ c hit' hs hb (fun b u e => ?_) (Nat.le_of_lt hlt) hc⟩
      have q := hk b u e
      have hl := Heap.lt_size q
      show (sortedHeap (h'.push (seqObj "list" acc.toList.toArray 0)) h'.objs.size acc.toList out.toArray).get? b = some u
      rw [sortedHeap_old (Nat.ne_of_lt hl) (by rw [size_push']; exact Nat.lt_succ_of_lt hl)]
      exact Heap.get?_push_of_some _ q)⟩) (args_list_sort _))))
end
def rSortedDT (K : PySem.W.Frag) : List V → Hp → VK → Prop := fun vs H Q => ∃ (a : Addr) (ks : List (TK × Addr × V)) (L : List (Addr × List Int)), vs = [V.ref a] ∧ H a = some (mapTO a ks) ∧ (ks.map fun z => (z.2.1, z.1)) = (L.map fun q => (q.1, q.2.map some)) ∧
  (∀ p ∈ L, SqT K H p.1 (p.2.map V.int)) ∧ (∀ p ∈ L, p.2 ≠ []) ∧ L.length ≤ sizeLine ∧
  ∀ (L' : List (Addr × List Int)) (p : Addr), L'.Perm L → (L'.map (·.2)).Nodup → L'.Pairwise (fun q r => HT.lexLt r.2 q.2 = false) → H p = none → Q (.ref p) (upd H p (.lst (L'.map fun q => V.ref q.1)))
theorem nd_some : ∀ {L : List (Addr × List Int)}, (L.map fun q => q.2.map some).Nodup → (L.map (·.2)).Nodup
  | [], _ => List.Pairwise.nil
  | q :: L, h => by
    obtain ⟨h1, h2⟩ := List.nodup_cons.mp h
    refine List.nodup_cons.mpr ⟨fun z => ?_, nd_some h2⟩
    obtain ⟨y, hy, e⟩ := List.mem_map.mp z
    exact h1 (List.mem_map.mpr ⟨y, hy, by rw [e]⟩)
theorem cr_sortedDT {X : Cx} (hc : X.calm = true) : CallR X (.builtin "sorted") (rSortedDT X.K) := fun pins s σ H vs us Q I r h => by
  obtain ⟨a, ks, L, rfl, ha, hkL, hk, hne, hz, q⟩ := h
  rw [Vals.ref1 r]
  obtain ⟨hd, xs, rel, o, es, ep, ho, hex, hdat, hes, hnd⟩ := mapTO_of I.hok ha
  have tk : ∀ q ∈ L, TS.TupInts s.heap (.ref q.1) q.2 := fun q hq => by
    obtain ⟨its, rv, it, _⟩ := I.tuple (hk q hq)
    exact ⟨q.1, its.toArray, rfl, it, by rw [List.toList_toArray]; exact rv.ints⟩
  -- the keys, in the dict's order
  have kx : (xs.map fun z => (z.2.1, z.1)) = (L.map fun q => (q.1, q.2.map some)) := by
    rw [← hkL]
    clear hkL hnd hes ha
    induction rel with
    | nil => rfl
    | cons r t ih => rw [List.map_cons, List.map_cons, ih, r.1, r.2.1]
  have sz : es.size = L.length := by
    have := congrArg List.length hes
    have h2 := congrArg List.length kx
    rw [List.length_map, Array.length_toList] at this
    rw [List.length_map, List.length_map] at h2
    omega
  have at_ : ∀ i (hi : i < es.size), ∃ q, L[i]? = some q ∧ es[i].key = Value.ref q.1 := fun i hi => by
    have e1 : es.toList[i]? = some es[i] := by rw [Array.getElem?_toList, Array.getElem?_eq_getElem hi]
    rw [hes, List.getElem?_map] at e1
    obtain ⟨x, hx, e2⟩ := Option.map_eq_some_iff.mp e1
    have hl : i < L.length := by omega
    have e3 : (xs.map fun z => (z.2.1, z.1))[i]? = some (x.2.1, x.1) := by rw [List.getElem?_map, hx]; rfl
    rw [kx, List.getElem?_map, List.getElem?_eq_getElem hl] at e3
    have e3 := Option.some.inj e3
    refine ⟨L[i], List.getElem?_eq_getElem hl, ?_⟩
    rw [← e2]
    show Value.ref x.2.1 = Value.ref L[i].1
    rw [show L[i].1 = x.2.1 from congrArg Prod.fst e3]
  have vsL : ∀ vs : List Value, ItemsOf (fun i v => ∃ hi : i < es.size, v = es[i].key) vs.toArray es.size → vs = L.map fun q => Value.ref q.1 := fun vs hv => by
    have hl : vs.length = es.size := by have := hv.1; simpa using this
    apply List.ext_getElem?
    intro i
    by_cases hi : i < es.size
    · obtain ⟨q, hq, e⟩ := at_ i hi
      obtain ⟨_, e2⟩ := hv.2 i vs[i] (by simp [show i < vs.length by omega])
      rw [List.getElem?_eq_getElem (by omega), List.getElem?_map, hq, e2, e]
      rfl
    · rw [List.getElem?_eq_none (by omega), List.getElem?_eq_none (by rw [List.length_map]; omega)]
  refine sorted_srcT (PySem.KdlSrc.rawDict (es := es) (ep := ep) hd) (I.ok.hd hc) (show s.heap.DictRaw a es ep from ⟨o, ho, hex, hdat⟩) (by rw [sz]; exact hz) (fun vs hv v hm => ?_) fun vs out h' tk' p c hv hs hb keep hp hg => ?_
  · rw [vsL vs hv] at hm
    obtain ⟨q, hq, rfl⟩ := List.mem_map.mp hm
    rw [(tk q hq).ints]
    exact ⟨tk q hq, hne q hq⟩
  · have ev := vsL vs hv
    have pm : out.Perm (L.map fun q => Value.ref q.1) := ev ▸ hb.perm
    obtain ⟨L', p1, p2⟩ := L2.perm_lift (fun q : Addr × List Int => Value.ref q.1) pm L rfl
    have nd : (L'.map (·.2)).Nodup := (p1.map (·.2)).nodup_iff.mpr (nd_some (by
      have : (L.map fun q => q.2.map some) = xs.map (·.1) := by
        have := congrArg (List.map Prod.snd) kx
        rw [List.map_map, List.map_map] at this
        exact this.symm
      rw [this]; exact hnd))
    have pw : L'.Pairwise (fun q r => HT.lexLt r.2 q.2 = false) := by
      rw [← p2] at hs
      refine List.Pairwise.imp_of_mem (fun {q r} hq hr hle => ?_) (List.pairwise_map.mp hs)
      dsimp only at hle
      rw [(tk q (p1.mem_iff.mp hq)).ints, (tk r (p1.mem_iff.mp hr)).ints] at hle
      exact hle
    refine ⟨.ref p, upd H p (.lst (L'.map fun q => V.ref q.1)), I.laid (t' := tk') keep hp ⟨by rw [List.length_map, p1.length_eq]; exact hz, out, c, by rw [← p2]; exact vals_of_refs L', hg⟩, rfl, q L' p p1 nd pw (I.hok.fresh hp)⟩
theorem cr_sortedDTK {X : Cx} {K : PySem.W.Frag} (hc : X.calm = true) (hK : X.K = K := by rfl) : CallR X (.builtin "sorted") (rSortedDT K) := by subst hK; exact cr_sortedDT hc
theorem puT_P {P : TK → Addr → Prop} {ks : List (TK × Addr × V)} {k : TK} {b : Addr} {v : V} (h : ∀ z ∈ ks, P z.1 z.2.1) (hb : P k b) : ∀ z ∈ puT ks k b v, P z.1 z.2.1 := by
  unfold puT
  by_cases e : (ks.any fun x => decide (x.1 = k)) = true
  · rw [if_pos e]
    intro z hz
    obtain ⟨x, hx, rfl⟩ := List.mem_map.mp hz
    by_cases q : x.1 = k
    · rw [if_pos q]; exact h x hx
    · rw [if_neg q]; exact h x hx
  · rw [if_neg e]
    intro z hz
    rcases List.mem_append.mp hz with hz | hz
    · exact h z hz
    · rw [List.mem_singleton.mp hz]; exact hb
theorem puT_keys {ks : List (TK × Addr × V)} {k : TK} {b : Addr} {v : V} : ∀ y, y ∈ ks.map (·.1) ∨ y = k → y ∈ (puT ks k b v).map (·.1) := fun y hy => by
  unfold puT
  by_cases e : (ks.any fun x => decide (x.1 = k)) = true
  · rw [if_pos e, List.map_map]
    have em : (ks.map ((·.1) ∘ fun x => if x.1 = k then (x.1, x.2.1, v) else x)) = ks.map (·.1) := List.map_congr_left fun q _ => by
      show (if q.1 = k then (q.1, q.2.1, v) else q).1 = q.1
      split <;> rfl
    rw [em]
    rcases hy with hy | rfl
    · exact hy
    · obtain ⟨p, hp, z⟩ := List.any_eq_true.mp e
      exact List.mem_map.mpr ⟨p, hp, of_decide_eq_true z⟩
  · rw [if_neg e, List.map_append]
    rcases hy with hy | rfl
    · exact List.mem_append_left _ hy
    · exact List.mem_append_right _ (List.mem_singleton.mpr rfl)
theorem puT_len {ks : List (TK × Addr × V)} {k : TK} {b : Addr} {v : V} : (puT ks k b v).length ≤ ks.length + 1 := by
  unfold puT
  split
  · rw [List.length_map]; omega
  · rw [List.length_append]; exact Nat.le_refl _
theorem puAll_ok {P : TK → Addr → Prop} : ∀ (more ks : List (TK × Addr × V)), (∀ z ∈ ks, P z.1 z.2.1) → (∀ z ∈ more, P z.1 z.2.1) → (∀ z ∈ puAll ks more, P z.1 z.2.1) ∧ (∀ y, y ∈ ks.map (·.1) ∨ y ∈ more.map (·.1) → y ∈ (puAll ks more).map (·.1)) ∧ (puAll ks more).length ≤ ks.length + more.length
  | [], ks, h, _ => ⟨h, fun y hy => hy.elim id (fun z => (nomatch z)), Nat.le_refl _⟩
  | x :: more, ks, h, hm => by
    obtain ⟨h1, h2, h3⟩ := puAll_ok more (puT ks x.1 x.2.1 x.2.2) (puT_P h (hm x List.mem_cons_self)) fun z hz => hm z (List.mem_cons_of_mem _ hz)
    have l := puT_len (ks := ks) (k := x.1) (b := x.2.1) (v := x.2.2)
    refine ⟨h1, fun y hy => h2 y ?_, by rw [List.length_cons]; show (puAll (puT ks x.1 x.2.1 x.2.2) more).length ≤ _; omega⟩
    rcases hy with hy | hy
    · exact .inl (puT_keys y (.inl hy))
    · rw [List.map_cons] at hy
      rcases List.mem_cons.mp hy with e | hy
      · exact .inl (puT_keys y (.inr e))
      · exact .inr hy
section
variable {p : Bool} {E : XK} {XC : Str → Value} {K : PySem.W.Frag} {Γ : List Sl} {te : TE} {c : DCod}
theorem ttr_keys {F : Hp} {kvs : List (TK × Addr × V)} {ys : List (TK × c.α)} (h : TTR c F kvs ys) : kvs.map (·.1) = ys.map (·.1) := by
  induction h with
  | nil => rfl
  | cons r t ih => rw [List.map_cons, List.map_cons, ih, r.1]
theorem ev_sortDP {T : (R : Type) → (List ((Int × Int) × c.α) → Env Γ → Pu.Res R) → Env Γ → Pu.Res R} (h : EvE p E XC Γ te (dLst (dP2 (dP2 dInt dInt) c)) T) :
    EvE p E XC Γ (tCB (rSortedDT K) (tCons (tCB (rDictT K) (tCons te tNil)) tNil)) (dLst (dP2 dInt dInt)) (fun R k ρ => T R (fun xs ρ => k (sortPr (List.map (fun q : (Int × Int) × c.α => q.1) xs)) ρ) ρ) := fun B σ F H ρ I R G hG k Q g qq =>
  h B σ F H ρ I R G hG _ _ g fun xs ρ' v F1 H1 I1 e1 r1 g1 => by
    obtain ⟨l, vs, rfl, hl, pv, hz⟩ := r1
    have fh := I1.fh
    obtain ⟨ps, kvs, h1, h2, h3, h4⟩ := pprs_of (K := K) fh pv
    have lk : kvs.length = List.length (α := (Int × Int) × c.α) xs := by
      have := congrArg List.length (ttr_keys h3)
      rw [List.length_map, List.length_map, List.length_map] at this
      exact this
    have kk : kvs.map (·.1) = List.map (fun q : (Int × Int) × c.α => pK q.1) xs := by
      rw [ttr_keys h3, List.map_map]; rfl
    refine ⟨l, ps, kvs, rfl, h1 ▸ SqL.of (fh l _ hl), h2, fun z hz => rd_ext (h3.keys z hz) fh, fun a ha => ?_⟩
    obtain ⟨P1, P2, P3⟩ := puAll_ok (P := fun k b => F1 b = some (.tup (k.map oV)) ∧ ∃ q, q ∈ List.map (fun q : (Int × Int) × c.α => q.1) xs ∧ k = pK q) kvs [] (fun z hz => nomatch hz) fun z hz => ⟨h4 z hz, by
      have : z.1 ∈ kvs.map (·.1) := List.mem_map.mpr ⟨z, hz, rfl⟩
      rw [kk] at this
      obtain ⟨q, hq, e⟩ := List.mem_map.mp this
      exact ⟨q.1, List.mem_map.mpr ⟨q, hq, rfl⟩, e.symm⟩⟩
    have Pa := Pext.one (o := mapTO a (puAll [] kvs)) fh ha
    obtain ⟨L, hL⟩ : ∃ L : List (Addr × List Int), L = (puAll [] kvs).map fun z => (z.2.1, z.1.map fun o => o.getD 0) := ⟨_, rfl⟩
    have inL : ∀ q, q ∈ L → F1 q.1 = some (.tup (q.2.map V.int)) ∧ ∃ y, y ∈ List.map (fun q : (Int × Int) × c.α => q.1) xs ∧ q.2 = prL y := fun q hq => by
      rw [hL] at hq
      obtain ⟨z, hz, rfl⟩ := List.mem_map.mp hq
      obtain ⟨w1, y, hy, w2⟩ := P1 z hz
      rw [w2] at w1
      refine ⟨?_, y, hy, ?_⟩
      · show F1 z.2.1 = some (.tup ((z.1.map fun o => o.getD 0).map V.int))
        rw [w2]; exact w1
      · show (z.1.map fun o => o.getD 0) = prL y
        rw [w2]; rfl
    have lL : L.length ≤ sizeLine := by
      rw [hL, List.length_map]
      have hz : List.length (α := (Int × Int) × c.α) xs ≤ sizeLine := hz
      have h0 : ([] : List (TK × Addr × V)).length = 0 := rfl
      omega
    refine ⟨a, puAll [] kvs, L, rfl, upd_same, ?_, fun q hq => SqT.rd Pa.fh (.inl (Pa.ff q.1 _ (inL q hq).1)), fun q hq => by
      obtain ⟨_, y, _, e⟩ := inL q hq
      rw [e]; exact List.cons_ne_nil _ _, lL, fun L' b pm nd pw hb => ?_⟩
    · rw [hL, List.map_map]
      refine List.map_congr_left fun z hz => ?_
      obtain ⟨_, y, _, w2⟩ := P1 z hz
      show (z.2.1, z.1) = (z.2.1, (z.1.map fun o => o.getD 0).map some)
      rw [w2]; rfl
    have hL' : ∀ q, q ∈ L' → q ∈ L := fun q hq => pm.mem_iff.mp hq
    have Pb := Pa.trans (Pext.one (o := .lst (L'.map fun q => V.ref q.1)) Pa.fh hb)
    have eq : L'.map (·.2) = PuU.setS (List.map prL (List.map (fun q : (Int × Int) × c.α => q.1) xs)) := PuU.ups_eq (PuU.ups_of (List.pairwise_map.mpr pw) nd) (PuU.set_ups _) fun z => by
      rw [PuU.set_mem]
      constructor
      · intro hzm
        obtain ⟨q, hq, rfl⟩ := List.mem_map.mp hzm
        obtain ⟨_, y, hy, e⟩ := inL q (hL' q hq)
        exact List.mem_map.mpr ⟨y, hy, e.symm⟩
      · intro hzm
        obtain ⟨y, hy, rfl⟩ := List.mem_map.mp hzm
        obtain ⟨x, hx, e⟩ := List.mem_map.mp hy
        have : pK y ∈ (puAll [] kvs).map (·.1) := P2 _ (.inr (by rw [kk]; exact List.mem_map.mpr ⟨x, hx, by rw [e]⟩))
        obtain ⟨z, hz, ez⟩ := List.mem_map.mp this
        have zl : (z.2.1, z.1.map fun o => o.getD 0) ∈ L := by rw [hL]; exact List.mem_map.mpr ⟨z, hz, rfl⟩
        refine List.mem_map.mpr ⟨_, pm.mem_iff.mpr zl, ?_⟩
        show (z.1.map fun o => o.getD 0) = prL y
        rw [ez]; rfl
    have pv2 := pv_prs (F := upd (upd F1 a (mapTO a (puAll [] kvs))) b (.lst (L'.map fun q => V.ref q.1))) L' fun q hq => ⟨Pb.ff q.1 _ (inL q (hL' q hq)).1, let ⟨_, y, _, e⟩ := inL q (hL' q hq); ⟨y, e⟩⟩
    have e3 : (L'.map fun q => prU q.2) = sortPr (List.map (fun q : (Int × Int) × c.α => q.1) xs) := by
      unfold sortPr
      rw [← eq, List.map_map]
      rfl
    rw [e3] at pv2
    exact qq _ ρ' (.ref b) _ _ (I1.pext Pb) (e1.pext Pb) ⟨b, _, rfl, upd_same, pv2, by
      rw [← e3]
      have z : (L'.map fun q => prU q.2).length = L'.length := List.length_map _
      have := pm.length_eq
      show (L'.map fun q => prU q.2).length ≤ sizeLine
      omega⟩ g1
end
end PuX
set_option Elab.async false
set_option linter.all false
set_option maxRecDepth 100000
set_option maxHeartbeats 4000000
/-! x, y, z = a list of three; a list of whole numbers or None in which none is None -/
namespace PuX
open PySem L2 Evl Pu
def three {α : Type} : List α → Option (α × α × α)
  | [x, y, z] => some (x, y, z)
  | _ => none
section
variable {p : Bool} {E : XK} {XC : Str → Value} {Rt : Ret} {K : PySem.W.Frag} {Γ Γ' Γ1 Γ2 ΓL : List Sl} {te : TE} {t1 t2 t3 : TG} {c : DCod}
end
/-! ### min of a list of pairs -/
open PySem.Spec PyProof.Rows in
section
open PySem.W PySem.Spec PyProof.Rows
variable {X : Cx} {K : PySem.W.Frag}
end
end PuX
set_option Elab.async false
set_option linter.all false
set_option maxRecDepth 100000
set_option maxHeartbeats 4000000
/-! min and max by a key that a lambda of one parameter tells, which may call the program's defs -/
namespace PuX
open PySem PySem.Spec PyProof.Rows L2 Evl Pu
structure KeySc (X : Cx) (d : LamD) (a : Str) (fr : List Str) (js : List Nat) : Prop where
  sc : NdefX.NScope (a :: fr) [a] fr d.2.2
  free : ∀ y ∈ d.2.2.names, y.2 = .free → X.env.scope.names.lookup y.1 = some .cell ∨ X.env.scope.names.lookup y.1 = some .free
  frs : ∀ y ∈ fr, (y, NameKind.free) ∈ d.2.2.names
  sl : js.map (fun j => X.N[j]?) = fr.map some
section
variable {X : Cx} {pins : List (Addr × Obj)} {σ : L2.St} {H : Hp} {s : Shared} {d : LamD} {a q : Str} {fr : List Str} {js : List Nat} {f c' : Addr} {pm ctv : Value}
end
/-! ### walking a list or a tuple that is told as it stands -/
section
variable {prog : Program} {w : World} {A : Around} {vs : List V}
theorem vals_at {us : List Value} (r : Vals vs us) {i : Nat} {u : Value} (h : us[i]? = some u) : ∃ v, vs[i]? = some v ∧ L2.RelV v u := by
  obtain ⟨hi, e⟩ := List.getElem?_eq_some_iff.mp h
  have hv : i < vs.length := by rw [r.length]; exact hi
  obtain ⟨u', h1, h2⟩ := r.get (List.getElem?_eq_getElem hv)
  rw [h] at h1
  cases h1
  exact ⟨_, List.getElem?_eq_getElem hv, h2⟩
theorem walk_tup (hh : A.handled = none) (I l : Addr) (hne : l ≠ I) : WalksS prog w A I [I, l] [I] (fun a b => b = a) vs.length (fun i u => ∃ v, vs[i]? = some v ∧ L2.RelV v u) (fun i s => s.heap.IsTupleIter I l i ∧ ∃ its : List Value, Vals vs its ∧ s.heap.IsTuple l its.toArray) := by
  have W := fun its : Array Value => (Walks.tuple (prog := prog) (w := w) (A := A) hh I l hne its).toS
  refine ⟨(W #[]).sub, (W #[]).grefl, (W #[]).gtrans, fun i s h' tk hst ht hk => ?_, fun i s Q E hi hst hq => ?_, fun s Q E hst hq => ?_, fun i s Q E hst hq => ?_⟩
  · obtain ⟨h1, its, r, h2⟩ := hst
    obtain ⟨k1, k2⟩ := (W its.toArray).frame i s h' tk ⟨h1, h2⟩ ht hk
    exact ⟨k1, its, r, k2⟩
  · obtain ⟨h1, its, r, h2⟩ := hst
    have hz : its.toArray.size = vs.length := by rw [List.size_toArray, r.length]
    refine (W its.toArray).item i s Q E (by rw [hz]; exact hi) ⟨h1, h2⟩ fun v s' hp hst' m => hq v s' (vals_at r (by simpa using hp)) ⟨hst'.1, its, r, hst'.2⟩ m
  · obtain ⟨h1, its, r, h2⟩ := hst
    have hz : its.toArray.size = vs.length := by rw [List.size_toArray, r.length]
    exact (W its.toArray).done s Q E (by rw [hz]; exact ⟨h1, h2⟩) hq
  · obtain ⟨h1, its, r, h2⟩ := hst
    exact (W its.toArray).self i s Q E ⟨h1, h2⟩ hq
end
section
variable {X : Cx} {pins : List (Addr × Obj)} {σ : L2.St} {H : Hp} {s : Shared} {d : LamD} {a q : Str} {fr : List Str} {js : List Nat} {f c' : Addr} {pm ctv : Value} {vs : List V} {l : Addr} {key : Nat → Int} {inv : Hp → Prop} {tb : TE} {bt : Nat → Nat → Bool} {op : CmpOp}
end
section
variable {X : Cx} {a : Str} {q : Str} {params : Arguments} {body : Expr} {scope : Scope} {fr : List Str} {js : List Nat} {j k : Nat} {tb : TE}
end
/-! ### what it gives -/
inductive CapS (Γ : List Sl) : List Nat → List Sl → Type 1 where
  | nil : CapS Γ [] []
  | cons {j : Nat} {c : DCod} {js : List Nat} {Γc : List Sl} (a : At Γ j (.da c)) (r : CapS Γ js Γc) : CapS Γ (j :: js) (.da c :: Γc)
def CapS.get {Γ : List Sl} : {js : List Nat} → {Γc : List Sl} → CapS Γ js Γc → Env Γ → Env Γc
  | _, _, .nil, _ => ()
  | _, _, .cons a r, ρ => (a.get ρ, r.get ρ)
theorem CapS.rel {Γ : List Sl} {B : Base} {σ : L2.St} {F H : Hp} {ρ : Env Γ} (I : SInv B Γ σ F H ρ) (τ : L2.St) : ∀ {js : List Nat} {Γc : List Sl} (c : CapS Γ js Γc), SRel Γc τ (js.map (NdefX.slotAt σ)) F H [] (c.get ρ)
  | _, _, .nil => ⟨rfl, rfl⟩
  | _, _, .cons (j := j) a r => by
    obtain ⟨v, h1, h2⟩ := I.data a
    exact ⟨v, _, by rw [List.map_cons, NdefX.slotAt_of h1], h2, CapS.rel I τ.tail r⟩
theorem CapS.len {Γ : List Sl} : ∀ {js : List Nat} {Γc : List Sl}, CapS Γ js Γc → js.length = Γc.length
  | _, _, .nil => rfl
  | _, _, .cons a r => congrArg Nat.succ r.len
section
variable {E : XK} {XC : Str → Value} {K : PySem.W.Frag} {Γ Γc : List Sl} {te tb : TE} {P : Addr} {q a : Str} {jt : Nat} {d : LamD} {cells : List (Str × Addr)} {kd : Kd} {fr : List Str} {js : List Nat} {gt pk : Bool} {c : DCod}
end
end PuX
set_option Elab.async false
set_option linter.all false
set_option maxRecDepth 100000
set_option maxHeartbeats 4000000
/-! sorted of data of any kind; len(dict(..)) with keys of any kind -/
namespace PuX
open PySem PySem.Spec PyProof.Rows L2 Evl Pu
section
variable {X : Cx}
end
/-! ### keys of any kind -/
mutual
/-- data as a key -/
def nkOf : PyData → Option NestedKey
  | .none => some .none
  | .int i => some (.num i)
  | .str x => some (.text x)
  | .tuple ds => (nkAll ds).map .tup
  | _ => none
def nkAll : List PyData → Option (List NestedKey)
  | [] => some []
  | d :: ds => match nkOf d, nkAll ds with
    | some k, some ks => some (k :: ks)
    | _, _ => none
end
mutual
theorem nk_data : ∀ (d : PyData) (k : NestedKey), nkOf d = some k → k.data = d
  | .none, k, h => by cases h; rfl
  | .int i, k, h => by cases h; rfl
  | .str x, k, h => by cases h; rfl
  | .tuple ds, k, h => by
    unfold nkOf at h
    obtain ⟨ks, h1, h2⟩ := Option.map_eq_some_iff.mp h
    subst h2
    unfold NestedKey.data
    rw [nkAll_data ds ks h1]
  | .bool _, k, h => by cases h
  | .list _, k, h => by cases h
theorem nkAll_data : ∀ (ds : List PyData) (ks : List NestedKey), nkAll ds = some ks → NestedKey.datas ks = ds
  | [], ks, h => by cases h; rfl
  | d :: ds, ks, h => by
    unfold nkAll at h
    split at h
    · rename_i k ks' h1 h2
      cases h
      unfold NestedKey.datas
      rw [nk_data d k h1, nkAll_data ds ks' h2]
    · cases h
end
mutual
theorem nk_is {h : Heap} : ∀ (d : PyData) (k : NestedKey) (v : Value) (as : List Addr), nkOf d = some k → Reads h v d as → NestedIs h k v
  | .none, k, v, as, e, r => by cases e; cases r; exact .none
  | .int i, k, v, as, e, r => by cases e; cases r; exact .int _ _
  | .str x, k, v, as, e, r => by cases e; cases r; exact .text _ _
  | .tuple ds, k, v, as, e, r => by
    unfold nkOf at e
    obtain ⟨ks, h1, h2⟩ := Option.map_eq_some_iff.mp e
    subst h2
    cases r with
    | tuple ho hc hd hr => exact .tup ho hc hd (nkAll_is ds ks _ _ h1 hr)
  | .bool _, k, v, as, e, r => by cases e
  | .list _, k, v, as, e, r => by cases e
theorem nkAll_is {h : Heap} : ∀ (ds : List PyData) (ks : List NestedKey) (vs : List Value) (as : List Addr), nkAll ds = some ks → ReadsAll h vs ds as → NestedAll h ks vs
  | [], ks, vs, as, e, r => by cases e; cases r; exact .nil
  | d :: ds, ks, vs, as, e, r => by
    unfold nkAll at e
    split at e
    · rename_i k ks' h1 h2
      cases e
      cases r with
      | cons r1 r2 => exact .cons (nk_is d k _ _ h1 r1) (nkAll_is ds ks' _ _ h2 r2)
    · cases e
end
section
variable {α : Type} {d : DecidableEq α} {f : α → NestedKey}
end
section
variable {X : Cx} {α : Type} {d : DecidableEq α} {toD : α → PyData}
end
section
variable {p : Bool} {E : XK} {XC : Str → Value} {K : PySem.W.Frag} {Γ : List Sl} {te : TE} {c v : DCod} {n : Nat}
end
/-! ### how data is told, without the text -/
abbrev tB : Bool → PyData := fun b => .bool b
section
variable {p : Bool} {E : XK} {XC : Str → Value} {K : PySem.W.Frag} {Γ : List Sl} {te : TE} {c : DCod} {n : Nat}
end
end PuX
set_option Elab.async false
set_option linter.all false
set_option maxRecDepth 100000
set_option maxHeartbeats 4000000
/-! str of data that lies in the heap; a law that is told where it is called: nothing is being shown there -/
namespace PuX
open PySem PySem.Spec PyProof.Rows L2 Evl Pu
/-! ### str(x) -/
section
variable {X : Cx}
end
/-! ### the law, where it is called -/
structure FnAt (P : Program) (w : World) (K : PySem.W.Frag) (mg : Str → Option Value) (base : Heap) (f : Addr) (fd : FuncData) (ps : List Str) (sp : Sp) : Prop where
  run : ∀ (s : Shared) (H : Hp) (args : Args) (us : List Value) (vs : List V) (Q : VK) (E : XK), Env0 P w K mg base callerA [] s H → BindsTo s fd args (ps.zip us) → Vals vs us → sp vs H Q E → codeAny (model P w) callerA (.call (.ref f) args) (CR (L2.CX P w) [] P w H s Q E) s
section
variable {P : Program} {w : World} {K : PySem.W.Frag} {mg : Str → Option Value} {base : Heap} {x qual : Str} {params : Arguments} {body : List Stmt} {scope : Scope} {f : Addr} {N ps : List Str} {k : Nat}
end
end PuX
set_option Elab.async false
set_option linter.all false
set_option maxRecDepth 100000
set_option maxHeartbeats 4000000
/-! names that stand for a module's built-in functions, for tuples of two whole numbers; gcd -/
namespace PuX
open PySem PySem.Spec PyProof.Rows L2 Evl Pu
/-! ### what more is known at the head -/
structure TxE (ex : PySem.W.Frag → Bool) (fa : List He.Fa) (fn : List He.DefD) (K : PySem.W.Frag) (mg : Str → Option Value) : Prop extends Tx fa fn K mg where
  e : ex K = true
def bfunB (x : Str) (id : String) (K : PySem.W.Frag) : Bool := He.eqO (PySem.W.nsIn K mainGlobals x) (some (some (.builtin id)))
def gaP (K : PySem.W.Frag) (x : Str) : Addr := match PySem.W.nsIn K mainGlobals x with
  | some (some (.ref a)) => a
  | _ => 0
def intsB : List Value → List Int → Bool
  | [], [] => true
  | .int i _ :: vs, j :: js => decide (i = j) && intsB vs js
  | _, _ => false
def conB (x : Str) (is : List Int) (K : PySem.W.Frag) : Bool := He.eqO (PySem.W.nsIn K mainGlobals x) (some (some (.ref (gaP K x)))) && match K.lookup (gaP K x) with
  | some o => decide (o.cls = .type "tuple") && (match o.data with
    | .seq its _ => decide (its.size ≤ 64) && intsB its.toList is
    | _ => false)
  | none => false
section
variable {fa : List He.Fa} {fn : List He.DefD} {K : PySem.W.Frag} {mg : Str → Option Value} {h : Heap}
theorem ints_vals : ∀ {vs : List Value} {is : List Int}, intsB vs is = true → Vals (is.map V.int) vs
  | [], [], _ => .nil
  | .int i t :: vs, j :: js, h => by
    unfold intsB at h
    obtain ⟨h1, h2⟩ := Bool.and_eq_true_iff.mp h
    have h1 := of_decide_eq_true h1
    subst h1
    exact .cons ⟨t, rfl⟩ (ints_vals h2)
theorem con_sq {x : Str} {is : List Int} (c : conB x is K = true) (H : Hp) : SqT K H (gaP K x) (is.map V.int) := by
  unfold conB at c
  obtain ⟨_, c⟩ := Bool.and_eq_true_iff.mp c
  cases e : K.lookup (gaP K x) with
  | none => rw [e] at c; cases c
  | some o =>
    rw [e] at c
    dsimp only at c
    obtain ⟨c1, c2⟩ := Bool.and_eq_true_iff.mp c
    cases d : o.data with
    | seq its n =>
      rw [d] at c2
      obtain ⟨c3, c4⟩ := Bool.and_eq_true_iff.mp c2
      have c3 := of_decide_eq_true c3
      have hsl := sizeLine_eq
      exact .inr ⟨o, its, n, rfl.trans e, of_decide_eq_true c1, d, by omega, ints_vals c4⟩
    | _ => rw [d] at c2; cases c2
theorem con_mg {x : Str} {is : List Int} (X : K.In h) (G : h.Ns mainGlobals mg) (c : conB x is K = true) : mg x = some (.ref (gaP K x)) := by
  unfold conB at c
  exact PySem.W.mg_of X G (He.eqO_ok (Bool.and_eq_true_iff.mp c).1)
theorem bfun_mg {x : Str} {id : String} (X : K.In h) (G : h.Ns mainGlobals mg) (c : bfunB x id K = true) : mg x = some (.builtin id) := PySem.W.mg_of X G (He.eqO_ok c)
theorem Tx.bfun (T : Tx fa fn K mg) {x : Str} {id : String} (c : bfunB x id K = true) : mg x = some (.builtin id) := let ⟨_, X, G⟩ := T.h; bfun_mg X G c
theorem Tx.con (T : Tx fa fn K mg) {x : Str} {is : List Int} (c : conB x is K = true) : mg x = some (.ref (gaP K x)) := let ⟨_, X, G⟩ := T.h; con_mg X G c
end
/-! ### a pair of whole numbers that may be the module's own -/
section
variable {K : PySem.W.Frag}
abbrev dP2K (K : PySem.W.Frag) : DCod := ⟨Int × Int, fun F v x => ∀ H, Ex F H → Dp K H v (.tuple [.int x.1, .int x.2]), fun h e H e' => h H (e.trans e')⟩
def dqP2K : Dq K 1 (dP2K K) := ⟨fun x => .tuple [.int x.1, .int x.2], inferInstance, fun e h => h _ e, fun x => by simp [PyData.canLay0, PyData.canLayAll0], fun x => by simp [PyData.depth, PyData.depthAll], fun x y => (dqP2 (K := K) dqInt dqInt).eqv x y⟩
theorem sb_p2K : Sb (dP2 dInt dInt) (dP2K K) (fun x => x) := fun F v x h H e => (dqP2 (K := K) dqInt dqInt).dp e h
variable {p : Bool} {E : XK} {XC : Str → Value} {Γ : List Sl} {ta tb : TE} {x : Str} {i j : Int}
theorem pe_con {X : Cx} {x : Str} {pos : Pos} {a : Addr} (hg : Gl X x) (hm : X.mg x = some (.ref a)) (hd : (x == ("__debug__" : Str)) = false := by decide) : PE X (.Name x pos) (tC (.ref a)) := pe_glob hg hm rfl hd
theorem ev_con (c : conB x [i, j] K = true) : EvE p E XC Γ (tC (.ref (gaP K x))) (dP2K K) (fun R k ρ => k (i, j) ρ) := ev_c (c := dP2K K) (v := .ref (gaP K x)) (x := (i, j)) fun F H e => .tup (con_sq c H) (.cons (.int i) (.cons (.int j) .nil))
/-! ### gcd -/
def gcdI (a b : Int) : Int := ((Nat.gcd a.natAbs b.natAbs : Nat) : Int)
theorem ev_gcd {Ta Tb : (R : Type) → (Int → Env Γ → Pu.Res R) → Env Γ → Pu.Res R} (ha : EvE p E XC Γ ta dInt Ta) (hb : EvE p E XC Γ tb dInt Tb) :
    EvE p E XC Γ (tCB rGcd (tCons ta (tCons tb tNil))) dInt (fun R k ρ => Ta R (fun x ρ => Tb R (fun y ρ => k (gcdI x y) ρ) ρ) ρ) := fun B σ F H ρ I R G hG k Q g q =>
  ha B σ F H ρ I R G hG _ _ g fun x ρ1 v F1 H1 I1 e1 r1 g1 => hb B σ F1 H1 ρ1 I1 R G hG _ _ g1 fun y ρ2 w F2 H2 I2 e2 r2 g2 =>
    ⟨x, y, by rw [show v = V.int x from r1, show w = V.int y from r2], q _ ρ2 _ F2 H2 I2 (e1.trans e2) rfl g2⟩
end
end PuX
set_option Elab.async false
set_option linter.all false
set_option maxRecDepth 100000
set_option maxHeartbeats 4000000
/-! new things that nobody changes are data; fields put anew; fields that are lists of lists -/
namespace PuX
open PySem PySem.Spec PyProof.Rows L2 Evl Pu
section
variable {p : Bool} {E : XK} {XC : Str → Value} {Rt : Ret} {K : PySem.W.Frag} {Γ ΓL Γf : List Sl} {te ta tb : TE} {c d : DCod} {m : Cod} {C : Addr} {names : List Str} {i j : Nat} {k : Kd} {f : Str}
/-! ### self.f = e, a field that is data -/
theorem srelSetA {F H : Hp} {c : DCod} {v : V} {x : c.α} (r : c.rel F v x) : ∀ {Γ : List Sl} {i : Nat} (at_ : At Γ i (.da c)) {τ σ : L2.St} {L : Fps} {ρ : Env Γ}, SRel Γ τ σ F H L ρ → SRel Γ τ (σ.set i (some v)) F H L (at_.put ρ x)
  | _, _, .z, τ, σ, L, ρ, ⟨w, σ', e, _, h⟩ => ⟨v, σ', by rw [e]; rfl, r, h⟩
  | .no :: Γ, _, .s a, τ, σ, L, ρ, ⟨w, σ', e, h⟩ => ⟨w, σ'.set _ (some v), by rw [e]; rfl, srelSetA r a h⟩
  | .da _ :: Γ, _, .s a, τ, σ, L, ρ, ⟨w, σ', e, r', h⟩ => ⟨w, σ'.set _ (some v), by rw [e]; rfl, r', srelSetA r a h⟩
  | .m _ _ :: Γ, _, .s a, τ, σ, L, ρ, ⟨w, σ', fp, L', e, e2, e3, r', h⟩ => ⟨w, σ'.set _ (some v), fp, L', by rw [e]; rfl, e2, e3, r', srelSetA r a h⟩
theorem putF_zip {f : Str} {v : V} : ∀ {names : List Str} {vs : List V} {j : Nat}, fIx names f = some j → vs.length = names.length → putF f v (names.zip vs) = names.zip (vs.set j v)
  | [], _, _, h, _ => nomatch h
  | n :: ns, [], _, _, hv => by simp at hv
  | n :: ns, w :: ws, j, h, hv => by
    unfold fIx at h
    rw [List.zip_cons_cons]
    unfold putF
    by_cases e : (f == n) = true
    · rw [if_pos e] at h
      cases h
      rw [if_pos (eq_of_beq e).symm]
      rfl
    · rw [if_neg e] at h
      have e2 : ¬ n = f := fun z => e (by rw [z]; exact beq_self_eq_true f)
      rw [if_neg e2]
      cases h2 : fIx ns f with
      | none => rw [h2] at h; cases h
      | some q =>
        rw [h2] at h
        cases h
        rw [putF_zip h2 (by simpa using hv)]
        rfl
theorem st_setDF (hk : k ≠ .co) (at_ : At Γ i (.m k (mObj C names Γf))) (atf : At Γf j (.da c)) (hn : fIx names f = some j) (hc : Cls K C) (hna : NoAttr K C f) (hl : names.length < 1000) {T : (R : Type) → (c.α → Env Γ → Pu.Res R) → Env Γ → Pu.Res R} (h : EvE p E XC Γ te c T) :
    StE E XC Rt Γ (sFld K (tVar i) te f) Γ ΓL (fun R nx rt bk ct ρ => T R (fun x ρ => nx (at_.put ρ (atf.put (at_.get ρ) x))) ρ) := fun B σ F H ρ I R G hG nx rt bk ct D g qn qr qb qc =>
  h B σ F H ρ I R G hG _ _ g fun x ρ1 u F1 H1 I1 e1 r1 g1 => by
    obtain ⟨v, fp, h1, _, hr, nd, hfp, hst⟩ := I1.mut at_
    obtain ⟨q, dx, vs0, fp', rfl, hq, rfl, hv, hs⟩ := hr
    refine ⟨.ref q, h1, q, C, dx, _, rfl, hq, hc, hna, ?_, qn _ σ F1 _ (hst hk F1 _ (q :: fp') _ ⟨Ex.refl _, fun a o ha => ?_, fun a o ha hm => ?_, fun a o ha => ?_, fun a o ha => .inl ha, nd, fun a ha => ?_⟩ ⟨q, dx, vs0.set j u, fp', rfl, by rw [upd_same, putF_zip hn hv], rfl, by rw [List.length_set]; exact hv, ?_⟩) e1.1 g1⟩
    · rw [List.length_zip]; omega
    · rw [upd_ne (ne_of_none ha (hfp q List.mem_cons_self).1)]; exact I1.fh a o ha
    · rw [upd_ne (fun e => hm (by rw [e]; exact List.mem_cons_self))]; exact ha
    · by_cases he : a = q
      · subst he; exact ⟨_, upd_same⟩
      · exact ⟨o, by rw [upd_ne he]; exact ha⟩
    · obtain ⟨z1, ⟨o, z2⟩, _⟩ := hfp a ha
      refine ⟨.inl ha, z1, ?_⟩
      by_cases he : a = q
      · subst he; exact ⟨_, upd_same⟩
      · exact ⟨o, by rw [upd_ne he]; exact z2⟩
    · have w := srelSetA r1 atf hs
      rw [← List.map_set] at w
      exact w.ext (Ex.refl _) fun kk a ha => upd_ne fun e => (List.nodup_cons.mp nd).1 (by rw [← e]; exact (mem_tag.mp ha).2)
/-! ### a field that is a list of lists -/
theorem fldLL_step {B : Base} {σ : L2.St} {F H : Hp} {ρ : Env Γ} (hk : k ≠ .co) (I : SInv B Γ σ F H ρ) (at_ : At Γ i (.m k (mObj C names Γf))) (atf : At Γf j (.m .lo (mLL c))) (hn : fIx names f = some j) :
    ∃ q dx fs l as, σ[i]? = some (some (.ref q)) ∧ H q = some (.ins C dx fs) ∧ fs.lookup f = some (.ref l) ∧ H l = some (.lst (as.map V.ref)) ∧ LLR c F H as (atf.get (at_.get ρ)) ∧ as.Nodup ∧
      ∀ a o xs', a ∈ as → LLR c F (upd H a o) as xs' → List.length (α := List c.α) xs' = List.length (α := List c.α) (atf.get (at_.get ρ)) → SInv B Γ σ F (upd H a o) (at_.put ρ (atf.put (at_.get ρ) xs')) := by
  obtain ⟨v, fp, h1, _, hr, nd, hfp, hst⟩ := I.mut at_
  obtain ⟨q, dx, vs0, fp', rfl, hq, rfl, hv, hs⟩ := hr
  obtain ⟨u, fpl, L1, L2, g1, _, g3, g4, g5⟩ := hs.mut atf
  obtain ⟨l, as, rfl, rfl, hl, pv, hz⟩ := g4
  have efp : fp' = L1.map (·.2) ++ (l :: as) ++ L2.map (·.2) := by
    have := congrArg (List.map (·.2)) g3
    rw [tag_map] at this
    rw [this, List.map_append, List.map_append, tag_map]
  have hin : ∀ b, b ∈ l :: as → b ∈ fp' := fun b hb => by rw [efp]; exact List.mem_append_left _ (List.mem_append_right _ hb)
  have nd2 := (List.nodup_cons.mp nd).2
  rw [efp] at nd2
  have n1 := List.nodup_append.mp nd2
  have n2 := List.nodup_append.mp n1.1
  have n3 := List.nodup_cons.mp n2.2.1
  refine ⟨q, dx, _, l, as, h1, hq, fIx_look hn (map_some_get g1), hl, pv, n3.2, fun a o xs' ha dd hz' => ?_⟩
  have ham := hin a (List.mem_cons_of_mem _ ha)
  have haq : a ≠ q := fun e => (List.nodup_cons.mp nd).1 (e ▸ ham)
  have hal : a ≠ l := fun e => n3.1 (e ▸ ha)
  refine hst hk F _ (q :: fp') _ ⟨Ex.refl _, fun b u hb => ?_, fun b u hb hm => ?_, fun b u hb => ?_, fun b u hb => .inl hb, nd, fun b hb => ?_⟩ ⟨q, dx, vs0, fp', rfl, by rw [upd_ne (Ne.symm haq)]; exact hq, rfl, hv, ?_⟩
  · rw [upd_ne (ne_of_none hb (hfp a (List.mem_cons_of_mem _ ham)).1)]; exact I.fh b u hb
  · rw [upd_ne (fun e => hm (by rw [e]; exact List.mem_cons_of_mem _ ham))]; exact hb
  · by_cases he : b = a
    · subst he; exact ⟨_, upd_same⟩
    · exact ⟨u, by rw [upd_ne he]; exact hb⟩
  · obtain ⟨z1, ⟨u, z2⟩, _⟩ := hfp b hb
    refine ⟨.inl hb, z1, ?_⟩
    by_cases he : b = a
    · subst he; exact ⟨_, upd_same⟩
    · exact ⟨u, by rw [upd_ne he]; exact z2⟩
  · have w := g5 F (upd H a o) (l :: as) xs' (Ex.refl _) (fun kk b hb => upd_ne fun e => ?_) ⟨l, as, rfl, rfl, by rw [upd_ne (Ne.symm hal)]; exact hl, dd, by rw [hz']; exact hz⟩
    · rw [← g3] at w; exact w
    · subst e
      rcases List.mem_append.mp hb with z | z
      · exact n2.2.2 b (List.mem_map.mpr ⟨_, z, rfl⟩) b (List.mem_cons_of_mem _ ha) rfl
      · exact n1.2.2 b (List.mem_append_right _ (List.mem_cons_of_mem _ ha)) b (List.mem_map.mpr ⟨_, z, rfl⟩) rfl
theorem st_setLLF (hk : k ≠ .co) (at_ : At Γ i (.m k (mObj C names Γf))) (atf : At Γf j (.m .lo (mLL c))) (hn : fIx names f = some j) (hc : Cls K C) (hna : NoAttr K C f) {T : (R : Type) → (c.α → Env Γ → Pu.Res R) → Env Γ → Pu.Res R} {Ta Tb : (R : Type) → (Int → Env Γ → Pu.Res R) → Env Γ → Pu.Res R} (h : EvE p E XC Γ te c T) (ha : EvE true E XC Γ ta dInt Ta) (hb : EvE true E XC Γ tb dInt Tb) :
    StE E XC Rt Γ (tAsg te (gSub (L2.tOp (rIxL K) (tFld K (tVar i) f) ta) tb L2.rSetL)) Γ ΓL (fun R nx rt bk ct ρ => T R (fun x ρ => Ta R (fun n ρ => opt (L2.atI (α := List c.α) (atf.get (at_.get ρ)) n) fun _ => Tb R (fun m ρ => opt (setLL (α := c.α) (atf.get (at_.get ρ)) n m x) fun xs => nx (at_.put ρ (atf.put (at_.get ρ) xs))) ρ) ρ) ρ) := fun B σ F H ρ I R G hG nx rt bk ct D g qn qr qb qc =>
  h B σ F H ρ I R G hG _ _ g fun x ρ1 u F1 H1 I1 e1 r1 g1 => by
    obtain ⟨q, dx, fs, l, as, h1, hq, hf, hl, dd, nd, _⟩ := fldLL_step hk I1 at_ atf hn
    refine ⟨.ref q, h1, q, C, dx, fs, .ref l, rfl, hq, hc, hna, hf, ha B σ F1 H1 ρ1 I1 R G hG _ _ g1 fun n ρ2 w F2 H2 I2 e2 r2 g2 => ?_⟩
    have r2 : w = V.int n := r2
    subst r2
    obtain ⟨_, pe2⟩ := e2.2 rfl
    obtain ⟨q2, dx2, fs2, l2, as2, k1, k2, k3, hl2, dd2, nd2, _⟩ := fldLL_step hk I2 at_ atf hn
    rw [h1] at k1
    cases k1
    rw [pe2.hh q _ hq] at k2
    cases k2
    rw [hf] at k3
    cases k3
    have hl' := pe2.hh l _ hl
    obtain rfl := lst_inj hl' hl2
    cases hrow : L2.atI (α := List c.α) (atf.get (at_.get ρ2)) n with
    | none => rw [hrow] at g2; exact absurd g2 hG.1
    | some row =>
      rw [hrow] at g2
      obtain ⟨y, hy, hrow2⟩ := atI_at hrow
      obtain ⟨b, _, hb2, _⟩ := dd2.at_ hrow2 nd2
      refine ⟨l, as.map V.ref, n, .ref b, rfl, rfl, SqL.of hl', atI_refs dd2.len hy hb2, hb B σ F2 H2 ρ2 I2 R G hG _ _ g2 fun m ρ3 w3 F3 H3 I3 e3 r3 g3 => ?_⟩
      have r3 : w3 = V.int m := r3
      subst r3
      obtain ⟨er3, pe3⟩ := e3.2 rfl
      subst er3
      obtain ⟨q3, dx3, fs3, l3, as3, k1, k2, k3, hl3, dd3, nd3, hs⟩ := fldLL_step hk I3 at_ atf hn
      rw [h1] at k1
      cases k1
      rw [pe3.hh q _ (pe2.hh q _ hq)] at k2
      cases k2
      rw [hf] at k3
      cases k3
      obtain rfl := lst_inj (pe3.hh l _ hl') hl3
      have g3 : G (opt (setLL (α := c.α) (atf.get (at_.get ρ3)) n m x) fun xs => nx (at_.put ρ3 (atf.put (at_.get ρ3) xs))) := g3
      obtain ⟨b3, vs, k1, k2, k3, k4, k5, k6⟩ := dd3.at_ hrow2 nd3
      rw [hb2] at k1
      cases k1
      unfold setLL at g3
      rw [hy] at g3
      dsimp only at g3
      rw [hrow2] at g3
      dsimp only at g3
      unfold setL at g3
      cases hm : ixN row.length m with
      | none => rw [hm] at g3; exact absurd g3 hG.1
      | some z =>
        rw [hm] at g3
        exact ⟨b, vs, m, z, rfl, rfl, k3, by rw [k4.length]; exact hm, qn _ σ F3 _ (hs b _ _ k2 (k6 _ _ (k4.set (c.ext r1 (e2.1.trans e3.1)) z) (by rw [List.length_set]; exact k5)) (List.length_set ..)) ((e1.1.trans e2.1).trans e3.1) g3⟩
end
end PuX
set_option Elab.async false
set_option linter.all false
set_option maxRecDepth 100000
set_option maxHeartbeats 4000000
/-! d == {}; for k, v in d.items() -/
namespace PuX
open PySem PySem.Spec PyProof.Rows L2 Evl Pu
def rEqD0 : V → V → Hp → VK → Prop := fun x y H Q => ∃ (a b : Addr) (ks : List (Key × V)), (x = .ref a ∧ y = .ref b) ∧ Rd H a (.dK ks) ∧ Rd H b (.dK []) ∧ Q (.bl ks.isEmpty) H
section
variable {X : Cx}
theorem op_eqD0 (hu : X.A.units < cLine) : OpR X (compareOp .Eq) rEqD0 := fun pins s σ H x y v u Q I rx ry h => by
  obtain ⟨a, b, ks, ⟨rfl, rfl⟩, h1, h2, q⟩ := h
  obtain rfl : v = Value.ref a := rx
  obtain rfl : u = Value.ref b := ry
  obtain ⟨_, ya, va, ra, da⟩ := dk_rd I.hok h1
  obtain ⟨_, yb, vb, rb, db⟩ := dk_rd I.hok h2
  have hl := Paired.length ra
  have hlb := Paired.length rb
  have e2 : vb = [] := List.length_eq_zero_iff.mp hlb.symm
  subst e2
  refine PySem.W.rcP_dicts (knd := mixKind X.prog X.w) (r := true) ya yb da db hu (fun e => ?_) _ _ ⟨.bl ks.isEmpty, H, I, ?_, q⟩
  · rw [List.length_eq_zero_iff.mp e]; exact .nil
  · have : (va.length == ([] : List (Key × Value)).length && true) = ks.isEmpty := by
      cases ks with
      | nil => rw [List.length_eq_zero_iff.mp hl.symm]; rfl
      | cons k ks =>
        cases va with
        | nil => cases hl
        | cons v va => rfl
    rw [this]
    rfl
end
section
variable {p : Bool} {E : XK} {XC : Str → Value} {K : PySem.W.Frag} {Γ : List Sl} {te : TE} {c : DCod}
theorem ev_eqD0 {T : (R : Type) → (List (Int × c.α) → Env Γ → Pu.Res R) → Env Γ → Pu.Res R} (h : EvE p E XC Γ te (dDicF c) T) : EvE p E XC Γ (L2.tOp rEqD0 te tDNewK) dBl (fun R k ρ => T R (fun xs ρ => k (List.isEmpty (α := Int × c.α) xs) ρ) ρ) := fun B σ F H ρ I R G hG k Q g qq =>
  h B σ F H ρ I R G hG _ _ g fun xs ρ' v F' H' I' e r g' => by
    obtain ⟨l, od, ks, rfl, hl, hk, hz⟩ := r
    refine fun d hd => ⟨l, d, ks, ⟨rfl, rfl⟩, .inr ⟨od, (I'.fh.trans (Ex.new hd)) _ _ hl⟩, .inl upd_same, ?_⟩
    have e2 : ks.isEmpty = List.isEmpty (α := Int × c.α) xs := by cases hk <;> rfl
    rw [e2]
    exact qq _ ρ' _ _ _ (I'.pext (Pext.own I'.fh hd)) (e.pext (Pext.own I'.fh hd)) rfl g'
theorem kvr_all {F : Hp} : ∀ {ks : List (Key × V)} {kvs : List (Int × c.α)} {i : Nat} {k : Key} {v : V}, KVR c F ks kvs → ks[i]? = some (k, v) → ∃ b, kvs[i]? = some b ∧ k = .inl b.1 ∧ c.rel F v b.2
  | _, _, _, _, _, .nil, e => by simp at e
  | _, _, 0, k, v, .cons (a := a) (b := b) r _, e => ⟨b, rfl, by
    have e : a = (k, v) := by simpa using e
    rw [e] at r
    exact r⟩
  | _, _, i + 1, _, _, .cons _ t, e => by
    obtain ⟨j, h1, h2⟩ := kvr_all t (i := i) (by simpa using e)
    exact ⟨j, by simpa using h1, h2⟩
theorem ei_itemsF {T : (R : Type) → (List (Int × c.α) → Env Γ → Pu.Res R) → Env Γ → Pu.Res R} (h : EvE p E XC Γ te (dDicF c) T) : EvI p E XC Γ (iItems te) (dP2 dInt c) (fun R k ρ => T R (fun xs ρ => k xs ρ) ρ) := fun B σ F H ρ I R G hG k Q g qq =>
  h B σ F H ρ I R G hG _ _ g fun xs ρ' v F' H' I' e r g' => by
    obtain ⟨l, od, ks, rfl, hl, hk, hz⟩ := r
    have hlen : ks.length = xs.length := Paired.length hk
    have W : Walks (Iti l od ks) (dP2 dInt c) xs F' := ⟨YPair (fun i => ks[i]?.map fun kv => kV kv.1) (fun i => ks[i]?.map Prod.snd), by
      rw [← hlen]
      exact walk_items.mono (fun H2 e2 => e2 l _ hl) fun i H2 x H3 _ _ y => y, fun i H2 u H3 F1 y e1 e2 => by
      obtain ⟨T, x, z, rfl, hT, rfl, q1, q2⟩ := y
      obtain ⟨kv, hkv, rfl⟩ := Option.map_eq_some_iff.mp q1
      dsimp only at q2
      rw [hkv] at q2
      cases q2
      obtain ⟨b, h1, h2, h3⟩ := kvr_all hk hkv
      have e3 : kV kv.1 = V.int b.1 := by rw [h2]; rfl
      rw [e3]
      exact ⟨_, b, h1, Pext.one e2 hT, T, .int b.1, kv.2, rfl, upd_same, rfl, c.ext h3 (e1.trans (Ex.new (none_of e2 hT)))⟩⟩
    exact ⟨l, od, ks, rfl, I'.fh l _ hl, qq _ ρ' _ F' H' I' e W g' (by omega)⟩
variable {Rt : Ret} {Γ' ΓL : List Sl} {m : Cod} {d : DCod}
theorem st_retZ (z : Fz m d) {i : Nat} (at_ : At Γ i (.m .lo m)) : StE E XC (retD d) Γ (tRet (tVar i)) Γ' ΓL (fun R nx rt bk ct ρ => rt (z.conv (at_.get ρ)) ()) := fun B σ F H ρ I R G hG nx rt bk ct D g qn qr qb qc => by
  obtain ⟨v, fp, h1, _, hr, nd, hfp, _⟩ := I.mut at_
  obtain ⟨F2, hF2⟩ : ∃ F2 : Hp, F2 = fun a => if a ∈ fp then H a else F a := ⟨_, rfl⟩
  have inn : ∀ a, a ∈ fp → F2 a = H a := fun a ha => by rw [hF2]; exact if_pos ha
  have out : ∀ a, a ∉ fp → F2 a = F a := fun a ha => by rw [hF2]; exact if_neg ha
  have eF : Ex F F2 := fun a u ea => by
    rw [out a fun ha => by rw [(hfp a ha).1] at ea; cases ea]
    exact ea
  refine ⟨_, h1, qr _ () _ F2 H (fun hM hN => ?_) (z.ok hr eF inn) g⟩
  have pp := I.pextB hM hN
  refine ⟨pp.hh, pp.ff.trans eF, fun a o ha => ?_, fun a o ha => ?_⟩
  · by_cases he : a ∈ fp
    · rw [inn a he] at ha; exact ha
    · rw [out a he] at ha; exact I.fh a o ha
  · by_cases he : a ∈ fp
    · rcases (hfp a he).2.2.2 rfl with y | y
      · rw [hN] at y; cases y
      · exact .inr y
    · rw [out a he] at ha; exact pp.new a o ha
end
section
variable {p : Bool} {E : XK} {XC : Str → Value} {K : PySem.W.Frag} {Γ Γf : List Sl} {ta tb : TE} {c : DCod} {C : Addr} {names : List Str} {i j : Nat} {k : Kd} {f : Str}
theorem ev_ixF (hk : k ≠ .co) (at_ : At Γ i (.m k (mObj C names Γf))) (atf : At Γf j (.m .lo (mLst c))) (hn : fIx names f = some j) (hc : Cls K C) (hna : NoAttr K C f) {Ta : (R : Type) → (Int → Env Γ → Pu.Res R) → Env Γ → Pu.Res R} (ha : EvE true E XC Γ ta dInt Ta) :
    EvE p E XC Γ (L2.tOp (rIxL K) (tFld K (tVar i) f) ta) c (fun R kk ρ => Ta R (fun n ρ => opt (L2.atI (α := c.α) (atf.get (at_.get ρ)) n) fun z => kk z ρ) ρ) := fun B σ F H ρ I R G hG kk Q g qq => by
  obtain ⟨q, dx, fs, l, vs, h1, hq, hf, hl, _⟩ := fld_step hk I at_ atf hn
  refine ⟨.ref q, h1, q, C, dx, fs, .ref l, rfl, hq, hc, hna, hf, ha B σ F H ρ I R G hG _ _ g fun n ρ2 w F2 H2 I2 e2 r2 g2 => ?_⟩
  have r2 : w = V.int n := r2
  subst r2
  obtain ⟨_, pe2⟩ := e2.2 rfl
  obtain ⟨vs2, hl2, pv, hz, _⟩ := fld_again hk I2 at_ atf hn h1 (pe2.hh q _ hq) hf
  have g2 : G (opt (L2.atI (α := c.α) (atf.get (at_.get ρ2)) n) fun z => kk z ρ2) := g2
  cases hr : L2.atI (α := c.α) (atf.get (at_.get ρ2)) n with
  | none => rw [hr] at g2; exact absurd g2 hG.1
  | some z =>
    rw [hr] at g2
    obtain ⟨y, hy, hz2⟩ := atI_at hr
    obtain ⟨u, hu, ru⟩ := pv.get hz2
    refine ⟨l, vs2, n, u, rfl, rfl, SqL.of hl2, ?_, qq z ρ2 u F2 H2 I2 e2.weak ru g2⟩
    unfold L2.atI
    rw [pv.length, hy]
    exact hu
theorem ev_ixLLF (hk : k ≠ .co) (at_ : At Γ i (.m k (mObj C names Γf))) (atf : At Γf j (.m .lo (mLL c))) (hn : fIx names f = some j) (hc : Cls K C) (hna : NoAttr K C f) {Ta Tb : (R : Type) → (Int → Env Γ → Pu.Res R) → Env Γ → Pu.Res R} (ha : EvE true E XC Γ ta dInt Ta) (hb : EvE true E XC Γ tb dInt Tb) :
    EvE p E XC Γ (L2.tOp (rIxL K) (L2.tOp (rIxL K) (tFld K (tVar i) f) ta) tb) c (fun R kk ρ => Ta R (fun n ρ => opt (L2.atI (α := List c.α) (atf.get (at_.get ρ)) n) fun row => Tb R (fun m ρ => opt (L2.atI (α := c.α) row m) fun z => kk z ρ) ρ) ρ) := fun B σ F H ρ I R G hG kk Q g qq => by
  obtain ⟨q, dx, fs, l, as, h1, hq, hf, hl, _⟩ := fldLL_step hk I at_ atf hn
  refine ⟨.ref q, h1, q, C, dx, fs, .ref l, rfl, hq, hc, hna, hf, ha B σ F H ρ I R G hG _ _ g fun n ρ2 w F2 H2 I2 e2 r2 g2 => ?_⟩
  have r2 : w = V.int n := r2
  subst r2
  obtain ⟨_, pe2⟩ := e2.2 rfl
  obtain ⟨q2, dx2, fs2, l2, as2, k1, k2, k3, hl2, dd2, nd2, _⟩ := fldLL_step hk I2 at_ atf hn
  rw [h1] at k1
  cases k1
  rw [pe2.hh q _ hq] at k2
  cases k2
  rw [hf] at k3
  cases k3
  have hl' := pe2.hh l _ hl
  obtain rfl := lst_inj hl' hl2
  have g2 : G (opt (L2.atI (α := List c.α) (atf.get (at_.get ρ2)) n) fun row => Tb R (fun m ρ => opt (L2.atI (α := c.α) row m) fun z => kk z ρ) ρ2) := g2
  cases hrow : L2.atI (α := List c.α) (atf.get (at_.get ρ2)) n with
  | none => rw [hrow] at g2; exact absurd g2 hG.1
  | some row =>
    rw [hrow] at g2
    obtain ⟨y, hy, hrow2⟩ := atI_at hrow
    obtain ⟨b, _, hb2, _⟩ := dd2.at_ hrow2 nd2
    refine ⟨l, as.map V.ref, n, .ref b, rfl, rfl, SqL.of hl', atI_refs dd2.len hy hb2, hb B σ F2 H2 ρ2 I2 R G hG _ _ g2 fun m ρ3 w3 F3 H3 I3 e3 r3 g3 => ?_⟩
    have r3 : w3 = V.int m := r3
    subst r3
    obtain ⟨er3, pe3⟩ := e3.2 rfl
    subst er3
    obtain ⟨q3, dx3, fs3, l3, as3, k1, k2, k3, hl3, dd3, nd3, hs⟩ := fldLL_step hk I3 at_ atf hn
    rw [h1] at k1
    cases k1
    rw [pe3.hh q _ (pe2.hh q _ hq)] at k2
    cases k2
    rw [hf] at k3
    cases k3
    obtain rfl := lst_inj (pe3.hh l _ hl') hl3
    obtain ⟨b3, vs, k1, k2, k3, k4, k5, k6⟩ := dd3.at_ hrow2 nd3
    rw [hb2] at k1
    cases k1
    have g3 : G (opt (L2.atI (α := c.α) row m) fun z => kk z ρ3) := g3
    cases hr : L2.atI (α := c.α) row m with
    | none => rw [hr] at g3; exact absurd g3 hG.1
    | some z =>
      rw [hr] at g3
      obtain ⟨y3, hy3, hz3⟩ := atI_at hr
      obtain ⟨u, hu, ru⟩ := k4.get hz3
      refine ⟨b, vs, m, u, rfl, rfl, SqL.of k3, ?_, qq z ρ3 u F3 H3 I3 (e2.weak.trans e3.weak) ru g3⟩
      unfold L2.atI
      rw [k4.length, hy3]
      exact hu
end
section
variable {p : Bool} {E : XK} {XC : Str → Value} {K : PySem.W.Frag} {Γ Γf : List Sl} {tA : TA} {c : DCod} {cs : List DCod} {C : Addr} {names : List Str} {i : Nat} {k : Kd}
theorem ev_methC {nm : Str} {fn : Env Γf → DEnv cs → Pu.Res c.α} (hn : names.contains nm = false) (at_ : At Γ i (.m k (mObj C names Γf))) {TA : (R : Type) → (DEnv cs → Env Γ → Pu.Res R) → Env Γ → Pu.Res R} (h : EvA true E XC Γ tA cs TA) :
    EvE p E XC Γ (tMeth C nm (spC XC (mObj C names Γf) cs c fn) [] E (tVar i) tA) c (fun R kk ρ => TA R (fun x ρ => (fn (at_.get ρ) x).bind fun z => kk z ρ) ρ) := fun B σ F H ρ I R G hG kk Q g q => by
  obtain ⟨v, fp0, h1, _, hr0, _⟩ := I.mut at_
  obtain ⟨q0, dx0, vs0, fp0', rfl, hq0, _⟩ := hr0
  refine ⟨_, h1, q0, dx0, _, rfl, hq0, zip_no hn _, h B σ F H ρ I R G hG _ _ g fun x ρ1 vs F1 H1 I1 e1 r1 g1 => ?_⟩
  obtain ⟨v', fp, h2, _, hr, nd, hfp, hst⟩ := I1.mut at_
  rw [h1] at h2
  cases h2
  exact ⟨F1, fp, .ref q0, vs ++ [], at_.get ρ1, x, rfl, I1.fh, hr, nd, fun a ha => ⟨(hfp a ha).1, (hfp a ha).2.1⟩, r1.app, call_goes hG I1 g1 fun z u F' H' _ pp r g2 => q z ρ1 u F' H' (I1.pext pp) (e1.weak.pext pp) r g2⟩
end
end PuX
set_option Elab.async false
set_option linter.all false
set_option maxRecDepth 100000
set_option maxHeartbeats 4000000
/-! a local thing handed out as it is; min with a default; t[:0:-1]; a list of options none of which is nothing -/
namespace PuX
open PySem PySem.Spec L2 Evl Pu
open PyProof.Rows hiding St
section
variable {prog : Program} {w : World} {A : Around} {E : Value → Shared → Prop} {s : Shared}
end
section
variable {X : Cx}
end
section
variable {p : Bool} {E : XK} {XC : Str → Value} {Rt : Ret} {K : PySem.W.Frag} {Γ Γ' ΓL : List Sl} {te td : TE} {c : DCod} {m : Cod}
end
/-! ### min(xs, default=d) -/
section
variable {X : Cx} {K : PySem.W.Frag}
end
section
variable {p : Bool} {E : XK} {XC : Str → Value} {K : PySem.W.Frag} {Γ : List Sl} {te td : TE}
end
/-! ### keyed, of a list that may change -/
section
variable {E : XK} {XC : Str → Value} {K : PySem.W.Frag} {Γ Γc : List Sl} {te tb : TE} {P : Addr} {q a : Str} {jt : Nat} {d : LamD} {cells : List (Str × Addr)} {kd : Kd} {fr : List Str} {js : List Nat} {gt pk : Bool} {c : DCod}
end
/-! ### a new list by a reading, to be kept -/
section
variable {p : Bool} {E : XK} {XC : Str → Value} {Γ Γ' : List Sl} {te : TE} {c : DCod}
end
/-! ### a, b = new, data, where a name has a cell -/
section
variable {p : Bool} {E : XK} {XC : Str → Value} {Rt : Ret} {K : PySem.W.Frag} {Γ Γ' Γ1 ΓL : List Sl} {i j : Nat} {ta tb : TE} {m : Cod} {b : DCod}
end
section
variable {p : Bool} {E : XK} {XC : Str → Value} {Γ Γ' : List Sl} {tt : TT}
end
/-! ### zip of two lists -/
section
open PyProof.Rows PuU L2 Evl Pu
def ItzLL (K : PySem.W.Frag) (a b : Addr) : It :=
  ⟨fun i H => ∃ xs ys : List V, SqL K H a xs ∧ SqL K H b ys ∧ i < xs.length ∧ i < ys.length,
    fun i H v H' => ∃ T x y, v = .ref T ∧ H T = none ∧ H' = upd H T (.tup [x, y]) ∧ (∀ xs, SqL K H a xs → xs[i]? = some x) ∧ ∀ ys, SqL K H b ys → ys[i]? = some y,
    fun i H => ∃ xs ys : List V, SqL K H a xs ∧ SqL K H b ys ∧ i ≤ xs.length ∧ i ≤ ys.length ∧ (i = xs.length ∨ i = ys.length)⟩
theorem turn_zipLL {P : Program} {w : World} {K : PySem.W.Frag} {elts : List Expr} {kk : Nat} {tpos : Pos} {a b z TI TO i1 i2 : Addr} (S : ZipSep2 z TI TO i1 i2 [i1, a] [i2, b]) (na : a ≠ i1) (nb : b ≠ i2) :
    Turn P w K (.Tuple elts kk tpos) (ItzLL K a b) [z, TI, TO, i1, i2] z (fun i h => IsZip h z TI TO .none ∧ IsTupOf2 h TI (.ref i1) (.ref i2) ∧ (∃ x y, IsTupOf2 h TO x y) ∧ h.IsListIter i1 a i ∧ h.IsListIter i2 b i) where
  mem := by simp
  obj := fun i h ⟨hz, hTI, ⟨_, _, hTO⟩, ⟨o1, e1, _, d1⟩, ⟨o2, e2, _, d2⟩⟩ d hd => by
    rcases cell5 hd with q | q | q | q | q
    · rw [q]; exact ⟨_, hz, fun v q => nomatch q⟩
    · rw [q]; exact ⟨_, hTI, fun v q => nomatch q⟩
    · rw [q]; exact ⟨_, hTO, fun v q => nomatch q⟩
    · rw [q]; exact ⟨o1, e1, fun v q => by rw [d1] at q; cases q⟩
    · rw [q]; exact ⟨o2, e2, fun v q => by rw [d2] at q; cases q⟩
  keep := fun i h h' ⟨hz, hTI, ⟨x, y, hTO⟩, h1, h2⟩ k => ⟨k z (by simp) _ hz, k TI (by simp) _ hTI, ⟨x, y, k TO (by simp) _ hTO⟩, h1.at fun o q => k i1 (by simp) o q, h2.at fun o q => k i2 (by simp) o q⟩
  item := fun X hP hw hK hc i pins s σ H E I hf ⟨hz, hTI, ⟨_, _, hTO⟩, h1, h2⟩ ⟨xs, ys, qx, qy, l1, l2⟩ => by
    subst hP hw hK
    obtain ⟨ux, rx, px, _⟩ := I.list qx
    obtain ⟨uy, ry, py, _⟩ := I.list qy
    have hh := I.ok.hd hc
    have D1 := Draws.list (prog := X.prog) (w := X.w) (A := X.A.in1) hh i1 a na ux.toArray
    have D2 := Draws.list (prog := X.prog) (w := X.w) (A := X.A.in1) hh i2 b nb uy.toArray
    have n1 := rx.length
    have n2 := ry.length
    have zl := Heap.lt_size hz
    refine wpAny_pyNext_zipD2_item S D1 D2 hz hTI hTO ⟨h1, px.isList⟩ ⟨h2, py.isList⟩ (by simp; omega) (by simp; omega) fun x1 x2 h' tk e1 e2 z' TO' s1 s2 hT hsz hk => ⟨_, rfl, ?_⟩
    refine wpAny_letOwnedTupleGo_zip (s := { s with heap := h', toks := tk }) z' fun h'' z'' sb => ?_
    obtain ⟨x, hx, r1⟩ : ∃ x, xs[i]? = some x ∧ RelV x x1 := by
      obtain ⟨u, hu, r⟩ := rx.get (List.getElem?_eq_getElem l1)
      refine ⟨_, List.getElem?_eq_getElem l1, ?_⟩
      have : ux[i]? = some x1 := by simpa using e1
      rw [hu] at this
      cases this
      exact r
    obtain ⟨y, hy, r2⟩ : ∃ x, ys[i]? = some x ∧ RelV x x2 := by
      obtain ⟨u, hu, r⟩ := ry.get (List.getElem?_eq_getElem l2)
      refine ⟨_, List.getElem?_eq_getElem l2, ?_⟩
      have : uy[i]? = some x2 := by simpa using e2
      rw [hu] at this
      cases this
      exact r
    have hT2 : h''.get? s.heap.objs.size = some { cls := .type "tuple", data := .seq #[x1, x2] } := (sb.2 _ (Nat.ne_of_gt zl)).trans hT
    have I1 : Inv X pins σ (upd H s.heap.objs.size (.tup [x, y])) { s with heap := h'', toks := tk } :=
      I.turnedNew (t' := tk) (ch := [z, TI, TO, i1, i2]) (fun d o hb q => by
        simp only [List.mem_cons, List.not_mem_nil, or_false, not_or] at hb
        exact (sb.2 d hb.1).trans (hk d o hb.1 hb.2.2.1 hb.2.2.2.1 hb.2.2.2.2 q)) hf (Nat.le_refl _) ⟨by show 2 ≤ sizeLine; decide, [x1, x2], .cons r1 (.cons r2 .nil), ⟨_, hT2, rfl, _, rfl⟩⟩
    refine ⟨.ref s.heap.objs.size, _, I1, rfl, ⟨_, x, y, rfl, I.hok.fresh (Nat.le_refl _), rfl, fun l hl => by rw [I.list_inj hl qx]; exact hx, fun l hl => by rw [I.list_inj hl qy]; exact hy⟩,
      ⟨z'', (sb.2 _ S.TIz).trans (hk _ _ S.TIz S.TITO S.TIi1 S.TIi2 hTI), ⟨x1, x2, (sb.2 _ S.TOz).trans TO'⟩, s1.1.at fun o q => (sb.2 _ (Ne.symm S.zi1)).trans q, s2.1.at fun o q => (sb.2 _ (Ne.symm S.zi2)).trans q⟩, fun d hd => ?_⟩
    have hlt : d < s.heap.objs.size := by
      rcases cell5 hd with q | q | q | q | q
      · rw [q]; exact zl
      · rw [q]; exact Heap.lt_size hTI
      · rw [q]; exact Heap.lt_size hTO
      · rw [q]; obtain ⟨_, e, _⟩ := h1; exact Heap.lt_size e
      · rw [q]; obtain ⟨_, e, _⟩ := h2; exact Heap.lt_size e
    rw [upd_ne (Nat.ne_of_lt hlt)]
    exact (hf d hd).1
  done := fun X hP hw hK hc i pins s σ H E I hf ⟨hz, hTI, ⟨_, _, hTO⟩, h1, h2⟩ ⟨xs, ys, qx, qy, l1, l2, hend⟩ => by
    subst hP hw hK
    obtain ⟨ux, rx, px, _⟩ := I.list qx
    obtain ⟨uy, ry, py, _⟩ := I.list qy
    have hh := I.ok.hd hc
    have D1 := Draws.list (prog := X.prog) (w := X.w) (A := X.A.in1) hh i1 a na ux.toArray
    have D2 := Draws.list (prog := X.prog) (w := X.w) (A := X.A.in1) hh i2 b nb uy.toArray
    have n1 := rx.length
    have n2 := ry.length
    refine wpAny_pyNext_zipD2_end S D1 D2 hz hTI hTO ⟨h1, px.isList⟩ ⟨h2, py.isList⟩ (by simp; omega) (by simp; omega) (by simp; omega) fun h' tk hk => ⟨rfl, I.turnedL (t' := tk) (ch := [z, TI, TO, i1, i2]) (fun d o hb q => ?_) hf⟩
    simp only [List.mem_cons, List.not_mem_nil, or_false, not_or] at hb
    exact hk d o hb.1 hb.2.2.1 hb.2.2.2.1 hb.2.2.2.2 q
  self := fun A i s Q E st h => wpAny_pyIter_zip st.1 h
def iZipLL (K : PySem.W.Frag) (ta : TA) : TI := fun σ H R => ta σ H fun vs H1 => ∃ (a b : Addr) (xs ys : List V), vs = [.ref a, .ref b] ∧ SqL K H1 a xs ∧ SqL K H1 b ys ∧ R (ItzLL K a b) H1
theorem pi_zipLL {X : Cx} {K : PySem.W.Frag} {e e2 : Expr} {ta : TA} {p pos tpos : Pos} {elts : List Expr} {kk : Nat} (hg : Gl X "zip") (hm : X.mg "zip" = none) (ha : PA X [e, e2] ta)
    (hs : starEach [e, e2] X.env = (false, eval e X.env) :: starEach [e2] X.env := by rfl) (hpl : (backTo pos (starEach [e2] X.env)).any (·.1) = false := by rfl) (hK : X.K = K := by rfl) :
    PI X (.Tuple elts kk tpos) (.Call (.Name "zip" p) [e, e2] [] pos) (iZipLL K ta) := by
  subst hK
  refine ⟨fun pins s σ H R I h => Call_ (ld_blt I hg hm PyProof.Rows.boot_zip (PyProof.Rows.callWith_type1 (thn (ha.run pos pins s σ H _ I h) fun us s1 ⟨vs, H1, I1, r1, a, b, xs, ys, ex, qx, qy, q⟩ => ?_) hs hpl))⟩
  subst ex
  obtain ⟨u1, us1, rfl, r1a, r1⟩ : ∃ u us', us = u :: us' ∧ RelV (.ref a) u ∧ Vals [V.ref b] us' := by cases r1 with | cons r t => exact ⟨_, _, rfl, r, t⟩
  obtain rfl := Vals.ref1 r1
  obtain rfl : u1 = Value.ref a := r1a
  obtain ⟨ux, rx, px, _⟩ := I1.list qx
  obtain ⟨uy, ry, py, _⟩ := I1.list qy
  have la : a < s1.heap.objs.size := px.lt
  have lb : b < s1.heap.objs.size := py.lt
  refine zip_begins2 (begins_list a ux.toArray) (begins_list b uy.toArray) px.isList py.isList fun h' hz hTI hTO g1 g2 hsz hk => wpAny_pyIter_zip hz ?_
  have I2 : Inv X pins σ H1 { s1 with heap := h' } := I1.kept (t' := s1.toks) hk
  refine ⟨s1.heap.objs.size + 4, [s1.heap.objs.size + 4, s1.heap.objs.size + 2, s1.heap.objs.size + 3, s1.heap.objs.size, s1.heap.objs.size + 1], _, _, H1, rfl, I2,
    turn_zipLL (zip_sep2 (fp1 := [a]) (fp2 := [b]) (fun d hd => by rw [List.mem_singleton.mp hd]; exact la) (fun d hd => by rw [List.mem_singleton.mp hd]; exact lb)) (Nat.ne_of_lt la) (Nat.ne_of_lt (Nat.lt_succ_of_lt lb)),
    ⟨hz, hTI, ⟨_, _, hTO⟩, ⟨_, g1, rfl, rfl⟩, ⟨_, g2, rfl, rfl⟩⟩, fun d hd => ?_, q⟩
  have hle : s1.heap.objs.size ≤ d := by
    rcases cell5 hd with q | q | q | q | q
    all_goals (rw [q]; first | exact Nat.le_refl _ | exact Nat.le_add_right _ _)
  exact I1.fpOk hle (I1.hok.fresh hle)
theorem ei_zipLL {p : Bool} {E : XK} {XC : Str → Value} {K : PySem.W.Frag} {Γ : List Sl} {tA : TA} {a b : DCod} {T : (R : Type) → (DEnv [dLst a, dLst b] → Env Γ → Pu.Res R) → Env Γ → Pu.Res R} (h : EvA p E XC Γ tA [dLst a, dLst b] T) :
    EvI p E XC Γ (iZipLL K tA) (dP2 a b) (fun R k ρ => T R (fun x ρ => k (List.zip (α := a.α) (β := b.α) x.1 x.2.1) ρ) ρ) := fun B σ F H ρ I R G hG k Q g qq =>
  h B σ F H ρ I R G hG _ _ g fun x ρ' vs F' H' I' e r g' => by
    obtain ⟨v1, vs1, rfl, r1, v2, vs2, rfl, r2, r3⟩ := r
    have r3 : vs2 = [] := r3
    subst r3
    obtain ⟨l1, us, rfl, h1, p1, z1⟩ := r1
    obtain ⟨l2, ws, rfl, h2, p2, z2⟩ := r2
    have n1 := p1.length
    have n2 := p2.length
    have W : Walks (ItzLL K l1 l2) (dP2 a b) (List.zip (α := a.α) (β := b.α) x.1 x.2.1) F' := ⟨fun i H2 v H3 => ∃ T x y, v = .ref T ∧ H2 T = none ∧ H3 = upd H2 T (.tup [x, y]) ∧ us[i]? = some x ∧ ws[i]? = some y,
      ⟨fun i H2 hi q => ⟨us, ws, SqL.of (q l1 _ h1), SqL.of (q l2 _ h2), by rw [List.length_zip] at hi; omega, by rw [List.length_zip] at hi; omega⟩,
       fun H2 q => ⟨us, ws, SqL.of (q l1 _ h1), SqL.of (q l2 _ h2), by rw [List.length_zip]; omega, by rw [List.length_zip]; omega, by rw [List.length_zip]; omega⟩,
       fun i H2 v H3 hi q y => by
        obtain ⟨T, x, y, e1, e2, e3, e4, e5⟩ := y
        exact ⟨T, x, y, e1, e2, e3, e4 _ (SqL.of (q l1 _ h1)), e5 _ (SqL.of (q l2 _ h2))⟩⟩,
      fun i H2 v H3 F1 y e1 e2 => by
        obtain ⟨T, x, y, rfl, hT, rfl, hx, hy⟩ := y
        obtain ⟨x', hx', rx⟩ := p1.get' hx
        obtain ⟨y', hy', ry⟩ := p2.get' hy
        have P1 := Pext.one (o := .tup [x, y]) e2 hT
        refine ⟨_, (x', y'), ?_, P1, T, x, y, rfl, upd_same, a.ext rx (e1.trans P1.ff), b.ext ry (e1.trans P1.ff)⟩
        rw [List.getElem?_zip_eq_some]
        exact ⟨hx', hy'⟩⟩
    exact ⟨l1, l2, us, ws, rfl, SqL.of (I'.fh l1 _ h1), SqL.of (I'.fh l2 _ h2), qq _ ρ' _ F' H' I' e W g' (by rw [List.length_zip]; have z1 : List.length (α := a.α) x.1 ≤ sizeLine := z1; omega)⟩


end
end PuX
set_option Elab.async false
set_option linter.all false
set_option maxRecDepth 100000
set_option maxHeartbeats 4000000
namespace PuX
open PySem PySem.Spec L2 Evl Pu
open PyProof.Rows hiding St
/-! ### a new thing held while something else is read that changes slots -/
section
variable {B : Base} {Γ Γ' Γ1 ΓL : List Sl} {σ : L2.St} {F0 H0 F1 H1 : Hp} {ρ : Env Γ} {fp : List Addr}
def sel (k : Kd) (L : Fps) : List Addr := L.filterMap fun q => if q.1 = k then some q.2 else none
theorem sel_mem {k : Kd} {L : Fps} {a : Addr} : a ∈ sel k L ↔ (k, a) ∈ L := by
  unfold sel
  rw [List.mem_filterMap]
  constructor
  · rintro ⟨⟨k', b⟩, h1, h2⟩
    dsimp only at h2
    split at h2
    · rename_i e; cases h2; rw [← e]; exact h1
    · cases h2
  · intro h
    exact ⟨(k, a), h, if_pos rfl⟩
theorem held (I : SInv B Γ σ F0 H0 ρ) (pp : Pext F0 F1 H0 H1) (n : New fp H0 F1 H1) : ∃ B1 : Base, SInv B1 Γ σ F1 H1 ρ ∧ (∀ H', Frm B1 H' → Frm B H') ∧
    ∀ F2 H2 ρ2, SInv B1 Γ σ F2 H2 ρ2 → (∀ a, a ∈ fp → H2 a = H1 a) ∧ ∃ H2', SInv B Γ σ F2 H2' ρ2 ∧ Pext F2 F2 H2' H2 ∧ New fp H2' F2 H2 := by
  obtain ⟨L, r, w⟩ := I
  have r1 : SRel Γ B.τ σ F1 H1 L ρ := r.ext pp.ff fun k a ha => by
    obtain ⟨_, o, h2⟩ := w.fr k a ha
    rw [h2, pp.hh a o h2]
  have w1 : Wd B F1 H1 L := w.pext pp
  have nol : ∀ k a, a ∈ fp → (k, a) ∉ L := fun k a ha h => by
    obtain ⟨_, o, h2⟩ := w.fr k a h
    rw [(n.at_ a ha).1] at h2; cases h2
  have bno : ∀ a, H1 a = none → B.H a = none := fun a h => by
    cases e : B.H a with
    | none => rfl
    | some o => obtain ⟨o', h'⟩ := w1.there a o e; rw [h] at h'; cases h'
  have kp : ∀ a o, B.H a = some o → a ∉ B.M → a ∉ B.N → H1 a = some o ∧ a ∉ sel .pa L ∧ a ∉ sel .lo L := fun a o h hm hn => by
    refine ⟨w1.keep a o h hm hn, fun z => ?_, fun z => ?_⟩
    · rcases w1.own a (sel_mem.mp z) with q | q
      · exact hm q
      · rw [h] at q; cases q
    · rcases w1.loc a (sel_mem.mp z) with q | q
      · exact hn q
      · rw [h] at q; cases q
  refine ⟨⟨F1, H1, sel .pa L, sel .lo L, sel .co L, B.τ⟩, ⟨L, r1, w1.nd, w1.fr, w1.fh, Ex.refl _, fun a o h _ _ => h, fun a o h => ⟨o, h⟩, fun a o h => .inl h, fun a h => .inl (sel_mem.mpr h), fun a h => .inl (sel_mem.mpr h), fun a h => .inl (sel_mem.mpr h)⟩, fun H' f a o h hm hn => by
    obtain ⟨h1, h2, h3⟩ := kp a o h hm hn
    exact f a o h1 h2 h3, fun F2 H2 ρ2 ⟨L2, r2, w2⟩ => ?_⟩
  have same : ∀ a, a ∈ fp → H2 a = H1 a := fun a ha => by
    obtain ⟨_, _, o, h⟩ := n.at_ a ha
    rw [h]
    exact w2.keep a o h (fun z => nol _ a ha (sel_mem.mp z)) (fun z => nol _ a ha (sel_mem.mp z))
  have nof : ∀ a, a ∈ fp → F2 a = none := fun a ha => by
    obtain ⟨_, h1, o, h⟩ := n.at_ a ha
    cases e : F2 a with
    | none => rfl
    | some o' =>
      rcases w2.new a o' e with z | z
      · rw [show F1 a = some o' from z] at h1; cases h1
      · rw [show H1 a = none from z] at h; cases h
  have noL2 : ∀ k a, a ∈ fp → (k, a) ∉ L2 := fun k a ha h => by
    obtain ⟨_, _, o, h1⟩ := n.at_ a ha
    have : a ∈ sel k L ∨ H1 a = none := by
      cases k with
      | pa => exact w2.own a h
      | lo => exact w2.loc a h
      | co => exact w2.con a h
    rcases this with z | z
    · exact nol _ a ha (sel_mem.mp z)
    · rw [z] at h1; cases h1
  refine ⟨same, fun a => if a ∈ fp then none else H2 a, ⟨L2, r2.ext (Ex.refl _) fun k a ha => if_neg fun z => noL2 k a z ha, w2.nd, fun k a ha => ?_, fun a o h => ?_, w1.bf.trans w2.bf, fun a o h hm hn => ?_, fun a o h => ?_, fun a o h => ?_, fun a h => ?_, fun a h => ?_, fun a h => ?_⟩, ⟨fun a o h => ?_, Ex.refl _, w2.fh, fun a o h => .inl h⟩, n.nd, fun a ha => ⟨if_pos ha, nof a ha, ?_⟩⟩
  · obtain ⟨g1, o, g2⟩ := w2.fr k a ha
    exact ⟨g1, o, (if_neg fun z => noL2 k a z ha).trans g2⟩
  · exact (if_neg fun z => by rw [nof a z] at h; cases h).trans (w2.fh a o h)
  · obtain ⟨h1, h2, h3⟩ := kp a o h hm hn
    refine (if_neg fun z => ?_).trans (w2.keep a o h1 h2 h3)
    obtain ⟨o', h'⟩ := w.there a o h
    rw [(n.at_ a z).1] at h'; cases h'
  · obtain ⟨o', h'⟩ := w1.there a o h
    obtain ⟨o2, h2⟩ := w2.there a o' h'
    refine ⟨o2, (if_neg fun z => ?_).trans h2⟩
    obtain ⟨o', h'⟩ := w.there a o h
    rw [(n.at_ a z).1] at h'; cases h'
  · rcases w2.new a o h with z | z
    · exact w1.new a o z
    · exact .inr (bno a z)
  · rcases w2.own a h with z | z
    · exact w1.own a (sel_mem.mp z)
    · exact .inr (bno a z)
  · rcases w2.loc a h with z | z
    · exact w1.loc a (sel_mem.mp z)
    · exact .inr (bno a z)
  · rcases w2.con a h with z | z
    · exact w1.con a (sel_mem.mp z)
    · exact .inr (bno a z)
  · split at h
    · cases h
    · exact h
  · obtain ⟨_, _, o, h⟩ := n.at_ a ha
    exact ⟨o, (same a ha).trans h⟩
end
section
variable {p q : Bool} {E : XK} {XC : Str → Value} {Rt : Ret} {K : PySem.W.Frag} {Γ Γ' Γ1 ΓL : List Sl} {i j : Nat} {ta tb : TE} {m : Cod} {b : DCod}
end
end PuX
set_option Elab.async false
set_option linter.all false
set_option maxRecDepth 100000
set_option maxHeartbeats 4000000
/-! an option of a tuple that holds no fields, as one of any tuple -/
namespace PuX
open PySem PySem.Spec PyProof.Rows L2 Evl Pu
end PuX
set_option Elab.async false
set_option linter.all false
set_option maxRecDepth 100000
set_option maxHeartbeats 4000000
/-! comprehensions of three clauses: what a clause's turn does is told apart from what it is done for -/
namespace PuX
open PySem PySem.Spec PyProof.Rows L2 Evl Pu
abbrev gO (t i : Expr) (f : List Expr) : Comprehension := ⟨t, i, f, 0⟩
def trnO (e : Expr) (t i : Expr) (f : List Expr) (i' : Expr) (d : Nat) (it acc : Value) (env : Env) : Sem Fin := do
  standAt i.pos
  match ← pyNext it with
  | none => pure (.done .next)
  | some u =>
    letOwnedTupleGo t it u
    assign t env u
    let mut yes := true
    for c in f do
      if yes then yes ← isTrue c env (eval c env)
    if yes then
      let y ← eval i' env
      standAt i'.pos
      let y ← foldedSetIterable i' env y
      let _ ← runOwn (.compStart e (d + 1) (← holding [y] (pyIter y)) acc env) env
    again (.compLoop e d it acc env)
def trnI (e elt : Expr) (t i : Expr) (f : List Expr) (d : Nat) (it acc : Value) (env : Env) : Sem Fin := do
  standAt i.pos
  match ← pyNext it with
  | none => pure (.done .next)
  | some u =>
    letOwnedTupleGo t it u
    assign t env u
    let mut yes := true
    for c in f do
      if yes then yes ← isTrue c env (eval c env)
    if yes then
      (do let _ ← call (.builtin "list.append") [acc, ← eval elt env])
    again (.compLoop e d it acc env)
section
variable {elt t0 i0 t1 i1 t2 i2 : Expr} {f0 f1 f2 : List Expr} {scope : Scope} {pos : Pos}
theorem trn3_0 (it acc : Value) (env : Env) : compTurn (.ListComp elt [gO t0 i0 f0, gO t1 i1 f1, gO t2 i2 f2] scope pos) 0 it acc env = trnO (.ListComp elt [gO t0 i0 f0, gO t1 i1 f1, gO t2 i2 f2] scope pos) t0 i0 f0 i1 0 it acc env := by rfl
theorem trn3_1 (it acc : Value) (env : Env) : compTurn (.ListComp elt [gO t0 i0 f0, gO t1 i1 f1, gO t2 i2 f2] scope pos) 1 it acc env = trnO (.ListComp elt [gO t0 i0 f0, gO t1 i1 f1, gO t2 i2 f2] scope pos) t1 i1 f1 i2 1 it acc env := by rfl
theorem trn3_2 (it acc : Value) (env : Env) : compTurn (.ListComp elt [gO t0 i0 f0, gO t1 i1 f1, gO t2 i2 f2] scope pos) 2 it acc env = trnI (.ListComp elt [gO t0 i0 f0, gO t1 i1 f1, gO t2 i2 f2] scope pos) elt t2 i2 f2 2 it acc env := by rfl
end
section
variable {prog : Program} {w : World} {A : Around} {R : Result → Shared → Prop} {s : Shared}
abbrev nE : Value → Shared → Prop := fun _ _ => False
def bodO (prog : Program) (w : World) (A : Around) (e i' : Expr) (d : Nat) (acc : Value) (env : Env) (P : Shared → Prop) (s : Shared) : Prop :=
  wpAny (model prog w) A (eval i' env) (fun y s4 => wpAny (model prog w) A (pyIter y) (fun it1 s5 => codeAny (model prog w) A (.compStart e (d + 1) it1 acc env) (fun r s' => match r with
    | .ok _ => P s'
    | .error _ => False) s5) nE s4) nE s
def bodI (prog : Program) (w : World) (A : Around) (elt : Expr) (acc : Value) (env : Env) (P : Shared → Prop) (s : Shared) : Prop :=
  wpAny (model prog w) A (eval elt env) (fun y s4 => wpAny (model prog w) A (call (.builtin "list.append") [acc, y]) (fun _ s5 => P s5) nE s4) nE s
def TurnW (prog : Program) (w : World) (A : Around) (t : Expr) (f : List Expr) (it : Value) (env : Env) (bod : (Shared → Prop) → Shared → Prop) (R : Result → Shared → Prop) (I : Nat → Shared → Prop) : Prop :=
  ∀ n s, I n s → wpAny (model prog w) A (pyNext it) (fun r s1 => match r with
    | none => R (.ok .next) s1
    | some u => wpAny (model prog w) A (letOwnedTupleGo t it u) (fun _ s1' => wpAny (model prog w) A (assign t env u) (fun _ s2 =>
        wpAny (model prog w) A (forIn f true fun c r => if r = true then do let yes ← isTrue c env (eval c env); pure (ForInStep.yield yes) else pure (ForInStep.yield r)) (fun yes s3 =>
          if yes = true then bod (fun s' => ∃ m, m < n ∧ I m s') s3 else ∃ m, m < n ∧ I m s3) nE s2) nE s1') nE s1) nE s
variable {elt t i i' : Expr} {f : List Expr} {gs : List Comprehension} {scope : Scope} {pos : Pos} {d : Nat} {it acc : Value} {env : Env}
theorem loopO (he : ∀ it acc env, compTurn (.ListComp elt gs scope pos) d it acc env = trnO (.ListComp elt gs scope pos) t i f i' d it acc env) (hs : ∀ x, foldedSetIterable i' env x = pure x) (I : Nat → Shared → Prop)
    (turn : TurnW prog w A t f it env (bodO prog w A (.ListComp elt gs scope pos) i' d acc env) R I) (n : Nat) (h : I n s) : codeAny (model prog w) A (.compLoop (.ListComp elt gs scope pos) d it acc env) R s := by
  refine codeAny_loop rfl I (fun n s hI => ?_) n h
  show wpAny _ A ((compTurn (.ListComp elt gs scope pos) d it acc env).onRaise (fun x => do noteFrame x env; theTreesLotGoes x)) _ _ s
  refine wpAny_noted ?_
  rw [he]
  have hT := turn n s hI
  refine wpAny_bind (wpAny_standAt (wpAny_bind (thnF hT fun r s1 q1 => ?_)))
  cases r with
  | none => exact wpAny_pure q1
  | some u =>
    refine wpAny_bind (thnF q1 fun _ s1' q2 => wpAny_bind (thnF q2 fun _ s2 q3 => wpAny_bind (thnF q3 fun yes s3 q4 => ?_)))
    cases yes with
    | false => exact wpAny_pure ⟨rfl, q4⟩
    | true =>
      refine wpAny_bind (thnF q4 fun y s4 q5 => ?_)
      refine wpAny_bind (wpAny_standAt (wpAny_bind (wpAny_of_eq (hs y) (wpAny_bind (wpAny_holding (thnF q5 fun it1 s5 q6 => ?_))))))
      refine wpAny_bind (wpAny_runOwn ?_)
      rw [Around.mark_none]
      refine codeAny_mono q6 fun r s' hr => ?_
      cases r with
      | ok _ => first | exact wpAny_pure ⟨rfl, hr⟩ | exact wpAny_bind (wpAny_pure (wpAny_pure ⟨rfl, hr⟩))
      | error _ => exact hr.elim
theorem loopI (he : ∀ it acc env, compTurn (.ListComp elt gs scope pos) d it acc env = trnI (.ListComp elt gs scope pos) elt t i f d it acc env) (I : Nat → Shared → Prop)
    (turn : TurnW prog w A t f it env (bodI prog w A elt acc env) R I) (n : Nat) (h : I n s) : codeAny (model prog w) A (.compLoop (.ListComp elt gs scope pos) d it acc env) R s := by
  refine codeAny_loop rfl I (fun n s hI => ?_) n h
  show wpAny _ A ((compTurn (.ListComp elt gs scope pos) d it acc env).onRaise (fun x => do noteFrame x env; theTreesLotGoes x)) _ _ s
  refine wpAny_noted ?_
  rw [he]
  have hT := turn n s hI
  refine wpAny_bind (wpAny_standAt (wpAny_bind (thnF hT fun r s1 q1 => ?_)))
  cases r with
  | none => exact wpAny_pure q1
  | some u =>
    refine wpAny_bind (thnF q1 fun _ s1' q2 => wpAny_bind (thnF q2 fun _ s2 q3 => wpAny_bind (thnF q3 fun yes s3 q4 => ?_)))
    cases yes with
    | false => exact wpAny_pure ⟨rfl, q4⟩
    | true => exact wpAny_bind (wpAny_bind (thnF q4 fun y s4 q5 => wpAny_bind (thnF q5 fun _ s5 q6 => wpAny_pure (wpAny_pure ⟨rfl, q6⟩))))
theorem startO {t0 i0 t1 i1 t2 i2 : Expr} {f0 f1 f2 : List Expr} (hd : d = 1 ∨ d = 2) (h0 : codeAny (model prog w) A (.compLoop (.ListComp elt [gO t0 i0 f0, gO t1 i1 f1, gO t2 i2 f2] scope pos) d it acc env) R s)
    (h : wpAny (model prog w) A (pyIter it) (fun it' s' => codeAny (model prog w) A (.compLoop (.ListComp elt [gO t0 i0 f0, gO t1 i1 f1, gO t2 i2 f2] scope pos) d it' acc env) R s') (notedBy (model prog w) A env fun x s' => R (.error x) s') s) :
    codeAny (model prog w) A (.compStart (.ListComp elt [gO t0 i0 f0, gO t1 i1 f1, gO t2 i2 f2] scope pos) d it acc env) R s := by
  refine codeAny_of_tree ?_
  show wpAny _ _ ((compStart (.ListComp elt [gO t0 i0 f0, gO t1 i1 f1, gO t2 i2 f2] scope pos) d it acc env).onRaise (fun x => do noteFrame x env; standAt theWindowsPlace)) _ _ s
  refine wpAny_notedAt ?_
  rcases hd with rfl | rfl
  · unfold compStart
    show wpAny _ _ (ask >>= _) _ _ s
    refine wpAny_bind (wpAny_askSetting (wpAny_ite ?_))
    split
    · first | exact wpAny_bind (wpAny_pure (wpAny_pure (And.intro rfl h0))) | exact wpAny_pure (And.intro rfl h0)
    · refine wpAny_bind (wpAny_rule ?_)
      show wpAny _ _ (standAt i1.pos >>= _) _ _ s
      exact wpAny_bind (wpAny_standAt (wpAny_bind (wpAny_mono h (fun it' s' h' => wpAny_pure (And.intro rfl h')) fun _ _ x => x)))
  · unfold compStart
    show wpAny _ _ (ask >>= _) _ _ s
    refine wpAny_bind (wpAny_askSetting (wpAny_ite ?_))
    split
    · first | exact wpAny_bind (wpAny_pure (wpAny_pure (And.intro rfl h0))) | exact wpAny_pure (And.intro rfl h0)
    · refine wpAny_bind (wpAny_rule ?_)
      show wpAny _ _ (standAt i2.pos >>= _) _ _ s
      exact wpAny_bind (wpAny_standAt (wpAny_bind (wpAny_mono h (fun it' s' h' => wpAny_pure (And.intro rfl h')) fun _ _ x => x)))
end
end PuX
set_option Elab.async false
set_option linter.all false
set_option maxRecDepth 100000
set_option maxHeartbeats 4000000
namespace PuX
open PySem PySem.Spec PyProof.Rows L2 Evl Pu
/-! what stands behind a clause, within the block -/
abbrev TL := L2.St → Hp → Addr → (Hp → Prop) → Prop
def Keeps (vr : List Nat) (σ σ' : L2.St) : Prop := σ'.length = σ.length ∧ ∀ (j : Nat) v, (wipe σ vr)[j]? = some (some v) → σ'[j]? = some (some v)
def BodOk (Z : Cx) (vr : List Nat) (bod : Value → (Shared → Prop) → Shared → Prop) (tl : TL) : Prop :=
  ∀ (pins : List (Addr × Obj)) (s : Shared) (σ : L2.St) (H : Hp) (D : Addr) (Nx : Hp → Prop) (P : Shared → Prop), L2.Inv Z pins σ H s → tl σ H D Nx → (∀ σ' H' s', L2.Inv Z pins σ' H' s' → Keeps vr σ σ' → Nx H' → P s') → bod (.ref D) P s
def tlElt (te : TE) : TL := fun σ H D Nx => te σ H fun y H7 => ∃ acc, H7 D = some (.lst acc) ∧ acc.length < sizeLine ∧ Nx (upd H7 D (.lst (acc ++ [y])))
def tlFor (wi : TI) (g : TG) (tt : TT) (vs : List Nat) (rest : TL) : TL := fun σ H D Nx => wi σ H fun J1 H4 => ∃ W1 : Nat → Nat → Hp → Prop, (∃ m, W1 0 m H4) ∧ ∀ j k H, W1 j k H →
  (J1.stop j H ∧ Nx H) ∨ (J1.go j H ∧ ∃ Nx1 : Hp → Prop, (∀ H', Nx1 H' → ∃ k', k' < k ∧ W1 (j + 1) k' H') ∧ ∀ x H', J1.yld j H x H' → g x (wipe σ vs) H' fun σ3 H5 => wipe σ3 vs = wipe σ vs ∧ tt σ3 H5 fun b H6 => if b = true then rest σ3 H6 D Nx1 else Nx1 H6)
section
variable {Z : Cx} {elt t i : Expr} {f : List Expr} {te : TE} {wi : TI} {g : TG} {tt : TT} {vs vr : List Nat} {bod : Value → (Shared → Prop) → Shared → Prop} {rest : TL} {e : Expr} {d : Nat}
theorem bodI_ok (hx : Z.xe = nE) (pe : PE Z elt te) : BodOk Z [] (fun acc => bodI Z.prog Z.w Z.A elt acc Z.env) (tlElt te) := fun pins s σ H D Nx P I h hP => by
  have r := pe.run pins s σ H _ I h
  rw [hx] at r
  refine thnF r fun u s1 ⟨v, H1, I1, r1, acc, hD, hz, nx⟩ => ?_
  exact app_ok (X := Z) I1 hD hz r1 fun s2 I2 => hP σ _ s2 I2 ⟨rfl, fun j v h => h⟩ nx
theorem keep_wipe (σ : L2.St) : Keeps vs σ (wipe σ vs) := ⟨wipe_length _ _, fun _ _ h => h⟩
theorem for_ok (hx : Z.xe = nE) (hc : Z.calm = true) (pi : PI Z t i wi) (pg : PG Z t g) (pt : PTs Z f tt) (hv : ∀ x, x ∈ vr → x ∈ vs) (B : BodOk Z vr bod rest)
    (loop : ∀ (it acc : Value) (R : Result → Shared → Prop) (I : Nat → Shared → Prop), TurnW Z.prog Z.w Z.A t f it Z.env (bod acc) R I → ∀ n s, I n s → codeAny (model Z.prog Z.w) Z.A (.compLoop e (d + 1) it acc Z.env) R s)
    (start : ∀ (it acc : Value) (R : Result → Shared → Prop) (s : Shared), codeAny (model Z.prog Z.w) Z.A (.compLoop e (d + 1) it acc Z.env) R s → wpAny (model Z.prog Z.w) Z.A (pyIter it) (fun it' s' => codeAny (model Z.prog Z.w) Z.A (.compLoop e (d + 1) it' acc Z.env) R s') (notedBy (model Z.prog Z.w) Z.A Z.env fun x s' => R (.error x) s') s → codeAny (model Z.prog Z.w) Z.A (.compStart e (d + 1) it acc Z.env) R s) :
    BodOk Z vs (fun acc => bodO Z.prog Z.w Z.A e i d acc Z.env) (tlFor wi g tt vs rest) := fun pins s σ H D Nx P I h hP => by
  have r := pi.run pins s σ H _ I h
  rw [hx] at r
  refine thnF r fun y s4 q4 => thnF q4 fun itv s5 q5 => ?_
  obtain ⟨it1, fp1, tn1, J1, H5, rfl, I5, T1, st5, f5, W1, ⟨m1, w1⟩, turn1⟩ := q5
  have stat : ∀ {H' : Hp}, (∀ b ∈ fp1, H' b = none) → ∀ b ∈ fp1, FpOk Z pins H' b := fun hn b hb => ⟨hn b hb, (f5 b hb).2⟩
  have lp : codeAny (model Z.prog Z.w) Z.A (.compLoop e (d + 1) (.ref it1) (.ref D) Z.env) (fun r s' => match r with | .ok _ => P s' | .error _ => False) s5 := by
    refine loop (.ref it1) (.ref D) _ (fun k s' => ∃ j H', L2.Inv Z pins (wipe σ vs) H' s' ∧ tn1 j s'.heap ∧ (∀ b ∈ fp1, H' b = none) ∧ W1 j k H') ?_ m1 s5 ⟨0, H5, I5.weak (wipe_length _ _) (fun j v e => (wipe_some e).1), st5, fun b hb => (f5 b hb).1, w1⟩
    rintro k s6 ⟨j, H6, I6, st6, n6, w6⟩
    rcases turn1 j k H6 w6 with ⟨stp, nx⟩ | ⟨go, Nx1, hNx1, step⟩
    · refine thnF (T1.done Z rfl rfl rfl hc j pins s6 (wipe σ vs) H6 nE I6 (stat n6) st6 stp) fun r s7 ⟨hr, I7⟩ => ?_
      subst hr
      exact hP _ H6 s7 I7 (keep_wipe σ) nx
    · refine thnF (T1.item Z rfl rfl rfl hc j pins s6 (wipe σ vs) H6 nE I6 (stat n6) st6 go) fun r s7 ⟨u, hr, h7⟩ => ?_
      subst hr
      refine thnF h7 fun _ s8 ⟨x, H8, I8, r8, y8, st8, n8⟩ => ?_
      have I8' := I8.pinned (stat n8) (T1.obj _ _ st8)
      have rg := pg.run _ s8 (wipe σ vs) H8 x u _ I8' r8 (step x H8 y8)
      rw [hx] at rg
      refine thnF rg fun _ s9 ⟨σ9, H9, I9, hw, q9⟩ => ?_
      have rt := pt.run _ s9 σ9 H9 _ I9 q9
      rw [hx] at rt
      refine thnF rt fun b s10 ⟨H10, I10, q10⟩ => ?_
      have fin : ∀ {σ' : L2.St} {s' : Shared} {H' : Hp}, L2.Inv Z (pins ++ pinsAt fp1 s8.heap) σ' H' s' → Keeps vr σ9 σ' → Nx1 H' → ∃ m, m < k ∧ ∃ j H', L2.Inv Z pins (wipe σ vs) H' s' ∧ tn1 j s'.heap ∧ (∀ b ∈ fp1, H' b = none) ∧ W1 j m H' := fun {σ' s' H'} I' K nx => by
        obtain ⟨m, hm, w⟩ := hNx1 H' nx
        have pin : ∀ b ∈ fp1, ∀ o, s8.heap.get? b = some o → s'.heap.get? b = some o ∧ H' b = none := fun b hb o ho =>
          let z := I'.pin (b, o) (List.mem_append_right _ (List.mem_append_right _ (mem_pinsAt hb ho)))
          ⟨z.1, z.2.1⟩
        refine ⟨m, hm, j + 1, H', I'.unpinned.weak ?_ ?_, T1.keep _ _ _ st8 fun b hb o ho => (pin b hb o ho).1, fun b hb => ?_, w⟩
        · rw [K.1, ← wipe_length σ9 vs, hw]
        · intro l v hl
          rw [← hw] at hl
          obtain ⟨h1, h2⟩ := wipe_some hl
          exact K.2 l v (by rw [wipe_out fun z => h2 (hv l z)]; exact h1)
        · obtain ⟨o, ho, _⟩ := T1.obj _ _ st8 b hb
          exact (pin b hb o ho).2
      cases b with
      | false =>
        simp only [Bool.false_eq_true, if_false] at q10 ⊢
        exact fin I10 ⟨rfl, fun l v hl => (wipe_some hl).1⟩ q10
      | true =>
        simp only [if_true] at q10 ⊢
        exact B _ s10 σ9 H10 D Nx1 _ I10 q10 fun σ' H' s' I' K nx => fin I' K nx
  exact start (.ref it1) (.ref D) _ s5 lp (T1.self Z.A 0 _ _ _ st5 lp)
end
end PuX
set_option Elab.async false
set_option linter.all false
set_option maxRecDepth 100000
set_option maxHeartbeats 4000000
namespace PuX
open PySem PySem.Spec PyProof.Rows L2 Evl Pu
section
variable {Z : Cx} {t : Expr} {f : List Expr} {g : TG} {tt : TT} {vs vr : List Nat} {bod : Value → (Shared → Prop) → Shared → Prop} {rest : TL}
theorem loop_ok (hx : Z.xe = nE) (hc : Z.calm = true) (pg : PG Z t g) (pt : PTs Z f tt) (hv : ∀ x, x ∈ vr → x ∈ vs) (B : BodOk Z vr bod rest) {pins : List (Addr × Obj)} {σ : L2.St} {D : Addr} {it : Addr} {fp : List Addr} {tn : Nat → Heap → Prop} {J : It} (T : Turn Z.prog Z.w Z.K t J fp it tn)
    (stat : ∀ {H' : Hp}, (∀ b ∈ fp, H' b = none) → ∀ b ∈ fp, FpOk Z pins H' b) {W : Nat → Nat → Hp → Prop} {Fin : Hp → Prop}
    (turn : ∀ j k H, W j k H → (J.stop j H ∧ Fin H) ∨ (J.go j H ∧ ∃ Nx : Hp → Prop, (∀ H', Nx H' → ∃ k', k' < k ∧ W (j + 1) k' H') ∧ ∀ x H', J.yld j H x H' → g x (wipe σ vs) H' fun σ3 H5 => wipe σ3 vs = wipe σ vs ∧ tt σ3 H5 fun b H6 => if b = true then rest σ3 H6 D Nx else Nx H6)) :
    TurnW Z.prog Z.w Z.A t f (.ref it) Z.env (bod (.ref D)) (fun r s' => match r with
      | .ok _ => ∃ H', L2.Inv Z pins (wipe σ vs) H' s' ∧ Fin H'
      | .error _ => False) (fun k s' => ∃ j H', L2.Inv Z pins (wipe σ vs) H' s' ∧ tn j s'.heap ∧ (∀ b ∈ fp, H' b = none) ∧ W j k H') := by
  rintro k s6 ⟨j, H6, I6, st6, n6, w6⟩
  rcases turn j k H6 w6 with ⟨stp, nx⟩ | ⟨go, Nx1, hNx1, step⟩
  · refine thnF (T.done Z rfl rfl rfl hc j pins s6 (wipe σ vs) H6 nE I6 (stat n6) st6 stp) fun r s7 ⟨hr, I7⟩ => ?_
    subst hr
    exact ⟨H6, I7, nx⟩
  · refine thnF (T.item Z rfl rfl rfl hc j pins s6 (wipe σ vs) H6 nE I6 (stat n6) st6 go) fun r s7 ⟨u, hr, h7⟩ => ?_
    subst hr
    refine thnF h7 fun _ s8 ⟨x, H8, I8, r8, y8, st8, n8⟩ => ?_
    have I8' := I8.pinned (stat n8) (T.obj _ _ st8)
    have rg := pg.run _ s8 (wipe σ vs) H8 x u _ I8' r8 (step x H8 y8)
    rw [hx] at rg
    refine thnF rg fun _ s9 ⟨σ9, H9, I9, hw, q9⟩ => ?_
    have rt := pt.run _ s9 σ9 H9 _ I9 q9
    rw [hx] at rt
    refine thnF rt fun b s10 ⟨H10, I10, q10⟩ => ?_
    have fin : ∀ {σ' : L2.St} {s' : Shared} {H' : Hp}, L2.Inv Z (pins ++ pinsAt fp s8.heap) σ' H' s' → Keeps vr σ9 σ' → Nx1 H' → ∃ m, m < k ∧ ∃ j H', L2.Inv Z pins (wipe σ vs) H' s' ∧ tn j s'.heap ∧ (∀ b ∈ fp, H' b = none) ∧ W j m H' := fun {σ' s' H'} I' K nx => by
      obtain ⟨m, hm, w⟩ := hNx1 H' nx
      have pin : ∀ b ∈ fp, ∀ o, s8.heap.get? b = some o → s'.heap.get? b = some o ∧ H' b = none := fun b hb o ho =>
        let z := I'.pin (b, o) (List.mem_append_right _ (List.mem_append_right _ (mem_pinsAt hb ho)))
        ⟨z.1, z.2.1⟩
      refine ⟨m, hm, j + 1, H', I'.unpinned.weak ?_ ?_, T.keep _ _ _ st8 fun b hb o ho => (pin b hb o ho).1, fun b hb => ?_, w⟩
      · rw [K.1, ← wipe_length σ9 vs, hw]
      · intro l v hl
        rw [← hw] at hl
        obtain ⟨h1, h2⟩ := wipe_some hl
        exact K.2 l v (by rw [wipe_out fun z => h2 (hv l z)]; exact h1)
      · obtain ⟨o, ho, _⟩ := T.obj _ _ st8 b hb
        exact (pin b hb o ho).2
    cases b with
    | false =>
      simp only [Bool.false_eq_true, if_false] at q10 ⊢
      exact fin I10 ⟨rfl, fun l v hl => (wipe_some hl).1⟩ q10
    | true =>
      simp only [if_true] at q10 ⊢
      exact B _ s10 σ9 H10 D Nx1 _ I10 q10 fun σ' H' s' I' K nx => fin I' K nx
end
section
variable {X : Cx}
def tLcB (wi : TI) (g : TG) (tt : TT) (rest : TL) (vs : List Nat) : TE := fun σ H Q => wi σ H fun J H1 => ∀ D, H1 D = none → ∃ W : Nat → Nat → Hp → Prop, (∃ m, W 0 m (upd H1 D (.lst []))) ∧ ∀ i m H, W i m H →
  (J.stop i H ∧ Q (.ref D) H) ∨ (J.go i H ∧ ∃ Nx : Hp → Prop, (∀ H', Nx H' → ∃ m', m' < m ∧ W (i + 1) m' H') ∧ ∀ x H', J.yld i H x H' → g x (wipe σ vs) H' fun σ2 H2 => wipe σ2 vs = wipe σ vs ∧ tt σ2 H2 fun b H3 => if b = true then rest σ2 H3 D Nx else Nx H3)
variable {elt t0 i0 t1 i1 t2 i2 : Expr} {f0 f1 f2 : List Expr} {scope : Scope} {pos : Pos} {own : List (Str × Nat)} {wi wi1 wi2 : TI} {g g1 g2 : TG} {tt tt1 tt2 : TT} {te : TE} {vr vs1 vs2 : List Nat} {rest : TL}
theorem lcB_core {pins : List (Addr × Obj)} {s : Shared} {σ : L2.St} {H : Hp} {Q : VK} {pos' : Pos} {use : Option (Value → Sem Unit)} {Qf : Value → Shared → Prop} {bod : Env → Value → (Shared → Prop) → Shared → Prop}
    (hc : X.calm = true) (hN : X.N.Nodup) (I : L2.Inv X pins σ H s) (hi : PI X t0 i0 wi) (ok : BlkOk X.N X.env.scope scope own) (hv : ∀ i, i ∈ vr → i ∈ own.map (·.2))
    (hg : ∀ (s : Shared) (H : Hp) (C : Addr) (cl : List (Str × Addr)) (fp : List Addr), PG (X.blk s H scope (compEnvC scope cl C X.env) fp) t0 g) (ht : ∀ (s : Shared) (H : Hp) (C : Addr) (cl : List (Str × Addr)) (fp : List Addr), PTs (X.blk s H scope (compEnvC scope cl C X.env) fp) f0 tt)
    (hb : ∀ (s : Shared) (H : Hp) (C : Addr) (cl : List (Str × Addr)) (fp : List Addr), BodOk (X.blk s H scope (compEnvC scope cl C X.env) fp) vr (bod (compEnvC scope cl C X.env)) rest) (hs : ∀ x, foldedSetIterable i0 X.env x = pure x) {gs : List Comprehension}
    (lp : ∀ (env : Env) (it acc : Value) (R : Result → Shared → Prop) (I : Nat → Shared → Prop), TurnW X.prog X.w X.A t0 f0 it env (bod env acc) R I → ∀ n s, I n s → codeAny (model X.prog X.w) X.A (.compLoop (.ListComp elt (gO t0 i0 f0 :: gs) scope pos) 0 it acc env) R s)
    (h : tLcB wi g tt rest (own.map (·.2)) σ H Q)
    (hRR : ∀ D C s' m H', L2.Inv X pins σ H' s' → Q (.ref D) H' → s'.heap.Ns C m → FpOk X pins H' C → compPost (model X.prog X.w) X.A X.xe use Qf (.ref D) C (.ok .next) s') :
    wpAny (model X.prog X.w) X.A (comprehension (.ListComp elt (gO t0 i0 f0 :: gs) scope pos) scope X.env pos' (newList []) false (eval i0 X.env) use) Qf X.xe s := by
  have hfree : ∀ y ∈ scope.names, y.2 = .free → ∃ c, X.env.cells.lookup y.1 = some c := fun y hy e => (ok.free y hy e).elim (fun k => I.ok.has _ (.inl k)) fun k => I.ok.has _ (.inr k)
  refine wpAny_comprehension_free (use := use) rfl hs (closure_ok hfree) ok.kind (fun y hy e => by rw [ok.uniq y hy, e]) (thn (hi.run pins s σ H _ I h) fun xv s1 hx => thn hx fun itv s2 h2 => ?_)
  obtain ⟨it, fp, tn, J, H2, rfl, I2, T, st2, f2, q⟩ := h2
  refine wpAny_newObj_type (newEnv_comp ?_) (by show 0 ≤ sizeLine; decide)
  generalize hD : s2.heap.objs.size = D
  obtain ⟨W, ⟨m0, w0⟩, turn⟩ := q D (I2.hok.fresh (Nat.le_of_eq hD))
  generalize hs3 : ({ s2 with heap := s2.heap.push { cls := .type "list", data := .seq ([] : List Value).toArray } } : Shared) = s3
  have h3 : s3.heap = s2.heap.push { cls := .type "list", data := .seq ([] : List Value).toArray } := by rw [← hs3]
  have I3 : L2.Inv X pins σ (upd H2 D (.lst [])) s3 := by
    rw [← hs3]
    refine I2.laid (t' := s2.toks) (fun b o e => Heap.get?_push_of_some _ e) (Nat.le_of_eq hD) ⟨Nat.zero_le _, [], 0, .nil, ?_⟩
    rw [← hD]
    exact Heap.get?_push_size _ rfl
  have f3 : ∀ b ∈ fp, FpOk X pins (upd H2 D (.lst [])) b ∧ b < s3.heap.objs.size := fun b hb => by
    obtain ⟨o, e, _⟩ := T.obj _ _ st2 b hb
    have hlt := Heap.lt_size e
    refine ⟨⟨?_, (f2 b hb).2⟩, by rw [h3, Heap.size_push]; exact Nat.lt_succ_of_lt hlt⟩
    rw [upd_ne (by rw [← hD]; exact Nat.ne_of_lt hlt)]
    exact (f2 b hb).1
  have st3 : tn 0 s3.heap := T.keep _ _ _ st2 fun b _ o e => by rw [h3]; exact Heap.get?_push_of_some _ e
  have I4 := block_start I3 ok hN f3
  show codeAny _ _ (.compStart (.ListComp elt (gO t0 i0 f0 :: gs) scope pos) 0 (.ref it) (.ref D) (compEnvC scope (cellsFrom (s3.heap.objs.size + 1) scope.names (cloFrom X.env.cells scope.names [])) s3.heap.objs.size X.env)) (compPost (model X.prog X.w) X.A X.xe use Qf (.ref D) s3.heap.objs.size) { s3 with heap := pushCells (s3.heap.push { cls := .type "dict", data := .dict #[] }) scope.names }
  generalize hH3 : upd H2 D (.lst []) = H3 at I3 I4 w0 f3
  have pg := hg s3 H3 s3.heap.objs.size (cellsFrom (s3.heap.objs.size + 1) scope.names (cloFrom X.env.cells scope.names [])) fp
  have pt := ht s3 H3 s3.heap.objs.size (cellsFrom (s3.heap.objs.size + 1) scope.names (cloFrom X.env.cells scope.names [])) fp
  have pb := hb s3 H3 s3.heap.objs.size (cellsFrom (s3.heap.objs.size + 1) scope.names (cloFrom X.env.cells scope.names [])) fp
  generalize hce : compEnvC scope (cellsFrom (s3.heap.objs.size + 1) scope.names (cloFrom X.env.cells scope.names [])) s3.heap.objs.size X.env = ce at I4 pg pt pb ⊢
  have cL : ce.locals = s3.heap.objs.size := by subst hce; rfl
  generalize hs4 : ({ s3 with heap := pushCells (s3.heap.push { cls := .type "dict", data := .dict #[] }) scope.names } : Shared) = s4 at I4 ⊢
  have st4 : tn 0 s4.heap := T.keep _ _ _ st3 fun b _ o e => by rw [← hs4]; exact pushCells_keeps _ _ _ _ (Heap.get?_push_of_some _ e)
  have stat : ∀ {H' : Hp}, (∀ b ∈ fp, H' b = none) → ∀ b ∈ fp, FpOk (X.blk s3 H3 scope ce fp) [] H' b := fun {H'} hn b hb =>
    ⟨hn b hb, (I4.ok.exf b hb).1, I4.ok.exfs b hb, .inl hb, fun x c e => (I4.ok.exf b hb).2 x c e, fun p hp => absurd (show p ∈ ([] : List (Addr × Obj)) ++ [] from hp) (by simp)⟩
  have loop : codeAny (model X.prog X.w) X.A (.compLoop (.ListComp elt (gO t0 i0 f0 :: gs) scope pos) 0 (.ref it) (.ref D) ce) (compPost (model X.prog X.w) X.A X.xe use Qf (.ref D) s3.heap.objs.size) s4 := by
    have tw := loop_ok (Z := X.blk s3 H3 scope ce fp) (Fin := Q (.ref D)) rfl hc pg pt hv pb T stat turn
    refine codeAny_mono (lp ce (.ref it) (.ref D) _ _ tw m0 s4 ⟨0, H3, I4, st4, fun b hb => (f3 b hb).1.1, w0⟩) fun r s6 hr => ?_
    cases r with
    | error _ => exact hr.elim
    | ok v =>
      obtain ⟨H5, I6, qq⟩ := hr
      have I7 : L2.Inv X pins σ H5 s6 := I3.call' (ch := fp) I6.os I6.base I6.hok I6.bare fun b hb => ⟨(f3 b hb).1.2.2.2.1, (f3 b hb).1.2.1, (f3 b hb).1.2.2.2.2.1, (f3 b hb).1.2.2.2.2.2⟩
      have nC : H5 s3.heap.objs.size = none := by
        have z : H5 ce.locals = none := I6.free
        rw [cL] at z
        exact z
      obtain ⟨m, hn, _⟩ := I6.loc
      have hn : s6.heap.Ns ce.locals m := hn
      rw [cL] at hn
      have z := hRR D s3.heap.objs.size s6 m H5 I7 qq hn (I3.fpOk (Nat.le_refl _) nC)
      cases use <;> exact z
  exact codeAny_compStart_list loop (T.self X.A 0 _ _ _ st4 loop)
theorem pe_lc3 (hc : X.calm = true) (hN : X.N.Nodup) (hi : PI X t0 i0 wi) (ok : BlkOk X.N X.env.scope scope own) (hv : ∀ i ∈ vs1, i ∈ own.map (·.2)) (hv1 : ∀ i ∈ vs2, i ∈ vs1)
    (hg : ∀ (s : Shared) (H : Hp) (C : Addr) (cl : List (Str × Addr)) (fp : List Addr), PG (X.blk s H scope (compEnvC scope cl C X.env) fp) t0 g) (ht : ∀ (s : Shared) (H : Hp) (C : Addr) (cl : List (Str × Addr)) (fp : List Addr), PTs (X.blk s H scope (compEnvC scope cl C X.env) fp) f0 tt)
    (hi1 : ∀ (s : Shared) (H : Hp) (C : Addr) (cl : List (Str × Addr)) (fp : List Addr), PI (X.blk s H scope (compEnvC scope cl C X.env) fp) t1 i1 wi1)
    (hg1 : ∀ (s : Shared) (H : Hp) (C : Addr) (cl : List (Str × Addr)) (fp : List Addr), PG (X.blk s H scope (compEnvC scope cl C X.env) fp) t1 g1) (ht1 : ∀ (s : Shared) (H : Hp) (C : Addr) (cl : List (Str × Addr)) (fp : List Addr), PTs (X.blk s H scope (compEnvC scope cl C X.env) fp) f1 tt1)
    (hi2 : ∀ (s : Shared) (H : Hp) (C : Addr) (cl : List (Str × Addr)) (fp : List Addr), PI (X.blk s H scope (compEnvC scope cl C X.env) fp) t2 i2 wi2)
    (hg2 : ∀ (s : Shared) (H : Hp) (C : Addr) (cl : List (Str × Addr)) (fp : List Addr), PG (X.blk s H scope (compEnvC scope cl C X.env) fp) t2 g2) (ht2 : ∀ (s : Shared) (H : Hp) (C : Addr) (cl : List (Str × Addr)) (fp : List Addr), PTs (X.blk s H scope (compEnvC scope cl C X.env) fp) f2 tt2)
    (he : ∀ (s : Shared) (H : Hp) (C : Addr) (cl : List (Str × Addr)) (fp : List Addr), PE (X.blk s H scope (compEnvC scope cl C X.env) fp) elt te) (hs : ∀ x, foldedSetIterable i0 X.env x = pure x := by intro _; rfl) (hs1 : ∀ env x, foldedSetIterable i1 env x = pure x := by intro _ _; rfl) (hs2 : ∀ env x, foldedSetIterable i2 env x = pure x := by intro _ _; rfl) :
    PE X (.ListComp elt [gO t0 i0 f0, gO t1 i1 f1, gO t2 i2 f2] scope pos) (tLcB wi g tt (tlFor wi1 g1 tt1 vs1 (tlFor wi2 g2 tt2 vs2 (tlElt te))) (own.map (·.2))) := by
  refine ⟨fun pins s σ H Q I h => ?_⟩
  rw [eval_ListComp]
  refine lcB_core (bod := fun env acc => bodO X.prog X.w X.A (.ListComp elt [gO t0 i0 f0, gO t1 i1 f1, gO t2 i2 f2] scope pos) i1 0 acc env) hc hN I hi ok hv hg ht (fun s H C cl fp => ?_) hs (fun env it acc R J tw n s hn => loopO (fun it acc env => trn3_0 it acc env) (hs1 env) J tw n hn) h fun D C s' m H' I' q hn f => ⟨m, hn, fun h'' sb => ?_⟩
  · refine for_ok (Z := X.blk s H scope (compEnvC scope cl C X.env) fp) (e := .ListComp elt [gO t0 i0 f0, gO t1 i1 f1, gO t2 i2 f2] scope pos) (d := 0) (bod := fun acc => bodO X.prog X.w X.A (.ListComp elt [gO t0 i0 f0, gO t1 i1 f1, gO t2 i2 f2] scope pos) i2 1 acc (compEnvC scope cl C X.env)) rfl hc (hi1 s H C cl fp) (hg1 s H C cl fp) (ht1 s H C cl fp) hv1 ?_ (fun it acc R J tw n s hn => loopO (fun it acc env => trn3_1 it acc env) (hs2 _) J tw n hn) (fun it acc R s h0 hh => startO (.inl rfl) h0 hh)
    refine for_ok (Z := X.blk s H scope (compEnvC scope cl C X.env) fp) (e := .ListComp elt [gO t0 i0 f0, gO t1 i1 f1, gO t2 i2 f2] scope pos) (d := 1) (bod := fun acc => bodI X.prog X.w X.A elt acc (compEnvC scope cl C X.env)) rfl hc (hi2 s H C cl fp) (hg2 s H C cl fp) (ht2 s H C cl fp) (vr := []) (fun x hx => nomatch hx) ?_ (fun it acc R J tw n s hn => loopI (fun it acc env => trn3_2 it acc env) J tw n hn) (fun it acc R s h0 hh => startO (.inr rfl) h0 hh)
    exact bodI_ok (Z := X.blk s H scope (compEnvC scope cl C X.env) fp) rfl (he s H C cl fp)
  · obtain ⟨e0, e1, e2, e3, e4, e5⟩ := f
    exact ⟨.ref D, H', I'.turned (t' := s'.toks) (fun b o hb e => (sb.2 b hb).trans e) e0 e1 e3 e4 e5, rfl, q⟩
end
end PuX
set_option Elab.async false
set_option linter.all false
set_option maxRecDepth 100000
set_option maxHeartbeats 4000000
namespace PuX
open PySem PySem.Spec PyProof.Rows L2 Evl Pu
/-! comprehensions of any number of clauses, told by their mirrors -/
def bkR {α S S' : Type} (f : S → S') : Res (α × S) → Res (α × S')
  | .ok (o, s) => .ok (o, f s)
  | .exc n => .exc n
  | .bad => .bad
theorem bkR_ok {α S S' : Type} {f : S → S'} {r : Res (α × S)} {o : α} {s' : S'} (h : bkR f r = .ok (o, s')) : ∃ s, r = .ok (o, s) ∧ s' = f s := by
  cases r with
  | ok a => obtain ⟨o1, s1⟩ := a; cases h; exact ⟨s1, rfl, rfl⟩
  | exc n => cases h
  | bad => cases h
def EvB (Γ : List Sl) (tl : TL) (c : DCod) (T : Env Γ → Res (List c.α × Env Γ)) : Prop :=
  ∀ (B : Base) (σ : L2.St) (F H : Hp) (ρ : Env Γ) (D : Addr) (xs : List V) (acc o : List c.α) (ρ' : Env Γ) (Nx : Hp → Prop), SApart B Γ σ F H ρ D → H D = some (.lst xs) → PV c F xs acc → T ρ = .ok (o, ρ') → acc.length + o.length ≤ 16777216 →
    (∀ F' H' ys, SApart B Γ σ F' H' ρ' D → Ex F F' → H' D = some (.lst ys) → PV c F' ys (acc ++ o) → Nx H') → tl σ H D Nx
section
variable {p : Bool} {E : XK} {XC : Str → Value} {Γ Γ0 Γ1 Γ2 : List Sl} {te : TE} {tt : TT} {ti : TI} {tg : TG} {a c : DCod} {rest : TL}
theorem evb_elt {q : Bool} {Te : (R : Type) → (c.α → Env Γ → Res R) → Env Γ → Res R} (he : EvE q E0 XC Γ te c Te) : EvB Γ (tlElt te) c (fun ρ => Te _ (fun z ρ => .ok ([z], ρ)) ρ) := fun B σ F H ρ D xs acc o ρ' Nx S hD pv hT hl nx => by
  obtain ⟨B2, I, _, back⟩ := S.go hD
  have hsl := sizeLine_eq
  refine he B2 σ F H ρ I _ (fun r => r = Res.ok (o, ρ')) (rs0 (fun z => nomatch z) fun n z => nomatch z) _ _ hT fun z ρ9 u9 F9 H9 I9 e9 r9 g9 => ?_
  cases g9
  obtain ⟨S9, h9⟩ := back _ _ _ _ _ I9
  refine ⟨xs, h9, ?_, nx F9 _ _ S9.upd e9.1 upd_same ((pv.ext e9.1).append (.cons r9 .nil))⟩
  rw [pv.length]
  simp only [List.length_singleton] at hl
  omega
theorem evb_for {q : Bool} {vs is : List Nat} {f : Env Γ → a.α → Env Γ1} {T1 : (R : Type) → (List a.α → Env Γ → Res R) → Env Γ → Res R} {Tt : (R : Type) → (Bool → Env Γ1 → Res R) → Env Γ1 → Res R} {T : Env Γ1 → Res (List c.α × Env Γ1)}
    (hv : allNo Γ vs = true) (his : ∀ i, i ∈ is → i ∈ vs) (bk : Bk Γ1 Γ) (h1 : EvI false E0 XC Γ ti a T1) (ht : TgE Γ tg a Γ1 f is) (hc : EvT q E0 XC Γ1 tt Tt) (hr : EvB Γ1 rest c T) :
    EvB Γ (tlFor ti tg tt vs rest) c (fun ρ => T1 _ (fun ys ρ1 => opt (compM (fun y ρ1 => Tt _ (fun b ρ2 => if b = true then bkR bk.f (T ρ2) else .ok ([], bk.f ρ2)) (f ρ1 y)) ys ρ1) fun zs => .ok zs) ρ) := fun B σ F H ρ D xs acc o ρ' Nx S hD pv hT hl nx => by
  obtain ⟨B2, I2, _, back⟩ := S.go hD
  refine h1 B2 σ F H ρ I2 _ (fun r => r = Res.ok (o, ρ')) (rs0 (fun z => nomatch z) fun n z => nomatch z) _ _ hT fun xs1 ρ5 J1 F5 H5 I5 e5 w5 g5 hz5 => ?_
  obtain ⟨Y1, w5, hy5⟩ := w5.ex
  generalize hbody : (fun (y : a.α) (ρ1 : Env Γ) => Tt _ (fun b ρ2 => if b = true then bkR bk.f (T ρ2) else Res.ok ([], bk.f ρ2)) (f ρ1 y)) = body at g5
  generalize hcl : compM body xs1 ρ5 = cl at g5
  cases cl with
  | none => exact absurd g5 (fun z => nomatch z)
  | some zs =>
  obtain ⟨zs, ρz⟩ := zs
  have g5 : Res.ok (zs, ρz) = Res.ok (o, ρ') := g5
  obtain ⟨S5, h5⟩ := back _ _ _ _ _ I5
  refine go_it (body := fun σ3 H5 Nx1 => wipe σ3 vs = wipe σ vs ∧ tt σ3 H5 fun b H6 => if b = true then rest σ3 H6 D Nx1 else Nx1 H6)
    w5 (fun j Hj => j ≤ xs1.length ∧ ∃ Fj ρj acc1 xsj rest1, SApart B Γ (wipe σ vs) Fj Hj ρj D ∧ Ex F5 Fj ∧ Hj D = some (.lst xsj) ∧ PV c Fj xsj (acc ++ acc1) ∧ compM body (xs1.drop j) ρj = some (rest1, ρz) ∧ zs = acc1 ++ rest1)
    ⟨Nat.zero_le _, F5, ρ5, [], xs, zs, S5.wiped hv, Ex.refl _, h5, by rw [List.append_nil]; exact pv.ext e5.1, hcl, rfl⟩ (fun j Hj _ ⟨_, Fj, _, _, _, _, Sj, ej, _⟩ => ej.trans Sj.inv.fh) ?_ ?_
  · rintro j vj Hj Hj' hj ⟨_, Fj, ρj, acc1, xsj, rest1, Sj, ej, hDj, pvj, hclj, hzs⟩ yj
    obtain ⟨F6, y1, hy1, pp1, r6⟩ := hy5 j Hj vj Hj' Fj yj ej Sj.inv.fh
    obtain ⟨hlt1, hye⟩ := List.getElem?_eq_some_iff.mp hy1
    have ed1 : xs1.drop j = y1 :: xs1.drop (j + 1) := by rw [← hye]; exact (List.drop_eq_getElem_cons hlt1)
    rw [ed1] at hclj
    obtain ⟨o1, ρ7, rest2, hb1, hrest1, hrr1⟩ := compM_cons hclj
    rw [← hbody] at hb1
    obtain ⟨B3, I6, _, back3⟩ := Sj.go hDj
    refine ht B3 _ F6 Hj' ρj vj y1 (I6.pext pp1) r6 _ fun σ7 I7 hag7 hln7 => ?_
    have ew7 : wipe σ7 vs = wipe σ vs := wiped_on (B := B) (B2 := B3) (Γ := Γ) (Γx := Γ) (D := D) (o := .lst []) his hag7 hln7
    refine ⟨ew7, ?_⟩
    refine hc B3 σ7 F6 Hj' _ I7 _ (fun r => r = Res.ok (o1, ρ7)) (rs0 (fun z => nomatch z) fun n z => nomatch z) _ _ hb1 fun bb ρ8 F8 H8 I8 e8 g8 => ?_
    obtain ⟨S8, h8⟩ := back3 _ _ _ _ _ I8
    have up : ∀ {Fz Hz : Hp} {ρy : Env Γ1}, SApart B Γ1 σ7 Fz Hz ρy D → SApart B Γ (wipe σ vs) Fz Hz (bk.f ρy) D := fun {Fz Hz ρy} Sz => by
      have S2 := (bk.apart Sz).wiped hv
      rw [ew7] at S2
      exact S2
    cases bb with
    | true =>
      rw [if_pos rfl] at g8 ⊢
      obtain ⟨ρ9, hT9, e9⟩ := bkR_ok g8
      have hzl : (acc ++ acc1).length + o1.length ≤ 16777216 := by
        cases g5
        rw [hzs, hrr1] at hl
        simp only [List.length_append] at hl ⊢
        omega
      refine hr B σ7 F8 H8 ρ8 D xsj (acc ++ acc1) o1 ρ9 _ S8 h8 (pvj.ext (pp1.ff.trans e8.1)) hT9 hzl fun F9 H9 ys S9 e10 h9 pv9 => ?_
      refine ⟨hlt1, F9, ρ7, acc1 ++ o1, ys, rest2, ?_, ((ej.trans pp1.ff).trans e8.1).trans e10, h9, by rw [← List.append_assoc]; exact pv9, hrest1, by rw [hzs, hrr1]; simp⟩
      rw [e9]
      exact up S9
    | false =>
      rw [if_neg (by decide)] at g8 ⊢
      cases g8
      exact ⟨hlt1, F8, _, acc1, xsj, rest2, up S8, (ej.trans pp1.ff).trans e8.1, h8, pvj.ext (pp1.ff.trans e8.1), hrest1, by rw [hzs, hrr1]; simp⟩
  · rintro Hj ⟨_, Fj, ρj, acc1, xsj, rest1, Sj, ej, hDj, pvj, hclj, hzs⟩
    rw [List.drop_length] at hclj
    cases hclj
    rw [List.append_nil] at hzs
    subst hzs
    cases g5
    exact nx Fj Hj xsj (Sj.unwiped hv) (e5.1.trans ej) hDj pvj
theorem en_lcB {q : Bool} {vs is : List Nat} {f : Env Γ0 → a.α → Env Γ1} {T0 : (R : Type) → (List a.α → Env Γ → Res R) → Env Γ → Res R} {Tt : (R : Type) → (Bool → Env Γ1 → Res R) → Env Γ1 → Res R} {T : Env Γ1 → Res (List c.α × Env Γ1)}
    (hd : Hd Γ Γ0) (hv : allNo Γ0 vs = true) (his : ∀ i, i ∈ is → i ∈ vs) (bk : Bk Γ1 Γ0) (h : EvI false E XC Γ ti a T0) (ht : TgE Γ0 tg a Γ1 f is) (hc : EvT q E0 XC Γ1 tt Tt) (hr : EvB Γ1 rest c T) :
    EvN false E XC Γ (tLcB ti tg tt rest vs) (mLst c) (fun R k ρ => T0 R (fun xs ρ => opt (compM (fun x ρ0 => Tt _ (fun b ρ1 => if b = true then bkR bk.f (T ρ1) else .ok ([], bk.f ρ1)) (f ρ0 x)) xs (hd.h ρ)) fun ys => chk (decide (ys.1.length ≤ 16777216)) (k ys.1 (hd.sh ys.2 ρ))) ρ) := fun B σ F H ρ I R G hG k Q g qq => by
  refine h B σ F H ρ I R G hG _ _ g fun xs ρ1 J F1 H1 I1 e1 w g1 hz D hD => ?_
  obtain ⟨Y, w, hy⟩ := w.ex
  generalize hbody : (fun (x : a.α) (ρ0 : Env Γ0) => Tt _ (fun b ρ1 => if b = true then bkR bk.f (T ρ1) else Res.ok ([], bk.f ρ1)) (f ρ0 x)) = body at g1
  generalize hcl : compM body xs (hd.h ρ1) = cl at g1
  cases cl with
  | none => exact absurd g1 hG.1
  | some ys =>
  obtain ⟨ys, ρe⟩ := ys
  have g1 : G (chk (decide (ys.length ≤ 16777216)) (k ys (hd.sh ρe ρ1))) := g1
  have hysl : ys.length ≤ 16777216 := by
    by_cases hh : ys.length ≤ 16777216
    · exact hh
    · rw [decide_eq_false hh] at g1; exact absurd g1 hG.1
  rw [decide_eq_true hysl] at g1
  have g1 : G (k ys (hd.sh ρe ρ1)) := g1
  have hsl := sizeLine_eq
  have S1 : SApart B Γ σ F1 (upd H1 D (.lst [])) ρ1 D := I1.apart hD
  obtain ⟨L1, r1, w1, hn1, hF1, hB1⟩ := S1
  have S0 : SApart B Γ0 σ F1 (upd H1 D (.lst [])) (hd.h ρ1) D := ⟨L1, hd.ok r1, w1, hn1, hF1, hB1⟩
  refine go_it (body := fun σ2 H2 Nx => wipe σ2 vs = wipe σ vs ∧ tt σ2 H2 fun b H3 => if b = true then rest σ2 H3 D Nx else Nx H3)
    w (fun i H' => i ≤ xs.length ∧ ∃ F' ρ0 acc xs' rest1, SApart B Γ0 (wipe σ vs) F' H' ρ0 D ∧ Ex F1 F' ∧ H' D = some (.lst xs') ∧ PV c F' xs' acc ∧ compM body (xs.drop i) ρ0 = some (rest1, ρe) ∧ ys = acc ++ rest1)
    ⟨Nat.zero_le _, F1, hd.h ρ1, [], [], ys, S0.wiped hv, Ex.refl _, upd_same, .nil, hcl, rfl⟩ (fun i H' _ ⟨_, F', _, _, _, _, S, e', _⟩ => e'.trans S.inv.fh) ?_ ?_
  · rintro i v H' H2 hi ⟨_, F', ρ0, acc, xs', rest1, S, e', hDl, pv, hcl', hys⟩ y
    obtain ⟨F2, x, hx, pp, r⟩ := hy i H' v H2 F' y e' S.inv.fh
    obtain ⟨hlt, hxe⟩ := List.getElem?_eq_some_iff.mp hx
    have ed : xs.drop i = x :: xs.drop (i + 1) := by rw [← hxe]; exact (List.drop_eq_getElem_cons hlt)
    rw [ed] at hcl'
    obtain ⟨o, ρ3, rest2, hb, hrest, hrr⟩ := compM_cons hcl'
    rw [← hbody] at hb
    obtain ⟨B2, I2, _, back⟩ := S.go hDl
    refine ht B2 _ F2 H2 ρ0 v x (I2.pext pp) r _ fun σ3 I3 hag hln => ?_
    have ew3 : wipe σ3 vs = wipe σ vs := wiped_on (B := B) (B2 := B2) (Γ := Γ) (Γx := Γ) (D := D) (o := .lst []) his hag hln
    refine ⟨ew3, ?_⟩
    refine hc B2 σ3 F2 H2 _ I3 _ (fun r => r = Res.ok (o, ρ3)) (rs0 (fun z => nomatch z) fun n z => nomatch z) _ _ hb fun bb ρ4 F4 H4 I4 e4 g4 => ?_
    obtain ⟨S4, h4⟩ := back _ _ _ _ _ I4
    have up : ∀ {Fz Hz : Hp} {ρy : Env Γ1}, SApart B Γ1 σ3 Fz Hz ρy D → SApart B Γ0 (wipe σ vs) Fz Hz (bk.f ρy) D := fun {Fz Hz ρy} Sz => by
      have S2 := (bk.apart Sz).wiped hv
      rw [ew3] at S2
      exact S2
    cases bb with
    | false =>
      rw [if_neg (by decide)] at g4 ⊢
      cases g4
      exact ⟨hlt, F4, _, acc, xs', rest2, up S4, (e'.trans pp.ff).trans e4.1, h4, pv.ext (pp.ff.trans e4.1), hrest, by rw [hys, hrr]; simp⟩
    | true =>
      rw [if_pos rfl] at g4 ⊢
      obtain ⟨ρ9, hT9, e9⟩ := bkR_ok g4
      have hzl : acc.length + o.length ≤ 16777216 := by
        rw [hys, hrr] at hysl
        simp only [List.length_append] at hysl
        omega
      refine hr B σ3 F4 H4 ρ4 D xs' acc o ρ9 _ S4 h4 (pv.ext (pp.ff.trans e4.1)) hT9 hzl fun F9 H9 zs S9 e10 h9 pv9 => ?_
      refine ⟨hlt, F9, ρ3, acc ++ o, zs, rest2, ?_, ((e'.trans pp.ff).trans e4.1).trans e10, h9, pv9, hrest, by rw [hys, hrr]; simp⟩
      rw [e9]
      exact up S9
  · rintro H' ⟨_, F', ρ0, acc, xs', rest1, S, e', hDl, pv, hcl', hys⟩
    rw [List.drop_length] at hcl'
    cases hcl'
    rw [List.append_nil] at hys
    subst hys
    obtain ⟨L2, r2, w2, hn2, hF2, hB2⟩ := S.unwiped hv
    have r3 : SRel Γ B.τ σ F' H' L2 (hd.sh ρe ρ1) := hd.re r1 e' r2
    have hne : ∀ a, a ≠ D → (fun b => if b = D then none else H' b : Hp) a = H' a := fun a ha => if_neg ha
    have hDn : (fun b => if b = D then none else H' b : Hp) D = none := if_pos rfl
    have w3 : Wd B F' (fun b => if b = D then none else H' b) L2 := ⟨w2.nd, fun k a ha => by
        obtain ⟨q1, o, q2⟩ := w2.fr k a ha
        exact ⟨q1, o, (hne a fun z => hn2 k (z ▸ ha)).trans q2⟩, fun a u hu => (hne a (ne_of_none hu hF2)).trans (w2.fh a u hu), w2.bf, fun a u hu h1 h2 => (hne a (ne_of_none hu hB2)).trans (w2.keep a u hu h1 h2),
        fun a u hu => by
          obtain ⟨o, ho⟩ := w2.there a u hu
          exact ⟨o, (hne a (ne_of_none hu hB2)).trans ho⟩, w2.new, w2.own, w2.loc, w2.con⟩
    have r4 : SRel Γ B.τ σ F' (fun b => if b = D then none else H' b) L2 (hd.sh ρe ρ1) := r3.ext (Ex.refl _) fun k a ha => hne a fun z => hn2 k (z ▸ ha)
    refine qq ys _ (.ref D) [D] F' _ F' H' ⟨L2, r4, w3⟩ ⟨e1.1.trans e', fun z => nomatch z⟩ ⟨fun a o ho => ?_, Ex.refl _, w2.fh, fun a o ho => .inl ho⟩ ⟨by simp, fun a ha => ?_⟩ ⟨D, xs', rfl, rfl, hDl, pv, ?_⟩ g1
    · by_cases ha : a = D
      · subst ha
        have ho : (none : Option HO) = some o := hDn.symm.trans ho
        cases ho
      · exact (hne a ha).symm.trans ho
    · have ha : a = D := by simpa using ha
      subst ha
      exact ⟨hDn, hF2, _, hDl⟩
    · omega
end
end PuX
set_option Elab.async false
set_option linter.all false
set_option maxRecDepth 100000
set_option maxHeartbeats 4000000
namespace PuX
open PySem PySem.Spec PyProof.Rows L2 Evl Pu PuU
/-! a dict of lists, all of which may change -/
inductive DLR (c : DCod) (F H : Hp) : List (Key × V) → List Addr → List (Int × List c.α) → Prop
  | nil : DLR c F H [] [] []
  | cons {a : Addr} {i : Int} {m : List c.α} {vs : List V} {ks : List (Key × V)} {as : List Addr} {x : List (Int × List c.α)} : H a = some (.lst vs) → PV c F vs m → m.length ≤ sizeLine → DLR c F H ks as x → DLR c F H ((.inl i, .ref a) :: ks) (a :: as) ((i, m) :: x)
def newDL (α : Type) (ks : List Int) : List (Int × List α) := dmerge [] (ks.map fun k => (k, ([] : List α)))
def appDL {α : Type} : List (Int × List α) → Int → α → List (Int × List α)
  | [], _, _ => []
  | q :: r, i, y => if q.1 = i then (q.1, q.2 ++ [y]) :: r else q :: appDL r i y
variable {c : DCod}
section
variable {F F' H H' : Hp} {ks : List (Key × V)} {as : List Addr} {x : List (Int × List c.α)} {i : Int}
theorem DLR.ext (h : DLR c F H ks as x) (e : Ex F F') (k : ∀ a, a ∈ as → H' a = H a) : DLR c F' H' ks as x := by
  induction h with
  | nil => exact .nil
  | cons h1 h2 h4 h3 ih => exact .cons (by rw [k _ List.mem_cons_self]; exact h1) (h2.ext e) h4 (ih fun a ha => k a (List.mem_cons_of_mem _ ha))
theorem DLR.len (h : DLR c F H ks as x) : ks.length = x.length := by
  induction h with
  | nil => rfl
  | cons _ _ _ _ ih => rw [List.length_cons, List.length_cons, ih]
theorem DLR.there (h : DLR c F H ks as x) : ∀ a, a ∈ as → ∃ vs, H a = some (.lst vs) := by
  induction h with
  | nil => exact fun _ ha => nomatch ha
  | cons h1 _ _ _ ih => exact fun a ha => (List.mem_cons.mp ha).elim (fun e => e ▸ ⟨_, h1⟩) (ih a)
theorem DLR.snoc {a : Addr} {m : List c.α} {vs : List V} (h1 : H a = some (.lst vs)) (h2 : PV c F vs m) (h4 : m.length ≤ sizeLine) (h : DLR c F H ks as x) : DLR c F H (ks ++ [(.inl i, .ref a)]) (as ++ [a]) (x ++ [(i, m)]) := by
  induction h with
  | nil => exact .cons h1 h2 h4 .nil
  | cons g1 g2 g4 _ ih => exact .cons g1 g2 g4 ih
theorem DLR.no {v : V} {m : List c.α} (h : DLR c F H ks as x) (hi : i ∉ x.map Prod.fst) : (ks.any fun kv => decide (kv.1 = Sum.inl i)) = false ∧ (x.any fun q => decide (q.1 = i)) = false ∧
    ks.map (fun kv => if kv.1 = Sum.inl i then (kv.1, v) else kv) = ks ∧ x.map (fun q => if q.1 = i then (q.1, m) else q) = x := by
  induction h with
  | nil => exact ⟨rfl, rfl, rfl, rfl⟩
  | @cons a j mj vs ks as x _ _ _ _ ih =>
    rw [List.map_cons, List.mem_cons] at hi
    obtain ⟨h1, h2, h3, h4⟩ := ih fun z => hi (.inr z)
    have hj : j ≠ i := fun e => hi (.inl e.symm)
    have hj2 : (Sum.inl j : Key) ≠ Sum.inl i := fun e => hj (by cases e; rfl)
    refine ⟨by rw [List.any_cons, h1, decide_eq_false hj2]; rfl, by rw [List.any_cons, h2, decide_eq_false hj]; rfl, ?_, ?_⟩
    · rw [List.map_cons, h3, if_neg hj2]
    · rw [List.map_cons, h4, if_neg hj]
theorem DLR.swap {q : Addr} {vs : List V} {m : List c.α} (h1 : H q = some (.lst vs)) (h2 : PV c F vs m) (h4 : m.length ≤ sizeLine) (h : DLR c F H ks as x) (nd : (x.map Prod.fst).Nodup) (hi : i ∈ x.map Prod.fst) (hq : q ∉ as) : (ks.any fun kv => decide (kv.1 = Sum.inl i)) = true ∧ (x.any fun q => decide (q.1 = i)) = true ∧
    ∃ as', DLR c F H (ks.map fun kv => if kv.1 = Sum.inl i then (kv.1, .ref q) else kv) as' (x.map fun z => if z.1 = i then (z.1, m) else z) ∧ (as.Nodup → as'.Nodup) ∧ ∀ b, b ∈ as' → b = q ∨ b ∈ as := by
  induction h with
  | nil => cases hi
  | @cons a j mj vs' ks as x g1 g2 g4 g3 ih =>
    rw [List.map_cons] at nd hi
    obtain ⟨n1, n2⟩ := List.nodup_cons.mp nd
    by_cases hj : j = i
    · subst hj
      obtain ⟨_, _, e3, e4⟩ := g3.no (v := .ref q) (m := m) n1
      refine ⟨by rw [List.any_cons, decide_eq_true rfl]; rfl, by rw [List.any_cons, decide_eq_true rfl]; rfl, q :: as, ?_, fun z => ?_, fun b hb => ?_⟩
      · rw [List.map_cons, List.map_cons, e3, e4, if_pos rfl, if_pos rfl]
        exact .cons h1 h2 h4 g3
      · exact List.nodup_cons.mpr ⟨fun w => hq (List.mem_cons_of_mem _ w), (List.nodup_cons.mp z).2⟩
      · exact (List.mem_cons.mp hb).elim .inl fun w => .inr (List.mem_cons_of_mem _ w)
    · have hj2 : (Sum.inl j : Key) ≠ Sum.inl i := fun e => hj (by cases e; rfl)
      obtain ⟨e1, e2, as', d, z1, z2⟩ := ih n2 ((List.mem_cons.mp hi).resolve_left fun e => hj e.symm) fun w => hq (List.mem_cons_of_mem _ w)
      refine ⟨by rw [List.any_cons, e1, Bool.or_true], by rw [List.any_cons, e2, Bool.or_true], a :: as', ?_, fun z => ?_, fun b hb => ?_⟩
      · rw [List.map_cons, List.map_cons, if_neg hj2, if_neg hj]
        exact .cons g1 g2 g4 d
      · obtain ⟨y1, y2⟩ := List.nodup_cons.mp z
        refine List.nodup_cons.mpr ⟨fun w => ?_, z1 y2⟩
        rcases z2 a w with e | e
        · exact hq (e ▸ List.mem_cons_self)
        · exact y1 e
      · rcases List.mem_cons.mp hb with e | e
        · exact .inr (e ▸ List.mem_cons_self)
        · exact (z2 b e).imp_right (List.mem_cons_of_mem _)
theorem DLR.put {q : Addr} {vs : List V} {m : List c.α} (h1 : H q = some (.lst vs)) (h2 : PV c F vs m) (h4 : m.length ≤ sizeLine) (h : DLR c F H ks as x) (nd : (x.map Prod.fst).Nodup) (hq : q ∉ as) : ∃ as', DLR c F H (putK ks (.inl i) (.ref q)) as' (dput x i m) ∧ (as.Nodup → as'.Nodup) ∧ ∀ b, b ∈ as' → b = q ∨ b ∈ as := by
  by_cases hi : i ∈ x.map Prod.fst
  · obtain ⟨e1, e2, as', d, z1, z2⟩ := h.swap h1 h2 h4 nd hi hq
    refine ⟨as', ?_, z1, z2⟩
    unfold putK dput
    rw [if_pos e1, if_pos e2]
    exact d
  · obtain ⟨e1, e2, _, _⟩ := h.no (v := .ref q) (m := m) hi
    refine ⟨as ++ [q], ?_, fun z => ?_, fun b hb => ?_⟩
    · unfold putK dput
      rw [e1, e2]
      exact h.snoc h1 h2 h4
    · exact List.nodup_append.mpr ⟨z, by simp, fun a ha b hb e => hq (by rw [List.mem_singleton.mp hb] at e; exact e ▸ ha)⟩
    · rcases List.mem_append.mp hb with w | w
      · exact .inr w
      · exact .inl (by simpa using w)
theorem DLR.at_ {m : List c.α} (h : DLR c F H ks as x) (e : dget x i = some m) (nd : as.Nodup) :
    ∃ a vs, valV ks (.inl i) = some (.ref a) ∧ a ∈ as ∧ H a = some (.lst vs) ∧ PV c F vs m ∧ m.length ≤ sizeLine ∧ ∀ F' y v, Ex F F' → c.rel F' v y → m.length + 1 ≤ sizeLine → DLR c F' (upd H a (.lst (vs ++ [v]))) ks as (appDL x i y) := by
  induction h with
  | nil => cases e
  | @cons a j mj vs ks as x h1 h2 h4 h3 ih =>
    unfold dget at e
    obtain ⟨n1, n2⟩ := List.nodup_cons.mp nd
    by_cases hj : j = i
    · rw [if_pos hj] at e
      cases e
      subst hj
      refine ⟨a, vs, valV_pos rfl, List.mem_cons_self, h1, h2, h4, fun F' y v eF r hl => ?_⟩
      unfold appDL
      rw [if_pos rfl]
      exact .cons upd_same ((h2.ext eF).append (.cons r .nil)) (by rw [List.length_append]; exact hl) (h3.ext eF fun b hb => upd_ne fun z => n1 (z ▸ hb))
    · rw [if_neg hj] at e
      obtain ⟨b, vb, g1, g2, g3, g4, g5, g6⟩ := ih e n2
      refine ⟨b, vb, by rw [valV_neg (fun z => hj (by cases z; rfl))]; exact g1, List.mem_cons_of_mem _ g2, g3, g4, g5, fun F' y v eF r hl => ?_⟩
      unfold appDL
      rw [if_neg hj]
      exact .cons (by rw [upd_ne fun z => n1 (by rw [z]; exact g2)]; exact h1) (h2.ext eF) h4 (g6 F' y v eF r hl)
theorem DLR.kvr {Fz : Hp} (h : DLR c F H ks as x) (e : Ex F Fz) (k : ∀ a, a ∈ as → Fz a = H a) : KVR (dLst c) Fz ks x := by
  induction h with
  | nil => exact .nil
  | cons h1 h2 h4 h3 ih => exact .cons ⟨rfl, _, _, rfl, (k _ List.mem_cons_self).trans h1, h2.ext e, h4⟩ (ih fun a ha => k a (List.mem_cons_of_mem _ ha))
end
abbrev mDL (c : DCod) : Cod := ⟨List (Int × List c.α), fun F H fp v x => ∃ l ks as, v = .ref l ∧ fp = l :: as ∧ H l = some (.dK ks) ∧ DLR c F H ks as x,
  fun ⟨l, ks, as, h1, h0, h2, h3⟩ e k => ⟨l, ks, as, h1, h0, by rw [k l (by rw [h0]; simp)]; exact h2, h3.ext e fun a ha => k a (by rw [h0]; exact List.mem_cons_of_mem _ ha)⟩⟩
def fzDL {c : DCod} : Fz (mDL c) (dDict (dLst c)) := ⟨fun x => x, fun {F H Fz fp v x} h e k => let ⟨l, ks, as, h1, h0, h2, h3⟩ := h; ⟨l, ks, h1, by rw [k l (by rw [h0]; simp)]; exact h2, h3.kvr e fun a ha => k a (by rw [h0]; exact List.mem_cons_of_mem _ ha)⟩,
  fun {F H fp v x} h a ha o ho => by
    obtain ⟨l, ks, as, h1, h0, h2, h3⟩ := h
    rw [h0] at ha
    rcases List.mem_cons.mp ha with e | e
    · subst e
      rw [h2] at ho; cases ho
      trivial
    · obtain ⟨vs, e2⟩ := h3.there a e
      rw [e2] at ho; cases ho
      trivial⟩
theorem dput_keys {α : Type} (x : List (Int × α)) (i : Int) (m : α) (nd : (x.map Prod.fst).Nodup) : ((dput x i m).map Prod.fst).Nodup := by
  unfold dput
  split
  · rw [List.map_map, show (Prod.fst ∘ fun q : Int × α => if q.1 = i then (q.1, m) else q) = Prod.fst from funext fun q => by show Prod.fst (if q.1 = i then (q.1, m) else q) = _; split <;> rfl]
    exact nd
  · rename_i h
    rw [List.map_append, List.map_cons, List.map_nil]
    refine List.nodup_append.mpr ⟨nd, by simp, fun a ha b hb e => h ?_⟩
    obtain ⟨q, hq, rfl⟩ := List.mem_map.mp ha
    rw [List.any_eq_true]
    exact ⟨q, hq, decide_eq_true (e.trans (by simpa using hb))⟩
theorem newDL_snoc (α : Type) (ks : List Int) (k : Int) : newDL α (ks ++ [k]) = dput (newDL α ks) k [] := by
  unfold newDL
  rw [List.map_append, List.map_cons, List.map_nil, dmerge_snoc]
theorem newDL_keys (α : Type) (ks : List Int) : ((newDL α ks).map Prod.fst).Nodup := by
  have z : ∀ (xs kvs : List (Int × List α)), (kvs.map Prod.fst).Nodup → ((dmerge kvs xs).map Prod.fst).Nodup := fun xs => by
    induction xs with
    | nil => exact fun _ h => h
    | cons q xs ih => exact fun kvs h => ih _ (dput_keys kvs q.1 q.2 h)
  exact z _ [] List.nodup_nil
def keysD {α : Type} (T : α → Res (List Int)) : List α → Option (List Int)
  | [] => some []
  | x :: xs => match T x with
    | .ok ys => (match keysD T xs with
      | some zs => some (ys ++ zs)
      | none => none)
    | _ => none
theorem keysD_cons {α : Type} {T : α → Res (List Int)} {x : α} {xs : List α} {ks : List Int} (h : keysD T (x :: xs) = some ks) : ∃ ys zs, T x = .ok ys ∧ keysD T xs = some zs ∧ ks = ys ++ zs := by
  unfold keysD at h
  split at h
  · rename_i ys e
    split at h
    · rename_i zs e2
      cases h
      exact ⟨ys, zs, e, e2, rfl⟩
    · cases h
  · cases h
section
variable {E : XK} {XC : Str → Value} {Γ Γ1 Γ2 : List Sl} {tk : TE} {ti ti1 : TI} {tg tg1 : TG} {a : DCod}
theorem en_dcNewL2 {vs vs1 is is1 : List Nat} {f : Env Γ → a.α → Env Γ1} {f1 : Env Γ1 → Int → Env Γ2} {T0 : (R : Type) → (List a.α → Env Γ → Res R) → Env Γ → Res R} {T1 : (R : Type) → (List Int → Env Γ1 → Res R) → Env Γ1 → Res R}
    (hv : allNo Γ vs = true) (hv1 : allNo Γ1 vs1 = true) (his : ∀ i, i ∈ is → i ∈ vs) (his1 : ∀ i, i ∈ is1 → i ∈ vs1) (bk : Bk Γ1 Γ) (bk1 : Bk Γ2 Γ1) (hb : ∀ ρ x, bk.f (f ρ x) = ρ) (hb1 : ∀ ρ x, bk1.f (f1 ρ x) = ρ)
    (h : EvI false E XC Γ ti a T0) (ht : TgE Γ tg a Γ1 f is) (h1 : EvI true E0 XC Γ1 ti1 dInt T1) (ht1 : TgE Γ1 tg1 dInt Γ2 f1 is1)
    (hk : ∀ (B : Base) (σ : L2.St) (F H : Hp) (ρ : Env Γ1) (x : Int), SInv B Γ2 σ F H (f1 ρ x) → ∀ Q : VK, Q (.int x) H → tk σ H Q) :
    EvN false E XC Γ (tDc2 ti tg ti1 tg1 tk (tLst tNil) vs vs1) (mDL c) (fun R k ρ => T0 R (fun xs ρ => opt (keysD (fun x => T1 _ (fun ys _ => .ok ys) (f ρ x)) xs) fun ks => chk (decide (ks.length ≤ 16777216)) (k (newDL c.α ks) ρ)) ρ) := fun B σ F H ρ I R G hG k Q g qq => by
  refine h B σ F H ρ I R G hG _ _ g fun xs ρ1 J F1 H1 I1 e1 w g1 hz D hD => ?_
  obtain ⟨Y, w, hy⟩ := w.ex
  generalize hT : (fun x => T1 _ (fun ys _ => Res.ok ys) (f ρ1 x)) = T at g1
  generalize hcl : keysD T xs = cl at g1
  cases cl with
  | none => exact absurd g1 hG.1
  | some KS =>
  have g1 : G (chk (decide (KS.length ≤ 16777216)) (k (newDL c.α KS) ρ1)) := g1
  have hysl : KS.length ≤ 16777216 := by
    by_cases hh : KS.length ≤ 16777216
    · exact hh
    · rw [decide_eq_false hh] at g1; exact absurd g1 hG.1
  rw [decide_eq_true hysl] at g1
  have g1 : G (k (newDL c.α KS) ρ1) := g1
  have hsl := sizeLine_eq
  have S0 : SApart B Γ σ F1 (upd H1 D (.dK [])) ρ1 D := I1.apart hD
  have own0 : ∀ b, b ∈ [D] → H1 b = none ∧ F1 b = none := fun b hb => by
    obtain rfl : b = D := by simpa using hb
    exact ⟨hD, none_of I1.fh hD⟩
  refine go_it (body := fun σ2 H2 Nx => wipe σ2 vs = wipe σ vs ∧ ti1 σ2 H2 fun J1 H4 => ∃ W1 : Nat → Nat → Hp → Prop, (∃ m, W1 0 m H4) ∧ ∀ j k H, W1 j k H →
      (J1.stop j H ∧ Nx H) ∨ (J1.go j H ∧ ∃ Nx1 : Hp → Prop, (∀ H', Nx1 H' → ∃ k', k' < k ∧ W1 (j + 1) k' H') ∧ ∀ x H', J1.yld j H x H' → tg1 x (wipe σ2 vs1) H' fun σ3 H5 => wipe σ3 vs1 = wipe σ2 vs1 ∧
        tk σ3 H5 fun y H6 => (tLst tNil) σ3 H6 fun z H7 => ∃ kvs k, y = kV k ∧ H7 D = some (.dK kvs) ∧ kvs.length < sizeLine ∧ Nx1 (upd H7 D (.dK (putK kvs k z)))))
    w (fun i H' => i ≤ xs.length ∧ ∃ F' ks as done rest, SApart B Γ (wipe σ vs) F' H' ρ1 D ∧ Pext F1 F' H1 H' ∧ H' D = some (.dK ks) ∧ DLR c F' H' ks as (newDL c.α done) ∧ (D :: as).Nodup ∧ (∀ b, b ∈ D :: as → H1 b = none ∧ F' b = none) ∧ keysD T (xs.drop i) = some rest ∧ KS = done ++ rest)
    ⟨Nat.zero_le _, F1, [], [], [], KS, S0.wiped hv, Pext.own I1.fh hD, upd_same, .nil, by simp, own0, hcl, rfl⟩ (fun i H' _ ⟨_, F', _, _, _, _, S, pe, _⟩ => pe.ff.trans S.inv.fh) ?_ ?_
  · rintro i v H' H2 hi ⟨_, F', ks, as, done, rest, S, pe, hDl, dd, nd, fr, hcl', hys⟩ y
    obtain ⟨F2, x, hx, pp, r⟩ := hy i H' v H2 F' y pe.ff S.inv.fh
    obtain ⟨hlt, hxe⟩ := List.getElem?_eq_some_iff.mp hx
    have ed : xs.drop i = x :: xs.drop (i + 1) := by rw [← hxe]; exact (List.drop_eq_getElem_cons hlt)
    rw [ed] at hcl'
    obtain ⟨o, rest2, hbody, hrest, hrr⟩ := keysD_cons hcl'
    rw [← hT] at hbody
    obtain ⟨B2, I2, _, back⟩ := S.go hDl
    refine ht B2 _ F2 H2 ρ1 v x (I2.pext pp) r _ fun σ3 I3 hag hln => ?_
    have ew3 : wipe σ3 vs = wipe σ vs := wiped_on (B := B) (B2 := B2) (Γ := Γ) (Γx := Γ) (D := D) (o := .dK []) his hag hln
    refine ⟨ew3, ?_⟩
    refine h1 B2 σ3 F2 H2 _ I3 _ (fun r => r = Res.ok o) (rs0 (fun z => nomatch z) fun n z => nomatch z) _ _ hbody fun xs1 ρ5 J1 F5 H5 I5 e5 w5 g5 hz5 => ?_
    cases g5
    obtain ⟨rfl, pp5⟩ := e5.2 rfl
    obtain ⟨S5, h5⟩ := back _ _ _ _ _ I5
    have up : ∀ {Fz Hz : Hp}, SApart B Γ1 σ3 Fz Hz (f ρ1 x) D → SApart B Γ (wipe σ vs) Fz Hz ρ1 D := fun {Fz Hz} Sz => by
      have S2 := (bk.apart Sz).wiped hv
      rw [ew3, hb] at S2
      exact S2
    -- what is there stays, over things new
    have keep : ∀ {Fa Fb Ha Hb : Hp} {ks : List (Key × V)} {as : List Addr} {x : List (Int × List c.α)}, DLR c Fa Ha ks as x → Ha D = some (.dK ks) → (∀ b, b ∈ D :: as → H1 b = none ∧ Fa b = none) → Pext Fa Fb Ha Hb → DLR c Fb Hb ks as x ∧ Hb D = some (.dK ks) ∧ ∀ b, b ∈ D :: as → H1 b = none ∧ Fb b = none := fun {Fa Fb Ha Hb ks as x} dd hDl fr pp => by
      have ob : ∀ b, b ∈ D :: as → ∃ o, Ha b = some o := fun b hb => (List.mem_cons.mp hb).elim (fun e => e ▸ ⟨_, hDl⟩) fun z => let ⟨vs, q⟩ := dd.there b z; ⟨_, q⟩
      refine ⟨dd.ext pp.ff fun b hb => ?_, pp.hh D _ hDl, fun b hb => ⟨(fr b hb).1, ?_⟩⟩
      · obtain ⟨o, ho⟩ := ob b (List.mem_cons_of_mem _ hb)
        rw [ho]; exact pp.hh b o ho
      · cases h2 : Fb b with
        | none => rfl
        | some o2 =>
          obtain ⟨o, ho⟩ := ob b hb
          rcases pp.new b o2 h2 with z | z
          · rw [(fr b hb).2] at z; cases z
          · rw [ho] at z; cases z
    obtain ⟨dd5, hD5, fr5⟩ := keep dd hDl fr (pp.trans pp5)
    obtain ⟨Y1, w5, hy5⟩ := w5.ex
    refine go_it (body := fun σ3' H5 Nx1 => wipe σ3' vs1 = wipe σ3 vs1 ∧ tk σ3' H5 fun y H6 => (tLst tNil) σ3' H6 fun z H7 => ∃ kvs k, y = kV k ∧ H7 D = some (.dK kvs) ∧ kvs.length < sizeLine ∧ Nx1 (upd H7 D (.dK (putK kvs k z))))
      w5 (fun j Hj => j ≤ o.length ∧ ∃ Fj ksj asj, SApart B Γ1 (wipe σ3 vs1) Fj Hj (f ρ1 x) D ∧ Ex F5 Fj ∧ Pext F1 Fj H1 Hj ∧ Hj D = some (.dK ksj) ∧ DLR c Fj Hj ksj asj (newDL c.α (done ++ o.take j)) ∧ (D :: asj).Nodup ∧ ∀ b, b ∈ D :: asj → H1 b = none ∧ Fj b = none)
      ⟨Nat.zero_le _, F5, ks, as, S5.wiped hv1, Ex.refl _, (pe.trans pp).trans pp5, hD5, by rw [List.take_zero, List.append_nil]; exact dd5, nd, fr5⟩ (fun j Hj _ ⟨_, Fj, _, _, Sj, ej, _⟩ => ej.trans Sj.inv.fh) ?_ ?_
    · rintro j vj Hj Hj' hj ⟨_, Fj, ksj, asj, Sj, ej, pej, hDj, ddj, ndj, frj⟩ yj
      obtain ⟨F6, y1, hy1, pp1, r6⟩ := hy5 j Hj vj Hj' Fj yj ej Sj.inv.fh
      obtain ⟨hlt1, hye⟩ := List.getElem?_eq_some_iff.mp hy1
      obtain ⟨B3, I6, _, back3⟩ := Sj.go hDj
      refine ht1 B3 _ F6 Hj' _ vj y1 (I6.pext pp1) r6 _ fun σ7 I7 hag7 hln7 => ?_
      have ew7 : wipe σ7 vs1 = wipe σ3 vs1 := wiped_on (B := B) (B2 := B3) (Γ := Γ) (Γx := Γ) (D := D) (o := .dK []) his1 hag7 hln7
      refine ⟨ew7, ?_⟩
      refine hk B3 σ7 F6 Hj' _ y1 I7 _ ⟨Nat.zero_le _, fun q hq => ?_⟩
      obtain ⟨dd6, hD6, fr6⟩ := keep ddj hDj frj pp1
      have p8 : Pext F6 F6 Hj' (upd Hj' q (.lst [])) := Pext.own I7.fh hq
      obtain ⟨dd8, hD8, fr8⟩ := keep dd6 hD6 fr6 p8
      obtain ⟨S9, _⟩ := back3 _ _ _ _ _ (bk1.inv (I7.pext p8))
      have S9 := S9.wiped hv1
      rw [ew7, hb1] at S9
      have hDq : D ≠ q := fun e => by rw [← e, hD6] at hq; cases hq
      have hqa : q ∉ asj := fun z => by
        obtain ⟨vs', q'⟩ := dd6.there q z
        rw [hq] at q'; cases q'
      have hlen := dd8.len
      have hle : (newDL c.α (done ++ o.take j)).length ≤ (done ++ o.take j).length := by
        have := dmerge_len ((done ++ o.take j).map fun k => (k, ([] : List c.α))) []
        rw [List.length_map] at this
        show List.length (dmerge [] _) ≤ _
        simp only [List.length_nil, Nat.zero_add] at this
        exact this
      have hKS : (done ++ o.take j).length < KS.length := by
        rw [hys, hrr, List.length_append, List.length_append, List.length_append, List.length_take]
        omega
      obtain ⟨as', dd9, nd9, in9⟩ := dd8.put (i := y1) (q := q) (m := ([] : List c.α)) upd_same .nil (Nat.zero_le _) (newDL_keys _ _) hqa
      have peq : Pext F1 F6 H1 (upd Hj' q (.lst [])) := (pej.trans pp1).trans p8
      obtain ⟨nD, na⟩ := List.nodup_cons.mp ndj
      have nD' : D ∉ as' := fun z => (in9 D z).elim (fun e => hDq e) nD
      refine ⟨ksj, .inl y1, rfl, hD8, by omega, hlt1, F6, putK ksj (.inl y1) (.ref q), as', S9.upd, ej.trans pp1.ff, ⟨fun b u hb => ?_, peq.ff, fun b u hb => ?_, peq.new⟩, upd_same, ?_, List.nodup_cons.mpr ⟨nD', nd9 na⟩, fun b hb => ?_⟩
      · have : b ≠ D := fun e => by rw [e, hD] at hb; cases hb
        rw [upd_ne this]; exact peq.hh b u hb
      · have : b ≠ D := fun e => by rw [e, (fr8 D List.mem_cons_self).2] at hb; cases hb
        rw [upd_ne this]; exact peq.fh b u hb
      · have et : done ++ o.take (j + 1) = (done ++ o.take j) ++ [y1] := by rw [List.take_add_one, hy1, ← List.append_assoc]; rfl
        rw [et, newDL_snoc]
        exact dd9.ext (Ex.refl _) fun b hb => upd_ne fun e => nD' (e ▸ hb)
      · rcases List.mem_cons.mp hb with e | e
        · exact e ▸ fr8 D List.mem_cons_self
        · rcases in9 b e with z | z
          · subst z
            exact ⟨none_of (pej.trans pp1).hh hq, none_of I7.fh hq⟩
          · exact fr8 b (List.mem_cons_of_mem _ z)
    · rintro Hj ⟨_, Fj, ksj, asj, Sj, ej, pej, hDj, ddj, ndj, frj⟩
      rw [List.take_length] at ddj
      have Sk : SApart B Γ1 σ3 Fj Hj (f ρ1 x) D := Sj.unwiped hv1
      exact ⟨hlt, Fj, ksj, asj, done ++ o, rest2, up Sk, pej, hDj, ddj, ndj, frj, hrest, by rw [hys, hrr, List.append_assoc]⟩
  · rintro H' ⟨_, F', ks, as, done, rest, S, pe, hDl, dd, nd, fr, hcl', hys⟩
    rw [List.drop_length] at hcl'
    cases hcl'
    rw [List.append_nil] at hys
    subst hys
    refine qq _ ρ1 (.ref D) (D :: as) F1 H1 F' H' I1 e1 pe ⟨nd, fun b hb => ⟨(fr b hb).1, (fr b hb).2, ?_⟩⟩ ⟨D, ks, as, rfl, rfl, hDl, dd⟩ g1
    exact (List.mem_cons.mp hb).elim (fun e => e ▸ ⟨_, hDl⟩) fun z => let ⟨vs, q⟩ := dd.there b z; ⟨_, q⟩
end
end PuX
set_option Elab.async false
set_option linter.all false
set_option maxRecDepth 100000
set_option maxHeartbeats 4000000
namespace PuX
open PySem PySem.Spec PyProof.Rows L2 Evl Pu
section
variable {p : Bool} {E : XK} {XC : Str → Value} {Rt : Ret} {K : PySem.W.Frag} {Γ Γ' Γ1 ΓL : List Sl} {te ta : TE} {ts : TS} {c : DCod} {i : Nat} {k : Kd}
theorem dl_step {B : Base} {σ : L2.St} {F H : Hp} {ρ : Env Γ} (hk : k ≠ .co) (I : SInv B Γ σ F H ρ) (at_ : At Γ i (.m k (mDL c))) : ∃ l ks as, σ[i]? = some (some (.ref l)) ∧ H l = some (.dK ks) ∧ DLR c F H ks as (at_.get ρ) ∧ as.Nodup ∧
    ∀ b o xs', b ∈ as → DLR c F (upd H b o) ks as xs' → SInv B Γ σ F (upd H b o) (at_.put ρ xs') := by
  obtain ⟨v, fp, h1, _, hr, nd, hfp, hst⟩ := I.mut at_
  obtain ⟨l, ks, as, rfl, rfl, hl, dd⟩ := hr
  have n3 := List.nodup_cons.mp nd
  refine ⟨l, ks, as, h1, hl, dd, n3.2, fun b o xs' hb dd' => hst hk F _ (l :: as) xs' ⟨Ex.refl _, fun d u hd => ?_, fun d u hd hm => ?_, fun d u hd => ?_, fun d u hd => .inl hd, nd, fun d hd => ?_⟩ ⟨l, ks, as, rfl, rfl, ?_, dd'⟩⟩
  · rw [upd_ne (ne_of_none hd (hfp b (List.mem_cons_of_mem _ hb)).1)]; exact I.fh d u hd
  · rw [upd_ne (fun e => hm (by rw [e]; exact List.mem_cons_of_mem _ hb))]; exact hd
  · by_cases he : d = b
    · subst he; exact ⟨_, upd_same⟩
    · exact ⟨u, by rw [upd_ne he]; exact hd⟩
  · obtain ⟨z1, ⟨u, z2⟩, _⟩ := hfp d hd
    refine ⟨.inl hd, z1, ?_⟩
    by_cases he : d = b
    · subst he; exact ⟨_, upd_same⟩
    · exact ⟨u, by rw [upd_ne he]; exact z2⟩
  · rw [upd_ne fun e => n3.1 (by rw [e]; exact hb)]; exact hl
theorem st_appDL (hk : k ≠ .co) (at_ : At Γ i (.m k (mDL c))) {T : (R : Type) → (c.α → Env Γ → Pu.Res R) → Env Γ → Pu.Res R} {Ta : (R : Type) → (Int → Env Γ → Pu.Res R) → Env Γ → Pu.Res R} (ha : EvE true E XC Γ ta dInt Ta) (h : EvE true E XC Γ te c T) :
    StE E XC Rt Γ (tDrop (tBM K "list" rAppend (tDGet (tVar i) ta) (tCons te tNil))) Γ ΓL (fun R nx rt bk ct ρ => Ta R (fun n ρ => opt (dget (at_.get ρ) n) fun m => T R (fun x ρ => chk (decide (List.length (α := c.α) m < 16777216)) (nx (at_.put ρ (appDL (α := c.α) (at_.get ρ) n x)))) ρ) ρ) := fun B σ F H ρ I R G hG nx rt bk ct D g qn qr qb qc => by
  obtain ⟨l, ks, as, h1, hl, dd, nd, _⟩ := dl_step hk I at_
  refine ⟨.ref l, h1, ha B σ F H ρ I R G hG _ _ g fun n ρ2 w F2 H2 I2 e2 r2 g2 => ?_⟩
  have r2 : w = V.int n := r2
  subst r2
  obtain ⟨er2, pe2⟩ := e2.2 rfl
  subst er2
  obtain ⟨l2, ks2, as2, h2, hl2, dd2, nd2, _⟩ := dl_step hk I2 at_
  rw [h1] at h2; cases h2
  have g2 : G (opt (dget (at_.get ρ2) n) fun m => T R (fun x ρ => chk (decide (List.length (α := c.α) m < 16777216)) (nx (at_.put ρ (appDL (α := c.α) (at_.get ρ) n x)))) ρ2) := g2
  cases hm : dget (at_.get ρ2) n with
  | none => rw [hm] at g2; exact absurd g2 hG.1
  | some m =>
    rw [hm] at g2
    obtain ⟨b, vs0, v1, hbm, hb0, _⟩ := dd2.at_ hm nd2
    refine ⟨l, .ref b, rfl, v1 ▸ DGet.k (k := .inl n) hl2, .inl ⟨rfl, vs0, SqL.of hb0⟩, h B σ F2 H2 ρ2 I2 R G hG _ _ g2 fun x ρ3 u F3 H3 I3 e3 r3 g3 => ?_⟩
    obtain ⟨er3, pe3⟩ := e3.2 rfl
    subst er3
    obtain ⟨l3, ks3, as3, h3, hl3, dd3, nd3, hs⟩ := dl_step hk I3 at_
    rw [h1] at h3; cases h3
    rw [pe3.hh l _ hl2] at hl3
    cases hl3
    obtain ⟨b3, vs, k1, k2, k3, k4, k5, k6⟩ := dd3.at_ hm nd3
    rw [v1] at k1
    cases k1
    have g3 : G (chk (decide (List.length (α := c.α) m < 16777216)) (nx (at_.put ρ3 (appDL (α := c.α) (at_.get ρ3) n x)))) := g3
    by_cases hx : List.length (α := c.α) m < 16777216
    · rw [decide_eq_true hx] at g3
      have hsz := sizeLine_eq
      have hpl := k4.length
      refine ⟨b, vs, u, rfl, rfl, k3, by omega, qn _ σ F3 _ (hs b _ _ k2 (k6 F3 x u (Ex.refl _) r3 (by omega))) (e2.1.trans e3.1) g3⟩
    · rw [decide_eq_false hx] at g3
      exact absurd g3 hG.1
/-! what is not changed any more becomes data -/
end
end PuX
set_option Elab.async false
set_option linter.all false
set_option maxRecDepth 100000
set_option maxHeartbeats 4000000
namespace PuX
open PySem PySem.Spec PyProof.Rows L2 Evl Pu
/-! xs.count(y), flat things -/
def rCountL (K : PySem.W.Frag) : V → List V → Hp → VK → Prop := fun x xs H Q => ∃ (a : Addr) (ys : List V) (y : V), x = V.ref a ∧ xs = [y] ∧ SqL K H a ys ∧ flatV y = true ∧ ys.all flatV = true ∧ Q (.int ((ys.countP fun z => eqV z y : Nat) : Int)) H
theorem mt_countL {X : Cx} : MtR X "list.count" (rCountL X.K) := by
  intro pins s σ H x xs v us Q I rx rxs h
  obtain ⟨a, ys, y, rfl, rfl, hs, fy, fys, q⟩ := h
  cases rx
  obtain ⟨uy, rfl, ry⟩ := rxs.one
  obtain ⟨its, rv, ⟨⟨cls, dd, data, sl⟩, n, ho, hc, hdn, hd⟩, hlen⟩ := I.list hs
  simp only at hc hd
  subst hc hd
  refine call_meets PySem.F.slot_list_count ⟨_, ho, rfl⟩ PySem.F.entry_list_count (PySem.F.args_list_count_2 _ _)
    (SeqAt.list_countAt a its.toArray n dd sl uy (eqU y)) ⟨ho, fun u' hu' => mem_eqAt ry fy rv fys u' (by simpa using hu'), ?_⟩
  refine ⟨.int ((ys.countP fun z => eqV z y : Nat) : Int), H, I.tok _, ⟨s.toks, ?_⟩, q⟩
  rw [List.toList_toArray, countP_eqU rv fys]
theorem mt_countLK {X : Cx} {K : PySem.W.Frag} (hK : X.K = K := by rfl) : MtR X "list.count" (rCountL K) := by subst hK; exact mt_countL
section
variable {p : Bool} {E : XK} {XC : Str → Value} {K : PySem.W.Frag} {Γ : List Sl} {ta tb : TE} {c : DCod}
theorem ev_countLF (q : Fl c) {Ta : (R : Type) → (List c.α → Env Γ → Pu.Res R) → Env Γ → Pu.Res R} {Tb : (R : Type) → (c.α → Env Γ → Pu.Res R) → Env Γ → Pu.Res R} (ha : EvE p E XC Γ ta (dLst c) Ta) (hb : EvE p E XC Γ tb c Tb) :
    EvE p E XC Γ (tBM K "list" (rCountL K) ta (tCons tb tNil)) dInt (fun R k ρ => Ta R (fun x ρ => Tb R (fun y ρ => k (countL q.dec x y) ρ) ρ) ρ) := fun B σ F H ρ I R G hG k Q g qq =>
  ha B σ F H ρ I R G hG _ _ g fun x ρ1 v F1 H1 I1 e1 r1 g1 => by
    obtain ⟨l, vs, rfl, h2, h5, h6⟩ := r1
    refine ⟨.inl ⟨rfl, vs, SqL.of (I1.fh l _ h2)⟩, hb B σ F1 H1 ρ1 I1 R G hG _ _ g1 fun y ρ2 w F2 H2 I2 e2 r2 g2 => ?_⟩
    have pv := h5.ext e2.1
    exact ⟨l, vs, w, rfl, rfl, SqL.of (I2.fh l _ (e2.1 l _ h2)), q.flat r2, fl_all q pv, qq _ ρ2 _ F2 H2 I2 (e1.trans e2) (by rw [countL_eq q r2 pv]; rfl) g2⟩
end
/-! // by a negative number -/
instance decCDivN : ∀ i j, Decidable (CDivN i j) := fun i j => by unfold CDivN; exact inferInstance
theorem o_fdivN : Op2P (rI CDivN fun i j => .int (Int.fdiv i j)) dInt dInt dInt (fun x y => if CDivN x y then some (Int.fdiv x y) else none) := o_intC
end PuX
set_option Elab.async false
set_option linter.all false
set_option maxRecDepth 100000
set_option maxHeartbeats 0
set_option synthInstance.maxSize 4000
set_option synthInstance.maxHeartbeats 400000
set_option profiler true
set_option profiler.threshold 2000
namespace G
open PySem PySem.Spec PyProof.Rows L2 Evl Pu
def top (i : Nat) : Stmt := PySem.Challenge.pw_pairmart_k19_chances_by_eating.main.body.getD i (.Pass ⟨0, 0, 0, 0⟩)
abbrev s_reached_from : Stmt := top 7
theorem sc_reached_from : FnScope ["ways", "start", "came", "waiting", "one", "other"] ["ways", "start"] (defScope s_reached_from) := ⟨rfl, rfl, rfl, by decide +kernel, rfl, by decide +kernel, by decide +kernel⟩
abbrev s_Wish_init : Stmt := inClass (top 9) 0
theorem sc_Wish_init : FnScope ["self", "order", "place", "one"] ["self", "order"] (defScope s_Wish_init) := ⟨rfl, rfl, rfl, by decide +kernel, rfl, by decide +kernel, by decide +kernel⟩
abbrev s_Wish_rank : Stmt := inClass (top 9) 2
theorem sc_Wish_rank : FnScope ["self", "one"] ["self", "one"] (defScope s_Wish_rank) := ⟨rfl, rfl, rfl, by decide +kernel, rfl, by decide +kernel, by decide +kernel⟩
abbrev s_Wish_better : Stmt := inClass (top 9) 3
theorem sc_Wish_better : FnScope ["self", "one", "other", "place", "other_place"] ["self", "one", "other"] (defScope s_Wish_better) := ⟨rfl, rfl, rfl, by decide +kernel, rfl, by decide +kernel, by decide +kernel⟩
abbrev s_Wish_ahead_of : Stmt := inClass (top 9) 4
theorem sc_Wish_ahead_of : FnScope ["self", "one", "listed"] ["self", "one"] (defScope s_Wish_ahead_of) := ⟨rfl, rfl, rfl, by decide +kernel, rfl, by decide +kernel, by decide +kernel⟩
abbrev s_check_list : Stmt := top 10
theorem sc_check_list : FnScope ["order", "many", "found", "one"] ["order", "many"] (defScope s_check_list) := ⟨rfl, rfl, rfl, by decide +kernel, rfl, by decide +kernel, by decide +kernel⟩
abbrev s_shared : Stmt := top 13
theorem sc_shared : FnScope ["one", "other"] ["one", "other"] (defScope s_shared) := ⟨rfl, rfl, rfl, by decide +kernel, rfl, by decide +kernel, by decide +kernel⟩
abbrev s_Part_init : Stmt := inClass (top 14) 0
theorem sc_Part_init : FnScope ["self", "top", "low", "both"] ["self", "top", "low"] (defScope s_Part_init) := ⟨rfl, rfl, rfl, by decide +kernel, rfl, by decide +kernel, by decide +kernel⟩
abbrev s_Part_plus : Stmt := inClass (top 14) 1
theorem sc_Part_plus : FnScope ["self", "other"] ["self", "other"] (defScope s_Part_plus) := ⟨rfl, rfl, rfl, by decide +kernel, rfl, by decide +kernel, by decide +kernel⟩
abbrev s_Part_minus : Stmt := inClass (top 14) 2
theorem sc_Part_minus : FnScope ["self", "other"] ["self", "other"] (defScope s_Part_minus) := ⟨rfl, rfl, rfl, by decide +kernel, rfl, by decide +kernel, by decide +kernel⟩
abbrev s_Part_over : Stmt := inClass (top 14) 3
theorem sc_Part_over : FnScope ["self", "number"] ["self", "number"] (defScope s_Part_over) := ⟨rfl, rfl, rfl, by decide +kernel, rfl, by decide +kernel, by decide +kernel⟩
abbrev s_Part_below : Stmt := inClass (top 14) 4
theorem sc_Part_below : FnScope ["self", "other"] ["self", "other"] (defScope s_Part_below) := ⟨rfl, rfl, rfl, by decide +kernel, rfl, by decide +kernel, by decide +kernel⟩
abbrev s_Part_shown : Stmt := inClass (top 14) 5
theorem sc_Part_shown : FnScope ["self"] ["self"] (defScope s_Part_shown) := ⟨rfl, rfl, rfl, by decide +kernel, rfl, by decide +kernel, by decide +kernel⟩
abbrev s_Meal_init : Stmt := inClass (top 15) 0
theorem sc_Meal_init : FnScope ["self", "lists", "many", "order", "_"] ["self", "lists", "many"] (defScope s_Meal_init) := ⟨rfl, rfl, rfl, by decide +kernel, rfl, by decide +kernel, by decide +kernel⟩
abbrev s_Meal_bite : Stmt := inClass (top 15) 1
theorem sc_Meal_bite : FnScope ["self", "one", "thing"] ["self", "one"] (defScope s_Meal_bite) := ⟨rfl, rfl, rfl, by decide +kernel, rfl, by decide +kernel, by decide +kernel⟩
abbrev s_Meal_eaters : Stmt := inClass (top 15) 2
theorem sc_Meal_eaters : FnScope ["self", "bites", "one", "thing", "bite"] ["self"] (defScope s_Meal_eaters) := ⟨rfl, rfl, rfl, by decide +kernel, rfl, by decide +kernel, by decide +kernel⟩
abbrev s_Meal_eat : Stmt := inClass (top 15) 3
theorem sc_Meal_eat : FnScope ["self", "eaters", "step", "thing", "ones", "lasts", "one"] ["self"] (defScope s_Meal_eat) := ⟨rfl, rfl, rfl, by decide +kernel, rfl, by decide +kernel, by decide +kernel⟩
abbrev s_eaten : Stmt := top 16
theorem sc_eaten : FnScope ["lists", "many", "meal"] ["lists", "many"] (defScope s_eaten) := ⟨rfl, rfl, rfl, by decide +kernel, rfl, by decide +kernel, by decide +kernel⟩
abbrev s_shares : Stmt := top 17
theorem sc_shares : FnScope ["lists", "many", "row", "part"] ["lists", "many"] (defScope s_shares) := ⟨rfl, rfl, rfl, by decide +kernel, rfl, by decide +kernel, by decide +kernel⟩
abbrev s_times : Stmt := top 18
theorem sc_times : FnScope ["lists", "many"] ["lists", "many"] (defScope s_times) := ⟨rfl, rfl, rfl, by decide +kernel, rfl, by decide +kernel, by decide +kernel⟩
abbrev s_running : Stmt := top 19
theorem sc_running : FnScope ["chances", "found", "total", "top", "low"] ["chances"] (defScope s_running) := ⟨rfl, rfl, rfl, by decide +kernel, rfl, by decide +kernel, by decide +kernel⟩
abbrev s_sums_down : Stmt := top 20
theorem sc_sums_down : FnScope ["order", "row", "part", "thing"] ["order", "row"] (defScope s_sums_down) := ⟨rfl, rfl, rfl, by decide +kernel, rfl, by decide +kernel, by decide +kernel⟩
abbrev s_as_much : Stmt := top 21
theorem sc_as_much : FnScope ["order", "one", "other", "mine", "thing", "theirs", "much", "also"] ["order", "one", "other"] (defScope s_as_much) := ⟨rfl, rfl, rfl, by decide +kernel, rfl, by decide +kernel, by decide +kernel⟩
abbrev s_wanted_more : Stmt := top 22
theorem sc_wanted_more : FnScope ["lists", "rows", "order", "row", "worse", "chance", "better"] ["lists", "rows"] (defScope s_wanted_more) := ⟨rfl, rfl, rfl, by decide +kernel, rfl, by decide +kernel, by decide +kernel⟩
abbrev s_is_tight : Stmt := top 23
theorem sc_is_tight : FnScope ["lists", "rows", "pairs", "ways", "pair", "thing", "better", "worse"] ["lists", "rows"] (defScope s_is_tight) := ⟨rfl, rfl, rfl, by decide +kernel, rfl, by decide +kernel, by decide +kernel⟩
abbrev s_whole_of : Stmt := top 24
theorem sc_whole_of : FnScope ["rows", "thing", "total", "part", "row"] ["rows", "thing"] (defScope s_whole_of) := ⟨rfl, rfl, rfl, by decide +kernel, rfl, by decide +kernel, by decide +kernel⟩
abbrev s_law_flat : Stmt := top 26
theorem sc_law_flat : FnScope ["rows", "found", "row"] ["rows"] (defScope s_law_flat) := ⟨rfl, rfl, rfl, by decide +kernel, rfl, by decide +kernel, by decide +kernel⟩
abbrev s_law_gcd : Stmt := top 31
theorem sc_law_gcd : FnScope ["one", "other"] ["one", "other"] (defScope s_law_gcd) := ⟨rfl, rfl, rfl, by decide +kernel, rfl, by decide +kernel, by decide +kernel⟩
abbrev s_law_small : Stmt := top 32
theorem sc_law_small : FnScope ["top", "low", "by"] ["top", "low"] (defScope s_law_small) := ⟨rfl, rfl, rfl, by decide +kernel, rfl, by decide +kernel, by decide +kernel⟩
abbrev s_law_eaten : Stmt := top 33
theorem sc_law_eaten : FnScope ["lists", "many", "low", "left", "clock", "ends", "had", "order", "going", "bites", "thing", "steps", "step", "k", "row", "one"] ["lists", "many"] (defScope s_law_eaten) := ⟨rfl, rfl, rfl, by decide +kernel, rfl, by decide +kernel, by decide +kernel⟩
abbrev s_law_dice : Stmt := top 27
theorem sc_law_dice : FnScope ["cell"] ["cell"] (defScope s_law_dice) := ⟨rfl, rfl, rfl, by decide +kernel, rfl, by decide +kernel, by decide +kernel⟩
abbrev s_law_rounds : Stmt := top 29
theorem sc_law_rounds : FnScope ["script", "most_now", "cells", "cell"] ["script", "most_now"] (defScope s_law_rounds) := ⟨rfl, rfl, rfl, by decide +kernel, rfl, by decide +kernel, by decide +kernel⟩
abbrev s_law_roll : Stmt := top 28
theorem sc_law_roll : FnScope ["dice", "many", "found"] ["dice", "many"] (defScope s_law_roll) := ⟨rfl, rfl, rfl, by decide +kernel, rfl, by decide +kernel, by decide +kernel⟩
abbrev s_law_list : Stmt := top 30
theorem sc_law_list : FnScope ["dice", "many", "left", "found", "turn", "one"] ["dice", "many"] (defScope s_law_list) := ⟨rfl, rfl, rfl, by decide +kernel, rfl, by decide +kernel, by decide +kernel⟩
abbrev s_law : Stmt := top 34
theorem sc_law : FnScope ["script", "dice", "lists", "many", "k", "told_now", "due", "ends", "j", "downs", "whole", "place", "part", "pairs", "worse", "better", "thing", "top", "low", "one"] ["script"] (defScope s_law) := ⟨rfl, rfl, rfl, by decide +kernel, rfl, by decide +kernel, by decide +kernel⟩
abbrev nm_Part : List Str := ["top", "low"]
abbrev A_Part := Int × Int × Unit
abbrev fs_Part (K : PySem.W.Frag) : List DCod := [dInt, dInt]
abbrev dI_Part (K : PySem.W.Frag) : DCod := dIns (He.ga K "Part") nm_Part (fs_Part K)
abbrev nm_Wish : List Str := ["order", "ranks"]
abbrev A_Wish := (List Int) × (List (Int × Int)) × Unit
abbrev fs_Wish (K : PySem.W.Frag) : List DCod := [(dTup dInt), (dDict dInt)]
abbrev dI_Wish (K : PySem.W.Frag) : DCod := dIns (He.ga K "Wish") nm_Wish (fs_Wish K)
abbrev nm_Meal : List Str := ["lists", "left", "had", "clock", "steps"]
abbrev A_Meal := (List (List Int)) × (List A_Part) × (List (List A_Part)) × A_Part × (List (Int × Int)) × Unit
abbrev fs_Meal (K : PySem.W.Frag) : List Sl := [.da (dTup (dTup dInt)), .m .lo (mLst (dI_Part K)), .m .lo (PuX.mLL (dI_Part K)), .da (dI_Part K), .m .lo (mLst (dP2 dInt dInt))]
abbrev fsF_Meal (K : PySem.W.Frag) : List DCod := [(dTup (dTup dInt)), (dLst (dI_Part K)), (dLst (dLst (dI_Part K))), (dI_Part K), (dLst (dP2 dInt dInt))]
abbrev dF_Meal (K : PySem.W.Frag) : DCod := dIns (He.ga K "Meal") nm_Meal (fsF_Meal K)
abbrev mO_Meal (K : PySem.W.Frag) : Cod := mObj (He.ga K "Meal") nm_Meal (fs_Meal K)
def m_reached_from (a_ways : (List (Int × (List Int)))) (a_start : Int) : Pu.Res (List (Int × (Option Int))) := let nx4 := fun (r3 : (List (Int × (List Int))) × Int × (List (Int × (Option Int))) × (List Int) × Unit × Unit × Unit) => chk (decide (List.length (α := Int × (Option Int)) r3.2.2.1 ≤ 16777216)) (.ok r3.2.2.1); whl (fun (k1 : (List (Int × (List Int))) × Int × (List (Int × (Option Int))) × (List Int) × Unit × Unit × Unit → Res _) (r2 : (List (Int × (List Int))) × Int × (List (Int × (Option Int))) × (List Int) × Unit × Unit × Unit) => if (!decide (r2.2.2.2.1 = [])) = true then opt (List.head? (α := Int) r2.2.2.2.1) fun x5 => opt (dget r2.1 x5) fun x6 => let nx11 := fun (r10 : (List (Int × (List Int))) × Int × (List (Int × (Option Int))) × (List Int) × Int × Unit × Unit) => k1 (r10.1, r10.2.1, r10.2.2.1, r10.2.2.2.1, (), (), ()); List.foldr (fun (x7 : Int) (k8 : (List (Int × (List Int))) × Int × (List (Int × (Option Int))) × (List Int) × Int × Unit × Unit → Res _) (r9 : (List (Int × (List Int))) × Int × (List (Int × (Option Int))) × (List Int) × Int × Unit × Unit) => let k12 := fun (r13 : (List (Int × (List Int))) × Int × (List (Int × (Option Int))) × (List Int) × Int × Int × Unit) => k8 (r13.1, r13.2.1, r13.2.2.1, r13.2.2.2.1, r13.2.2.2.2.1, (), ()); if (!(dget r9.2.2.1 x7).isSome) = true then chk (decide (List.length (α := Int × (Option Int)) r9.2.2.1 < 16777216)) (chk (decide (List.length (α := Int) r9.2.2.2.1 < 16777216)) (k12 (r9.1, r9.2.1, (dput (α := (Option Int)) r9.2.2.1 x7 (some r9.2.2.2.2.1)), (app1 r9.2.2.2.1 x7), r9.2.2.2.2.1, x7, ()))) else k12 (r9.1, r9.2.1, r9.2.2.1, r9.2.2.2.1, r9.2.2.2.2.1, x7, ())) nx11 x6 (r2.1, r2.2.1, r2.2.2.1, (List.tail (α := Int) r2.2.2.2.1), x5, (), ()) else nx4 (r2.1, r2.2.1, r2.2.2.1, r2.2.2.2.1, (), (), ())) 100000 (a_ways, a_start, ([(a_start, (none : (Option Int)))] : (List (Int × (Option Int)))), [a_start], (), (), ())
def m_Wish_init (a_order : (List Int)) : Pu.Res A_Wish := opt (compL (β := Int × Int) (S := ((List Int) × Unit) × (List Int) × Unit × Unit × Unit) (fun (x14 : (Int × Int)) r15 => .ok (some (x14.2, x14.1), (r15.1, r15.2.1, (), (), ()))) (enumL (a_order, ()).1) ((a_order, ()), a_order, (), (), ())) fun ys16 => .ok (ys16.2.1.1, (dmerge [] ys16.1), ())
def m_Wish_rank (a_self : A_Wish) (a_one : (Option Int)) : Pu.Res (Option Int) := if (a_one.isNone) = true then .ok (some (a_self.1.length : Int)) else opt a_one fun x17 => .ok (dget a_self.2.1 x17)
def m_Wish_better (a_self : A_Wish) (a_one : (Option Int)) (a_other : (Option Int)) : Pu.Res Bool := (m_Wish_rank a_self a_one).bind fun x18 => (m_Wish_rank a_self a_other).bind fun x19 => if (x18.isNone) = true then .ok false else let k20 := fun (x21 : Bool) (r22 : A_Wish × (Option Int) × (Option Int) × (Option Int) × (Option Int) × Unit) => .ok x21; if (x19.isNone) = true then k20 true (a_self, a_one, a_other, x18, x19, ()) else opt x18 fun x23 => opt x19 fun x24 => k20 (decide (x23 < x24)) (a_self, a_one, a_other, x18, x19, ())
def m_Wish_ahead_of (a_self : A_Wish) (a_one : (Option Int)) : Pu.Res (List Int) := opt (compL (β := Int) (S := A_Wish × (Option Int) × Unit × Unit) (fun (x25 : Int) r26 => (m_Wish_better r26.1 (some x25) r26.2.1).bind fun x28 => if x28 = true then .ok (some x25, (r26.1, r26.2.1, (), ())) else .ok (none, (r26.1, r26.2.1, (), ()))) a_self.1 (a_self, a_one, (), ())) fun ys27 => .ok ys27.1
def m_check_list (a_order : (List Int)) (a_many : Int) : Pu.Res (List Int) := opt (compL (β := (Int × Int)) (S := (List Int) × Int × (List Int) × Unit × Unit) (fun (x29 : Int) r30 => if true = true then .ok (some (x29, (1 : Int)), (r30.1, r30.2.1, r30.2.2.1, (), ())) else .ok (none, (r30.1, r30.2.1, r30.2.2.1, (), ()))) a_order (a_order, a_many, a_order, (), ())) fun ys31 => if (!decide (((dmerge [] ys31.1).length : Int) = (ys31.2.2.2.1.length : Int))) = true then .exc "BadWish" else opt (compL (β := Bool) (S := (List Int) × Int × (List Int) × Unit × Unit) (fun (x32 : Int) r33 => if true = true then let k35 := fun (x36 : Bool) (r37 : (List Int) × Int × (List Int) × Int × Unit) => .ok (some (!x36), (r37.1, r37.2.1, r37.2.2.1, (), ())); if (decide ((0 : Int) ≤ x32)) = true then k35 (decide (x32 < r33.2.1)) (r33.1, r33.2.1, r33.2.2.1, x32, ()) else k35 false (r33.1, r33.2.1, r33.2.2.1, x32, ()) else .ok (none, (r33.1, r33.2.1, r33.2.2.1, (), ()))) ys31.2.2.2.1 (ys31.2.1, ys31.2.2.1, ys31.2.2.2.1, (), ())) fun ys34 => if (ys34.1.any id) = true then .exc "BadWish" else .ok ys34.2.2.2.1
def m_shared (a_one : Int) (a_other : Int) : Pu.Res Int := .ok (PuX.gcdI a_one a_other)
def m_Part_init (a_top : Int) (a_low : Int) : Pu.Res A_Part := if (decide (a_low = (0 : Int))) = true then .exc "BadSize" else let k38 := fun (x39 : Int) (r40 : (Unit) × Int × Int × Unit × Unit) => opt (if CDivN r40.2.1 x39 then some (Int.fdiv r40.2.1 x39) else none) fun x41 => opt (if CDivN r40.2.2.1 x39 then some (Int.fdiv r40.2.2.1 x39) else none) fun x42 => .ok ((x41, ()).1, x42, ()); if (decide ((0 : Int) < a_low)) = true then (m_shared a_top a_low).bind fun x43 => k38 x43 ((), a_top, a_low, (), ()) else (m_shared a_top a_low).bind fun x44 => k38 (-x44) ((), a_top, a_low, (), ())
def m_Part_plus (a_self : A_Part) (a_other : A_Part) : Pu.Res A_Part := opt (if CMul a_self.1 a_other.2.1 then some (a_self.1 * a_other.2.1) else none) fun x45 => opt (if CMul a_other.1 a_self.2.1 then some (a_other.1 * a_self.2.1) else none) fun x46 => opt (if CMul a_self.2.1 a_other.2.1 then some (a_self.2.1 * a_other.2.1) else none) fun x47 => (m_Part_init (x45 + x46) x47).bind fun x48 => .ok (x48)
def m_Part_minus (a_self : A_Part) (a_other : A_Part) : Pu.Res A_Part := opt (if CMul a_self.1 a_other.2.1 then some (a_self.1 * a_other.2.1) else none) fun x49 => opt (if CMul a_other.1 a_self.2.1 then some (a_other.1 * a_self.2.1) else none) fun x50 => opt (if CMul a_self.2.1 a_other.2.1 then some (a_self.2.1 * a_other.2.1) else none) fun x51 => (m_Part_init (x49 - x50) x51).bind fun x52 => .ok (x52)
def m_Part_over (a_self : A_Part) (a_number : Int) : Pu.Res A_Part := opt (if CMul a_self.2.1 a_number then some (a_self.2.1 * a_number) else none) fun x53 => (m_Part_init a_self.1 x53).bind fun x54 => .ok (x54)
def m_Part_below (a_self : A_Part) (a_other : A_Part) : Pu.Res Bool := opt (if CMul a_self.1 a_other.2.1 then some (a_self.1 * a_other.2.1) else none) fun x55 => opt (if CMul a_other.1 a_self.2.1 then some (a_other.1 * a_self.2.1) else none) fun x56 => .ok (decide (x55 < x56))
def m_Part_shown (a_self : A_Part) : Pu.Res (Int × Int) := .ok (a_self.1, a_self.2.1)
def m_Meal_init (a_lists : (List (List Int))) (a_many : Int) : Pu.Res A_Meal := opt (compL (β := (List Int)) (S := (Unit) × (List (List Int)) × Int × Unit × Unit × Unit) (fun (x57 : (List Int)) r58 => if true = true then (m_check_list x57 r58.2.2.1).bind fun x60 => .ok (some x60, (r58.1, r58.2.1, r58.2.2.1, (), (), ())) else .ok (none, (r58.1, r58.2.1, r58.2.2.1, (), (), ()))) a_lists ((), a_lists, a_many, (), (), ())) fun ys59 => opt (rng ys59.2.2.2.1) fun xs61 => opt (compL (β := A_Part) (S := ((List (List Int)) × Unit) × (List (List Int)) × Int × Unit × Unit × Unit) (fun (x62 : Int) r63 => if true = true then (m_Part_init (1 : Int) (1 : Int)).bind fun x65 => .ok (some (x65), (r63.1, r63.2.1, r63.2.2.1, (), (), ())) else .ok (none, (r63.1, r63.2.1, r63.2.2.1, (), (), ()))) xs61 ((ys59.1, ()), ys59.2.2.1, ys59.2.2.2.1, (), (), ())) fun ys64 => opt (compL (β := List A_Part) (S := Unit) (fun (x66 : (List Int)) _ => opt (rng ys64.2.2.2.1) fun xs68 => opt (compL (β := A_Part) (S := Unit × (List (List Int)) × Int × Unit × Unit × Unit) (fun (x69 : Int) r70 => if true = true then (m_Part_init (0 : Int) (1 : Int)).bind fun x72 => .ok (some (x72), ((), r70.2.1, r70.2.2.1, (), (), ())) else .ok (none, ((), r70.2.1, r70.2.2.1, (), (), ()))) xs68 ((), ys64.2.2.1, ys64.2.2.2.1, (), (), ())) fun ys71 => .ok (some ys71.1, ())) ((ys64.2.1.1, ys64.1, ()).1) ()) fun ys67 => (m_Part_init (0 : Int) (1 : Int)).bind fun x73 => .ok ((((ys64.2.1.1, ys64.1, ()).1, (ys64.2.1.1, ys64.1, ()).2.1, ys67.1, ()).1, ((ys64.2.1.1, ys64.1, ()).1, (ys64.2.1.1, ys64.1, ()).2.1, ys67.1, ()).2.1, ((ys64.2.1.1, ys64.1, ()).1, (ys64.2.1.1, ys64.1, ()).2.1, ys67.1, ()).2.2.1, (x73), ()).1, (((ys64.2.1.1, ys64.1, ()).1, (ys64.2.1.1, ys64.1, ()).2.1, ys67.1, ()).1, ((ys64.2.1.1, ys64.1, ()).1, (ys64.2.1.1, ys64.1, ()).2.1, ys67.1, ()).2.1, ((ys64.2.1.1, ys64.1, ()).1, (ys64.2.1.1, ys64.1, ()).2.1, ys67.1, ()).2.2.1, (x73), ()).2.1, (((ys64.2.1.1, ys64.1, ()).1, (ys64.2.1.1, ys64.1, ()).2.1, ys67.1, ()).1, ((ys64.2.1.1, ys64.1, ()).1, (ys64.2.1.1, ys64.1, ()).2.1, ys67.1, ()).2.1, ((ys64.2.1.1, ys64.1, ()).1, (ys64.2.1.1, ys64.1, ()).2.1, ys67.1, ()).2.2.1, (x73), ()).2.2.1, (((ys64.2.1.1, ys64.1, ()).1, (ys64.2.1.1, ys64.1, ()).2.1, ys67.1, ()).1, ((ys64.2.1.1, ys64.1, ()).1, (ys64.2.1.1, ys64.1, ()).2.1, ys67.1, ()).2.1, ((ys64.2.1.1, ys64.1, ()).1, (ys64.2.1.1, ys64.1, ()).2.1, ys67.1, ()).2.2.1, (x73), ()).2.2.2.1, [], ())
def m_Meal_bite (a_self : A_Meal) (a_one : Int) : Pu.Res (Option Int) := opt (L2.atI a_self.1 a_one) fun x74 => let nx79 := fun (r78 : A_Meal × Int × Unit × Unit) => .ok (none : (Option Int)); List.foldr (fun (x75 : Int) (k76 : A_Meal × Int × Unit × Unit → Res _) (r77 : A_Meal × Int × Unit × Unit) => opt (L2.atI r77.1.2.1 x75) fun x80 => (m_Part_shown x80).bind fun x81 => if (!decide (x81 = ((0 : Int), (1 : Int)))) = true then .ok (some x75) else k76 (r77.1, r77.2.1, (), ())) nx79 x74 (a_self, a_one, (), ())
def m_Meal_eaters (a_self : A_Meal) : Pu.Res (List (Int × (List Int))) := opt (rng (a_self.1.length : Int)) fun xs82 => opt (compL (β := (Option Int)) (S := A_Meal × Unit × Unit × Unit × Unit × Unit) (fun (x83 : Int) r84 => if true = true then (m_Meal_bite r84.1 x83).bind fun x86 => .ok (some x86, (r84.1, (), (), (), (), ())) else .ok (none, (r84.1, (), (), (), (), ()))) xs82 (a_self, (), (), (), (), ())) fun ys85 => opt (compL (β := Int × (List Int)) (S := A_Meal × (List (Option Int)) × Unit × Unit × Unit × Unit) (fun (x87 : (Option Int)) r88 => if (x87.isSome) = true then opt x87 fun x90 => opt (compL (β := Int) (S := A_Meal × (List (Option Int)) × Unit × (Option Int) × Unit × Unit) (fun (x91 : (Int × (Option Int))) r92 => if (decide (x91.2 = r92.2.2.2.1)) = true then .ok (some x91.1, (r92.1, r92.2.1, (), r92.2.2.2.1, (), ())) else .ok (none, (r92.1, r92.2.1, (), r92.2.2.2.1, (), ()))) (enumL r88.2.1) (r88.1, r88.2.1, (), x87, (), ())) fun ys93 => .ok (some (x90, ys93.1), (ys93.2.1, ys93.2.2.1, (), (), (), ())) else .ok (none, (r88.1, r88.2.1, (), (), (), ()))) ys85.1 (ys85.2.1, ys85.1, (), (), (), ())) fun ys89 => chk (decide (List.length (α := Int × (List Int)) (dmerge [] ys89.1) ≤ 16777216)) (.ok (dmerge [] ys89.1))
def m_Meal_eat (a_self : A_Meal) : Pu.Res (Bool × A_Meal) := (m_Meal_eaters a_self).bind fun x94 => (m_Part_init (1 : Int) (1 : Int)).bind fun x95 => (m_Part_minus (x95) a_self.2.2.2.1).bind fun x96 => let k97 := fun (x98 : Bool) (r99 : A_Meal × (List (Int × (List Int))) × A_Part × Unit × Unit × Unit × Unit × Unit) => if x98 = true then .ok (false, r99.1) else let nx104 := fun (r103 : A_Meal × (List (Int × (List Int))) × A_Part × Unit × Unit × Unit × Unit × Unit) => let nx109 := fun (r108 : A_Meal × (List (Int × (List Int))) × A_Part × Unit × Unit × Unit × Unit × Unit) => (m_Part_plus r108.1.2.2.2.1 r108.2.2.1).bind fun x110 => (m_Part_shown ((r108.1.1, r108.1.2.1, r108.1.2.2.1, x110, r108.1.2.2.2.2.1, ()).2.2.2.1)).bind fun x111 => chk (decide (List.length (α := (Int × Int)) (r108.1.1, r108.1.2.1, r108.1.2.2.1, x110, r108.1.2.2.2.2.1, ()).2.2.2.2.1 < 16777216)) (.ok (true, ((r108.1.1, r108.1.2.1, r108.1.2.2.1, x110, r108.1.2.2.2.2.1, ()).1, (r108.1.1, r108.1.2.1, r108.1.2.2.1, x110, r108.1.2.2.2.2.1, ()).2.1, (r108.1.1, r108.1.2.1, r108.1.2.2.1, x110, r108.1.2.2.2.2.1, ()).2.2.1, (r108.1.1, r108.1.2.1, r108.1.2.2.1, x110, r108.1.2.2.2.2.1, ()).2.2.2.1, (app1 (r108.1.1, r108.1.2.1, r108.1.2.2.1, x110, r108.1.2.2.2.2.1, ()).2.2.2.2.1 x111), ()))); List.foldr (fun (x105 : (Int × (List Int))) (k106 : A_Meal × (List (Int × (List Int))) × A_Part × Unit × Unit × Unit × Unit × Unit → Res _) (r107 : A_Meal × (List (Int × (List Int))) × A_Part × Unit × Unit × Unit × Unit × Unit) => let nx116 := fun (r115 : A_Meal × (List (Int × (List Int))) × A_Part × Int × (List Int) × Unit × Unit × Unit) => k106 (r115.1, r115.2.1, r115.2.2.1, (), (), (), (), ()); List.foldr (fun (x112 : Int) (k113 : A_Meal × (List (Int × (List Int))) × A_Part × Int × (List Int) × Unit × Unit × Unit → Res _) (r114 : A_Meal × (List (Int × (List Int))) × A_Part × Int × (List Int) × Unit × Unit × Unit) => opt (L2.atI (α := A_Part) r114.1.2.1 r114.2.2.2.1) fun x117 => (m_Part_minus x117 r114.2.2.1).bind fun x118 => opt (setL r114.1.2.1 r114.2.2.2.1 x118) fun xs119 => opt (L2.atI (α := List A_Part) (r114.1.1, xs119, r114.1.2.2.1, r114.1.2.2.2.1, r114.1.2.2.2.2.1, ()).2.2.1 x112) fun x121 => opt (L2.atI (α := A_Part) x121 r114.2.2.2.1) fun x122 => (m_Part_plus x122 r114.2.2.1).bind fun x123 => opt (L2.atI (α := List A_Part) (r114.1.1, xs119, r114.1.2.2.1, r114.1.2.2.2.1, r114.1.2.2.2.2.1, ()).2.2.1 x112) fun _ => opt (PuX.setLL (α := A_Part) (r114.1.1, xs119, r114.1.2.2.1, r114.1.2.2.2.1, r114.1.2.2.2.2.1, ()).2.2.1 x112 r114.2.2.2.1 x123) fun xs120 => k113 (((r114.1.1, xs119, r114.1.2.2.1, r114.1.2.2.2.1, r114.1.2.2.2.2.1, ()).1, (r114.1.1, xs119, r114.1.2.2.1, r114.1.2.2.2.1, r114.1.2.2.2.2.1, ()).2.1, xs120, (r114.1.1, xs119, r114.1.2.2.1, r114.1.2.2.2.1, r114.1.2.2.2.2.1, ()).2.2.2.1, (r114.1.1, xs119, r114.1.2.2.1, r114.1.2.2.2.1, r114.1.2.2.2.2.1, ()).2.2.2.2.1, ()), r114.2.1, r114.2.2.1, r114.2.2.2.1, r114.2.2.2.2.1, (), (), ())) nx116 x105.2 (r107.1, r107.2.1, r107.2.2.1, x105.1, x105.2, (), (), ())) nx109 r103.2.1 (r103.1, r103.2.1, r103.2.2.1, (), (), (), (), ()); List.foldr (fun (x100 : (Int × (List Int))) (k101 : A_Meal × (List (Int × (List Int))) × A_Part × Unit × Unit × Unit × Unit × Unit → Res _) (r102 : A_Meal × (List (Int × (List Int))) × A_Part × Unit × Unit × Unit × Unit × Unit) => opt (L2.atI (α := A_Part) r102.1.2.1 x100.1) fun x124 => (m_Part_over x124 (x100.2.length : Int)).bind fun x125 => let k126 := fun (x127 : A_Part) (r128 : A_Meal × (List (Int × (List Int))) × A_Part × Int × (List Int) × A_Part × Unit × Unit) => k101 (r128.1, r128.2.1, x127, (), (), (), (), ()); (m_Part_below x125 r102.2.2.1).bind fun x129 => if x129 = true then k126 x125 (r102.1, r102.2.1, r102.2.2.1, x100.1, x100.2, x125, (), ()) else k126 r102.2.2.1 (r102.1, r102.2.1, r102.2.2.1, x100.1, x100.2, x125, (), ())) nx104 r99.2.1 (r99.1, r99.2.1, r99.2.2.1, (), (), (), (), ()); if (List.isEmpty (α := Int × (List Int)) x94) = true then k97 true (a_self, x94, x96, (), (), (), (), ()) else (m_Part_shown x96).bind fun x130 => k97 (decide (x130 = ((0 : Int), (1 : Int)))) (a_self, x94, x96, (), (), (), (), ())
def m_eaten (a_lists : (List (List Int))) (a_many : Int) : Pu.Res A_Meal := (m_Meal_init a_lists a_many).bind fun x131 => let nx135 := fun (r134 : (List (List Int)) × Int × A_Meal × Unit) => .ok r134.2.2.1; whl (fun (k132 : (List (List Int)) × Int × A_Meal × Unit → Res _) (r133 : (List (List Int)) × Int × A_Meal × Unit) => (m_Meal_eat r133.2.2.1).bind fun x136 => if x136.1 = true then k132 (r133.1, r133.2.1, x136.2, ()) else nx135 (r133.1, r133.2.1, x136.2, ())) 100000 (a_lists, a_many, x131, ())
def m_shares (a_lists : (List (List Int))) (a_many : Int) : Pu.Res (List (List (Int × Int))) := (m_eaten a_lists a_many).bind fun x137 => opt (compL (β := (List (Int × Int))) (S := (List (List Int)) × Int × Unit × Unit × Unit) (fun (x138 : (List A_Part)) r139 => if true = true then opt (compL (β := (Int × Int)) (S := (List (List Int)) × Int × (List A_Part) × Unit × Unit) (fun (x141 : A_Part) r142 => if true = true then (m_Part_shown x141).bind fun x144 => .ok (some x144, (r142.1, r142.2.1, r142.2.2.1, (), ())) else .ok (none, (r142.1, r142.2.1, r142.2.2.1, (), ()))) x138 (r139.1, r139.2.1, x138, (), ())) fun ys143 => .ok (some ys143.1, (ys143.2.1, ys143.2.2.1, (), (), ())) else .ok (none, (r139.1, r139.2.1, (), (), ()))) x137.2.2.1 (a_lists, a_many, (), (), ())) fun ys140 => .ok ys140.1
def m_times (a_lists : (List (List Int))) (a_many : Int) : Pu.Res (List (Int × Int)) := (m_eaten a_lists a_many).bind fun x145 => .ok x145.2.2.2.2.1
def m_running (a_chances : (List (Int × Int))) : Pu.Res (List A_Part) := (m_Part_init (0 : Int) (1 : Int)).bind fun x146 => let nx151 := fun (r150 : (List (Int × Int)) × (List A_Part) × A_Part × Unit × Unit × Unit) => .ok r150.2.1; List.foldr (fun (x147 : (Int × Int)) (k148 : (List (Int × Int)) × (List A_Part) × A_Part × Unit × Unit × Unit → Res _) (r149 : (List (Int × Int)) × (List A_Part) × A_Part × Unit × Unit × Unit) => (m_Part_init x147.1 x147.2).bind fun x152 => (m_Part_plus r149.2.2.1 (x152)).bind fun x153 => chk (decide (List.length (α := A_Part) r149.2.1 < 16777216)) (k148 (r149.1, (app1 r149.2.1 x153), x153, (), (), ()))) nx151 a_chances (a_chances, [], (x146), (), (), ())
def m_sums_down (a_order : (List Int)) (a_row : (List (Int × Int))) : Pu.Res (List (Int × Int)) := opt (compL (β := (Int × Int)) (S := (List Int) × (List (Int × Int)) × Unit × Unit × Unit) (fun (x154 : Int) r155 => if true = true then opt (L2.atI r155.2.1 x154) fun x157 => .ok (some x157, (r155.1, r155.2.1, (), (), ())) else .ok (none, (r155.1, r155.2.1, (), (), ()))) a_order (a_order, a_row, (), (), ())) fun ys156 => (m_running ys156.1).bind fun x158 => opt (compL (β := (Int × Int)) (S := (List Int) × (List (Int × Int)) × Unit × Unit × Unit) (fun (x159 : A_Part) r160 => if true = true then (m_Part_shown x159).bind fun x162 => .ok (some x162, (r160.1, r160.2.1, (), (), ())) else .ok (none, (r160.1, r160.2.1, (), (), ()))) x158 (ys156.2.1, ys156.2.2.1, (), (), ())) fun ys161 => .ok ys161.1
def m_as_much (a_order : (List Int)) (a_one : (List (Int × Int))) (a_other : (List (Int × Int))) : Pu.Res Bool := opt (compL (β := (Int × Int)) (S := (List Int) × (List (Int × Int)) × (List (Int × Int)) × Unit × Unit × Unit × Unit × Unit × Unit) (fun (x163 : Int) r164 => if true = true then opt (L2.atI r164.2.1 x163) fun x166 => .ok (some x166, (r164.1, r164.2.1, r164.2.2.1, (), (), (), (), (), ())) else .ok (none, (r164.1, r164.2.1, r164.2.2.1, (), (), (), (), (), ()))) a_order (a_order, a_one, a_other, (), (), (), (), (), ())) fun ys165 => (m_running ys165.1).bind fun x167 => opt (compL (β := (Int × Int)) (S := (List Int) × (List (Int × Int)) × (List (Int × Int)) × (List A_Part) × Unit × Unit × Unit × Unit × Unit) (fun (x168 : Int) r169 => if true = true then opt (L2.atI r169.2.2.1 x168) fun x171 => .ok (some x171, (r169.1, r169.2.1, r169.2.2.1, r169.2.2.2.1, (), (), (), (), ())) else .ok (none, (r169.1, r169.2.1, r169.2.2.1, r169.2.2.2.1, (), (), (), (), ()))) ys165.2.1 (ys165.2.1, ys165.2.2.1, ys165.2.2.2.1, x167, (), (), (), (), ())) fun ys170 => (m_running ys170.1).bind fun x172 => opt (compL (β := Bool) (S := (List Int) × (List (Int × Int)) × (List (Int × Int)) × (List A_Part) × Unit × (List A_Part) × Unit × Unit × Unit) (fun (x173 : (A_Part × A_Part)) r174 => if true = true then (m_Part_below x173.1 x173.2).bind fun x176 => .ok (some x176, (r174.1, r174.2.1, r174.2.2.1, r174.2.2.2.1, (), r174.2.2.2.2.2.1, (), (), ())) else .ok (none, (r174.1, r174.2.1, r174.2.2.1, r174.2.2.2.1, (), r174.2.2.2.2.2.1, (), (), ()))) (List.zip (α := A_Part) (β := A_Part) ys170.2.2.2.2.1 x172) (ys170.2.1, ys170.2.2.1, ys170.2.2.2.1, ys170.2.2.2.2.1, (), x172, (), (), ())) fun ys175 => .ok (!(ys175.1.any id))
def m_wanted_more (a_lists : (List (List Int))) (a_rows : (List (List (Int × Int)))) : Pu.Res (List (Int × Int)) := opt (compM (β := (Int × Int)) (S := (List (List Int)) × (List (List (Int × Int))) × Unit × Unit × Unit × Unit × Unit × Unit) (fun (x177 : ((List Int) × (List (Int × Int)))) r178 => if true = true then PuX.bkR (α := List (Int × Int)) (fun (r180 : (List (List Int)) × (List (List (Int × Int))) × (List Int) × (List (Int × Int)) × Unit × Unit × Unit × Unit) => (r180.1, r180.2.1, (), (), (), (), (), ())) (opt (compM (β := (Int × Int)) (S := (List (List Int)) × (List (List (Int × Int))) × (List Int) × (List (Int × Int)) × Unit × Unit × Unit × Unit) (fun (x181 : (Int × (Int × Int))) r182 => if true = true then PuX.bkR (α := List (Int × Int)) (fun (r184 : (List (List Int)) × (List (List (Int × Int))) × (List Int) × (List (Int × Int)) × Int × (Int × Int) × Unit × Unit) => (r184.1, r184.2.1, r184.2.2.1, r184.2.2.2.1, (), (), (), ())) ((m_Wish_init r182.2.2.1).bind fun x185 => (m_Wish_ahead_of (x185) (some x181.1)).bind fun x186 => opt (compM (β := (Int × Int)) (S := (List (List Int)) × (List (List (Int × Int))) × (List Int) × (List (Int × Int)) × Int × (Int × Int) × Unit × Unit) (fun (x187 : Int) r188 => opt (if (0 : Int) = 0 then some r188.2.2.2.2.2.1.1 else none) fun x191 => if (decide ((0 : Int) < x191)) = true then PuX.bkR (α := List (Int × Int)) (fun (r190 : (List (List Int)) × (List (List (Int × Int))) × (List Int) × (List (Int × Int)) × Int × (Int × Int) × Int × Unit) => (r190.1, r190.2.1, r190.2.2.1, r190.2.2.2.1, r190.2.2.2.2.1, r190.2.2.2.2.2.1, (), ())) (.ok ([(x187, r188.2.2.2.2.1)], (r188.1, r188.2.1, r188.2.2.1, r188.2.2.2.1, r188.2.2.2.2.1, r188.2.2.2.2.2.1, x187, ()))) else .ok ([], (r188.1, r188.2.1, r188.2.2.1, r188.2.2.2.1, r188.2.2.2.2.1, r188.2.2.2.2.2.1, (), ()))) x186 (r182.1, r182.2.1, r182.2.2.1, r182.2.2.2.1, x181.1, x181.2, (), ())) fun zs189 => .ok zs189) else .ok ([], (r182.1, r182.2.1, r182.2.2.1, r182.2.2.2.1, (), (), (), ()))) (enumL x177.2) (r178.1, r178.2.1, x177.1, x177.2, (), (), (), ())) fun zs183 => .ok zs183) else .ok ([], (r178.1, r178.2.1, (), (), (), (), (), ()))) (List.zip (α := (List Int)) (β := (List (Int × Int))) a_lists a_rows) (a_lists, a_rows, (), (), (), (), (), ())) fun ys179 => chk (decide (ys179.1.length ≤ 16777216)) (opt (if List.length (α := Int × Int) ys179.1 < 64 then some (PuX.sortPr ys179.1) else none) fun ys192 => .ok ys192)
def m_is_tight (a_lists : (List (List Int))) (a_rows : (List (List (Int × Int)))) : Pu.Res Bool := (m_wanted_more a_lists a_rows).bind fun x193 => opt (PuX.keysD (fun (x194 : (Int × Int)) => .ok [x194.1, x194.2]) x193) fun ys195 => chk (decide (ys195.length ≤ 16777216)) (let nx200 := fun (r199 : (List (List Int)) × (List (List (Int × Int))) × (List (Int × Int)) × (List (Int × List Int)) × Unit × Unit × Unit × Unit × Unit) => opt (compL (β := Bool) (S := (List (List Int)) × (List (List (Int × Int))) × (List (Int × Int)) × (List (Int × List Int)) × Unit × Unit × Unit × Unit × Unit) (fun (x201 : (Int × Int)) r202 => if true = true then (m_reached_from r202.2.2.2.1 x201.2).bind fun x204 => .ok (some ((dget x204 x201.1).isSome), (r202.1, r202.2.1, r202.2.2.1, r202.2.2.2.1, (), (), (), (), ())) else .ok (none, (r202.1, r202.2.1, r202.2.2.1, r202.2.2.2.1, (), (), (), (), ()))) r199.2.2.1 (r199.1, r199.2.1, r199.2.2.1, r199.2.2.2.1, (), (), (), (), ())) fun ys203 => .ok (!(ys203.1.any id)); List.foldr (fun (x196 : (Int × Int)) (k197 : (List (List Int)) × (List (List (Int × Int))) × (List (Int × Int)) × (List (Int × List Int)) × Unit × Unit × Unit × Unit × Unit → Res _) (r198 : (List (List Int)) × (List (List (Int × Int))) × (List (Int × Int)) × (List (Int × List Int)) × Unit × Unit × Unit × Unit × Unit) => opt (dget (α := List Int) r198.2.2.2.1 x196.1) fun m205 => chk (decide (List.length (α := Int) m205 < 16777216)) (k197 (r198.1, r198.2.1, r198.2.2.1, (PuX.appDL (α := Int) r198.2.2.2.1 x196.1 x196.2), (), (), (), (), ()))) nx200 x193 (a_lists, a_rows, x193, (PuX.newDL Int ys195), (), (), (), (), ()))
def m_whole_of (a_rows : (List (List (Int × Int)))) (a_thing : Int) : Pu.Res (Int × Int) := (m_Part_init (0 : Int) (1 : Int)).bind fun x206 => opt (compL (β := (Int × Int)) (S := (List (List (Int × Int))) × Int × A_Part × Unit × Unit × Unit) (fun (x207 : (List (Int × Int))) r208 => if true = true then opt (L2.atI x207 r208.2.1) fun x210 => .ok (some x210, (r208.1, r208.2.1, r208.2.2.1, (), (), ())) else .ok (none, (r208.1, r208.2.1, r208.2.2.1, (), (), ()))) a_rows (a_rows, a_thing, (x206), (), (), ())) fun ys209 => (m_running ys209.1).bind fun x211 => let nx216 := fun (r215 : (List (List (Int × Int))) × Int × A_Part × Unit × Unit × Unit) => (m_Part_shown r215.2.2.1).bind fun x217 => .ok x217; List.foldr (fun (x212 : A_Part) (k213 : (List (List (Int × Int))) × Int × A_Part × Unit × Unit × Unit → Res _) (r214 : (List (List (Int × Int))) × Int × A_Part × Unit × Unit × Unit) => k213 (r214.1, r214.2.1, x212, (), (), ())) nx216 x211 (ys209.2.1, ys209.2.2.1, ys209.2.2.2.1, (), (), ())
def m_law_flat (a_rows : (List (List ((Int × Int) × Int)))) : Pu.Res (List ((Int × Int) × Int)) := let nx222 := fun (r221 : (List (List ((Int × Int) × Int))) × (List ((Int × Int) × Int)) × Unit × Unit) => .ok r221.2.1; List.foldr (fun (x218 : (List ((Int × Int) × Int))) (k219 : (List (List ((Int × Int) × Int))) × (List ((Int × Int) × Int)) × Unit × Unit → Res _) (r220 : (List (List ((Int × Int) × Int))) × (List ((Int × Int) × Int)) × Unit × Unit) => opt (catL r220.2.1 x218) fun x223 => k219 (r220.1, x223, (), ())) nx222 a_rows (a_rows, [], (), ())
def m_law_gcd (a_one : Int) (a_other : Int) : Pu.Res Int := let nx227 := fun (r226 : Int × Int × Unit) => .ok r226.1; whl (fun (k224 : Int × Int × Unit → Res _) (r225 : Int × Int × Unit) => if (!decide (r225.2.1 = (0 : Int))) = true then opt (if 0 < r225.2.1 then some (r225.1 % r225.2.1) else none) fun x228 => k224 (r225.2.1, x228, ()) else nx227 (r225.1, r225.2.1, ())) 100000 (a_one, a_other, ())
def m_law_small (a_top : Int) (a_low : Int) : Pu.Res (Int × Int) := (m_law_gcd (absI a_top) a_low).bind fun x229 => opt (if CDiv a_top x229 then some (a_top / x229) else none) fun x230 => opt (if CDiv a_low x229 then some (a_low / x229) else none) fun x231 => .ok (x230, x231)
def m_law_eaten (a_lists : (List (List Int))) (a_many : Int) : Pu.Res ((List (List (Int × Int))) × (List (Int × Int))) := opt (repL [(3456 : Int)] a_many) fun x232 => opt (compL (β := List Int) (S := Unit) (fun (x233 : (List Int)) _ => opt (repL [(0 : Int)] a_many) fun x235 => .ok (some x235, ())) a_lists ()) fun ys234 => let nx239 := fun (r238 : (List (List Int)) × Int × Int × (List Int) × Int × (List (Int × Int)) × (List (List Int)) × Unit × Bool × Unit × Unit × Unit × Unit × Unit × Unit × Unit × Unit) => opt (compL (β := (List (Int × Int))) (S := (List (List Int)) × Int × Int × (List Int) × Int × (List (Int × Int)) × (List (List Int)) × Unit × Bool × Unit × Unit × Unit × Unit × Unit × Unit × Unit × Unit) (fun (x240 : (List Int)) r241 => if true = true then opt (compL (β := (Int × Int)) (S := (List (List Int)) × Int × Int × (List Int) × Int × (List (Int × Int)) × (List (List Int)) × Unit × Bool × Unit × Unit × Unit × Unit × Unit × (List Int) × Unit × Unit) (fun (x243 : Int) r244 => if true = true then (m_law_small x243 r244.2.2.1).bind fun x246 => .ok (some x246, (r244.1, r244.2.1, r244.2.2.1, r244.2.2.2.1, r244.2.2.2.2.1, r244.2.2.2.2.2.1, r244.2.2.2.2.2.2.1, (), r244.2.2.2.2.2.2.2.2.1, (), (), (), (), (), r244.2.2.2.2.2.2.2.2.2.2.2.2.2.2.1, (), ())) else .ok (none, (r244.1, r244.2.1, r244.2.2.1, r244.2.2.2.1, r244.2.2.2.2.1, r244.2.2.2.2.2.1, r244.2.2.2.2.2.2.1, (), r244.2.2.2.2.2.2.2.2.1, (), (), (), (), (), r244.2.2.2.2.2.2.2.2.2.2.2.2.2.2.1, (), ()))) x240 (r241.1, r241.2.1, r241.2.2.1, r241.2.2.2.1, r241.2.2.2.2.1, r241.2.2.2.2.2.1, r241.2.2.2.2.2.2.1, (), r241.2.2.2.2.2.2.2.2.1, (), (), (), (), (), x240, (), ())) fun ys245 => .ok (some ys245.1, (ys245.2.1, ys245.2.2.1, ys245.2.2.2.1, ys245.2.2.2.2.1, ys245.2.2.2.2.2.1, ys245.2.2.2.2.2.2.1, ys245.2.2.2.2.2.2.2.1, (), ys245.2.2.2.2.2.2.2.2.2.1, (), (), (), (), (), (), (), ())) else .ok (none, (r241.1, r241.2.1, r241.2.2.1, r241.2.2.2.1, r241.2.2.2.2.1, r241.2.2.2.2.2.1, r241.2.2.2.2.2.2.1, (), r241.2.2.2.2.2.2.2.2.1, (), (), (), (), (), (), (), ()))) r238.2.2.2.2.2.2.1 (r238.1, r238.2.1, r238.2.2.1, r238.2.2.2.1, r238.2.2.2.2.1, r238.2.2.2.2.2.1, r238.2.2.2.2.2.2.1, (), r238.2.2.2.2.2.2.2.2.1, (), (), (), (), (), (), (), ())) fun ys242 => .ok (ys242.1, r238.2.2.2.2.2.1); whl (fun (k236 : (List (List Int)) × Int × Int × (List Int) × Int × (List (Int × Int)) × (List (List Int)) × Unit × Bool × Unit × Unit × Unit × Unit × Unit × Unit × Unit × Unit → Res _) (r237 : (List (List Int)) × Int × Int × (List Int) × Int × (List (Int × Int)) × (List (List Int)) × Unit × Bool × Unit × Unit × Unit × Unit × Unit × Unit × Unit × Unit) => if r237.2.2.2.2.2.2.2.2.1 = true then opt (compL (β := (Option Int)) (S := (List (List Int)) × Int × Int × (List Int) × Int × (List (Int × Int)) × (List (List Int)) × Unit × Bool × Unit × Unit × Unit × Unit × Unit × Unit × Unit × Unit) (fun (x247 : (List Int)) r248 => if true = true then opt (compL (β := Int) (S := (List (List Int)) × Int × Int × (List Int) × Int × (List (Int × Int)) × (List (List Int)) × (List Int) × Bool × Unit × Unit × Unit × Unit × Unit × Unit × Unit × Unit) (fun (x250 : Int) r251 => opt (L2.atI r251.2.2.2.1 x250) fun x253 => if (decide ((0 : Int) < x253)) = true then .ok (some x250, (r251.1, r251.2.1, r251.2.2.1, r251.2.2.2.1, r251.2.2.2.2.1, r251.2.2.2.2.2.1, r251.2.2.2.2.2.2.1, r251.2.2.2.2.2.2.2.1, r251.2.2.2.2.2.2.2.2.1, (), (), (), (), (), (), (), ())) else .ok (none, (r251.1, r251.2.1, r251.2.2.1, r251.2.2.2.1, r251.2.2.2.2.1, r251.2.2.2.2.2.1, r251.2.2.2.2.2.2.1, r251.2.2.2.2.2.2.2.1, r251.2.2.2.2.2.2.2.2.1, (), (), (), (), (), (), (), ()))) x247 (r248.1, r248.2.1, r248.2.2.1, r248.2.2.2.1, r248.2.2.2.2.1, r248.2.2.2.2.2.1, r248.2.2.2.2.2.2.1, x247, r248.2.2.2.2.2.2.2.2.1, (), (), (), (), (), (), (), ())) fun ys252 => opt (catL (ys252.1.map some) ([()].map fun _ => (none : (Option Int)))) fun x254 => opt (L2.atI x254 (0 : Int)) fun x255 => .ok (some x255, (ys252.2.1, ys252.2.2.1, ys252.2.2.2.1, ys252.2.2.2.2.1, ys252.2.2.2.2.2.1, ys252.2.2.2.2.2.2.1, ys252.2.2.2.2.2.2.2.1, (), ys252.2.2.2.2.2.2.2.2.2.1, (), (), (), (), (), (), (), ())) else .ok (none, (r248.1, r248.2.1, r248.2.2.1, r248.2.2.2.1, r248.2.2.2.2.1, r248.2.2.2.2.2.1, r248.2.2.2.2.2.2.1, (), r248.2.2.2.2.2.2.2.2.1, (), (), (), (), (), (), (), ()))) r237.1 (r237.1, r237.2.1, r237.2.2.1, r237.2.2.2.1, r237.2.2.2.2.1, r237.2.2.2.2.2.1, r237.2.2.2.2.2.2.1, (), r237.2.2.2.2.2.2.2.2.1, (), (), (), (), (), (), (), ())) fun ys249 => opt (rng ys249.2.2.1) fun xs256 => opt (compL (β := Int) (S := (List (List Int)) × Int × Int × (List Int) × Int × (List (Int × Int)) × (List (List Int)) × Unit × Bool × (List (Option Int)) × Unit × Unit × Unit × Unit × Unit × Unit × Unit) (fun (x257 : Int) r258 => if (isIn flOI.dec (some x257) r258.2.2.2.2.2.2.2.2.2.1) = true then opt (L2.atI r258.2.2.2.1 x257) fun x260 => opt (if CMul x260 (24 : Int) then some (x260 * (24 : Int)) else none) fun x261 => opt (if CDiv x261 (countL flOI.dec r258.2.2.2.2.2.2.2.2.2.1 (some x257)) then some (x261 / (countL flOI.dec r258.2.2.2.2.2.2.2.2.2.1 (some x257))) else none) fun x262 => .ok (some x262, (r258.1, r258.2.1, r258.2.2.1, r258.2.2.2.1, r258.2.2.2.2.1, r258.2.2.2.2.2.1, r258.2.2.2.2.2.2.1, (), r258.2.2.2.2.2.2.2.2.1, r258.2.2.2.2.2.2.2.2.2.1, (), (), (), (), (), (), ())) else .ok (none, (r258.1, r258.2.1, r258.2.2.1, r258.2.2.2.1, r258.2.2.2.2.1, r258.2.2.2.2.2.1, r258.2.2.2.2.2.2.1, (), r258.2.2.2.2.2.2.2.2.1, r258.2.2.2.2.2.2.2.2.2.1, (), (), (), (), (), (), ()))) xs256 (ys249.2.1, ys249.2.2.1, ys249.2.2.2.1, ys249.2.2.2.2.1, ys249.2.2.2.2.2.1, ys249.2.2.2.2.2.2.1, ys249.2.2.2.2.2.2.2.1, (), ys249.2.2.2.2.2.2.2.2.2.1, ys249.1, (), (), (), (), (), (), ())) fun ys259 => opt (if CMul (ys259.2.2.2.1 - ys259.2.2.2.2.2.1) (24 : Int) then some ((ys259.2.2.2.1 - ys259.2.2.2.2.2.1) * (24 : Int)) else none) fun x263 => opt (catL ys259.1 [x263]) fun x264 => opt (minI x264) fun x265 => opt (if CDiv x265 (24 : Int) then some (x265 / (24 : Int)) else none) fun x266 => let k267 := fun (x268 : Bool) (r269 : (List (List Int)) × Int × Int × (List Int) × Int × (List (Int × Int)) × (List (List Int)) × Unit × Bool × (List (Option Int)) × Unit × (List Int) × Int × Unit × Unit × Unit × Unit) => let k270 := fun (r271 : (List (List Int)) × Int × Int × (List Int) × Int × (List (Int × Int)) × (List (List Int)) × Unit × Bool × (List (Option Int)) × Unit × (List Int) × Int × Unit × Unit × Unit × Unit) => k236 (r271.1, r271.2.1, r271.2.2.1, r271.2.2.2.1, r271.2.2.2.2.1, r271.2.2.2.2.2.1, r271.2.2.2.2.2.2.1, (), r271.2.2.2.2.2.2.2.2.1, (), (), (), (), (), (), (), ()); if x268 = true then opt (rng (r269.1.length : Int)) fun xs272 => let nx277 := fun (r276 : (List (List Int)) × Int × Int × (List Int) × Int × (List (Int × Int)) × (List (List Int)) × Unit × Bool × (List (Option Int)) × Unit × (List Int) × Int × Unit × Unit × Unit × Unit) => (m_law_small (r276.2.2.2.2.1 + r276.2.2.2.2.2.2.2.2.2.2.2.2.1) r276.2.2.1).bind fun x278 => chk (decide (List.length (α := (Int × Int)) r276.2.2.2.2.2.1 < 16777216)) (k270 (r276.1, r276.2.1, r276.2.2.1, r276.2.2.2.1, (r276.2.2.2.2.1 + r276.2.2.2.2.2.2.2.2.2.2.2.2.1), (app1 r276.2.2.2.2.2.1 x278), r276.2.2.2.2.2.2.1, (), r276.2.2.2.2.2.2.2.2.1, r276.2.2.2.2.2.2.2.2.2.1, (), r276.2.2.2.2.2.2.2.2.2.2.2.1, r276.2.2.2.2.2.2.2.2.2.2.2.2.1, (), (), (), ())); List.foldr (fun (x273 : Int) (k274 : (List (List Int)) × Int × Int × (List Int) × Int × (List (Int × Int)) × (List (List Int)) × Unit × Bool × (List (Option Int)) × Unit × (List Int) × Int × Unit × Unit × Unit × Unit → Res _) (r275 : (List (List Int)) × Int × Int × (List Int) × Int × (List (Int × Int)) × (List (List Int)) × Unit × Bool × (List (Option Int)) × Unit × (List Int) × Int × Unit × Unit × Unit × Unit) => let k279 := fun (r280 : (List (List Int)) × Int × Int × (List Int) × Int × (List (Int × Int)) × (List (List Int)) × Unit × Bool × (List (Option Int)) × Unit × (List Int) × Int × Int × Unit × Unit × Unit) => k274 (r280.1, r280.2.1, r280.2.2.1, r280.2.2.2.1, r280.2.2.2.2.1, r280.2.2.2.2.2.1, r280.2.2.2.2.2.2.1, (), r280.2.2.2.2.2.2.2.2.1, r280.2.2.2.2.2.2.2.2.2.1, (), r280.2.2.2.2.2.2.2.2.2.2.2.1, r280.2.2.2.2.2.2.2.2.2.2.2.2.1, (), (), (), ()); opt (L2.atI r275.2.2.2.2.2.2.2.2.2.1 x273) fun x281 => if (x281.isSome) = true then opt (L2.atI r275.2.2.2.2.2.2.1 x273) fun x283 => opt (L2.atI r275.2.2.2.2.2.2.2.2.2.1 x273) fun x284 => opt x284 fun x285 => opt (L2.atI x283 x285) fun x286 => opt (L2.atI (α := List Int) r275.2.2.2.2.2.2.1 x273) fun _ => opt (L2.atI r275.2.2.2.2.2.2.2.2.2.1 x273) fun x287 => opt x287 fun x288 => opt (PuX.setLL (α := Int) r275.2.2.2.2.2.2.1 x273 x288 (x286 + r275.2.2.2.2.2.2.2.2.2.2.2.2.1)) fun xs282 => opt (L2.atI r275.2.2.2.2.2.2.2.2.2.1 x273) fun x289 => opt x289 fun x290 => opt (L2.atI r275.2.2.2.1 x290) fun x291 => opt (L2.atI r275.2.2.2.2.2.2.2.2.2.1 x273) fun x292 => opt x292 fun x293 => opt (setL r275.2.2.2.1 x293 (x291 - r275.2.2.2.2.2.2.2.2.2.2.2.2.1)) fun xs294 => k279 (r275.1, r275.2.1, r275.2.2.1, xs294, r275.2.2.2.2.1, r275.2.2.2.2.2.1, xs282, (), r275.2.2.2.2.2.2.2.2.1, r275.2.2.2.2.2.2.2.2.2.1, (), r275.2.2.2.2.2.2.2.2.2.2.2.1, r275.2.2.2.2.2.2.2.2.2.2.2.2.1, x273, (), (), ()) else k279 (r275.1, r275.2.1, r275.2.2.1, r275.2.2.2.1, r275.2.2.2.2.1, r275.2.2.2.2.2.1, r275.2.2.2.2.2.2.1, (), r275.2.2.2.2.2.2.2.2.1, r275.2.2.2.2.2.2.2.2.2.1, (), r275.2.2.2.2.2.2.2.2.2.2.2.1, r275.2.2.2.2.2.2.2.2.2.2.2.2.1, x273, (), (), ())) nx277 xs272 (r269.1, r269.2.1, r269.2.2.1, r269.2.2.2.1, r269.2.2.2.2.1, r269.2.2.2.2.2.1, r269.2.2.2.2.2.2.1, (), x268, r269.2.2.2.2.2.2.2.2.2.1, (), r269.2.2.2.2.2.2.2.2.2.2.2.1, r269.2.2.2.2.2.2.2.2.2.2.2.2.1, (), (), (), ()) else k270 (r269.1, r269.2.1, r269.2.2.1, r269.2.2.2.1, r269.2.2.2.2.1, r269.2.2.2.2.2.1, r269.2.2.2.2.2.2.1, (), x268, r269.2.2.2.2.2.2.2.2.2.1, (), r269.2.2.2.2.2.2.2.2.2.2.2.1, r269.2.2.2.2.2.2.2.2.2.2.2.2.1, (), (), (), ()); if (!decide (ys259.1 = [])) = true then k267 (decide (ys259.2.2.2.2.2.1 < ys259.2.2.2.1)) (ys259.2.1, ys259.2.2.1, ys259.2.2.2.1, ys259.2.2.2.2.1, ys259.2.2.2.2.2.1, ys259.2.2.2.2.2.2.1, ys259.2.2.2.2.2.2.2.1, (), ys259.2.2.2.2.2.2.2.2.2.1, ys259.2.2.2.2.2.2.2.2.2.2.1, (), ys259.1, x266, (), (), (), ()) else k267 false (ys259.2.1, ys259.2.2.1, ys259.2.2.2.1, ys259.2.2.2.2.1, ys259.2.2.2.2.2.1, ys259.2.2.2.2.2.2.1, ys259.2.2.2.2.2.2.2.1, (), ys259.2.2.2.2.2.2.2.2.2.1, ys259.2.2.2.2.2.2.2.2.2.2.1, (), ys259.1, x266, (), (), (), ()) else nx239 (r237.1, r237.2.1, r237.2.2.1, r237.2.2.2.1, r237.2.2.2.2.1, r237.2.2.2.2.2.1, r237.2.2.2.2.2.2.1, (), r237.2.2.2.2.2.2.2.2.1, (), (), (), (), (), (), (), ())) 100000 (a_lists, a_many, (3456 : Int), x232, (0 : Int), [], ys234.1, (), true, (), (), (), (), (), (), (), ())
def m_law_dice (a_cell : Int) : Pu.Res (List Int) := let k295 := fun (x296 : Bool) (r297 : Int × Unit) => if x296 = true then .ok [(absI r297.1), (0 : Int), (2 : Int)] else opt (if 0 < (1009 : Int) then some (r297.1 % (1009 : Int)) else none) fun x298 => opt (if CPow (10 : Int) (18 : Int) then some ((10 : Int) ^ ((18 : Int)).toNat) else none) fun x299 => .ok [r297.1, ((1 : Int) + x298), (if (decide (x299 ≤ r297.1)) then (1 : Int) else 0)]; if (decide (((0 : Int) - (10 : Int)) < a_cell)) = true then k295 (decide (a_cell < (10 : Int))) (a_cell, ()) else k295 false (a_cell, ())
def m_law_rounds (a_script : (List Int)) (a_most_now : Int) : Pu.Res (List Int) := let k300 := fun (r301 : (List Int) × Int × (List Int) × Unit × Unit) => oneL r301.2.2.1 fun (x302 : Int) => oneOk (α := (List Int) × (List Int) × Int × (List Int) × Unit × Unit) ((m_law_dice x302).bind fun x304 => .ok (x304, (r301.1, r301.2.1, r301.2.2.1, (), ()))) fun r303 => .ok r303.1; if (decide ((cutL a_script none (some a_most_now)) = [])) = true then k300 (a_script, a_most_now, [(0 : Int)], (), ()) else k300 (a_script, a_most_now, (cutL a_script none (some a_most_now)), (), ())
def m_law_roll (a_dice : (List Int)) (a_many : Int) : Pu.Res (Int × (List Int)) := let k305 := fun (x306 : Bool) (r307 : (List Int) × Int × Unit × Unit) => if x306 = true then opt (L2.atI r307.1 (0 : Int)) fun x308 => opt (if 0 < r307.2.1 then some (x308 % r307.2.1) else none) fun x309 => opt (L2.atI r307.1 (0 : Int)) fun x310 => opt (if CDiv x310 r307.2.1 then some (x310 / r307.2.1) else none) fun x311 => opt (setL r307.1 (0 : Int) x311) fun xs312 => .ok (x309, xs312) else opt (setL r307.1 (2 : Int) (0 : Int)) fun xs313 => opt (L2.atI xs313 (0 : Int)) fun x314 => opt (if CMul x314 (48271 : Int) then some (x314 * (48271 : Int)) else none) fun x315 => opt (L2.atI xs313 (1 : Int)) fun x316 => opt (if CMul x316 (69621 : Int) then some (x316 * (69621 : Int)) else none) fun x317 => opt (if 0 < (2147483647 : Int) then some (((x315 + x317) + (11 : Int)) % (2147483647 : Int)) else none) fun x318 => opt (setL xs313 (0 : Int) x318) fun xs319 => opt (L2.atI xs319 (1 : Int)) fun x320 => opt (setL xs319 (1 : Int) (x320 + (1 : Int))) fun xs321 => opt (L2.atI xs321 (0 : Int)) fun x322 => opt (if CDiv x322 (7 : Int) then some (x322 / (7 : Int)) else none) fun x323 => opt (L2.atI xs321 (0 : Int)) fun x324 => opt (if 0 < r307.2.1 then some ((x323 + x324) % r307.2.1) else none) fun x325 => .ok (x325, xs321); opt (L2.atI a_dice (2 : Int)) fun x326 => if (decide (x326 = (2 : Int))) = true then k305 true (a_dice, a_many, (), ()) else opt (L2.atI a_dice (2 : Int)) fun x327 => if (decide (x327 = (1 : Int))) = true then opt (L2.atI a_dice (0 : Int)) fun x328 => k305 (decide ((0 : Int) < x328)) (a_dice, a_many, (), ()) else k305 false (a_dice, a_many, (), ())
def m_law_list (a_dice : (List Int)) (a_many : Int) : Pu.Res ((List Int) × (List Int)) := opt (rng a_many) fun x329 => (m_law_roll a_dice (a_many + (1 : Int))).bind fun x330 => opt (rng x330.1) fun xs331 => let nx336 := fun (r335 : (List Int) × Int × (List Int) × (List Int) × Unit × Unit × Unit) => .ok (r335.2.2.2.1, r335.1); List.foldr (fun (x332 : Int) (k333 : (List Int) × Int × (List Int) × (List Int) × Unit × Unit × Unit → Res _) (r334 : (List Int) × Int × (List Int) × (List Int) × Unit × Unit × Unit) => (m_law_roll r334.1 (r334.2.2.1.length : Int)).bind fun x337 => opt (L2.atI r334.2.2.1 x337.1) fun x338 => chk (decide (List.length (α := Int) r334.2.2.2.1 < 16777216)) (chk (List.contains (α := Int) r334.2.2.1 x338) (k333 (x337.2, r334.2.1, (List.erase (α := Int) r334.2.2.1 x338), (app1 r334.2.2.2.1 x338), (), (), ())))) nx336 xs331 (x330.2, a_many, x329, [], (), (), ())
def m_law_s0 {R : Type} (nx : (List Int) × (List Int) × (List (List Int)) × Int × Unit × Unit × Unit × Unit × Unit × Unit × Unit × Unit × Unit × Unit × Unit × Unit × Unit × Unit × Unit × Unit × Unit → Pu.Res R) (rt : Bool → Pu.Res R) (r : (List Int) × (List Int) × Unit × Unit × Unit × Unit × Unit × Unit × Unit × Unit × Unit × Unit × Unit × Unit × Unit × Unit × Unit × Unit × Unit × Unit × Unit) : Pu.Res R := (m_law_roll r.2.1 (3 : Int)).bind fun x339 => opt (rng ((1 : Int) + x339.1)) fun xs340 => opt (compL (β := (List Int)) (S := (List Int) × (List Int) × Unit × Unit × Unit × Unit × Unit × Unit × Unit × Unit × Unit × Unit × Unit × Unit × Unit × Unit × Unit × Unit × Unit × Unit × Unit) (fun (x341 : Int) r342 => if true = true then (m_law_list r342.2.1 (4 : Int)).bind fun x344 => .ok (some x344.1, (r342.1, x344.2, (), (), (), (), (), (), (), (), (), (), (), (), (), (), (), (), (), (), ())) else .ok (none, (r342.1, r342.2.1, (), (), (), (), (), (), (), (), (), (), (), (), (), (), (), (), (), (), ()))) xs340 (r.1, x339.2, (), (), (), (), (), (), (), (), (), (), (), (), (), (), (), (), (), (), ())) fun ys343 => nx (ys343.2.1, ys343.2.2.1, (ys343.1, (4 : Int)).1, (ys343.1, (4 : Int)).2, (), (), (), (), (), (), (), (), (), (), (), (), (), (), (), (), ())
def m_law_s1 {R : Type} (nx : (List Int) × (List Int) × (List (List Int)) × Int × Unit × (List (List (Int × Int))) × (List (List (Int × Int))) × (List (Int × Int)) × Unit × Unit × Unit × Unit × Unit × Unit × Unit × Unit × Unit × Unit × Unit × Unit × Unit → Pu.Res R) (rt : Bool → Pu.Res R) (r : (List Int) × (List Int) × (List (List Int)) × Int × Unit × Unit × Unit × Unit × Unit × Unit × Unit × Unit × Unit × Unit × Unit × Unit × Unit × Unit × Unit × Unit × Unit) : Pu.Res R := (m_shares r.2.2.1 r.2.2.2.1).bind fun x345 => (m_law_eaten r.2.2.1 r.2.2.2.1).bind fun x346 => nx (r.1, r.2.1, r.2.2.1, r.2.2.2.1, (), (x345, x346).1, (x345, x346).2.1, (x345, x346).2.2, (), (), (), (), (), (), (), (), (), (), (), (), ())
def m_law_s2 {R : Type} (nx : (List Int) × (List Int) × (List (List Int)) × Int × Unit × (List (List (Int × Int))) × (List (List (Int × Int))) × (List (Int × Int)) × Unit × Unit × Unit × Unit × Unit × Unit × Unit × Unit × Unit × Unit × Unit × Unit × Unit → Pu.Res R) (rt : Bool → Pu.Res R) (r : (List Int) × (List Int) × (List (List Int)) × Int × Unit × (List (List (Int × Int))) × (List (List (Int × Int))) × (List (Int × Int)) × Unit × Unit × Unit × Unit × Unit × Unit × Unit × Unit × Unit × Unit × Unit × Unit × Unit) : Pu.Res R := let k347 := fun (x348 : Bool) (r349 : (List Int) × (List Int) × (List (List Int)) × Int × Unit × (List (List (Int × Int))) × (List (List (Int × Int))) × (List (Int × Int)) × Unit × Unit × Unit × Unit × Unit × Unit × Unit × Unit × Unit × Unit × Unit × Unit × Unit) => if x348 = true then rt false else nx (r349.1, r349.2.1, r349.2.2.1, r349.2.2.2.1, (), r349.2.2.2.2.2.1, r349.2.2.2.2.2.2.1, r349.2.2.2.2.2.2.2.1, (), (), (), (), (), (), (), (), (), (), (), (), ()); if (!decide (r.2.2.2.2.2.1 = r.2.2.2.2.2.2.1)) = true then k347 true (r.1, r.2.1, r.2.2.1, r.2.2.2.1, (), r.2.2.2.2.2.1, r.2.2.2.2.2.2.1, r.2.2.2.2.2.2.2.1, (), (), (), (), (), (), (), (), (), (), (), (), ()) else (m_times r.2.2.1 r.2.2.2.1).bind fun x350 => k347 (!decide (x350 = r.2.2.2.2.2.2.2.1)) (r.1, r.2.1, r.2.2.1, r.2.2.2.1, (), r.2.2.2.2.2.1, r.2.2.2.2.2.2.1, r.2.2.2.2.2.2.2.1, (), (), (), (), (), (), (), (), (), (), (), (), ())
def m_law_s3 {R : Type} (nx : (List Int) × (List Int) × (List (List Int)) × Int × Unit × (List (List (Int × Int))) × (List (List (Int × Int))) × (List (Int × Int)) × Unit × Unit × Unit × Unit × Unit × Unit × Unit × Unit × Unit × Unit × Unit × Unit × Unit → Pu.Res R) (rt : Bool → Pu.Res R) (r : (List Int) × (List Int) × (List (List Int)) × Int × Unit × (List (List (Int × Int))) × (List (List (Int × Int))) × (List (Int × Int)) × Unit × Unit × Unit × Unit × Unit × Unit × Unit × Unit × Unit × Unit × Unit × Unit × Unit) : Pu.Res R := opt (rng (r.2.2.1.length : Int)) fun xs351 => let nx356 := fun (r355 : (List Int) × (List Int) × (List (List Int)) × Int × Unit × (List (List (Int × Int))) × (List (List (Int × Int))) × (List (Int × Int)) × Unit × Unit × Unit × Unit × Unit × Unit × Unit × Unit × Unit × Unit × Unit × Unit × Unit) => nx (r355.1, r355.2.1, r355.2.2.1, r355.2.2.2.1, (), r355.2.2.2.2.2.1, r355.2.2.2.2.2.2.1, r355.2.2.2.2.2.2.2.1, (), (), (), (), (), (), (), (), (), (), (), (), ()); List.foldr (fun (x352 : Int) (k353 : (List Int) × (List Int) × (List (List Int)) × Int × Unit × (List (List (Int × Int))) × (List (List (Int × Int))) × (List (Int × Int)) × Unit × Unit × Unit × Unit × Unit × Unit × Unit × Unit × Unit × Unit × Unit × Unit × Unit → Res _) (r354 : (List Int) × (List Int) × (List (List Int)) × Int × Unit × (List (List (Int × Int))) × (List (List (Int × Int))) × (List (Int × Int)) × Unit × Unit × Unit × Unit × Unit × Unit × Unit × Unit × Unit × Unit × Unit × Unit × Unit) => opt (L2.atI r354.2.2.1 x352) fun x357 => opt (L2.atI r354.2.2.2.2.2.1 x352) fun x358 => (m_sums_down x357 x358).bind fun x359 => opt (L2.atI r354.2.2.1 x352) fun x360 => opt (rng (x360.length : Int)) fun xs361 => let nx366 := fun (r365 : (List Int) × (List Int) × (List (List Int)) × Int × Unit × (List (List (Int × Int))) × (List (List (Int × Int))) × (List (Int × Int)) × Int × (List (Int × Int)) × (Int × Int) × Unit × Unit × Unit × Unit × Unit × Unit × Unit × Unit × Unit × Unit) => opt (rng (r365.2.2.1.length : Int)) fun xs367 => let nx372 := fun (r371 : (List Int) × (List Int) × (List (List Int)) × Int × Unit × (List (List (Int × Int))) × (List (List (Int × Int))) × (List (Int × Int)) × Int × (List (Int × Int)) × (Int × Int) × Unit × Unit × Unit × Unit × Unit × Unit × Unit × Unit × Unit × Unit) => k353 (r371.1, r371.2.1, r371.2.2.1, r371.2.2.2.1, (), r371.2.2.2.2.2.1, r371.2.2.2.2.2.2.1, r371.2.2.2.2.2.2.2.1, (), (), (), (), (), (), (), (), (), (), (), (), ()); List.foldr (fun (x368 : Int) (k369 : (List Int) × (List Int) × (List (List Int)) × Int × Unit × (List (List (Int × Int))) × (List (List (Int × Int))) × (List (Int × Int)) × Int × (List (Int × Int)) × (Int × Int) × Unit × Unit × Unit × Unit × Unit × Unit × Unit × Unit × Unit × Unit → Res _) (r370 : (List Int) × (List Int) × (List (List Int)) × Int × Unit × (List (List (Int × Int))) × (List (List (Int × Int))) × (List (Int × Int)) × Int × (List (Int × Int)) × (Int × Int) × Unit × Unit × Unit × Unit × Unit × Unit × Unit × Unit × Unit × Unit) => opt (L2.atI r370.2.2.1 r370.2.2.2.2.2.2.2.2.1) fun x373 => opt (L2.atI r370.2.2.2.2.2.1 r370.2.2.2.2.2.2.2.2.1) fun x374 => opt (L2.atI r370.2.2.2.2.2.1 x368) fun x375 => (m_as_much x373 x374 x375).bind fun x376 => if (!x376) = true then rt false else k369 (r370.1, r370.2.1, r370.2.2.1, r370.2.2.2.1, (), r370.2.2.2.2.2.1, r370.2.2.2.2.2.2.1, r370.2.2.2.2.2.2.2.1, r370.2.2.2.2.2.2.2.2.1, r370.2.2.2.2.2.2.2.2.2.1, r370.2.2.2.2.2.2.2.2.2.2.1, (), (), (), (), (), (), (), (), (), ())) nx372 xs367 (r365.1, r365.2.1, r365.2.2.1, r365.2.2.2.1, (), r365.2.2.2.2.2.1, r365.2.2.2.2.2.2.1, r365.2.2.2.2.2.2.2.1, r365.2.2.2.2.2.2.2.2.1, r365.2.2.2.2.2.2.2.2.2.1, r365.2.2.2.2.2.2.2.2.2.2.1, (), (), (), (), (), (), (), (), (), ()); List.foldr (fun (x362 : Int) (k363 : (List Int) × (List Int) × (List (List Int)) × Int × Unit × (List (List (Int × Int))) × (List (List (Int × Int))) × (List (Int × Int)) × Int × (List (Int × Int)) × (Int × Int) × Unit × Unit × Unit × Unit × Unit × Unit × Unit × Unit × Unit × Unit → Res _) (r364 : (List Int) × (List Int) × (List (List Int)) × Int × Unit × (List (List (Int × Int))) × (List (List (Int × Int))) × (List (Int × Int)) × Int × (List (Int × Int)) × (Int × Int) × Unit × Unit × Unit × Unit × Unit × Unit × Unit × Unit × Unit × Unit) => opt (L2.atI r364.2.2.2.2.2.1 r364.2.2.2.2.2.2.2.2.1) fun x377 => opt (L2.atI r364.2.2.1 r364.2.2.2.2.2.2.2.2.1) fun x378 => opt (L2.atI x378 x362) fun x379 => opt (L2.atI x377 x379) fun x380 => opt (if (0 : Int) = 0 then some r364.2.2.2.2.2.2.2.2.2.2.1.1 else none) fun x381 => opt (if (1 : Int) = 1 then some x380.2 else none) fun x382 => opt (if CMul x381 x382 then some (x381 * x382) else none) fun x383 => opt (if (0 : Int) = 0 then some x380.1 else none) fun x384 => opt (if (1 : Int) = 1 then some r364.2.2.2.2.2.2.2.2.2.2.1.2 else none) fun x385 => opt (if CMul x384 x385 then some (x384 * x385) else none) fun x386 => opt (if (1 : Int) = 1 then some r364.2.2.2.2.2.2.2.2.2.2.1.2 else none) fun x387 => opt (if (1 : Int) = 1 then some x380.2 else none) fun x388 => opt (if CMul x387 x388 then some (x387 * x388) else none) fun x389 => (m_law_small (x383 + x386) x389).bind fun x390 => opt (L2.atI r364.2.2.2.2.2.2.2.2.2.1 x362) fun x391 => if (!decide (x391 = x390)) = true then rt false else k363 (r364.1, r364.2.1, r364.2.2.1, r364.2.2.2.1, (), r364.2.2.2.2.2.1, r364.2.2.2.2.2.2.1, r364.2.2.2.2.2.2.2.1, r364.2.2.2.2.2.2.2.2.1, r364.2.2.2.2.2.2.2.2.2.1, x390, (), (), (), (), (), (), (), (), (), ())) nx366 xs361 (r354.1, r354.2.1, r354.2.2.1, r354.2.2.2.1, (), r354.2.2.2.2.2.1, r354.2.2.2.2.2.2.1, r354.2.2.2.2.2.2.2.1, x352, x359, ((0 : Int), (1 : Int)), (), (), (), (), (), (), (), (), (), ())) nx356 xs351 (r.1, r.2.1, r.2.2.1, r.2.2.2.1, (), r.2.2.2.2.2.1, r.2.2.2.2.2.2.1, r.2.2.2.2.2.2.2.1, (), (), (), (), (), (), (), (), (), (), (), (), ())
def m_law_s4 {R : Type} (nx : (List Int) × (List Int) × (List (List Int)) × Int × Unit × (List (List (Int × Int))) × (List (List (Int × Int))) × (List (Int × Int)) × Unit × Unit × Unit × Unit × Unit × Unit × Unit × Unit × Unit × Unit × Unit × Unit × Unit → Pu.Res R) (rt : Bool → Pu.Res R) (r : (List Int) × (List Int) × (List (List Int)) × Int × Unit × (List (List (Int × Int))) × (List (List (Int × Int))) × (List (Int × Int)) × Unit × Unit × Unit × Unit × Unit × Unit × Unit × Unit × Unit × Unit × Unit × Unit × Unit) : Pu.Res R := (m_is_tight r.2.2.1 r.2.2.2.2.2.1).bind fun x392 => if (!x392) = true then rt false else nx (r.1, r.2.1, r.2.2.1, r.2.2.2.1, (), r.2.2.2.2.2.1, r.2.2.2.2.2.2.1, r.2.2.2.2.2.2.2.1, (), (), (), (), (), (), (), (), (), (), (), (), ())
def m_law_s5 {R : Type} (nx : (List Int) × (List Int) × (List (List Int)) × Int × Unit × (List (List (Int × Int))) × (List (List (Int × Int))) × (List (Int × Int)) × Unit × Unit × Unit × Unit × Unit × (List (Int × Int)) × Unit × Unit × Unit × Unit × Unit × Unit × Unit → Pu.Res R) (rt : Bool → Pu.Res R) (r : (List Int) × (List Int) × (List (List Int)) × Int × Unit × (List (List (Int × Int))) × (List (List (Int × Int))) × (List (Int × Int)) × Unit × Unit × Unit × Unit × Unit × Unit × Unit × Unit × Unit × Unit × Unit × Unit × Unit) : Pu.Res R := opt (rng (r.2.2.1.length : Int)) fun xs393 => opt (compL (β := (List ((Int × Int) × Int))) (S := (List Int) × (List Int) × (List (List Int)) × Int × Unit × (List (List (Int × Int))) × (List (List (Int × Int))) × (List (Int × Int)) × Unit × Unit × Unit × Unit × Unit × Unit × Unit × Unit × Unit × Unit × Unit × Unit × Unit) (fun (x394 : Int) r395 => if true = true then opt (L2.atI r395.2.2.1 x394) fun x397 => opt (rng (x397.length : Int)) fun xs398 => opt (compL (β := (List ((Int × Int) × Int))) (S := (List Int) × (List Int) × (List (List Int)) × Int × Unit × (List (List (Int × Int))) × (List (List (Int × Int))) × (List (Int × Int)) × Int × Unit × Unit × Unit × Unit × Unit × Unit × Unit × Unit × Unit × Unit × Unit × Unit) (fun (x399 : Int) r400 => if true = true then opt (L2.atI r400.2.2.1 r400.2.2.2.2.2.2.2.2.1) fun x402 => opt (L2.atI x402 x399) fun x403 => opt (compL (β := (List ((Int × Int) × Int))) (S := (List Int) × (List Int) × (List (List Int)) × Int × Unit × (List (List (Int × Int))) × (List (List (Int × Int))) × (List (Int × Int)) × Int × Unit × Unit × Int × Unit × Unit × Unit × Unit × Unit × Unit × Unit × Unit × Unit) (fun (x404 : Int) r405 => opt (L2.atI r405.2.2.2.2.2.1 r405.2.2.2.2.2.2.2.2.1) fun x407 => opt (L2.atI x407 x404) fun x408 => opt (if (0 : Int) = 0 then some x408.1 else none) fun x409 => if (decide ((0 : Int) < x409)) = true then opt (L2.atI r405.2.2.1 r405.2.2.2.2.2.2.2.2.1) fun x410 => opt (compL (β := ((Int × Int) × Int)) (S := (List Int) × (List Int) × (List (List Int)) × Int × Unit × (List (List (Int × Int))) × (List (List (Int × Int))) × (List (Int × Int)) × Int × Unit × Unit × Int × Unit × Unit × Int × Unit × Unit × Unit × Unit × Unit × Unit) (fun (x411 : Int) r412 => if true = true then .ok (some ((x411, r412.2.2.2.2.2.2.2.2.2.2.2.2.2.2.1), (1 : Int)), (r412.1, r412.2.1, r412.2.2.1, r412.2.2.2.1, (), r412.2.2.2.2.2.1, r412.2.2.2.2.2.2.1, r412.2.2.2.2.2.2.2.1, r412.2.2.2.2.2.2.2.2.1, (), (), r412.2.2.2.2.2.2.2.2.2.2.2.1, (), (), r412.2.2.2.2.2.2.2.2.2.2.2.2.2.2.1, (), (), (), (), (), ())) else .ok (none, (r412.1, r412.2.1, r412.2.2.1, r412.2.2.2.1, (), r412.2.2.2.2.2.1, r412.2.2.2.2.2.2.1, r412.2.2.2.2.2.2.2.1, r412.2.2.2.2.2.2.2.2.1, (), (), r412.2.2.2.2.2.2.2.2.2.2.2.1, (), (), r412.2.2.2.2.2.2.2.2.2.2.2.2.2.2.1, (), (), (), (), (), ()))) (cutL x410 none (some r405.2.2.2.2.2.2.2.2.2.2.2.1)) (r405.1, r405.2.1, r405.2.2.1, r405.2.2.2.1, (), r405.2.2.2.2.2.1, r405.2.2.2.2.2.2.1, r405.2.2.2.2.2.2.2.1, r405.2.2.2.2.2.2.2.2.1, (), (), r405.2.2.2.2.2.2.2.2.2.2.2.1, (), (), x404, (), (), (), (), (), ())) fun ys413 => .ok (some ys413.1, (ys413.2.1, ys413.2.2.1, ys413.2.2.2.1, ys413.2.2.2.2.1, (), ys413.2.2.2.2.2.2.1, ys413.2.2.2.2.2.2.2.1, ys413.2.2.2.2.2.2.2.2.1, ys413.2.2.2.2.2.2.2.2.2.1, (), (), ys413.2.2.2.2.2.2.2.2.2.2.2.2.1, (), (), (), (), (), (), (), (), ())) else .ok (none, (r405.1, r405.2.1, r405.2.2.1, r405.2.2.2.1, (), r405.2.2.2.2.2.1, r405.2.2.2.2.2.2.1, r405.2.2.2.2.2.2.2.1, r405.2.2.2.2.2.2.2.2.1, (), (), r405.2.2.2.2.2.2.2.2.2.2.2.1, (), (), (), (), (), (), (), (), ()))) [x403] (r400.1, r400.2.1, r400.2.2.1, r400.2.2.2.1, (), r400.2.2.2.2.2.1, r400.2.2.2.2.2.2.1, r400.2.2.2.2.2.2.2.1, r400.2.2.2.2.2.2.2.2.1, (), (), x399, (), (), (), (), (), (), (), (), ())) fun ys406 => (m_law_flat ys406.1).bind fun x414 => .ok (some x414, (ys406.2.1, ys406.2.2.1, ys406.2.2.2.1, ys406.2.2.2.2.1, (), ys406.2.2.2.2.2.2.1, ys406.2.2.2.2.2.2.2.1, ys406.2.2.2.2.2.2.2.2.1, ys406.2.2.2.2.2.2.2.2.2.1, (), (), (), (), (), (), (), (), (), (), (), ())) else .ok (none, (r400.1, r400.2.1, r400.2.2.1, r400.2.2.2.1, (), r400.2.2.2.2.2.1, r400.2.2.2.2.2.2.1, r400.2.2.2.2.2.2.2.1, r400.2.2.2.2.2.2.2.2.1, (), (), (), (), (), (), (), (), (), (), (), ()))) xs398 (r395.1, r395.2.1, r395.2.2.1, r395.2.2.2.1, (), r395.2.2.2.2.2.1, r395.2.2.2.2.2.2.1, r395.2.2.2.2.2.2.2.1, x394, (), (), (), (), (), (), (), (), (), (), (), ())) fun ys401 => (m_law_flat ys401.1).bind fun x415 => .ok (some x415, (ys401.2.1, ys401.2.2.1, ys401.2.2.2.1, ys401.2.2.2.2.1, (), ys401.2.2.2.2.2.2.1, ys401.2.2.2.2.2.2.2.1, ys401.2.2.2.2.2.2.2.2.1, (), (), (), (), (), (), (), (), (), (), (), (), ())) else .ok (none, (r395.1, r395.2.1, r395.2.2.1, r395.2.2.2.1, (), r395.2.2.2.2.2.1, r395.2.2.2.2.2.2.1, r395.2.2.2.2.2.2.2.1, (), (), (), (), (), (), (), (), (), (), (), (), ()))) xs393 (r.1, r.2.1, r.2.2.1, r.2.2.2.1, (), r.2.2.2.2.2.1, r.2.2.2.2.2.2.1, r.2.2.2.2.2.2.2.1, (), (), (), (), (), (), (), (), (), (), (), (), ())) fun ys396 => (m_law_flat ys396.1).bind fun x416 => nx (ys396.2.1, ys396.2.2.1, ys396.2.2.2.1, ys396.2.2.2.2.1, (), ys396.2.2.2.2.2.2.1, ys396.2.2.2.2.2.2.2.1, ys396.2.2.2.2.2.2.2.2.1, (), (), (), (), (), (PuX.sortPr (List.map (fun q : (Int × Int) × Int => q.1) x416)), (), (), (), (), (), (), ())
def m_law_s6 {R : Type} (nx : (List Int) × (List Int) × (List (List Int)) × Int × Unit × (List (List (Int × Int))) × (List (List (Int × Int))) × (List (Int × Int)) × Unit × Unit × Unit × Unit × Unit × (List (Int × Int)) × Unit × Unit × Unit × Unit × Unit × Unit × Unit → Pu.Res R) (rt : Bool → Pu.Res R) (r : (List Int) × (List Int) × (List (List Int)) × Int × Unit × (List (List (Int × Int))) × (List (List (Int × Int))) × (List (Int × Int)) × Unit × Unit × Unit × Unit × Unit × (List (Int × Int)) × Unit × Unit × Unit × Unit × Unit × Unit × Unit) : Pu.Res R := (m_wanted_more r.2.2.1 r.2.2.2.2.2.1).bind fun x417 => if (!decide (x417 = r.2.2.2.2.2.2.2.2.2.2.2.2.2.1)) = true then rt false else nx (r.1, r.2.1, r.2.2.1, r.2.2.2.1, (), r.2.2.2.2.2.1, r.2.2.2.2.2.2.1, r.2.2.2.2.2.2.2.1, (), (), (), (), (), r.2.2.2.2.2.2.2.2.2.2.2.2.2.1, (), (), (), (), (), (), ())
def m_law_s7 {R : Type} (nx : (List Int) × (List Int) × (List (List Int)) × Int × Unit × (List (List (Int × Int))) × (List (List (Int × Int))) × (List (Int × Int)) × Unit × Unit × Unit × Unit × Unit × (List (Int × Int)) × Unit × Unit × Unit × Unit × Unit × Unit × Unit → Pu.Res R) (rt : Bool → Pu.Res R) (r : (List Int) × (List Int) × (List (List Int)) × Int × Unit × (List (List (Int × Int))) × (List (List (Int × Int))) × (List (Int × Int)) × Unit × Unit × Unit × Unit × Unit × (List (Int × Int)) × Unit × Unit × Unit × Unit × Unit × Unit × Unit) : Pu.Res R := opt (rng r.2.2.2.1) fun xs418 => let nx423 := fun (r422 : (List Int) × (List Int) × (List (List Int)) × Int × Unit × (List (List (Int × Int))) × (List (List (Int × Int))) × (List (Int × Int)) × Unit × Unit × Unit × Unit × Unit × (List (Int × Int)) × Unit × Unit × Unit × Unit × Unit × Unit × Unit) => nx (r422.1, r422.2.1, r422.2.2.1, r422.2.2.2.1, (), r422.2.2.2.2.2.1, r422.2.2.2.2.2.2.1, r422.2.2.2.2.2.2.2.1, (), (), (), (), (), r422.2.2.2.2.2.2.2.2.2.2.2.2.2.1, (), (), (), (), (), (), ()); List.foldr (fun (x419 : Int) (k420 : (List Int) × (List Int) × (List (List Int)) × Int × Unit × (List (List (Int × Int))) × (List (List (Int × Int))) × (List (Int × Int)) × Unit × Unit × Unit × Unit × Unit × (List (Int × Int)) × Unit × Unit × Unit × Unit × Unit × Unit × Unit → Res _) (r421 : (List Int) × (List Int) × (List (List Int)) × Int × Unit × (List (List (Int × Int))) × (List (List (Int × Int))) × (List (Int × Int)) × Unit × Unit × Unit × Unit × Unit × (List (Int × Int)) × Unit × Unit × Unit × Unit × Unit × Unit × Unit) => (m_whole_of r421.2.2.2.2.2.1 x419).bind fun x424 => if (decide (x424.2 < x424.1)) = true then rt false else k420 (r421.1, r421.2.1, r421.2.2.1, r421.2.2.2.1, (), r421.2.2.2.2.2.1, r421.2.2.2.2.2.2.1, r421.2.2.2.2.2.2.2.1, (), (), (), (), (), r421.2.2.2.2.2.2.2.2.2.2.2.2.2.1, (), (), (), (), (), (), ())) nx423 xs418 (r.1, r.2.1, r.2.2.1, r.2.2.2.1, (), r.2.2.2.2.2.1, r.2.2.2.2.2.2.1, r.2.2.2.2.2.2.2.1, (), (), (), (), (), r.2.2.2.2.2.2.2.2.2.2.2.2.2.1, (), (), (), (), (), (), ())
def m_law (a_script : (List Int)) : Pu.Res Bool := let nx425 := fun (r426 : (List Int) × (List Int) × (List (List Int)) × Int × Unit × (List (List (Int × Int))) × (List (List (Int × Int))) × (List (Int × Int)) × Unit × Unit × Unit × Unit × Unit × (List (Int × Int)) × Unit × Unit × Unit × Unit × Unit × Unit × Unit) => (m_Part_init (6 : Int) ((0 : Int) - (4 : Int))).bind fun x427 => let k428 := fun (x429 : Bool) (r430 : (List Int) × (List Int) × (List (List Int)) × Int × Unit × (List (List (Int × Int))) × (List (List (Int × Int))) × (List (Int × Int)) × Unit × Unit × Unit × Unit × Unit × (List (Int × Int)) × Unit × Unit × Unit × Unit × Unit × A_Part × Unit) => if x429 = true then .ok false else let k431 := fun (x432 : Bool) (r433 : (List Int) × (List Int) × (List (List Int)) × Int × Unit × (List (List (Int × Int))) × (List (List (Int × Int))) × (List (Int × Int)) × Unit × Unit × Unit × Unit × Unit × (List (Int × Int)) × Unit × Unit × Unit × Unit × Unit × A_Part × Unit) => .ok x432; (m_is_tight [[(0 : Int), (1 : Int)], [(1 : Int), (0 : Int)]] [[((0 : Int), (1 : Int)), ((1 : Int), (1 : Int))], [((1 : Int), (1 : Int)), ((0 : Int), (1 : Int))]]).bind fun x434 => if (decide (x434 = false)) = true then (m_Part_init (1 : Int) (3 : Int)).bind fun x435 => (m_Part_init (1 : Int) (2 : Int)).bind fun x436 => (m_Part_minus (x435) (x436)).bind fun x437 => (m_Part_shown x437).bind fun x438 => k431 (decide (x438 = (((0 : Int) - (1 : Int)), (6 : Int)))) (r430.1, r430.2.1, r430.2.2.1, r430.2.2.2.1, (), r430.2.2.2.2.2.1, r430.2.2.2.2.2.2.1, r430.2.2.2.2.2.2.2.1, (), (), (), (), (), r430.2.2.2.2.2.2.2.2.2.2.2.2.2.1, (), (), (), (), (), r430.2.2.2.2.2.2.2.2.2.2.2.2.2.2.2.2.2.2.2.1, ()) else k431 false (r430.1, r430.2.1, r430.2.2.1, r430.2.2.2.1, (), r430.2.2.2.2.2.1, r430.2.2.2.2.2.2.1, r430.2.2.2.2.2.2.2.1, (), (), (), (), (), r430.2.2.2.2.2.2.2.2.2.2.2.2.2.1, (), (), (), (), (), r430.2.2.2.2.2.2.2.2.2.2.2.2.2.2.2.2.2.2.2.1, ()); (m_Part_shown (x427)).bind fun x439 => if (!decide (x439 = (((0 : Int) - (3 : Int)), (2 : Int)))) = true then k428 true (r426.1, r426.2.1, r426.2.2.1, r426.2.2.2.1, (), r426.2.2.2.2.2.1, r426.2.2.2.2.2.2.1, r426.2.2.2.2.2.2.2.1, (), (), (), (), (), r426.2.2.2.2.2.2.2.2.2.2.2.2.2.1, (), (), (), (), (), (x427), ()) else (m_Part_init (1 : Int) (2 : Int)).bind fun x440 => (m_Part_plus (x427) (x440)).bind fun x441 => (m_Part_shown x441).bind fun x442 => if (!decide (x442 = (((0 : Int) - (1 : Int)), (1 : Int)))) = true then k428 true (r426.1, r426.2.1, r426.2.2.1, r426.2.2.2.1, (), r426.2.2.2.2.2.1, r426.2.2.2.2.2.2.1, r426.2.2.2.2.2.2.2.1, (), (), (), (), (), r426.2.2.2.2.2.2.2.2.2.2.2.2.2.1, (), (), (), (), (), (x427), ()) else (m_Part_over (x427) (3 : Int)).bind fun x443 => (m_Part_shown x443).bind fun x444 => if (!decide (x444 = (((0 : Int) - (1 : Int)), (2 : Int)))) = true then k428 true (r426.1, r426.2.1, r426.2.2.1, r426.2.2.2.1, (), r426.2.2.2.2.2.1, r426.2.2.2.2.2.2.1, r426.2.2.2.2.2.2.2.1, (), (), (), (), (), r426.2.2.2.2.2.2.2.2.2.2.2.2.2.1, (), (), (), (), (), (x427), ()) else (m_Part_init (0 : Int) (1 : Int)).bind fun x445 => (m_Part_below (x427) (x445)).bind fun x446 => k428 (!x446) (r426.1, r426.2.1, r426.2.2.1, r426.2.2.2.1, (), r426.2.2.2.2.2.1, r426.2.2.2.2.2.2.1, r426.2.2.2.2.2.2.2.1, (), (), (), (), (), r426.2.2.2.2.2.2.2.2.2.2.2.2.2.1, (), (), (), (), (), (x427), ()); (m_law_rounds a_script (1 : Int)).bind fun x454 => m_law_s0 (fun (r453 : (List Int) × (List Int) × (List (List Int)) × Int × Unit × Unit × Unit × Unit × Unit × Unit × Unit × Unit × Unit × Unit × Unit × Unit × Unit × Unit × Unit × Unit × Unit) => m_law_s1 (fun (r452 : (List Int) × (List Int) × (List (List Int)) × Int × Unit × (List (List (Int × Int))) × (List (List (Int × Int))) × (List (Int × Int)) × Unit × Unit × Unit × Unit × Unit × Unit × Unit × Unit × Unit × Unit × Unit × Unit × Unit) => m_law_s2 (fun (r451 : (List Int) × (List Int) × (List (List Int)) × Int × Unit × (List (List (Int × Int))) × (List (List (Int × Int))) × (List (Int × Int)) × Unit × Unit × Unit × Unit × Unit × Unit × Unit × Unit × Unit × Unit × Unit × Unit × Unit) => m_law_s3 (fun (r450 : (List Int) × (List Int) × (List (List Int)) × Int × Unit × (List (List (Int × Int))) × (List (List (Int × Int))) × (List (Int × Int)) × Unit × Unit × Unit × Unit × Unit × Unit × Unit × Unit × Unit × Unit × Unit × Unit × Unit) => m_law_s4 (fun (r449 : (List Int) × (List Int) × (List (List Int)) × Int × Unit × (List (List (Int × Int))) × (List (List (Int × Int))) × (List (Int × Int)) × Unit × Unit × Unit × Unit × Unit × Unit × Unit × Unit × Unit × Unit × Unit × Unit × Unit) => m_law_s5 (fun (r448 : (List Int) × (List Int) × (List (List Int)) × Int × Unit × (List (List (Int × Int))) × (List (List (Int × Int))) × (List (Int × Int)) × Unit × Unit × Unit × Unit × Unit × (List (Int × Int)) × Unit × Unit × Unit × Unit × Unit × Unit × Unit) => m_law_s6 (fun (r447 : (List Int) × (List Int) × (List (List Int)) × Int × Unit × (List (List (Int × Int))) × (List (List (Int × Int))) × (List (Int × Int)) × Unit × Unit × Unit × Unit × Unit × (List (Int × Int)) × Unit × Unit × Unit × Unit × Unit × Unit × Unit) => m_law_s7 nx425 (fun x => .ok x) r447) (fun x => .ok x) r448) (fun x => .ok x) r449) (fun x => .ok x) r450) (fun x => .ok x) r451) (fun x => .ok x) r452) (fun x => .ok x) r453) (fun x => .ok x) (a_script, x454, (), (), (), (), (), (), (), (), (), (), (), (), (), (), (), (), (), (), ())
def d_0 : He.DefD := ⟨("reached_from", none), "reached_from", "reached_from", defArgs s_reached_from, defBody s_reached_from, defScope s_reached_from, [], []⟩
def d_1 : He.DefD := ⟨("Wish", some "__init__"), "__init__", "Wish.__init__", defArgs s_Wish_init, defBody s_Wish_init, defScope s_Wish_init, [], []⟩
def d_2 : He.DefD := ⟨("Wish", some "rank"), "rank", "Wish.rank", defArgs s_Wish_rank, defBody s_Wish_rank, defScope s_Wish_rank, [], []⟩
def d_3 : He.DefD := ⟨("Wish", some "better"), "better", "Wish.better", defArgs s_Wish_better, defBody s_Wish_better, defScope s_Wish_better, [], []⟩
def d_4 : He.DefD := ⟨("Wish", some "ahead_of"), "ahead_of", "Wish.ahead_of", defArgs s_Wish_ahead_of, defBody s_Wish_ahead_of, defScope s_Wish_ahead_of, [], []⟩
def d_5 : He.DefD := ⟨("check_list", none), "check_list", "check_list", defArgs s_check_list, defBody s_check_list, defScope s_check_list, [], []⟩
def d_6 : He.DefD := ⟨("shared", none), "shared", "shared", defArgs s_shared, defBody s_shared, defScope s_shared, [], []⟩
def d_7 : He.DefD := ⟨("Part", some "__init__"), "__init__", "Part.__init__", defArgs s_Part_init, defBody s_Part_init, defScope s_Part_init, [], []⟩
def d_8 : He.DefD := ⟨("Part", some "plus"), "plus", "Part.plus", defArgs s_Part_plus, defBody s_Part_plus, defScope s_Part_plus, [], []⟩
def d_9 : He.DefD := ⟨("Part", some "minus"), "minus", "Part.minus", defArgs s_Part_minus, defBody s_Part_minus, defScope s_Part_minus, [], []⟩
def d_10 : He.DefD := ⟨("Part", some "over"), "over", "Part.over", defArgs s_Part_over, defBody s_Part_over, defScope s_Part_over, [], []⟩
def d_11 : He.DefD := ⟨("Part", some "below"), "below", "Part.below", defArgs s_Part_below, defBody s_Part_below, defScope s_Part_below, [], []⟩
def d_12 : He.DefD := ⟨("Part", some "shown"), "shown", "Part.shown", defArgs s_Part_shown, defBody s_Part_shown, defScope s_Part_shown, [], []⟩
def d_13 : He.DefD := ⟨("Meal", some "__init__"), "__init__", "Meal.__init__", defArgs s_Meal_init, defBody s_Meal_init, defScope s_Meal_init, [], []⟩
def d_14 : He.DefD := ⟨("Meal", some "bite"), "bite", "Meal.bite", defArgs s_Meal_bite, defBody s_Meal_bite, defScope s_Meal_bite, [], []⟩
def d_15 : He.DefD := ⟨("Meal", some "eaters"), "eaters", "Meal.eaters", defArgs s_Meal_eaters, defBody s_Meal_eaters, defScope s_Meal_eaters, [], []⟩
def d_16 : He.DefD := ⟨("Meal", some "eat"), "eat", "Meal.eat", defArgs s_Meal_eat, defBody s_Meal_eat, defScope s_Meal_eat, [], []⟩
def d_17 : He.DefD := ⟨("eaten", none), "eaten", "eaten", defArgs s_eaten, defBody s_eaten, defScope s_eaten, [], []⟩
def d_18 : He.DefD := ⟨("shares", none), "shares", "shares", defArgs s_shares, defBody s_shares, defScope s_shares, [], []⟩
def d_19 : He.DefD := ⟨("times", none), "times", "times", defArgs s_times, defBody s_times, defScope s_times, [], []⟩
def d_20 : He.DefD := ⟨("running", none), "running", "running", defArgs s_running, defBody s_running, defScope s_running, [], []⟩
def d_21 : He.DefD := ⟨("sums_down", none), "sums_down", "sums_down", defArgs s_sums_down, defBody s_sums_down, defScope s_sums_down, [], []⟩
def d_22 : He.DefD := ⟨("as_much", none), "as_much", "as_much", defArgs s_as_much, defBody s_as_much, defScope s_as_much, [], []⟩
def d_23 : He.DefD := ⟨("wanted_more", none), "wanted_more", "wanted_more", defArgs s_wanted_more, defBody s_wanted_more, defScope s_wanted_more, [], []⟩
def d_24 : He.DefD := ⟨("is_tight", none), "is_tight", "is_tight", defArgs s_is_tight, defBody s_is_tight, defScope s_is_tight, [], []⟩
def d_25 : He.DefD := ⟨("whole_of", none), "whole_of", "whole_of", defArgs s_whole_of, defBody s_whole_of, defScope s_whole_of, [], []⟩
def d_26 : He.DefD := ⟨("_law_flat", none), "_law_flat", "_law_flat", defArgs s_law_flat, defBody s_law_flat, defScope s_law_flat, [], []⟩
def d_27 : He.DefD := ⟨("_law_gcd", none), "_law_gcd", "_law_gcd", defArgs s_law_gcd, defBody s_law_gcd, defScope s_law_gcd, [], []⟩
def d_28 : He.DefD := ⟨("_law_small", none), "_law_small", "_law_small", defArgs s_law_small, defBody s_law_small, defScope s_law_small, [], []⟩
def d_29 : He.DefD := ⟨("_law_eaten", none), "_law_eaten", "_law_eaten", defArgs s_law_eaten, defBody s_law_eaten, defScope s_law_eaten, [], []⟩
def d_30 : He.DefD := ⟨("_law_dice", none), "_law_dice", "_law_dice", defArgs s_law_dice, defBody s_law_dice, defScope s_law_dice, [], []⟩
def d_31 : He.DefD := ⟨("_law_rounds", none), "_law_rounds", "_law_rounds", defArgs s_law_rounds, defBody s_law_rounds, defScope s_law_rounds, [], []⟩
def d_32 : He.DefD := ⟨("_law_roll", none), "_law_roll", "_law_roll", defArgs s_law_roll, defBody s_law_roll, defScope s_law_roll, [], []⟩
def d_33 : He.DefD := ⟨("_law_list", none), "_law_list", "_law_list", defArgs s_law_list, defBody s_law_list, defScope s_law_list, [], []⟩
def d_34 : He.DefD := ⟨("law", none), "law", "law", defArgs s_law, defBody s_law, defScope s_law, [], []⟩
def fn : List He.DefD := [d_0, d_1, d_2, d_3, d_4, d_5, d_6, d_7, d_8, d_9, d_10, d_11, d_12, d_13, d_14, d_15, d_16, d_17, d_18, d_19, d_20, d_21, d_22, d_23, d_24, d_25, d_26, d_27, d_28, d_29, d_30, d_31, d_32, d_33, d_34]
def fa : List He.Fa := [.free "tuple", .cls "Wish", .noat "Wish" "order", .free "enumerate", .noat "Wish" "ranks", .free "len", .meth "Wish" "rank", .meth "Wish" "better", .free "dict", .exc "BadWish", .glo "BadWish", .free "any", .exc "BadSize", .glo "BadSize", .glo "shared", .cls "Part", .noat "Part" "top", .noat "Part" "low", .mkr "Part", .glo "Part", .glo "check_list", .cls "Meal", .noat "Meal" "lists", .free "range", .noat "Meal" "left", .noat "Meal" "had", .noat "Meal" "clock", .noat "Meal" "steps", .meth "Part" "shown", .meth "Meal" "bite", .meth "Meal" "eaters", .meth "Part" "minus", .meth "Part" "over", .meth "Part" "below", .meth "Part" "plus", .mkr "Meal", .glo "Meal", .meth "Meal" "eat", .glo "eaten", .glo "running", .free "zip", .mkr "Wish", .glo "Wish", .meth "Wish" "ahead_of", .free "sorted", .free "set", .glo "wanted_more", .glo "reached_from", .glo "_law_gcd", .free "abs", .free "min", .glo "_law_small", .free "int", .glo "_law_dice", .free "list", .glo "_law_roll", .glo "_law_rounds", .glo "_law_list", .glo "shares", .glo "_law_eaten", .glo "times", .glo "sums_down", .glo "as_much", .glo "is_tight", .glo "_law_flat", .glo "whole_of", .glo "law"]
def exG : PySem.W.Frag → Bool := fun K => (PuX.bfunB "gcd" "math.gcd" K && (PuX.conB "NONE" [0, 1] K && true))
theorem ex0 {K : PySem.W.Frag} {mg : Str → Option Value} (T : PuX.TxE exG fa fn K mg) : PuX.bfunB "gcd" "math.gcd" K = true := (Bool.and_eq_true_iff.mp T.e).1
theorem ex1 {K : PySem.W.Frag} {mg : Str → Option Value} (T : PuX.TxE exG fa fn K mg) : PuX.conB "NONE" [0, 1] K = true := (Bool.and_eq_true_iff.mp (Bool.and_eq_true_iff.mp T.e).2).1
section
variable {P : Program} {w : World} {K : PySem.W.Frag} {mg : Str → Option Value} {base : Heap}
theorem ok_reached_from (T : PuX.TxE exG fa fn K mg) : OkF P w K mg base 1 (He.ga K "reached_from") ["ways", "start"] (spD (xcK K) [(dDict (dLst dInt)), dInt] (dDicF (dOpt dInt)) (fun x => m_reached_from x.1 x.2.1)) := by
  refine okF (T.c.def_ 0 (d := d_0) rfl) sc_reached_from (lenD rfl) (fun _ _ _ _ _ _ us hl => match us, hl with | [_, _], _ => rfl) ?_
  intro cdv A outer s H E hr
  refine ⟨_, (pss_cons (ps_set (i := 2) sc_reached_from.nd (by rfl) (by first | exact Or.inl rfl | exact Or.inr rfl) (pe_disp (pps_cons (pv 1) pe_non pps_nil) rfl rfl (fun z => nomatch z) (by decide))) (pss_cons (ps_set (i := 3) sc_reached_from.nd (by rfl) (by first | exact Or.inl rfl | exact Or.inr rfl) (pe_lst (pa_cons (pv 1) pa_nil))) (pss_cons (ps_while poB (pt_cmpR (Pu.op_neDK (K := K) hr.units) (pv 3) (pe_lst pa_nil) (nomark _)) (pss_cons (ps_set (i := 4) sc_reached_from.nd (by rfl) (by first | exact Or.inl rfl | exact Or.inr rfl) (Pu.pe_bmK (K := K) PySem.F.plainAttrs_list PySem.F.slot_list_pop PySem.F.type_list_pop mt_popAt (pv 3) (pa_cons pe_int pa_nil))) (pss_one (ps_for poB (by rfl) (Pu.pi_listK (K := K) (pe_dget (hu_of hr) (pv 0) (pv 4) (fun _ _ => rfl))) (pg_name (i := 5) sc_reached_from.nd (by rfl) (by first | exact Or.inl rfl | exact Or.inr rfl)) (pss_one (ps_if (pt_cmp (pc_dnotin (hu_of hr) (pv 5) (pv 2))) (pss_cons (ps_dput (hu_of hr) (pv 2) (pv 5) (pv 4) rfl) (pss_one (ps_expr (Pu.pe_bmK (K := K) PySem.F.plainAttrs_list PySem.F.slot_list_append PySem.F.type_list_append mt_append (pv 3) (pa_cons (pv 5) pa_nil))))) pss_nil)))))) (pss_one (ps_ret (pe_lockD (pv 2))))))), ?_⟩
  intro vs Q h
  refine run_D (Γe := []) (cs := [(dDict (dLst dInt)), dInt]) (n := 4) (T := ?T) rfl ?h ?f vs H Q h
  case h => exact (Pu.st_seq (Pu.st_setN (p := false) (.s (.s (.z))) (Pu.en_disp1 (c := (dOpt dInt)) (Pu.ev_var (.s (.z))) (Pu.ev_as (b := (dOpt dInt)) (fun _ => none) noneI (Pu.ev_c (c := dNon) (x := ()) fun _ => rfl)))) (Pu.st_seq (Pu.st_setN (p := false) (.s (.s (.s (.z)))) (Pu.en_lst (c := dInt) 1 (by decide) (Pu.ea_cons (Pu.ev_var (.s (.z))) Pu.ea_nil))) (Pu.st_seq (Pu.st_while (p := false) 100000 (Pu.et_frz (Γ' := [.da (dDict (dLst dInt)), .da dInt, .da (dDict (dOpt dInt)), .da (dLst dInt), .no, .no]) (.da (.da (.m Pu.fzDI (.m Pu.fzL (.no (.no .nil)))))) (Pu.et_test (Pu.ev_op (Pu.o_ne (Pu.dqLst Pu.dqInt) (by decide)) (Pu.ev_var (.s (.s (.s (.z))))) (Pu.freeze Pu.en_nil)))) (Pu.st_post (Bk.drop Bk.id (.s (.s (.s (.s (.z)))))) (Pu.st_seq (Pu.st_set (p := false) (.s (.s (.s (.s (.z))))) (Pu.ev_pop0 (k := .lo) (by decide) (.s (.s (.s (.z)))))) (Pu.st_for (p := false) (Γ' := [.da (dDict (dLst dInt)), .da dInt, .m .lo (mDicI (dOpt dInt)), .m .lo (mLst dInt), .da dInt, .da dInt]) (Pu.ei_list (Pu.ev_dget (Pu.ev_var .z) (Pu.ev_var (.s (.s (.s (.s (.z)))))))) (Pu.tg_name (.s (.s (.s (.s (.s (.z))))))) (Pu.st_post (Bk.drop Bk.id (.s (.s (.s (.s (.s (.z))))))) (Pu.st_if (p := false) (Pu.et_frz (Γ' := [.da (dDict (dLst dInt)), .da dInt, .da (dDict (dOpt dInt)), .da (dLst dInt), .da dInt, .da dInt]) (.da (.da (.m Pu.fzDI (.m Pu.fzL (.da (.da .nil)))))) (Pu.et_B (Pu.ev_dnotin (Pu.ev_var (.s (.s (.s (.s (.s (.z))))))) (Pu.ev_var (.s (.s (.z))))))) (Pu.st_seq (Pu.st_iput (p := false) (by decide) (.s (.s (.z))) (Pu.ev_as (a := dInt) (b := dOpt dInt) some someI (Pu.ev_var (.s (.s (.s (.s (.z))))))) (Pu.ev_var (.s (.s (.s (.s (.s (.z)))))))) (Pu.st_app (p := false) (by decide) (.s (.s (.s (.z)))) (Pu.ev_var (.s (.s (.s (.s (.s (.z))))))))) Pu.st_next)))))) (Pu.st_retDI (.s (.s (.z)))))))
  case f => intros; kernel_rfl
theorem ok_Wish_init (T : PuX.TxE exG fa fn K mg) : OkF P w K mg base 1 (He.ma K (He.ga K "Wish") "__init__") ["self", "order"] (spI (xcK K) (He.ga K "Wish") nm_Wish ((fs_Wish K).map Sl.da) [(dTup dInt)] (fun x => m_Wish_init x.1)) := by
  refine okF (T.c.def_ 1 (d := d_1) rfl) sc_Wish_init (lenI rfl) (fun _ _ _ _ _ _ us hl => match us, hl with | [_, _], _ => rfl) ?_
  intro cdv A outer s H E hr
  refine ⟨_, (pss_cons (Pu.ps_fldK (K := K) (pv 0) (Pu.pe_tupleNK (K := K) (by rfl) (T.free 0) (pv 1)) rfl) (pss_one (Pu.ps_fldK (K := K) (pv 0) (pe_dc (own := [("place", 2), ("one", 3)]) (by rfl) sc_Wish_init.nd (Pu.pi_enumTK (K := K) (by rfl) (T.free 3) (pa_cons (Pu.pe_fldK (K := K) (pv 0) (by rfl)) pa_nil)) (blkOk_by (N := ["self", "order", "place", "one"]) (sc := defScope s_Wish_init) (by decide +kernel)) (fun _ _ _ _ _ => (Pu.pg_tupK (K := K) (n := 2) (by rfl) (pgs_cons (pg_name (i := 2) sc_Wish_init.nd (by rfl) (by first | exact Or.inl rfl | exact Or.inr rfl)) (pgs_cons (pg_name (i := 3) sc_Wish_init.nd (by rfl) (by first | exact Or.inl rfl | exact Or.inr rfl)) pgs_nil)))) (fun _ _ _ _ _ => pts_nil) (fun _ _ _ _ _ => (pv 3)) (fun _ _ _ _ _ => (pv 2))) rfl))), ?_⟩
  intro vs Q h
  refine run_I (Γe := [.m .pa (mObj (He.ga K "Wish") nm_Wish ((fs_Wish K).map Sl.da)), .da (dTup dInt), .no, .no]) (cs := [(dTup dInt)]) (n := 2) (T := ?T) rfl .z ?h ?f vs H Q h
  case h => exact (Pu.st_seq (Pu.st_fldD (p := false) (k := .pa) (names := []) (Γf := []) (f := "order") (by decide) .z (T.cls 1) (T.noat 2) (by decide +kernel) (by decide) (Pu.ev_1 Pu.o_tupNT (Pu.ev_var (.s (.z))))) (Pu.st_fldD (p := false) (k := .pa) (names := ["order"]) (Γf := [.da (dTup dInt)]) (f := "ranks") (by decide) .z (T.cls 1) (T.noat 4) (by decide +kernel) (by decide) (Pu.en_dc (q := false) (vs := [2, 3]) (Γ1 := [.m .pa (mObj (He.ga K "Wish") ["order"] [.da (dTup dInt)]), .da (dTup dInt), .da dInt, .da dInt]) (by rfl) (by decide) (Bk.drop (Bk.drop Bk.id (.s (.s (.z)))) (.s (.s (.s (.z))))) (Pu.ei_enumT (Pu.ea_cons (Pu.ev_fldM .z .z rfl (T.cls 1) (T.noat 2)) Pu.ea_nil)) (Pu.tg_p2 (Pu.tg_name (.s (.s (.z)))) (Pu.tg_name (.s (.s (.s (.z)))))) (Pu.ev_var (.s (.s (.s (.z))))) (Pu.ev_var (.s (.s (.z)))))))
  case f => intros; kernel_rfl
theorem ok_Wish_rank (T : PuX.TxE exG fa fn K mg) : OkF P w K mg base 1 (He.ma K (He.ga K "Wish") "rank") ["self", "one"] (spD (xcK K) [(dI_Wish K), (dOpt dInt)] (dOpt dInt) (fun x => m_Wish_rank x.1 x.2.1)) := by
  refine okF (T.c.def_ 2 (d := d_2) rfl) sc_Wish_rank (lenD rfl) (fun _ _ _ _ _ _ us hl => match us, hl with | [_, _], _ => rfl) ?_
  intro cdv A outer s H E hr
  refine ⟨_, (pss_cons (ps_if (pt_cmpR op_isN (pv 1) pe_non (nomark _)) (pss_one (ps_ret (pe_callB (Pu.call_lenK (K := K)) (by rfl) (T.free 5) PySem.boot_len (pa_cons (Pu.pe_fldK (K := K) (pv 0) (by rfl)) pa_nil)))) pss_nil) (pss_one (ps_ret (pe_dg1 (hu_of hr) (Pu.pe_fldK (K := K) (pv 0) (by rfl)) (pv 1))))), ?_⟩
  intro vs Q h
  refine run_D (Γe := []) (cs := [(dI_Wish K), (dOpt dInt)]) (n := 0) (T := ?T) rfl ?h ?f vs H Q h
  case h => exact (Pu.st_seq (Pu.st_if (p := false) (Pu.et_test (Pu.ev_op Pu.o_isN (Pu.ev_var (.s (.z))) (Pu.ev_c (c := dNon) (x := ()) fun _ => rfl))) (Pu.st_ret (p := false) prD (Pu.ev_as (a := dInt) (b := dOpt dInt) some someI (Pu.ev_b1 Pu.o_lenT (Pu.ev_fld (names := nm_Wish) (fs := fs_Wish K) (T.cls 1) (T.noat 2) .z (Pu.ev_var .z))))) Pu.st_next) (Pu.st_ret (p := false) prD (Pu.ev_dget1 (Pu.ev_fld (names := nm_Wish) (fs := fs_Wish K) (T.cls 1) (T.noat 4) (.s (by decide +kernel) (.z)) (Pu.ev_var .z)) (Pu.ev_asP (a := dOpt dInt) (b := dInt) (fun x => x) Pu.o_someI (Pu.ev_var (.s (.z)))))))
  case f => intros; kernel_rfl
theorem ok_Wish_better (T : PuX.TxE exG fa fn K mg) : OkF P w K mg base 2 (He.ma K (He.ga K "Wish") "better") ["self", "one", "other"] (spD (xcK K) [(dI_Wish K), (dOpt dInt), (dOpt dInt)] dBl (fun x => m_Wish_better x.1 x.2.1 x.2.2.1)) := by
  refine okF (T.c.def_ 3 (d := d_3) rfl) sc_Wish_better (lenD rfl) (fun _ _ _ _ _ _ us hl => match us, hl with | [_, _, _], _ => rfl) ?_
  intro cdv A outer s H E hr
  refine ⟨_, (pss_cons (ps_set (i := 3) sc_Wish_better.nd (by rfl) (by first | exact Or.inl rfl | exact Or.inr rfl) (pmeth (ok_Wish_rank T) hr (by decide) (T.cls 1) (T.meth 6) pxB (pv 0) (pa_cons (pv 1) pa_nil))) (pss_cons (ps_set (i := 4) sc_Wish_better.nd (by rfl) (by first | exact Or.inl rfl | exact Or.inr rfl) (pmeth (ok_Wish_rank T) hr (by decide) (T.cls 1) (T.meth 6) pxB (pv 0) (pa_cons (pv 2) pa_nil))) (pss_cons (ps_if (pt_cmpR op_isN (pv 3) pe_non (nomark _)) (pss_one (ps_ret pe_bl)) pss_nil) (pss_one (ps_ret (pe_or (pe_cmpR op_isN (pv 4) pe_non (nomark _)) (pe_one (pe_cmpR op_lt (pv 3) (pv 4) (nomark _))))))))), ?_⟩
  intro vs Q h
  refine run_D (Γe := []) (cs := [(dI_Wish K), (dOpt dInt), (dOpt dInt)]) (n := 2) (T := ?T) rfl ?h ?f vs H Q h
  case h => exact (Pu.st_seq (Pu.st_set (p := false) (.s (.s (.s (.z)))) (Pu.ev_meth (nm := "rank") (names := nm_Wish) (by decide +kernel) (Pu.ev_var .z) (Pu.ea_cons (Pu.ev_var (.s (.z))) Pu.ea_nil))) (Pu.st_seq (Pu.st_set (p := false) (.s (.s (.s (.s (.z))))) (Pu.ev_meth (nm := "rank") (names := nm_Wish) (by decide +kernel) (Pu.ev_var .z) (Pu.ea_cons (Pu.ev_var (.s (.s (.z)))) Pu.ea_nil))) (Pu.st_seq (Pu.st_if (p := false) (Pu.et_test (Pu.ev_op Pu.o_isN (Pu.ev_var (.s (.s (.s (.z))))) (Pu.ev_c (c := dNon) (x := ()) fun _ => rfl))) (Pu.st_ret (p := false) prD (Pu.ev_c (c := dBl) (x := false) fun _ => rfl)) Pu.st_next) (Pu.st_ret (p := false) prD (Pu.ev_or (Pu.ev_op Pu.o_isN (Pu.ev_var (.s (.s (.s (.s (.z)))))) (Pu.ev_c (c := dNon) (x := ()) fun _ => rfl)) (Pu.ev_op Pu.o_cmp (Pu.ev_asP (a := dOpt dInt) (b := dInt) (fun x => x) Pu.o_someI (Pu.ev_var (.s (.s (.s (.z)))))) (Pu.ev_asP (a := dOpt dInt) (b := dInt) (fun x => x) Pu.o_someI (Pu.ev_var (.s (.s (.s (.s (.z)))))))))))))
  case f => intros; kernel_rfl
theorem ok_Wish_ahead_of (T : PuX.TxE exG fa fn K mg) : OkF P w K mg base 3 (He.ma K (He.ga K "Wish") "ahead_of") ["self", "one"] (spD (xcK K) [(dI_Wish K), (dOpt dInt)] (dTuN dInt) (fun x => m_Wish_ahead_of x.1 x.2.1)) := by
  refine okF (T.c.def_ 4 (d := d_4) rfl) sc_Wish_ahead_of (lenD rfl) (fun _ _ _ _ _ _ us hl => match us, hl with | [_, _], _ => rfl) ?_
  intro cdv A outer s H E hr
  refine ⟨_, (pss_one (ps_ret (Pu.pe_tupleNK (K := K) (by rfl) (T.free 0) (pe_lc (own := [("listed", 2)]) (by rfl) sc_Wish_ahead_of.nd (Pu.pi_tupK (K := K) (Pu.pe_fldK (K := K) (pv 0) (by rfl))) (blkOk_by (N := ["self", "one", "listed"]) (sc := defScope s_Wish_ahead_of) (by decide +kernel)) (fun _ _ _ _ _ => (pg_name (i := 2) sc_Wish_ahead_of.nd (by rfl) (by first | exact Or.inl rfl | exact Or.inr rfl))) (fun _ _ _ _ _ => pts_one (pt_val (pmeth (ok_Wish_better T) hr (by decide) (T.cls 1) (T.meth 7) passL (pv 0) (pa_cons (pv 2) (pa_cons (pv 1) pa_nil))))) (fun _ _ _ _ _ => (pv 2)))))), ?_⟩
  intro vs Q h
  refine run_D (Γe := []) (cs := [(dI_Wish K), (dOpt dInt)]) (n := 1) (T := ?T) rfl ?h ?f vs H Q h
  case h => exact (Pu.st_ret (p := false) prD (Pu.ev_1 Pu.o_tupNL (Pu.freeze (c := dInt) (Pu.en_lc (q := false) (vs := [2]) (Γ0 := [.da (dI_Wish K), .da (dOpt dInt), .no]) (Γ1 := [.da (dI_Wish K), .da (dOpt dInt), .da dInt]) Hd.id (by rfl) (by decide) (Bk.drop Bk.id (.s (.s (.z)))) (Pu.ei_tup (Pu.ev_fld (names := nm_Wish) (fs := fs_Wish K) (T.cls 1) (T.noat 2) .z (Pu.ev_var .z))) (Pu.tg_name (.s (.s (.z)))) (Pu.et_B (Pu.ev_meth (nm := "better") (names := nm_Wish) (by decide +kernel) (Pu.ev_var .z) (Pu.ea_cons (Pu.ev_as (a := dInt) (b := dOpt dInt) some someI (Pu.ev_var (.s (.s (.z))))) (Pu.ea_cons (Pu.ev_var (.s (.z))) Pu.ea_nil)))) (Pu.ev_var (.s (.s (.z))))))))
  case f => intros; kernel_rfl
theorem ok_check_list (T : PuX.TxE exG fa fn K mg) : OkF P w K mg base 1 (He.ga K "check_list") ["order", "many"] (spD (xcK K) [(dTup dInt), dInt] (dTup dInt) (fun x => m_check_list x.1 x.2.1)) := by
  refine okF (T.c.def_ 5 (d := d_5) rfl) sc_check_list (lenD rfl) (fun _ _ _ _ _ _ us hl => match us, hl with | [_, _], _ => rfl) ?_
  intro cdv A outer s H E hr
  refine ⟨_, (pss_cons (ps_set (i := 2) sc_check_list.nd (by rfl) (by first | exact Or.inl rfl | exact Or.inr rfl) (Pu.pe_tupleNK (K := K) (by rfl) (T.free 0) (pv 0))) (pss_cons (ps_if (pt_cmpR (Pu.op_neDK (K := K) hr.units) (pe_callB call_lenD (by rfl) (T.free 5) PySem.boot_len (pa_cons (pe_callTy (Pu.call_dictPK (K := K) (by rfl)) (by rfl) (T.free 8) (by decide +kernel) (pa_cons (pe_lc (own := [("one", 3)]) (by rfl) sc_check_list.nd (Pu.pi_tupK (K := K) (pv 2)) (blkOk_by (N := ["order", "many", "found", "one"]) (sc := defScope s_check_list) (by decide +kernel)) (fun _ _ _ _ _ => (pg_name (i := 3) sc_check_list.nd (by rfl) (by first | exact Or.inl rfl | exact Or.inr rfl))) (fun _ _ _ _ _ => pts_nil) (fun _ _ _ _ _ => (pe_tup (pa_cons (pv 3) (pa_cons pe_int pa_nil))))) pa_nil)) pa_nil)) (pe_callB (Pu.call_lenK (K := K)) (by rfl) (T.free 5) PySem.boot_len (pa_cons (pv 2) pa_nil)) (nomark _)) (pss_one (ps_raise rfl (takes_of rfl rfl rfl rfl) (let X := He.exc_ok (T.c.fact 9 (f := .exc "BadWish") rfl); pmk_own PySem.F.excBase_ValueError X.1 (T.glo 10) X.2.1 (raises_own X.2.2.1 X.2.2.2) rfl))) pss_nil) (pss_cons (ps_if (pt_val (pe_callB (Pu.cr_anyK (K := K) (by rfl)) (by rfl) (T.free 11) (by decide +kernel) (pa_cons (pe_lc (own := [("one", 3)]) (by rfl) sc_check_list.nd (Pu.pi_tupK (K := K) (pv 2)) (blkOk_by (N := ["order", "many", "found", "one"]) (sc := defScope s_check_list) (by decide +kernel)) (fun _ _ _ _ _ => (pg_name (i := 3) sc_check_list.nd (by rfl) (by first | exact Or.inl rfl | exact Or.inr rfl))) (fun _ _ _ _ _ => pts_nil) (fun _ _ _ _ _ => (pe_not (pe_chain op_le op_lt pe_int (pv 3) (pv 1))))) pa_nil))) (pss_one (ps_raise rfl (takes_of rfl rfl rfl rfl) (let X := He.exc_ok (T.c.fact 9 (f := .exc "BadWish") rfl); pmk_own PySem.F.excBase_ValueError X.1 (T.glo 10) X.2.1 (raises_own X.2.2.1 X.2.2.2) rfl))) pss_nil) (pss_one (ps_ret (pv 2)))))), ?_⟩
  intro vs Q h
  refine run_D (Γe := []) (cs := [(dTup dInt), dInt]) (n := 2) (T := ?T) rfl ?h ?f vs H Q h
  case h => exact (Pu.st_seq (Pu.st_set (p := false) (.s (.s (.z))) (Pu.ev_1 Pu.o_tupNT (Pu.ev_var .z))) (Pu.st_seq (Pu.st_if (p := false) (Pu.et_test (Pu.ev_op (Pu.o_ne Pu.dqInt (by decide)) (Pu.ev_b1 Pu.o_lenD (Pu.ev_b1 Pu.o_dict (Pu.freeze (c := (dP2 dInt dInt)) (Pu.en_lc (q := false) (vs := [3]) (Γ0 := [.da (dTup dInt), .da dInt, .da (dTup dInt), .no]) (Γ1 := [.da (dTup dInt), .da dInt, .da (dTup dInt), .da dInt]) Hd.id (by rfl) (by decide) (Bk.drop Bk.id (.s (.s (.s (.z))))) (Pu.ei_tup (Pu.ev_var (.s (.s (.z))))) (Pu.tg_name (.s (.s (.s (.z))))) Pu.pts_et (Pu.ev_p2 (Pu.ea_cons (Pu.ev_var (.s (.s (.s (.z))))) (Pu.ea_cons (Pu.ev_c (c := dInt) (x := 1) fun _ => rfl) Pu.ea_nil))))))) (Pu.ev_b1 Pu.o_lenT (Pu.ev_var (.s (.s (.z))))))) (Pu.st_raise (n := "BadWish")) Pu.st_next) (Pu.st_seq (Pu.st_if (p := false) (Pu.et_B (Pu.ev_b1 Pu.o_any (Pu.freeze (c := dBl) (Pu.en_lc (q := false) (vs := [3]) (Γ0 := [.da (dTup dInt), .da dInt, .da (dTup dInt), .no]) (Γ1 := [.da (dTup dInt), .da dInt, .da (dTup dInt), .da dInt]) Hd.id (by rfl) (by decide) (Bk.drop Bk.id (.s (.s (.s (.z))))) (Pu.ei_tup (Pu.ev_var (.s (.s (.z))))) (Pu.tg_name (.s (.s (.s (.z))))) Pu.pts_et (Pu.ev_not (Pu.ev_chain Pu.o_cmp Pu.o_cmp (Pu.ev_c (c := dInt) (x := 0) fun _ => rfl) (Pu.ev_var (.s (.s (.s (.z))))) (Pu.ev_var (.s (.z))))))))) (Pu.st_raise (n := "BadWish")) Pu.st_next) (Pu.st_ret (p := false) prD (Pu.ev_var (.s (.s (.z))))))))
  case f => intros; kernel_rfl
theorem ok_shared (T : PuX.TxE exG fa fn K mg) : OkF P w K mg base 1 (He.ga K "shared") ["one", "other"] (spD (xcK K) [dInt, dInt] dInt (fun x => m_shared x.1 x.2.1)) := by
  refine okF (T.c.def_ 6 (d := d_6) rfl) sc_shared (lenD rfl) (fun _ _ _ _ _ _ us hl => match us, hl with | [_, _], _ => rfl) ?_
  intro cdv A outer s H E hr
  refine ⟨_, (pss_one (ps_ret (L2.pe_callBfun L2.cr_gcd (by rfl) (PuX.Tx.bfun T.toTx (ex0 T)) (pa_cons (pv 0) (pa_cons (pv 1) pa_nil))))), ?_⟩
  intro vs Q h
  refine run_D (Γe := []) (cs := [dInt, dInt]) (n := 0) (T := ?T) rfl ?h ?f vs H Q h
  case h => exact (Pu.st_ret (p := false) prD (PuX.ev_gcd (Pu.ev_var .z) (Pu.ev_var (.s (.z)))))
  case f => intros; kernel_rfl
theorem ok_Part_init (T : PuX.TxE exG fa fn K mg) : OkF P w K mg base 2 (He.ma K (He.ga K "Part") "__init__") ["self", "top", "low"] (spI (xcK K) (He.ga K "Part") nm_Part ((fs_Part K).map Sl.da) [dInt, dInt] (fun x => m_Part_init x.1 x.2.1)) := by
  refine okF (T.c.def_ 7 (d := d_7) rfl) sc_Part_init (lenI rfl) (fun _ _ _ _ _ _ us hl => match us, hl with | [_, _, _], _ => rfl) ?_
  intro cdv A outer s H E hr
  refine ⟨_, (pss_cons (ps_if (pt_cmpR (Pu.op_eqDK (K := K) hr.units) (pv 2) pe_int (nomark _)) (pss_one (ps_raise rfl (takes_of rfl rfl rfl rfl) (let X := He.exc_ok (T.c.fact 12 (f := .exc "BadSize") rfl); pmk_own PySem.F.excBase_ValueError X.1 (T.glo 13) X.2.1 (raises_own X.2.2.1 X.2.2.2) rfl))) pss_nil) (pss_cons (ps_set (i := 3) sc_Part_init.nd (by rfl) (by first | exact Or.inl rfl | exact Or.inr rfl) (pe_ifExp (pt_cmpR op_gt (pv 2) pe_int (nomark _)) (pcall (ok_shared T) hr (by decide) (T.glo 14) pxB (pa_cons (pv 1) (pa_cons (pv 2) pa_nil))) (pe_un un_neg (pcall (ok_shared T) hr (by decide) (T.glo 14) pxB (pa_cons (pv 1) (pa_cons (pv 2) pa_nil)))))) (pss_cons (Pu.ps_fldK (K := K) (pv 0) (pe_op op_fdivN (pv 1) (pv 3)) rfl) (pss_one (Pu.ps_fldK (K := K) (pv 0) (pe_op op_fdivN (pv 2) (pv 3)) rfl))))), ?_⟩
  intro vs Q h
  refine run_I (Γe := [.m .pa (mObj (He.ga K "Part") nm_Part ((fs_Part K).map Sl.da)), .da dInt, .da dInt, .da dInt]) (cs := [dInt, dInt]) (n := 1) (T := ?T) rfl .z ?h ?f vs H Q h
  case h => exact (Pu.st_seq (Pu.st_if (p := false) (Pu.et_test (Pu.ev_op (Pu.o_eq Pu.dqInt (by decide)) (Pu.ev_var (.s (.s (.z)))) (Pu.ev_c (c := dInt) (x := 0) fun _ => rfl))) (Pu.st_raise (n := "BadSize")) Pu.st_next) (Pu.st_seq (Pu.st_set (p := false) (.s (.s (.s (.z)))) (Pu.ev_if (Pu.et_test (Pu.ev_op Pu.o_cmp (Pu.ev_var (.s (.s (.z)))) (Pu.ev_c (c := dInt) (x := 0) fun _ => rfl))) (Pu.ev_call (Pu.ea_cons (Pu.ev_var (.s (.z))) (Pu.ea_cons (Pu.ev_var (.s (.s (.z)))) Pu.ea_nil))) (Pu.ev_1 Pu.o_neg (Pu.ev_call (Pu.ea_cons (Pu.ev_var (.s (.z))) (Pu.ea_cons (Pu.ev_var (.s (.s (.z)))) Pu.ea_nil)))))) (Pu.st_seq (Pu.st_fldD (p := false) (k := .pa) (names := []) (Γf := []) (f := "top") (by decide) .z (T.cls 15) (T.noat 16) (by decide +kernel) (by decide) (Pu.ev_opP PuX.o_fdivN (Pu.ev_var (.s (.z))) (Pu.ev_var (.s (.s (.s (.z))))))) (Pu.st_fldD (p := false) (k := .pa) (names := ["top"]) (Γf := [.da dInt]) (f := "low") (by decide) .z (T.cls 15) (T.noat 17) (by decide +kernel) (by decide) (Pu.ev_opP PuX.o_fdivN (Pu.ev_var (.s (.s (.z)))) (Pu.ev_var (.s (.s (.s (.z))))))))))
  case f => intros; kernel_rfl
theorem ok_Part_plus (T : PuX.TxE exG fa fn K mg) : OkF P w K mg base 4 (He.ma K (He.ga K "Part") "plus") ["self", "other"] (spD (xcK K) [(dI_Part K), (dI_Part K)] (dI_Part K) (fun x => m_Part_plus x.1 x.2.1)) := by
  refine okF (T.c.def_ 8 (d := d_8) rfl) sc_Part_plus (lenD rfl) (fun _ _ _ _ _ _ us hl => match us, hl with | [_, _], _ => rfl) ?_
  intro cdv A outer s H E hr
  refine ⟨_, (pss_one (ps_ret (pmake (ok_Part_init T) hr (by decide) (T.mkr 18) (T.glo 19) pxB (pa_cons (pe_op op_add (pe_op op_mul (Pu.pe_fldK (K := K) (pv 0) (by rfl)) (Pu.pe_fldK (K := K) (pv 1) (by rfl))) (pe_op op_mul (Pu.pe_fldK (K := K) (pv 1) (by rfl)) (Pu.pe_fldK (K := K) (pv 0) (by rfl)))) (pa_cons (pe_op op_mul (Pu.pe_fldK (K := K) (pv 0) (by rfl)) (Pu.pe_fldK (K := K) (pv 1) (by rfl))) pa_nil))))), ?_⟩
  intro vs Q h
  refine run_D (Γe := []) (cs := [(dI_Part K), (dI_Part K)]) (n := 0) (T := ?T) rfl ?h ?f vs H Q h
  case h => exact (Pu.st_ret (p := false) prD (Pu.freezeO (fs := fs_Part K) (Pu.en_make (Pu.ea_cons (Pu.ev_op Pu.o_int (Pu.ev_opP Pu.o_mul (Pu.ev_fld (names := nm_Part) (fs := fs_Part K) (T.cls 15) (T.noat 16) .z (Pu.ev_var .z)) (Pu.ev_fld (names := nm_Part) (fs := fs_Part K) (T.cls 15) (T.noat 17) (.s (by decide +kernel) (.z)) (Pu.ev_var (.s (.z))))) (Pu.ev_opP Pu.o_mul (Pu.ev_fld (names := nm_Part) (fs := fs_Part K) (T.cls 15) (T.noat 16) .z (Pu.ev_var (.s (.z)))) (Pu.ev_fld (names := nm_Part) (fs := fs_Part K) (T.cls 15) (T.noat 17) (.s (by decide +kernel) (.z)) (Pu.ev_var .z)))) (Pu.ea_cons (Pu.ev_opP Pu.o_mul (Pu.ev_fld (names := nm_Part) (fs := fs_Part K) (T.cls 15) (T.noat 17) (.s (by decide +kernel) (.z)) (Pu.ev_var .z)) (Pu.ev_fld (names := nm_Part) (fs := fs_Part K) (T.cls 15) (T.noat 17) (.s (by decide +kernel) (.z)) (Pu.ev_var (.s (.z))))) Pu.ea_nil)))))
  case f => intros; kernel_rfl
theorem ok_Part_minus (T : PuX.TxE exG fa fn K mg) : OkF P w K mg base 4 (He.ma K (He.ga K "Part") "minus") ["self", "other"] (spD (xcK K) [(dI_Part K), (dI_Part K)] (dI_Part K) (fun x => m_Part_minus x.1 x.2.1)) := by
  refine okF (T.c.def_ 9 (d := d_9) rfl) sc_Part_minus (lenD rfl) (fun _ _ _ _ _ _ us hl => match us, hl with | [_, _], _ => rfl) ?_
  intro cdv A outer s H E hr
  refine ⟨_, (pss_one (ps_ret (pmake (ok_Part_init T) hr (by decide) (T.mkr 18) (T.glo 19) pxB (pa_cons (pe_op op_sub (pe_op op_mul (Pu.pe_fldK (K := K) (pv 0) (by rfl)) (Pu.pe_fldK (K := K) (pv 1) (by rfl))) (pe_op op_mul (Pu.pe_fldK (K := K) (pv 1) (by rfl)) (Pu.pe_fldK (K := K) (pv 0) (by rfl)))) (pa_cons (pe_op op_mul (Pu.pe_fldK (K := K) (pv 0) (by rfl)) (Pu.pe_fldK (K := K) (pv 1) (by rfl))) pa_nil))))), ?_⟩
  intro vs Q h
  refine run_D (Γe := []) (cs := [(dI_Part K), (dI_Part K)]) (n := 0) (T := ?T) rfl ?h ?f vs H Q h
  case h => exact (Pu.st_ret (p := false) prD (Pu.freezeO (fs := fs_Part K) (Pu.en_make (Pu.ea_cons (Pu.ev_op Pu.o_int (Pu.ev_opP Pu.o_mul (Pu.ev_fld (names := nm_Part) (fs := fs_Part K) (T.cls 15) (T.noat 16) .z (Pu.ev_var .z)) (Pu.ev_fld (names := nm_Part) (fs := fs_Part K) (T.cls 15) (T.noat 17) (.s (by decide +kernel) (.z)) (Pu.ev_var (.s (.z))))) (Pu.ev_opP Pu.o_mul (Pu.ev_fld (names := nm_Part) (fs := fs_Part K) (T.cls 15) (T.noat 16) .z (Pu.ev_var (.s (.z)))) (Pu.ev_fld (names := nm_Part) (fs := fs_Part K) (T.cls 15) (T.noat 17) (.s (by decide +kernel) (.z)) (Pu.ev_var .z)))) (Pu.ea_cons (Pu.ev_opP Pu.o_mul (Pu.ev_fld (names := nm_Part) (fs := fs_Part K) (T.cls 15) (T.noat 17) (.s (by decide +kernel) (.z)) (Pu.ev_var .z)) (Pu.ev_fld (names := nm_Part) (fs := fs_Part K) (T.cls 15) (T.noat 17) (.s (by decide +kernel) (.z)) (Pu.ev_var (.s (.z))))) Pu.ea_nil)))))
  case f => intros; kernel_rfl
theorem ok_Part_over (T : PuX.TxE exG fa fn K mg) : OkF P w K mg base 4 (He.ma K (He.ga K "Part") "over") ["self", "number"] (spD (xcK K) [(dI_Part K), dInt] (dI_Part K) (fun x => m_Part_over x.1 x.2.1)) := by
  refine okF (T.c.def_ 10 (d := d_10) rfl) sc_Part_over (lenD rfl) (fun _ _ _ _ _ _ us hl => match us, hl with | [_, _], _ => rfl) ?_
  intro cdv A outer s H E hr
  refine ⟨_, (pss_one (ps_ret (pmake (ok_Part_init T) hr (by decide) (T.mkr 18) (T.glo 19) pxB (pa_cons (Pu.pe_fldK (K := K) (pv 0) (by rfl)) (pa_cons (pe_op op_mul (Pu.pe_fldK (K := K) (pv 0) (by rfl)) (pv 1)) pa_nil))))), ?_⟩
  intro vs Q h
  refine run_D (Γe := []) (cs := [(dI_Part K), dInt]) (n := 0) (T := ?T) rfl ?h ?f vs H Q h
  case h => exact (Pu.st_ret (p := false) prD (Pu.freezeO (fs := fs_Part K) (Pu.en_make (Pu.ea_cons (Pu.ev_fld (names := nm_Part) (fs := fs_Part K) (T.cls 15) (T.noat 16) .z (Pu.ev_var .z)) (Pu.ea_cons (Pu.ev_opP Pu.o_mul (Pu.ev_fld (names := nm_Part) (fs := fs_Part K) (T.cls 15) (T.noat 17) (.s (by decide +kernel) (.z)) (Pu.ev_var .z)) (Pu.ev_var (.s (.z)))) Pu.ea_nil)))))
  case f => intros; kernel_rfl
theorem ok_Part_below (T : PuX.TxE exG fa fn K mg) : OkF P w K mg base 1 (He.ma K (He.ga K "Part") "below") ["self", "other"] (spD (xcK K) [(dI_Part K), (dI_Part K)] dBl (fun x => m_Part_below x.1 x.2.1)) := by
  refine okF (T.c.def_ 11 (d := d_11) rfl) sc_Part_below (lenD rfl) (fun _ _ _ _ _ _ us hl => match us, hl with | [_, _], _ => rfl) ?_
  intro cdv A outer s H E hr
  refine ⟨_, (pss_one (ps_ret (pe_cmpR op_lt (pe_op op_mul (Pu.pe_fldK (K := K) (pv 0) (by rfl)) (Pu.pe_fldK (K := K) (pv 1) (by rfl))) (pe_op op_mul (Pu.pe_fldK (K := K) (pv 1) (by rfl)) (Pu.pe_fldK (K := K) (pv 0) (by rfl))) (nomark _)))), ?_⟩
  intro vs Q h
  refine run_D (Γe := []) (cs := [(dI_Part K), (dI_Part K)]) (n := 0) (T := ?T) rfl ?h ?f vs H Q h
  case h => exact (Pu.st_ret (p := false) prD (Pu.ev_op Pu.o_cmp (Pu.ev_opP Pu.o_mul (Pu.ev_fld (names := nm_Part) (fs := fs_Part K) (T.cls 15) (T.noat 16) .z (Pu.ev_var .z)) (Pu.ev_fld (names := nm_Part) (fs := fs_Part K) (T.cls 15) (T.noat 17) (.s (by decide +kernel) (.z)) (Pu.ev_var (.s (.z))))) (Pu.ev_opP Pu.o_mul (Pu.ev_fld (names := nm_Part) (fs := fs_Part K) (T.cls 15) (T.noat 16) .z (Pu.ev_var (.s (.z)))) (Pu.ev_fld (names := nm_Part) (fs := fs_Part K) (T.cls 15) (T.noat 17) (.s (by decide +kernel) (.z)) (Pu.ev_var .z)))))
  case f => intros; kernel_rfl
theorem ok_Part_shown (T : PuX.TxE exG fa fn K mg) : OkF P w K mg base 1 (He.ma K (He.ga K "Part") "shown") ["self"] (spD (xcK K) [(dI_Part K)] (dP2 dInt dInt) (fun x => m_Part_shown x.1)) := by
  refine okF (T.c.def_ 12 (d := d_12) rfl) sc_Part_shown (lenD rfl) (fun _ _ _ _ _ _ us hl => match us, hl with | [_], _ => rfl) ?_
  intro cdv A outer s H E hr
  refine ⟨_, (pss_one (ps_ret (pe_tup (pa_cons (Pu.pe_fldK (K := K) (pv 0) (by rfl)) (pa_cons (Pu.pe_fldK (K := K) (pv 0) (by rfl)) pa_nil))))), ?_⟩
  intro vs Q h
  refine run_D (Γe := []) (cs := [(dI_Part K)]) (n := 0) (T := ?T) rfl ?h ?f vs H Q h
  case h => exact (Pu.st_ret (p := false) prD (Pu.ev_p2 (Pu.ea_cons (Pu.ev_fld (names := nm_Part) (fs := fs_Part K) (T.cls 15) (T.noat 16) .z (Pu.ev_var .z)) (Pu.ea_cons (Pu.ev_fld (names := nm_Part) (fs := fs_Part K) (T.cls 15) (T.noat 17) (.s (by decide +kernel) (.z)) (Pu.ev_var .z)) Pu.ea_nil))))
  case f => intros; kernel_rfl
theorem ok_Meal_init (T : PuX.TxE exG fa fn K mg) : OkF P w K mg base 4 (He.ma K (He.ga K "Meal") "__init__") ["self", "lists", "many"] (spI (xcK K) (He.ga K "Meal") nm_Meal (fs_Meal K) [(dLst (dTup dInt)), dInt] (fun x => m_Meal_init x.1 x.2.1)) := by
  refine okF (T.c.def_ 13 (d := d_13) rfl) sc_Meal_init (lenI rfl) (fun _ _ _ _ _ _ us hl => match us, hl with | [_, _, _], _ => rfl) ?_
  intro cdv A outer s H E hr
  refine ⟨_, (pss_cons (Pu.ps_fldK (K := K) (pv 0) (Pu.pe_tupleNK (K := K) (by rfl) (T.free 0) (pe_lc (own := [("order", 3)]) (by rfl) sc_Meal_init.nd (Pu.pi_listK (K := K) (pv 1)) (blkOk_by (N := ["self", "lists", "many", "order", "_"]) (sc := defScope s_Meal_init) (by decide +kernel)) (fun _ _ _ _ _ => (pg_name (i := 3) sc_Meal_init.nd (by rfl) (by first | exact Or.inl rfl | exact Or.inr rfl))) (fun _ _ _ _ _ => pts_nil) (fun _ _ _ _ _ => (pcall (ok_check_list T) hr (by decide) (T.glo 20) passL (pa_cons (pv 3) (pa_cons (pv 2) pa_nil)))))) rfl) (pss_cons (Pu.ps_fldK (K := K) (pv 0) (pe_lc (own := [("_", 4)]) (by rfl) sc_Meal_init.nd (pi_range1 (by rfl) (T.free 23) (pa_cons (pv 2) pa_nil)) (blkOk_by (N := ["self", "lists", "many", "order", "_"]) (sc := defScope s_Meal_init) (by decide +kernel)) (fun _ _ _ _ _ => (pg_name (i := 4) sc_Meal_init.nd (by rfl) (by first | exact Or.inl rfl | exact Or.inr rfl))) (fun _ _ _ _ _ => pts_nil) (fun _ _ _ _ _ => (pmake (ok_Part_init T) hr (by decide) (T.mkr 18) (T.glo 19) passL (pa_cons pe_int (pa_cons pe_int pa_nil))))) rfl) (pss_cons (Pu.ps_fldK (K := K) (pv 0) (pe_lc (own := [("_", 4)]) (by rfl) sc_Meal_init.nd (Pu.pi_tupK (K := K) (Pu.pe_fldK (K := K) (pv 0) (by rfl))) (blkOk_by (N := ["self", "lists", "many", "order", "_"]) (sc := defScope s_Meal_init) (by decide +kernel)) (fun _ _ _ _ _ => (pg_name (i := 4) sc_Meal_init.nd (by rfl) (by first | exact Or.inl rfl | exact Or.inr rfl))) (fun _ _ _ _ _ => pts_nil) (fun _ _ _ _ _ => (pe_lc (own := [("_", 4)]) (by rfl) sc_Meal_init.nd (pi_range1 (by rfl) (T.free 23) (pa_cons (pv 2) pa_nil)) (blkOk_by (N := ["self", "lists", "many", "order", "_"]) (by kernel_rfl)) (fun _ _ _ _ _ => (pg_name (i := 4) sc_Meal_init.nd (by rfl) (by first | exact Or.inl rfl | exact Or.inr rfl))) (fun _ _ _ _ _ => pts_nil) (fun _ _ _ _ _ => (pmake (ok_Part_init T) hr (by decide) (T.mkr 18) (T.glo 19) passL (pa_cons pe_int (pa_cons pe_int pa_nil))))))) rfl) (pss_cons (Pu.ps_fldK (K := K) (pv 0) (pmake (ok_Part_init T) hr (by decide) (T.mkr 18) (T.glo 19) pxB (pa_cons pe_int (pa_cons pe_int pa_nil))) rfl) (pss_one (Pu.ps_fldK (K := K) (pv 0) (pe_lst pa_nil) rfl)))))), ?_⟩
  intro vs Q h
  refine run_I (Γe := [.m .pa (mObj (He.ga K "Meal") nm_Meal (fs_Meal K)), .da (dLst (dTup dInt)), .da dInt, .no, .no]) (cs := [(dLst (dTup dInt)), dInt]) (n := 2) (T := ?T) rfl .z ?h ?f vs H Q h
  case h => exact (Pu.st_seq (Pu.st_fldD (p := false) (k := .pa) (names := []) (Γf := []) (f := "lists") (by decide) .z (T.cls 21) (T.noat 22) (by decide +kernel) (by decide) (Pu.ev_sb (Pu.sb_tun (c := (dTup dInt))) (Pu.ev_1 Pu.o_tupNL (Pu.freeze (c := (dTup dInt)) (Pu.en_lc (q := false) (vs := [3]) (Γ0 := [.m .pa (mObj (He.ga K "Meal") [] []), .da (dLst (dTup dInt)), .da dInt, .no, .no]) (Γ1 := [.m .pa (mObj (He.ga K "Meal") [] []), .da (dLst (dTup dInt)), .da dInt, .da (dTup dInt), .no]) Hd.id (by rfl) (by decide) (Bk.drop Bk.id (.s (.s (.s (.z))))) (Pu.ei_list (Pu.ev_var (.s (.z)))) (Pu.tg_name (.s (.s (.s (.z))))) Pu.pts_et (Pu.ev_call (Pu.ea_cons (Pu.ev_var (.s (.s (.s (.z))))) (Pu.ea_cons (Pu.ev_var (.s (.s (.z)))) Pu.ea_nil)))))))) (Pu.st_seq (Pu.st_fldM (p := false) (k := .pa) (names := ["lists"]) (Γf := [.da (dTup (dTup dInt))]) (f := "left") (by decide) .z (T.cls 21) (T.noat 24) (by decide +kernel) (by decide) (Pu.en_lc (q := false) (vs := [4]) (Γ0 := [.m .pa (mObj (He.ga K "Meal") ["lists"] [.da (dTup (dTup dInt))]), .da (dLst (dTup dInt)), .da dInt, .no, .no]) (Γ1 := [.m .pa (mObj (He.ga K "Meal") ["lists"] [.da (dTup (dTup dInt))]), .da (dLst (dTup dInt)), .da dInt, .no, .da dInt]) Hd.id (by rfl) (by decide) (Bk.drop Bk.id (.s (.s (.s (.s (.z)))))) (Pu.ei_rng1 (Pu.ea_cons (Pu.ev_var (.s (.s (.z)))) Pu.ea_nil)) (Pu.tg_name (.s (.s (.s (.s (.z)))))) Pu.pts_et (Pu.freezeO (fs := fs_Part K) (Pu.en_make (Pu.ea_cons (Pu.ev_c (c := dInt) (x := 1) fun _ => rfl) (Pu.ea_cons (Pu.ev_c (c := dInt) (x := 1) fun _ => rfl) Pu.ea_nil)))))) (Pu.st_seq (Pu.st_fldM (p := false) (k := .pa) (names := ["lists", "left"]) (Γf := [.da (dTup (dTup dInt)), .m .lo (mLst (dI_Part K))]) (f := "had") (by decide) .z (T.cls 21) (T.noat 25) (by decide +kernel) (by decide) (PuX.en_lcLL (c := (dI_Part K)) (vs := [4]) (Γ := [.m .pa (mObj (He.ga K "Meal") ["lists", "left"] [.da (dTup (dTup dInt)), .m .lo (mLst (dI_Part K))]), .da (dLst (dTup dInt)), .da dInt, .no, .no]) (Γ1 := [.m .pa (mObj (He.ga K "Meal") ["lists", "left"] [.da (dTup (dTup dInt)), .m .lo (mLst (dI_Part K))]), .da (dLst (dTup dInt)), .da dInt, .no, .da (dTup dInt)]) (by rfl) (by decide) (Pu.ei_tup (Pu.ev_fldM .z .z rfl (T.cls 21) (T.noat 22))) (Pu.tg_name (.s (.s (.s (.s (.z)))))) (Pu.en_lc (q := false) (vs := [4]) (Γ0 := [.no, .da (dLst (dTup dInt)), .da dInt, .no, .no]) (Γ1 := [.no, .da (dLst (dTup dInt)), .da dInt, .no, .da dInt]) (Hd.one Hd.id (.s (.s (.s (.s (.z)))))) (by rfl) (by decide) (Bk.drop Bk.id (.s (.s (.s (.s (.z)))))) (Pu.ei_rng1 (Pu.ea_cons (Pu.ev_var (.s (.s (.z)))) Pu.ea_nil)) (Pu.tg_name (.s (.s (.s (.s (.z)))))) Pu.pts_et (Pu.freezeO (fs := fs_Part K) (Pu.en_make (Pu.ea_cons (Pu.ev_c (c := dInt) (x := 0) fun _ => rfl) (Pu.ea_cons (Pu.ev_c (c := dInt) (x := 1) fun _ => rfl) Pu.ea_nil))))))) (Pu.st_seq (Pu.st_fldD (p := false) (k := .pa) (names := ["lists", "left", "had"]) (Γf := [.da (dTup (dTup dInt)), .m .lo (mLst (dI_Part K)), .m .lo (PuX.mLL (dI_Part K))]) (f := "clock") (by decide) .z (T.cls 21) (T.noat 26) (by decide +kernel) (by decide) (Pu.freezeO (fs := fs_Part K) (Pu.en_make (Pu.ea_cons (Pu.ev_c (c := dInt) (x := 0) fun _ => rfl) (Pu.ea_cons (Pu.ev_c (c := dInt) (x := 1) fun _ => rfl) Pu.ea_nil))))) (Pu.st_fldM (p := false) (k := .pa) (names := ["lists", "left", "had", "clock"]) (Γf := [.da (dTup (dTup dInt)), .m .lo (mLst (dI_Part K)), .m .lo (PuX.mLL (dI_Part K)), .da (dI_Part K)]) (f := "steps") (by decide) .z (T.cls 21) (T.noat 27) (by decide +kernel) (by decide) Pu.en_nil)))))
  case f => intros; kernel_rfl
theorem ok_Meal_bite (T : PuX.TxE exG fa fn K mg) : OkF P w K mg base 2 (He.ma K (He.ga K "Meal") "bite") ["self", "one"] (spD (xcK K) [(dF_Meal K), dInt] (dOpt dInt) (fun x => m_Meal_bite x.1 x.2.1)) := by
  refine okF (T.c.def_ 14 (d := d_14) rfl) sc_Meal_bite (lenD rfl) (fun _ _ _ _ _ _ us hl => match us, hl with | [_, _], _ => rfl) ?_
  intro cdv A outer s H E hr
  refine ⟨_, (pss_cons (ps_for poB (by rfl) (Pu.pi_tupK (K := K) (pe_ix (Pu.ix_tupK (K := K)) (Pu.pe_fldK (K := K) (pv 0) (by rfl)) (pv 1) (fun _ _ => rfl))) (pg_name (i := 2) sc_Meal_bite.nd (by rfl) (by first | exact Or.inl rfl | exact Or.inr rfl)) (pss_one (ps_if (pt_cmpR (Pu.op_neDK (K := K) hr.units) (pmeth0 (ok_Part_shown T) hr (by decide) (T.cls 15) (T.meth 28) pxB (pe_ix (Pu.ix_listK (K := K)) (Pu.pe_fldK (K := K) (pv 0) (by rfl)) (pv 2) (fun _ _ => rfl))) (PuX.pe_con (by rfl) (PuX.Tx.con T.toTx (ex1 T))) (nomark _)) (pss_one (ps_ret (pv 2))) pss_nil))) (pss_one (ps_ret pe_non))), ?_⟩
  intro vs Q h
  refine run_D (Γe := []) (cs := [(dF_Meal K), dInt]) (n := 1) (T := ?T) rfl ?h ?f vs H Q h
  case h => exact (Pu.st_seq (Pu.st_for (p := false) (Γ' := [.da (dF_Meal K), .da dInt, .da dInt]) (Pu.ei_tup (Pu.ev_opP Pu.o_ixT (Pu.ev_fld (names := nm_Meal) (fs := fsF_Meal K) (T.cls 21) (T.noat 22) .z (Pu.ev_var .z)) (Pu.ev_var (.s (.z))))) (Pu.tg_name (.s (.s (.z)))) (Pu.st_post (Bk.drop Bk.id (.s (.s (.z)))) (Pu.st_if (p := false) (Pu.et_test (Pu.ev_op (Pu.o_ne PuX.dqP2K (by decide)) (Pu.ev_sb PuX.sb_p2K (Pu.ev_meth (nm := "shown") (names := nm_Part) (by decide +kernel) (Pu.ev_opP Pu.o_ixL (Pu.ev_fld (names := nm_Meal) (fs := fsF_Meal K) (T.cls 21) (T.noat 24) (.s (by decide +kernel) (.z)) (Pu.ev_var .z)) (Pu.ev_var (.s (.s (.z))))) Pu.ea_nil)) (PuX.ev_con (ex1 T)))) (Pu.st_ret (p := false) prD (Pu.ev_as (a := dInt) (b := dOpt dInt) some someI (Pu.ev_var (.s (.s (.z)))))) Pu.st_next))) (Pu.st_ret (p := false) prD (Pu.ev_as (b := (dOpt dInt)) (fun _ => none) noneI (Pu.ev_c (c := dNon) (x := ()) fun _ => rfl))))
  case f => intros; kernel_rfl
theorem ok_Meal_eaters (T : PuX.TxE exG fa fn K mg) : OkF P w K mg base 3 (He.ma K (He.ga K "Meal") "eaters") ["self"] (spC (xcK K) (mO_Meal K) [] (dDicF (dTuN dInt)) (fun y x => m_Meal_eaters y )) := by
  refine okF (T.c.def_ 15 (d := d_15) rfl) sc_Meal_eaters (lenC rfl) (fun _ _ _ _ _ _ us hl => match us, hl with | [_], _ => rfl) ?_
  intro cdv A outer s H E hr
  refine ⟨_, (pss_cons (ps_set (i := 1) sc_Meal_eaters.nd (by rfl) (by first | exact Or.inl rfl | exact Or.inr rfl) (pe_lc (own := [("one", 2)]) (by rfl) sc_Meal_eaters.nd (pi_range1 (by rfl) (T.free 23) (pa_cons (pe_callB (Pu.call_lenK (K := K)) (by rfl) (T.free 5) PySem.boot_len (pa_cons (Pu.pe_fldK (K := K) (pv 0) (by rfl)) pa_nil)) pa_nil)) (blkOk_by (N := ["self", "bites", "one", "thing", "bite"]) (sc := defScope s_Meal_eaters) (by decide +kernel)) (fun _ _ _ _ _ => (pg_name (i := 2) sc_Meal_eaters.nd (by rfl) (by first | exact Or.inl rfl | exact Or.inr rfl))) (fun _ _ _ _ _ => pts_nil) (fun _ _ _ _ _ => (pmeth (ok_Meal_bite T) hr (by decide) (T.cls 21) (T.meth 29) passL (pv 0) (pa_cons (pv 2) pa_nil))))) (pss_one (ps_ret (pe_lockD (pe_dc (own := [("thing", 3)]) (by rfl) sc_Meal_eaters.nd (Pu.pi_listK (K := K) (pv 1)) (blkOk_by (N := ["self", "bites", "one", "thing", "bite"]) (sc := defScope s_Meal_eaters) (by decide +kernel)) (fun _ _ _ _ _ => (pg_name (i := 3) sc_Meal_eaters.nd (by rfl) (by first | exact Or.inl rfl | exact Or.inr rfl))) (fun _ _ _ _ _ => pts_one (pt_cmpR op_notN (pv 3) pe_non (nomark _))) (fun _ _ _ _ _ => (pv 3)) (fun _ _ _ _ _ => (Pu.pe_tupleNK (K := K) (by rfl) (T.free 0) (pe_lc (own := [("one", 2), ("bite", 4)]) (by rfl) sc_Meal_eaters.nd (Pu.pi_enumK (K := K) (by rfl) (T.free 3) (pa_cons (pv 1) pa_nil)) (blkOk_by (N := ["self", "bites", "one", "thing", "bite"]) (by kernel_rfl)) (fun _ _ _ _ _ => (Pu.pg_tupK (K := K) (n := 2) (by rfl) (pgs_cons (pg_name (i := 2) sc_Meal_eaters.nd (by rfl) (by first | exact Or.inl rfl | exact Or.inr rfl)) (pgs_cons (pg_name (i := 4) sc_Meal_eaters.nd (by rfl) (by first | exact Or.inl rfl | exact Or.inr rfl)) pgs_nil)))) (fun _ _ _ _ _ => pts_one (pt_cmpR (Pu.op_eqDK (K := K) hr.units) (pv 4) (pv 3) (nomark _))) (fun _ _ _ _ _ => (pv 2)))))))))), ?_⟩
  intro vs Q h
  refine run_C (Γe := []) (cs := []) (n := 4) (T := ?T) rfl ?h ?f vs H Q h
  case h => exact (Pu.st_seq (Pu.st_set (p := false) (.s (.z)) (Pu.freeze (c := (dOpt dInt)) (Pu.en_lc (q := false) (vs := [2]) (Γ0 := [.m .co (mO_Meal K), .no, .no, .no, .no]) (Γ1 := [.m .co (mO_Meal K), .no, .da dInt, .no, .no]) Hd.id (by rfl) (by decide) (Bk.drop Bk.id (.s (.s (.z)))) (Pu.ei_rng1 (Pu.ea_cons (Pu.ev_b1 Pu.o_lenT (Pu.ev_fldM .z .z rfl (T.cls 21) (T.noat 22))) Pu.ea_nil)) (Pu.tg_name (.s (.s (.z)))) Pu.pts_et (Pu.ev_frz (Γ' := [.da (dF_Meal K), .no, .da dInt, .no, .no]) (.m (Pu.fzO (fs := fsF_Meal K) (.da (.m Pu.fzL (.m PuX.fzLL (.da (.m Pu.fzL .nil)))))) (.no (.da (.no (.no .nil))))) (Pu.und_opt Pu.und_int) (Pu.ev_meth (nm := "bite") (names := nm_Meal) (by decide +kernel) (Pu.ev_var .z) (Pu.ea_cons (Pu.ev_var (.s (.s (.z)))) Pu.ea_nil)))))) (Pu.st_ret (p := false) prD (Pu.ev_lockD (PuU.en_dcTN (q := false) (vs := [3]) (Γ1 := [.m .co (mO_Meal K), .da (dLst (dOpt dInt)), .no, .da (dOpt dInt), .no]) (by rfl) (by decide) (Bk.drop Bk.id (.s (.s (.s (.z))))) (Pu.ei_list (Pu.ev_var (.s (.z)))) (Pu.tg_name (.s (.s (.s (.z))))) (Pu.et_test (Pu.ev_op Pu.o_notN (Pu.ev_var (.s (.s (.s (.z))))) (Pu.ev_c (c := dNon) (x := ()) fun _ => rfl))) (Pu.ev_asP (a := dOpt dInt) (b := dInt) (fun x => x) Pu.o_someI (Pu.ev_var (.s (.s (.s (.z)))))) (Pu.ev_1 Pu.o_tupNL (Pu.freeze (c := dInt) (Pu.en_lc (q := false) (vs := [2, 4]) (Γ0 := [.m .co (mO_Meal K), .da (dLst (dOpt dInt)), .no, .da (dOpt dInt), .no]) (Γ1 := [.m .co (mO_Meal K), .da (dLst (dOpt dInt)), .da dInt, .da (dOpt dInt), .da (dOpt dInt)]) Hd.id (by rfl) (by decide) (Bk.drop (Bk.drop Bk.id (.s (.s (.z)))) (.s (.s (.s (.s (.z)))))) (Pu.ei_enumL (Pu.ea_cons (Pu.ev_var (.s (.z))) Pu.ea_nil)) (Pu.tg_p2 (Pu.tg_name (.s (.s (.z)))) (Pu.tg_name (.s (.s (.s (.s (.z))))))) (Pu.et_test (Pu.ev_op (Pu.o_eq Pu.dqOI (by decide)) (Pu.ev_var (.s (.s (.s (.s (.z)))))) (Pu.ev_var (.s (.s (.s (.z))))))) (Pu.ev_var (.s (.s (.z)))))))))))
  case f => intros; kernel_rfl
theorem ok_Meal_eat (T : PuX.TxE exG fa fn K mg) : OkF P w K mg base 5 (He.ma K (He.ga K "Meal") "eat") ["self"] (spM (xcK K) (mO_Meal K) [] dBl (fun y x => m_Meal_eat y )) := by
  refine okF (T.c.def_ 16 (d := d_16) rfl) sc_Meal_eat (lenM rfl) (fun _ _ _ _ _ _ us hl => match us, hl with | [_], _ => rfl) ?_
  intro cdv A outer s H E hr
  refine ⟨_, (pss_cons (ps_set (i := 1) sc_Meal_eat.nd (by rfl) (by first | exact Or.inl rfl | exact Or.inr rfl) (pmeth0 (ok_Meal_eaters T) hr (by decide) (T.cls 21) (T.meth 30) pxB (pv 0))) (pss_cons (ps_set (i := 2) sc_Meal_eat.nd (by rfl) (by first | exact Or.inl rfl | exact Or.inr rfl) (pmeth (ok_Part_minus T) hr (by decide) (T.cls 15) (T.meth 31) pxB (pmake (ok_Part_init T) hr (by decide) (T.mkr 18) (T.glo 19) pxB (pa_cons pe_int (pa_cons pe_int pa_nil))) (pa_cons (Pu.pe_fldK (K := K) (pv 0) (by rfl)) pa_nil))) (pss_cons (ps_if (PW.pt (pw_or (pt_cmpR (PuX.op_eqD0 (Nat.lt_of_succ_lt (hu_of hr))) (pv 1) pe_dnewK (nomark _)) (pw_or1 (pt_cmpR (Pu.op_eqDK (K := K) hr.units) (pmeth0 (ok_Part_shown T) hr (by decide) (T.cls 15) (T.meth 28) pxB (pv 2)) (PuX.pe_con (by rfl) (PuX.Tx.con T.toTx (ex1 T))) (nomark _))))) (pss_one (ps_ret pe_bl)) pss_nil) (pss_cons (ps_for poB (by rfl) (pi_items (pv 1) (by rfl) (by rfl)) (Pu.pg_tupK (K := K) (n := 2) (by rfl) (pgs_cons (pg_name (i := 3) sc_Meal_eat.nd (by rfl) (by first | exact Or.inl rfl | exact Or.inr rfl)) (pgs_cons (pg_name (i := 4) sc_Meal_eat.nd (by rfl) (by first | exact Or.inl rfl | exact Or.inr rfl)) pgs_nil))) (pss_cons (ps_set (i := 5) sc_Meal_eat.nd (by rfl) (by first | exact Or.inl rfl | exact Or.inr rfl) (pmeth (ok_Part_over T) hr (by decide) (T.cls 15) (T.meth 32) pxB (pe_ix (Pu.ix_listK (K := K)) (Pu.pe_fldK (K := K) (pv 0) (by rfl)) (pv 3) (fun _ _ => rfl)) (pa_cons (pe_callB (Pu.call_lenK (K := K)) (by rfl) (T.free 5) PySem.boot_len (pa_cons (pv 4) pa_nil)) pa_nil))) (pss_one (ps_set (i := 2) sc_Meal_eat.nd (by rfl) (by first | exact Or.inl rfl | exact Or.inr rfl) (pe_ifExp (pt_val (pmeth (ok_Part_below T) hr (by decide) (T.cls 15) (T.meth 33) pxB (pv 5) (pa_cons (pv 2) pa_nil))) (pv 5) (pv 2)))))) (pss_cons (ps_for poB (by rfl) (pi_items (pv 1) (by rfl) (by rfl)) (Pu.pg_tupK (K := K) (n := 2) (by rfl) (pgs_cons (pg_name (i := 3) sc_Meal_eat.nd (by rfl) (by first | exact Or.inl rfl | exact Or.inr rfl)) (pgs_cons (pg_name (i := 4) sc_Meal_eat.nd (by rfl) (by first | exact Or.inl rfl | exact Or.inr rfl)) pgs_nil))) (pss_one (ps_for poB (by rfl) (Pu.pi_tupK (K := K) (pv 4)) (pg_name (i := 6) sc_Meal_eat.nd (by rfl) (by first | exact Or.inl rfl | exact Or.inr rfl)) (pss_cons (ps_asg (pmeth (ok_Part_minus T) hr (by decide) (T.cls 15) (T.meth 31) pxB (pe_ix (Pu.ix_listK (K := K)) (Pu.pe_fldK (K := K) (pv 0) (by rfl)) (pv 3) (fun _ _ => rfl)) (pa_cons (pv 2) pa_nil)) (pg_sub (Pu.pe_fldK (K := K) (pv 0) (by rfl)) (pv 3) set_list)) (pss_one (ps_asg (pmeth (ok_Part_plus T) hr (by decide) (T.cls 15) (T.meth 34) pxB (pe_ix (Pu.ix_listK (K := K)) (pe_ix (Pu.ix_listK (K := K)) (Pu.pe_fldK (K := K) (pv 0) (by rfl)) (pv 6) (fun _ _ => rfl)) (pv 3) (fun _ _ => rfl)) (pa_cons (pv 2) pa_nil)) (pg_sub (pe_ix (Pu.ix_listK (K := K)) (Pu.pe_fldK (K := K) (pv 0) (by rfl)) (pv 6) (fun _ _ => rfl)) (pv 3) set_list))))))) (pss_cons (Pu.ps_fldK (K := K) (pv 0) (pmeth (ok_Part_plus T) hr (by decide) (T.cls 15) (T.meth 34) pxB (Pu.pe_fldK (K := K) (pv 0) (by rfl)) (pa_cons (pv 2) pa_nil)) rfl) (pss_cons (ps_expr (Pu.pe_bmK (K := K) PySem.F.plainAttrs_list PySem.F.slot_list_append PySem.F.type_list_append mt_append (Pu.pe_fldK (K := K) (pv 0) (by rfl)) (pa_cons (pmeth0 (ok_Part_shown T) hr (by decide) (T.cls 15) (T.meth 28) pxB (Pu.pe_fldK (K := K) (pv 0) (by rfl))) pa_nil))) (pss_one (ps_ret pe_bl))))))))), ?_⟩
  intro vs Q h
  refine run_M (Γe := []) (cs := []) (n := 6) (T := ?T) rfl ?h ?f vs H Q h
  case h => exact (Pu.st_seq (Pu.st_set (p := false) (.s (.z)) (PuX.ev_methC (nm := "eaters") (names := nm_Meal) (by decide +kernel) .z Pu.ea_nil)) (Pu.st_seq (Pu.st_set (p := false) (.s (.s (.z))) (Pu.ev_meth (nm := "minus") (names := nm_Part) (by decide +kernel) (Pu.freezeO (fs := fs_Part K) (Pu.en_make (Pu.ea_cons (Pu.ev_c (c := dInt) (x := 1) fun _ => rfl) (Pu.ea_cons (Pu.ev_c (c := dInt) (x := 1) fun _ => rfl) Pu.ea_nil)))) (Pu.ea_cons (Pu.ev_fldM .z (.s (.s (.s (.z)))) rfl (T.cls 21) (T.noat 26)) Pu.ea_nil))) (Pu.st_seq (Pu.st_if (p := false) (Pu.et_or (Pu.et_test (PuX.ev_eqD0 (Pu.ev_var (.s (.z))))) (Pu.et_test (Pu.ev_op (Pu.o_eq PuX.dqP2K (by decide)) (Pu.ev_sb PuX.sb_p2K (Pu.ev_meth (nm := "shown") (names := nm_Part) (by decide +kernel) (Pu.ev_var (.s (.s (.z)))) Pu.ea_nil)) (PuX.ev_con (ex1 T))))) (Pu.st_ret (p := false) (prM .z) (Pu.ev_c (c := dBl) (x := false) fun _ => rfl)) Pu.st_next) (Pu.st_seq (Pu.st_for (p := false) (Γ' := [.m .pa (mO_Meal K), .da (dDicF (dTuN dInt)), .da (dI_Part K), .da dInt, .da (dTuN dInt), .no, .no]) (PuX.ei_itemsF (Pu.ev_var (.s (.z)))) (Pu.tg_p2 (Pu.tg_name (.s (.s (.s (.z))))) (Pu.tg_name (.s (.s (.s (.s (.z))))))) (Pu.st_post (Bk.drop (Bk.drop (Bk.drop Bk.id (.s (.s (.s (.s (.s (.z))))))) (.s (.s (.s (.s (.z)))))) (.s (.s (.s (.z))))) (Pu.st_seq (Pu.st_set (p := false) (.s (.s (.s (.s (.s (.z)))))) (Pu.ev_meth (nm := "over") (names := nm_Part) (by decide +kernel) (PuX.ev_ixF (k := .pa) (names := nm_Meal) (by decide) .z (.s (.z)) rfl (T.cls 21) (T.noat 24) (Pu.ev_var (.s (.s (.s (.z)))))) (Pu.ea_cons (Pu.ev_b1 Pu.o_lenT (Pu.ev_sb (Pu.sb_tun (c := dInt)) (Pu.ev_var (.s (.s (.s (.s (.z)))))))) Pu.ea_nil))) (Pu.st_set (p := false) (.s (.s (.z))) (Pu.ev_if (Pu.et_B (Pu.ev_meth (nm := "below") (names := nm_Part) (by decide +kernel) (Pu.ev_var (.s (.s (.s (.s (.s (.z))))))) (Pu.ea_cons (Pu.ev_var (.s (.s (.z)))) Pu.ea_nil))) (Pu.ev_var (.s (.s (.s (.s (.s (.z))))))) (Pu.ev_var (.s (.s (.z))))))))) (Pu.st_seq (Pu.st_for (p := false) (Γ' := [.m .pa (mO_Meal K), .da (dDicF (dTuN dInt)), .da (dI_Part K), .da dInt, .da (dTuN dInt), .no, .no]) (PuX.ei_itemsF (Pu.ev_var (.s (.z)))) (Pu.tg_p2 (Pu.tg_name (.s (.s (.s (.z))))) (Pu.tg_name (.s (.s (.s (.s (.z))))))) (Pu.st_post (Bk.drop (Bk.drop Bk.id (.s (.s (.s (.s (.z)))))) (.s (.s (.s (.z))))) (Pu.st_for (p := false) (Γ' := [.m .pa (mO_Meal K), .da (dDicF (dTuN dInt)), .da (dI_Part K), .da dInt, .da (dTuN dInt), .no, .da dInt]) (Pu.ei_tup (Pu.ev_sb (Pu.sb_tun (c := dInt)) (Pu.ev_var (.s (.s (.s (.s (.z)))))))) (Pu.tg_name (.s (.s (.s (.s (.s (.s (.z)))))))) (Pu.st_post (Bk.drop Bk.id (.s (.s (.s (.s (.s (.s (.z)))))))) (Pu.st_seq (Pu.st_setIxF (p := false) (by decide) .z (.s (.z)) rfl (T.cls 21) (T.noat 24) (Pu.ev_meth (nm := "minus") (names := nm_Part) (by decide +kernel) (PuX.ev_ixF (k := .pa) (names := nm_Meal) (by decide) .z (.s (.z)) rfl (T.cls 21) (T.noat 24) (Pu.ev_var (.s (.s (.s (.z)))))) (Pu.ea_cons (Pu.ev_var (.s (.s (.z)))) Pu.ea_nil)) (Pu.ev_var (.s (.s (.s (.z)))))) (PuX.st_setLLF (p := false) (k := .pa) (by decide) .z (.s (.s (.z))) rfl (T.cls 21) (T.noat 25) (Pu.ev_meth (nm := "plus") (names := nm_Part) (by decide +kernel) (PuX.ev_ixLLF (k := .pa) (names := nm_Meal) (by decide) .z (.s (.s (.z))) rfl (T.cls 21) (T.noat 25) (Pu.ev_var (.s (.s (.s (.s (.s (.s (.z)))))))) (Pu.ev_var (.s (.s (.s (.z)))))) (Pu.ea_cons (Pu.ev_var (.s (.s (.z)))) Pu.ea_nil)) (Pu.ev_var (.s (.s (.s (.s (.s (.s (.z)))))))) (Pu.ev_var (.s (.s (.s (.z))))))))))) (Pu.st_seq (PuX.st_setDF (p := false) (k := .pa) (by decide) .z (.s (.s (.s (.z)))) rfl (T.cls 21) (T.noat 26) (by decide) (Pu.ev_meth (nm := "plus") (names := nm_Part) (by decide +kernel) (Pu.ev_fldM .z (.s (.s (.s (.z)))) rfl (T.cls 21) (T.noat 26)) (Pu.ea_cons (Pu.ev_var (.s (.s (.z)))) Pu.ea_nil))) (Pu.st_seq (Pu.st_appF (by decide) .z (.s (.s (.s (.s (.z))))) rfl (T.cls 21) (T.noat 27) (Pu.ev_meth (nm := "shown") (names := nm_Part) (by decide +kernel) (Pu.ev_fldM .z (.s (.s (.s (.z)))) rfl (T.cls 21) (T.noat 26)) Pu.ea_nil)) (Pu.st_ret (p := false) (prM .z) (Pu.ev_c (c := dBl) (x := true) fun _ => rfl)))))))))
  case f => intros; kernel_rfl
theorem ok_eaten (T : PuX.TxE exG fa fn K mg) : OkF P w K mg base 6 (He.ga K "eaten") ["lists", "many"] (spD (xcK K) [(dLst (dTup dInt)), dInt] (dF_Meal K) (fun x => m_eaten x.1 x.2.1)) := by
  refine okF (T.c.def_ 17 (d := d_17) rfl) sc_eaten (lenD rfl) (fun _ _ _ _ _ _ us hl => match us, hl with | [_, _], _ => rfl) ?_
  intro cdv A outer s H E hr
  refine ⟨_, (pss_cons (ps_set (i := 2) sc_eaten.nd (by rfl) (by first | exact Or.inl rfl | exact Or.inr rfl) (pmake (ok_Meal_init T) hr (by decide) (T.mkr 35) (T.glo 36) pxB (pa_cons (pv 0) (pa_cons (pv 1) pa_nil)))) (pss_cons (ps_while poB (pt_val (pmeth0 (ok_Meal_eat T) hr (by decide) (T.cls 21) (T.meth 37) pxB (pv 2))) (pss_one ps_pass)) (pss_one (ps_ret (pv 2))))), ?_⟩
  intro vs Q h
  refine run_D (Γe := []) (cs := [(dLst (dTup dInt)), dInt]) (n := 1) (T := ?T) rfl ?h ?f vs H Q h
  case h => exact (Pu.st_seq (Pu.st_setN (p := false) (.s (.s (.z))) (Pu.en_make (Pu.ea_cons (Pu.ev_var .z) (Pu.ea_cons (Pu.ev_var (.s (.z))) Pu.ea_nil)))) (Pu.st_seq (Pu.st_while (p := false) 100000 (Pu.et_B (Pu.ev_methM (nm := "eat") (names := nm_Meal) (k := .lo) (by decide) (by decide +kernel) (.s (.s (.z))) Pu.ea_nil)) Pu.st_next) (PuX.st_retZ (Pu.fzO (fs := fsF_Meal K) (.da (.m Pu.fzL (.m PuX.fzLL (.da (.m Pu.fzL .nil)))))) (.s (.s (.z))))))
  case f => intros; kernel_rfl
theorem ok_shares (T : PuX.TxE exG fa fn K mg) : OkF P w K mg base 7 (He.ga K "shares") ["lists", "many"] (spD (xcK K) [(dLst (dTup dInt)), dInt] (dTuN (dTuN (dP2 dInt dInt))) (fun x => m_shares x.1 x.2.1)) := by
  refine okF (T.c.def_ 18 (d := d_18) rfl) sc_shares (lenD rfl) (fun _ _ _ _ _ _ us hl => match us, hl with | [_, _], _ => rfl) ?_
  intro cdv A outer s H E hr
  refine ⟨_, (pss_one (ps_ret (Pu.pe_tupleNK (K := K) (by rfl) (T.free 0) (pe_lc (own := [("row", 2)]) (by rfl) sc_shares.nd (Pu.pi_listK (K := K) (Pu.pe_fldK (K := K) (pcall (ok_eaten T) hr (by decide) (T.glo 38) pxB (pa_cons (pv 0) (pa_cons (pv 1) pa_nil))) (by rfl))) (blkOk_by (N := ["lists", "many", "row", "part"]) (sc := defScope s_shares) (by decide +kernel)) (fun _ _ _ _ _ => (pg_name (i := 2) sc_shares.nd (by rfl) (by first | exact Or.inl rfl | exact Or.inr rfl))) (fun _ _ _ _ _ => pts_nil) (fun _ _ _ _ _ => (Pu.pe_tupleNK (K := K) (by rfl) (T.free 0) (pe_lc (own := [("part", 3)]) (by rfl) sc_shares.nd (Pu.pi_listK (K := K) (pv 2)) (blkOk_by (N := ["lists", "many", "row", "part"]) (by kernel_rfl)) (fun _ _ _ _ _ => (pg_name (i := 3) sc_shares.nd (by rfl) (by first | exact Or.inl rfl | exact Or.inr rfl))) (fun _ _ _ _ _ => pts_nil) (fun _ _ _ _ _ => (pmeth0 (ok_Part_shown T) hr (by decide) (T.cls 15) (T.meth 28) passL (pv 3)))))))))), ?_⟩
  intro vs Q h
  refine run_D (Γe := []) (cs := [(dLst (dTup dInt)), dInt]) (n := 2) (T := ?T) rfl ?h ?f vs H Q h
  case h => exact (Pu.st_ret (p := false) prD (Pu.ev_1 Pu.o_tupNL (Pu.freeze (c := (dTuN (dP2 dInt dInt))) (Pu.en_lc (q := false) (vs := [2]) (Γ0 := [.da (dLst (dTup dInt)), .da dInt, .no, .no]) (Γ1 := [.da (dLst (dTup dInt)), .da dInt, .da (dLst (dI_Part K)), .no]) Hd.id (by rfl) (by decide) (Bk.drop Bk.id (.s (.s (.z)))) (Pu.ei_list (Pu.ev_fld (names := nm_Meal) (fs := fsF_Meal K) (T.cls 21) (T.noat 25) (.s (by decide +kernel) (.s (by decide +kernel) (.z))) (Pu.ev_call (Pu.ea_cons (Pu.ev_var .z) (Pu.ea_cons (Pu.ev_var (.s (.z))) Pu.ea_nil))))) (Pu.tg_name (.s (.s (.z)))) Pu.pts_et (Pu.ev_1 Pu.o_tupNL (Pu.freeze (c := (dP2 dInt dInt)) (Pu.en_lc (q := false) (vs := [3]) (Γ0 := [.da (dLst (dTup dInt)), .da dInt, .da (dLst (dI_Part K)), .no]) (Γ1 := [.da (dLst (dTup dInt)), .da dInt, .da (dLst (dI_Part K)), .da (dI_Part K)]) Hd.id (by rfl) (by decide) (Bk.drop Bk.id (.s (.s (.s (.z))))) (Pu.ei_list (Pu.ev_var (.s (.s (.z))))) (Pu.tg_name (.s (.s (.s (.z))))) Pu.pts_et (Pu.ev_meth (nm := "shown") (names := nm_Part) (by decide +kernel) (Pu.ev_var (.s (.s (.s (.z))))) Pu.ea_nil))))))))
  case f => intros; kernel_rfl
theorem ok_times (T : PuX.TxE exG fa fn K mg) : OkF P w K mg base 7 (He.ga K "times") ["lists", "many"] (spD (xcK K) [(dLst (dTup dInt)), dInt] (dTuN (dP2 dInt dInt)) (fun x => m_times x.1 x.2.1)) := by
  refine okF (T.c.def_ 19 (d := d_19) rfl) sc_times (lenD rfl) (fun _ _ _ _ _ _ us hl => match us, hl with | [_, _], _ => rfl) ?_
  intro cdv A outer s H E hr
  refine ⟨_, (pss_one (ps_ret (Pu.pe_tupleNK (K := K) (by rfl) (T.free 0) (Pu.pe_fldK (K := K) (pcall (ok_eaten T) hr (by decide) (T.glo 38) pxB (pa_cons (pv 0) (pa_cons (pv 1) pa_nil))) (by rfl))))), ?_⟩
  intro vs Q h
  refine run_D (Γe := []) (cs := [(dLst (dTup dInt)), dInt]) (n := 0) (T := ?T) rfl ?h ?f vs H Q h
  case h => exact (Pu.st_ret (p := false) prD (Pu.ev_1 Pu.o_tupNL (Pu.ev_fld (names := nm_Meal) (fs := fsF_Meal K) (T.cls 21) (T.noat 27) (.s (by decide +kernel) (.s (by decide +kernel) (.s (by decide +kernel) (.s (by decide +kernel) (.z))))) (Pu.ev_call (Pu.ea_cons (Pu.ev_var .z) (Pu.ea_cons (Pu.ev_var (.s (.z))) Pu.ea_nil))))))
  case f => intros; kernel_rfl
theorem ok_running (T : PuX.TxE exG fa fn K mg) : OkF P w K mg base 5 (He.ga K "running") ["chances"] (spD (xcK K) [(dLst (dP2 dInt dInt))] (dLst (dI_Part K)) (fun x => m_running x.1)) := by
  refine okF (T.c.def_ 20 (d := d_20) rfl) sc_running (lenD rfl) (fun _ _ _ _ _ _ us hl => match us, hl with | [_], _ => rfl) ?_
  intro cdv A outer s H E hr
  refine ⟨_, (pss_cons (ps_set (i := 1) sc_running.nd (by rfl) (by first | exact Or.inl rfl | exact Or.inr rfl) (pe_lst pa_nil)) (pss_cons (ps_set (i := 2) sc_running.nd (by rfl) (by first | exact Or.inl rfl | exact Or.inr rfl) (pmake (ok_Part_init T) hr (by decide) (T.mkr 18) (T.glo 19) pxB (pa_cons pe_int (pa_cons pe_int pa_nil)))) (pss_cons (ps_for poB (by rfl) (Pu.pi_listK (K := K) (pv 0)) (Pu.pg_tupK (K := K) (n := 2) (by rfl) (pgs_cons (pg_name (i := 3) sc_running.nd (by rfl) (by first | exact Or.inl rfl | exact Or.inr rfl)) (pgs_cons (pg_name (i := 4) sc_running.nd (by rfl) (by first | exact Or.inl rfl | exact Or.inr rfl)) pgs_nil))) (pss_cons (ps_set (i := 2) sc_running.nd (by rfl) (by first | exact Or.inl rfl | exact Or.inr rfl) (pmeth (ok_Part_plus T) hr (by decide) (T.cls 15) (T.meth 34) pxB (pv 2) (pa_cons (pmake (ok_Part_init T) hr (by decide) (T.mkr 18) (T.glo 19) pxB (pa_cons (pv 3) (pa_cons (pv 4) pa_nil))) pa_nil))) (pss_one (ps_expr (Pu.pe_bmK (K := K) PySem.F.plainAttrs_list PySem.F.slot_list_append PySem.F.type_list_append mt_append (pv 1) (pa_cons (pv 2) pa_nil)))))) (pss_one (ps_ret (pv 1)))))), ?_⟩
  intro vs Q h
  refine run_D (Γe := []) (cs := [(dLst (dP2 dInt dInt))]) (n := 4) (T := ?T) rfl ?h ?f vs H Q h
  case h => exact (Pu.st_seq (Pu.st_setN (p := false) (.s (.z)) Pu.en_nil) (Pu.st_seq (Pu.st_set (p := false) (.s (.s (.z))) (Pu.freezeO (fs := fs_Part K) (Pu.en_make (Pu.ea_cons (Pu.ev_c (c := dInt) (x := 0) fun _ => rfl) (Pu.ea_cons (Pu.ev_c (c := dInt) (x := 1) fun _ => rfl) Pu.ea_nil))))) (Pu.st_seq (Pu.st_for (p := false) (Γ' := [.da (dLst (dP2 dInt dInt)), .m .lo (mLst (dI_Part K)), .da (dI_Part K), .da dInt, .da dInt]) (Pu.ei_list (Pu.ev_var .z)) (Pu.tg_p2 (Pu.tg_name (.s (.s (.s (.z))))) (Pu.tg_name (.s (.s (.s (.s (.z))))))) (Pu.st_post (Bk.drop (Bk.drop Bk.id (.s (.s (.s (.s (.z)))))) (.s (.s (.s (.z))))) (Pu.st_seq (Pu.st_set (p := false) (.s (.s (.z))) (Pu.ev_meth (nm := "plus") (names := nm_Part) (by decide +kernel) (Pu.ev_var (.s (.s (.z)))) (Pu.ea_cons (Pu.freezeO (fs := fs_Part K) (Pu.en_make (Pu.ea_cons (Pu.ev_var (.s (.s (.s (.z))))) (Pu.ea_cons (Pu.ev_var (.s (.s (.s (.s (.z)))))) Pu.ea_nil)))) Pu.ea_nil))) (Pu.st_app (p := false) (by decide) (.s (.z)) (Pu.ev_var (.s (.s (.z)))))))) (Pu.st_retL (.s (.z))))))
  case f => intros; kernel_rfl
theorem ok_sums_down (T : PuX.TxE exG fa fn K mg) : OkF P w K mg base 6 (He.ga K "sums_down") ["order", "row"] (spD (xcK K) [(dTup dInt), (dTup (dP2 dInt dInt))] (dTuN (dP2 dInt dInt)) (fun x => m_sums_down x.1 x.2.1)) := by
  refine okF (T.c.def_ 21 (d := d_21) rfl) sc_sums_down (lenD rfl) (fun _ _ _ _ _ _ us hl => match us, hl with | [_, _], _ => rfl) ?_
  intro cdv A outer s H E hr
  refine ⟨_, (pss_one (ps_ret (Pu.pe_tupleNK (K := K) (by rfl) (T.free 0) (pe_lc (own := [("part", 2)]) (by rfl) sc_sums_down.nd (Pu.pi_listK (K := K) (pcall (ok_running T) hr (by decide) (T.glo 39) pxB (pa_cons (pe_lc (own := [("thing", 3)]) (by rfl) sc_sums_down.nd (Pu.pi_tupK (K := K) (pv 0)) (blkOk_by (N := ["order", "row", "part", "thing"]) (sc := defScope s_sums_down) (by decide +kernel)) (fun _ _ _ _ _ => (pg_name (i := 3) sc_sums_down.nd (by rfl) (by first | exact Or.inl rfl | exact Or.inr rfl))) (fun _ _ _ _ _ => pts_nil) (fun _ _ _ _ _ => (pe_ix (Pu.ix_tupK (K := K)) (pv 1) (pv 3) (fun _ _ => rfl)))) pa_nil))) (blkOk_by (N := ["order", "row", "part", "thing"]) (sc := defScope s_sums_down) (by decide +kernel)) (fun _ _ _ _ _ => (pg_name (i := 2) sc_sums_down.nd (by rfl) (by first | exact Or.inl rfl | exact Or.inr rfl))) (fun _ _ _ _ _ => pts_nil) (fun _ _ _ _ _ => (pmeth0 (ok_Part_shown T) hr (by decide) (T.cls 15) (T.meth 28) passL (pv 2))))))), ?_⟩
  intro vs Q h
  refine run_D (Γe := []) (cs := [(dTup dInt), (dTup (dP2 dInt dInt))]) (n := 2) (T := ?T) rfl ?h ?f vs H Q h
  case h => exact (Pu.st_ret (p := false) prD (Pu.ev_1 Pu.o_tupNL (Pu.freeze (c := (dP2 dInt dInt)) (Pu.en_lc (q := false) (vs := [2]) (Γ0 := [.da (dTup dInt), .da (dTup (dP2 dInt dInt)), .no, .no]) (Γ1 := [.da (dTup dInt), .da (dTup (dP2 dInt dInt)), .da (dI_Part K), .no]) Hd.id (by rfl) (by decide) (Bk.drop Bk.id (.s (.s (.z)))) (Pu.ei_list (Pu.ev_call (Pu.ea_cons (Pu.freeze (c := (dP2 dInt dInt)) (Pu.en_lc (q := false) (vs := [3]) (Γ0 := [.da (dTup dInt), .da (dTup (dP2 dInt dInt)), .no, .no]) (Γ1 := [.da (dTup dInt), .da (dTup (dP2 dInt dInt)), .no, .da dInt]) Hd.id (by rfl) (by decide) (Bk.drop Bk.id (.s (.s (.s (.z))))) (Pu.ei_tup (Pu.ev_var .z)) (Pu.tg_name (.s (.s (.s (.z))))) Pu.pts_et (Pu.ev_opP Pu.o_ixT (Pu.ev_var (.s (.z))) (Pu.ev_var (.s (.s (.s (.z)))))))) Pu.ea_nil))) (Pu.tg_name (.s (.s (.z)))) Pu.pts_et (Pu.ev_meth (nm := "shown") (names := nm_Part) (by decide +kernel) (Pu.ev_var (.s (.s (.z)))) Pu.ea_nil)))))
  case f => intros; kernel_rfl
theorem ok_as_much (T : PuX.TxE exG fa fn K mg) : OkF P w K mg base 6 (He.ga K "as_much") ["order", "one", "other"] (spD (xcK K) [(dTup dInt), (dTup (dP2 dInt dInt)), (dTup (dP2 dInt dInt))] dBl (fun x => m_as_much x.1 x.2.1 x.2.2.1)) := by
  refine okF (T.c.def_ 22 (d := d_22) rfl) sc_as_much (lenD rfl) (fun _ _ _ _ _ _ us hl => match us, hl with | [_, _, _], _ => rfl) ?_
  intro cdv A outer s H E hr
  refine ⟨_, (pss_cons (ps_set (i := 3) sc_as_much.nd (by rfl) (by first | exact Or.inl rfl | exact Or.inr rfl) (pcall (ok_running T) hr (by decide) (T.glo 39) pxB (pa_cons (pe_lc (own := [("thing", 4)]) (by rfl) sc_as_much.nd (Pu.pi_tupK (K := K) (pv 0)) (blkOk_by (N := ["order", "one", "other", "mine", "thing", "theirs", "much", "also"]) (sc := defScope s_as_much) (by decide +kernel)) (fun _ _ _ _ _ => (pg_name (i := 4) sc_as_much.nd (by rfl) (by first | exact Or.inl rfl | exact Or.inr rfl))) (fun _ _ _ _ _ => pts_nil) (fun _ _ _ _ _ => (pe_ix (Pu.ix_tupK (K := K)) (pv 1) (pv 4) (fun _ _ => rfl)))) pa_nil))) (pss_cons (ps_set (i := 5) sc_as_much.nd (by rfl) (by first | exact Or.inl rfl | exact Or.inr rfl) (pcall (ok_running T) hr (by decide) (T.glo 39) pxB (pa_cons (pe_lc (own := [("thing", 4)]) (by rfl) sc_as_much.nd (Pu.pi_tupK (K := K) (pv 0)) (blkOk_by (N := ["order", "one", "other", "mine", "thing", "theirs", "much", "also"]) (sc := defScope s_as_much) (by decide +kernel)) (fun _ _ _ _ _ => (pg_name (i := 4) sc_as_much.nd (by rfl) (by first | exact Or.inl rfl | exact Or.inr rfl))) (fun _ _ _ _ _ => pts_nil) (fun _ _ _ _ _ => (pe_ix (Pu.ix_tupK (K := K)) (pv 2) (pv 4) (fun _ _ => rfl)))) pa_nil))) (pss_one (ps_ret (pe_not (pe_callB (Pu.cr_anyK (K := K) (by rfl)) (by rfl) (T.free 11) (by decide +kernel) (pa_cons (pe_lc (own := [("much", 6), ("also", 7)]) (by rfl) sc_as_much.nd (PuX.pi_zipLL (K := K) (by rfl) (T.free 40) (pa_cons (pv 3) (pa_cons (pv 5) pa_nil))) (blkOk_by (N := ["order", "one", "other", "mine", "thing", "theirs", "much", "also"]) (sc := defScope s_as_much) (by decide +kernel)) (fun _ _ _ _ _ => (Pu.pg_tupK (K := K) (n := 2) (by rfl) (pgs_cons (pg_name (i := 6) sc_as_much.nd (by rfl) (by first | exact Or.inl rfl | exact Or.inr rfl)) (pgs_cons (pg_name (i := 7) sc_as_much.nd (by rfl) (by first | exact Or.inl rfl | exact Or.inr rfl)) pgs_nil)))) (fun _ _ _ _ _ => pts_nil) (fun _ _ _ _ _ => (pmeth (ok_Part_below T) hr (by decide) (T.cls 15) (T.meth 33) passL (pv 6) (pa_cons (pv 7) pa_nil)))) pa_nil))))))), ?_⟩
  intro vs Q h
  refine run_D (Γe := []) (cs := [(dTup dInt), (dTup (dP2 dInt dInt)), (dTup (dP2 dInt dInt))]) (n := 5) (T := ?T) rfl ?h ?f vs H Q h
  case h => exact (Pu.st_seq (Pu.st_set (p := false) (.s (.s (.s (.z)))) (Pu.ev_call (Pu.ea_cons (Pu.freeze (c := (dP2 dInt dInt)) (Pu.en_lc (q := false) (vs := [4]) (Γ0 := [.da (dTup dInt), .da (dTup (dP2 dInt dInt)), .da (dTup (dP2 dInt dInt)), .no, .no, .no, .no, .no]) (Γ1 := [.da (dTup dInt), .da (dTup (dP2 dInt dInt)), .da (dTup (dP2 dInt dInt)), .no, .da dInt, .no, .no, .no]) Hd.id (by rfl) (by decide) (Bk.drop Bk.id (.s (.s (.s (.s (.z)))))) (Pu.ei_tup (Pu.ev_var .z)) (Pu.tg_name (.s (.s (.s (.s (.z)))))) Pu.pts_et (Pu.ev_opP Pu.o_ixT (Pu.ev_var (.s (.z))) (Pu.ev_var (.s (.s (.s (.s (.z))))))))) Pu.ea_nil))) (Pu.st_seq (Pu.st_set (p := false) (.s (.s (.s (.s (.s (.z)))))) (Pu.ev_call (Pu.ea_cons (Pu.freeze (c := (dP2 dInt dInt)) (Pu.en_lc (q := false) (vs := [4]) (Γ0 := [.da (dTup dInt), .da (dTup (dP2 dInt dInt)), .da (dTup (dP2 dInt dInt)), .da (dLst (dI_Part K)), .no, .no, .no, .no]) (Γ1 := [.da (dTup dInt), .da (dTup (dP2 dInt dInt)), .da (dTup (dP2 dInt dInt)), .da (dLst (dI_Part K)), .da dInt, .no, .no, .no]) Hd.id (by rfl) (by decide) (Bk.drop Bk.id (.s (.s (.s (.s (.z)))))) (Pu.ei_tup (Pu.ev_var .z)) (Pu.tg_name (.s (.s (.s (.s (.z)))))) Pu.pts_et (Pu.ev_opP Pu.o_ixT (Pu.ev_var (.s (.s (.z)))) (Pu.ev_var (.s (.s (.s (.s (.z))))))))) Pu.ea_nil))) (Pu.st_ret (p := false) prD (Pu.ev_not (Pu.ev_b1 Pu.o_any (Pu.freeze (c := dBl) (Pu.en_lc (q := false) (vs := [6, 7]) (Γ0 := [.da (dTup dInt), .da (dTup (dP2 dInt dInt)), .da (dTup (dP2 dInt dInt)), .da (dLst (dI_Part K)), .no, .da (dLst (dI_Part K)), .no, .no]) (Γ1 := [.da (dTup dInt), .da (dTup (dP2 dInt dInt)), .da (dTup (dP2 dInt dInt)), .da (dLst (dI_Part K)), .no, .da (dLst (dI_Part K)), .da (dI_Part K), .da (dI_Part K)]) Hd.id (by rfl) (by decide) (Bk.drop (Bk.drop Bk.id (.s (.s (.s (.s (.s (.s (.z)))))))) (.s (.s (.s (.s (.s (.s (.s (.z))))))))) (PuX.ei_zipLL (a := (dI_Part K)) (b := (dI_Part K)) (Pu.ea_cons (Pu.ev_var (.s (.s (.s (.z))))) (Pu.ea_cons (Pu.ev_var (.s (.s (.s (.s (.s (.z))))))) Pu.ea_nil))) (Pu.tg_p2 (Pu.tg_name (.s (.s (.s (.s (.s (.s (.z)))))))) (Pu.tg_name (.s (.s (.s (.s (.s (.s (.s (.z)))))))))) Pu.pts_et (Pu.ev_meth (nm := "below") (names := nm_Part) (by decide +kernel) (Pu.ev_var (.s (.s (.s (.s (.s (.s (.z)))))))) (Pu.ea_cons (Pu.ev_var (.s (.s (.s (.s (.s (.s (.s (.z))))))))) Pu.ea_nil)))))))))
  case f => intros; kernel_rfl
theorem ok_wanted_more (T : PuX.TxE exG fa fn K mg) : OkF P w K mg base 4 (He.ga K "wanted_more") ["lists", "rows"] (spD (xcK K) [(dLst (dTup dInt)), (dTuN (dTuN (dP2 dInt dInt)))] (dTup (dP2 dInt dInt)) (fun x => m_wanted_more x.1 x.2.1)) := by
  refine okF (T.c.def_ 23 (d := d_23) rfl) sc_wanted_more (lenD rfl) (fun _ _ _ _ _ _ us hl => match us, hl with | [_, _], _ => rfl) ?_
  intro cdv A outer s H E hr
  refine ⟨_, (pss_one (ps_ret (Pu.pe_tupleNK (K := K) (by rfl) (T.free 0) (pe_callB (PuU.cr_sortedU (by rfl)) (by rfl) (T.free 44) (by decide +kernel) (pa_cons (pe_callTy (cr_setOfT (by rfl) hr.units) (by rfl) (T.free 45) (by decide +kernel) (pa_cons (PuX.pe_lc3 (own := [("order", 2), ("row", 3), ("worse", 4), ("chance", 5), ("better", 6)]) (vs1 := [4, 5, 6]) (vs2 := [6]) (by rfl) sc_wanted_more.nd (PuX.pi_zipLT (K := K) (by rfl) (T.free 40) (pa_cons (pv 0) (pa_cons (pv 1) pa_nil))) (blkOk_by (N := ["lists", "rows", "order", "row", "worse", "chance", "better"]) (sc := defScope s_wanted_more) (by decide +kernel)) (by decide) (by decide) (fun _ _ _ _ _ => (Pu.pg_tupK (K := K) (n := 2) (by rfl) (pgs_cons (pg_name (i := 2) sc_wanted_more.nd (by rfl) (by first | exact Or.inl rfl | exact Or.inr rfl)) (pgs_cons (pg_name (i := 3) sc_wanted_more.nd (by rfl) (by first | exact Or.inl rfl | exact Or.inr rfl)) pgs_nil)))) (fun _ _ _ _ _ => pts_nil) (fun _ _ _ _ _ => (Pu.pi_enumTK (K := K) (by rfl) (T.free 3) (pa_cons (pv 3) pa_nil))) (fun _ _ _ _ _ => (Pu.pg_tupK (K := K) (n := 2) (by rfl) (pgs_cons (pg_name (i := 4) sc_wanted_more.nd (by rfl) (by first | exact Or.inl rfl | exact Or.inr rfl)) (pgs_cons (pg_name (i := 5) sc_wanted_more.nd (by rfl) (by first | exact Or.inl rfl | exact Or.inr rfl)) pgs_nil)))) (fun _ _ _ _ _ => pts_nil) (fun _ _ _ _ _ => (Pu.pi_tupK (K := K) (pmeth (ok_Wish_ahead_of T) hr (by decide) (T.cls 1) (T.meth 43) passL (pmake (ok_Wish_init T) hr (by decide) (T.mkr 41) (T.glo 42) passL (pa_cons (pv 2) pa_nil)) (pa_cons (pv 4) pa_nil)))) (fun _ _ _ _ _ => (pg_name (i := 6) sc_wanted_more.nd (by rfl) (by first | exact Or.inl rfl | exact Or.inr rfl))) (fun _ _ _ _ _ => pts_one (pt_cmpR op_gt (pe_ix (Pu.ix_tupK (K := K)) (pv 5) pe_int (fun _ _ => rfl)) pe_int (nomark _))) (fun _ _ _ _ _ => (pe_tup (pa_cons (pv 6) (pa_cons (pv 4) pa_nil))))) pa_nil)) pa_nil))))), ?_⟩
  intro vs Q h
  refine run_D (Γe := []) (cs := [(dLst (dTup dInt)), (dTuN (dTuN (dP2 dInt dInt)))]) (n := 5) (T := ?T) rfl ?h ?f vs H Q h
  case h => exact (Pu.st_ret (p := false) prD (Pu.ev_sb (Pu.sb_tun (c := (dP2 dInt dInt))) (Pu.ev_1 Pu.o_tupNL (PuX.ev_sortUP (Pu.freeze (c := (dP2 dInt dInt)) (PuX.en_lcB (q := false) (vs := [2, 3, 4, 5, 6]) (Γ0 := [.da (dLst (dTup dInt)), .da (dTuN (dTuN (dP2 dInt dInt))), .no, .no, .no, .no, .no]) (Γ1 := [.da (dLst (dTup dInt)), .da (dTuN (dTuN (dP2 dInt dInt))), .da (dTup dInt), .da (dTuN (dP2 dInt dInt)), .no, .no, .no]) Hd.id (by rfl) (by decide) (Bk.drop (Bk.drop Bk.id (.s (.s (.z)))) (.s (.s (.s (.z))))) (PuX.ei_zipLT (a := (dTup dInt)) (b := (dTuN (dP2 dInt dInt))) (Pu.ea_cons (Pu.ev_var .z) (Pu.ea_cons (Pu.ev_sb (Pu.sb_tun (c := (dTuN (dP2 dInt dInt)))) (Pu.ev_var (.s (.z)))) Pu.ea_nil))) (Pu.tg_p2 (Pu.tg_name (.s (.s (.z)))) (Pu.tg_name (.s (.s (.s (.z)))))) Pu.pts_et (PuX.evb_for (XC := xcK K) (q := false) (vs := [4, 5, 6]) (Γ := [.da (dLst (dTup dInt)), .da (dTuN (dTuN (dP2 dInt dInt))), .da (dTup dInt), .da (dTuN (dP2 dInt dInt)), .no, .no, .no]) (Γ1 := [.da (dLst (dTup dInt)), .da (dTuN (dTuN (dP2 dInt dInt))), .da (dTup dInt), .da (dTuN (dP2 dInt dInt)), .da dInt, .da (dP2 dInt dInt), .no]) (by rfl) (by decide) (Bk.drop (Bk.drop Bk.id (.s (.s (.s (.s (.z)))))) (.s (.s (.s (.s (.s (.z))))))) (Pu.ei_enumT (Pu.ea_cons (Pu.ev_sb (Pu.sb_tun (c := (dP2 dInt dInt))) (Pu.ev_var (.s (.s (.s (.z)))))) Pu.ea_nil)) (Pu.tg_p2 (Pu.tg_name (.s (.s (.s (.s (.z)))))) (Pu.tg_name (.s (.s (.s (.s (.s (.z)))))))) Pu.pts_et (PuX.evb_for (XC := xcK K) (q := false) (vs := [6]) (Γ := [.da (dLst (dTup dInt)), .da (dTuN (dTuN (dP2 dInt dInt))), .da (dTup dInt), .da (dTuN (dP2 dInt dInt)), .da dInt, .da (dP2 dInt dInt), .no]) (Γ1 := [.da (dLst (dTup dInt)), .da (dTuN (dTuN (dP2 dInt dInt))), .da (dTup dInt), .da (dTuN (dP2 dInt dInt)), .da dInt, .da (dP2 dInt dInt), .da dInt]) (by rfl) (by decide) (Bk.drop Bk.id (.s (.s (.s (.s (.s (.s (.z)))))))) (Pu.ei_tup (Pu.ev_sb (Pu.sb_tun (c := dInt)) (Pu.ev_meth (nm := "ahead_of") (names := nm_Wish) (by decide +kernel) (Pu.freezeO (fs := fs_Wish K) (Pu.en_make (Pu.ea_cons (Pu.ev_var (.s (.s (.z)))) Pu.ea_nil))) (Pu.ea_cons (Pu.ev_as (a := dInt) (b := dOpt dInt) some someI (Pu.ev_var (.s (.s (.s (.s (.z))))))) Pu.ea_nil)))) (Pu.tg_name (.s (.s (.s (.s (.s (.s (.z)))))))) (Pu.et_test (Pu.ev_op Pu.o_cmp (Pu.ev_opP Pu.o_p20 (Pu.ev_var (.s (.s (.s (.s (.s (.z))))))) (Pu.ev_c (c := dInt) (x := 0) fun _ => rfl)) (Pu.ev_c (c := dInt) (x := 0) fun _ => rfl))) (PuX.evb_elt (XC := xcK K) (q := false) (Pu.ev_p2 (Pu.ea_cons (Pu.ev_var (.s (.s (.s (.s (.s (.s (.z)))))))) (Pu.ea_cons (Pu.ev_var (.s (.s (.s (.s (.z)))))) Pu.ea_nil))))))))))))
  case f => intros; kernel_rfl
theorem ok_is_tight (T : PuX.TxE exG fa fn K mg) : OkF P w K mg base 5 (He.ga K "is_tight") ["lists", "rows"] (spD (xcK K) [(dLst (dTup dInt)), (dTuN (dTuN (dP2 dInt dInt)))] dBl (fun x => m_is_tight x.1 x.2.1)) := by
  refine okF (T.c.def_ 24 (d := d_24) rfl) sc_is_tight (lenD rfl) (fun _ _ _ _ _ _ us hl => match us, hl with | [_, _], _ => rfl) ?_
  intro cdv A outer s H E hr
  refine ⟨_, (pss_cons (ps_set (i := 2) sc_is_tight.nd (by rfl) (by first | exact Or.inl rfl | exact Or.inr rfl) (pcall (ok_wanted_more T) hr (by decide) (T.glo 46) pxB (pa_cons (pv 0) (pa_cons (pv 1) pa_nil)))) (pss_cons (ps_set (i := 3) sc_is_tight.nd (by rfl) (by first | exact Or.inl rfl | exact Or.inr rfl) (PuU.pe_dc2 (own := [("pair", 4), ("thing", 5)]) (vs1 := [5]) (by rfl) sc_is_tight.nd (Pu.pi_tupK (K := K) (pv 2)) (blkOk_by (N := ["lists", "rows", "pairs", "ways", "pair", "thing", "better", "worse"]) (sc := defScope s_is_tight) (by decide +kernel)) (by decide) (fun _ _ _ _ _ => (pg_name (i := 4) sc_is_tight.nd (by rfl) (by first | exact Or.inl rfl | exact Or.inr rfl))) (fun _ _ _ _ _ => (Pu.pi_tupK (K := K) (pv 4))) (fun _ _ _ _ _ => (pg_name (i := 5) sc_is_tight.nd (by rfl) (by first | exact Or.inl rfl | exact Or.inr rfl))) (fun _ _ _ _ _ => pv 5) (fun _ _ _ _ _ => pe_lst pa_nil))) (pss_cons (ps_for poB (by rfl) (Pu.pi_tupK (K := K) (pv 2)) (Pu.pg_tupK (K := K) (n := 2) (by rfl) (pgs_cons (pg_name (i := 6) sc_is_tight.nd (by rfl) (by first | exact Or.inl rfl | exact Or.inr rfl)) (pgs_cons (pg_name (i := 7) sc_is_tight.nd (by rfl) (by first | exact Or.inl rfl | exact Or.inr rfl)) pgs_nil))) (pss_one (ps_expr (Pu.pe_bmK (K := K) PySem.F.plainAttrs_list PySem.F.slot_list_append PySem.F.type_list_append mt_append (pe_dget (hu_of hr) (pv 3) (pv 6) (fun _ _ => rfl)) (pa_cons (pv 7) pa_nil))))) (pss_one (ps_ret (pe_not (pe_callB (Pu.cr_anyK (K := K) (by rfl)) (by rfl) (T.free 11) (by decide +kernel) (pa_cons (pe_lc (own := [("better", 6), ("worse", 7)]) (by rfl) sc_is_tight.nd (Pu.pi_tupK (K := K) (pv 2)) (blkOk_by (N := ["lists", "rows", "pairs", "ways", "pair", "thing", "better", "worse"]) (sc := defScope s_is_tight) (by decide +kernel)) (fun _ _ _ _ _ => (Pu.pg_tupK (K := K) (n := 2) (by rfl) (pgs_cons (pg_name (i := 6) sc_is_tight.nd (by rfl) (by first | exact Or.inl rfl | exact Or.inr rfl)) (pgs_cons (pg_name (i := 7) sc_is_tight.nd (by rfl) (by first | exact Or.inl rfl | exact Or.inr rfl)) pgs_nil)))) (fun _ _ _ _ _ => pts_nil) (fun _ _ _ _ _ => (pe_cmp (pc_din (hu_of hr) (pv 6) (pcall (ok_reached_from T) hr (by decide) (T.glo 47) passL (pa_cons (pv 3) (pa_cons (pv 7) pa_nil))))))) pa_nil)))))))), ?_⟩
  intro vs Q h
  refine run_D (Γe := []) (cs := [(dLst (dTup dInt)), (dTuN (dTuN (dP2 dInt dInt)))]) (n := 6) (T := ?T) rfl ?h ?f vs H Q h
  case h => exact (Pu.st_seq (Pu.st_set (p := false) (.s (.s (.z))) (Pu.ev_call (Pu.ea_cons (Pu.ev_var .z) (Pu.ea_cons (Pu.ev_var (.s (.z))) Pu.ea_nil)))) (Pu.st_seq (Pu.st_setN (p := false) (.s (.s (.s (.z)))) (PuX.en_dcNewL2 (c := dInt) (vs := [4, 5]) (vs1 := [5]) (Γ := [.da (dLst (dTup dInt)), .da (dTuN (dTuN (dP2 dInt dInt))), .da (dTup (dP2 dInt dInt)), .no, .no, .no, .no, .no]) (Γ1 := [.da (dLst (dTup dInt)), .da (dTuN (dTuN (dP2 dInt dInt))), .da (dTup (dP2 dInt dInt)), .no, .da (dP2 dInt dInt), .no, .no, .no]) (Γ2 := [.da (dLst (dTup dInt)), .da (dTuN (dTuN (dP2 dInt dInt))), .da (dTup (dP2 dInt dInt)), .no, .da (dP2 dInt dInt), .da dInt, .no, .no]) (by rfl) (by rfl) (by decide) (by decide) (Bk.drop Bk.id (.s (.s (.s (.s (.z)))))) (Bk.drop Bk.id (.s (.s (.s (.s (.s (.z))))))) (fun _ _ => rfl) (fun _ _ => rfl) (Pu.ei_tup (Pu.ev_var (.s (.s (.z))))) (Pu.tg_name (.s (.s (.s (.s (.z)))))) (Pu.ei_tup (Pu.ev_sb (PuU.sb_p2tup (c := dInt)) (Pu.ev_var (.s (.s (.s (.s (.z)))))))) (Pu.tg_name (.s (.s (.s (.s (.s (.z))))))) (hk_var (.s (.s (.s (.s (.s (.z)))))) (fun _ _ => rfl)))) (Pu.st_seq (Pu.st_for (p := false) (Γ' := [.da (dLst (dTup dInt)), .da (dTuN (dTuN (dP2 dInt dInt))), .da (dTup (dP2 dInt dInt)), .m .lo (PuX.mDL dInt), .no, .no, .da dInt, .da dInt]) (Pu.ei_tup (Pu.ev_var (.s (.s (.z))))) (Pu.tg_p2 (Pu.tg_name (.s (.s (.s (.s (.s (.s (.z)))))))) (Pu.tg_name (.s (.s (.s (.s (.s (.s (.s (.z)))))))))) (Pu.st_post (Bk.drop (Bk.drop Bk.id (.s (.s (.s (.s (.s (.s (.s (.z))))))))) (.s (.s (.s (.s (.s (.s (.z)))))))) (PuX.st_appDL (k := .lo) (by decide) (.s (.s (.s (.z)))) (Pu.ev_var (.s (.s (.s (.s (.s (.s (.z)))))))) (Pu.ev_var (.s (.s (.s (.s (.s (.s (.s (.z)))))))))))) (Pu.st_ret (p := false) prD (Pu.ev_not (Pu.ev_b1 Pu.o_any (Pu.freeze (c := dBl) (Pu.en_lc (q := false) (vs := [6, 7]) (Γ0 := [.da (dLst (dTup dInt)), .da (dTuN (dTuN (dP2 dInt dInt))), .da (dTup (dP2 dInt dInt)), .m .lo (PuX.mDL dInt), .no, .no, .no, .no]) (Γ1 := [.da (dLst (dTup dInt)), .da (dTuN (dTuN (dP2 dInt dInt))), .da (dTup (dP2 dInt dInt)), .m .lo (PuX.mDL dInt), .no, .no, .da dInt, .da dInt]) Hd.id (by rfl) (by decide) (Bk.drop (Bk.drop Bk.id (.s (.s (.s (.s (.s (.s (.z)))))))) (.s (.s (.s (.s (.s (.s (.s (.z))))))))) (Pu.ei_tup (Pu.ev_var (.s (.s (.z))))) (Pu.tg_p2 (Pu.tg_name (.s (.s (.s (.s (.s (.s (.z)))))))) (Pu.tg_name (.s (.s (.s (.s (.s (.s (.s (.z)))))))))) Pu.pts_et (Pu.ev_frz (Γ' := [.da (dLst (dTup dInt)), .da (dTuN (dTuN (dP2 dInt dInt))), .da (dTup (dP2 dInt dInt)), .da (dDict (dLst dInt)), .no, .no, .da dInt, .da dInt]) (.da (.da (.da (.m PuX.fzDL (.no (.no (.da (.da .nil)))))))) Pu.und_bl (PuU.ev_fin (Pu.ev_var (.s (.s (.s (.s (.s (.s (.z)))))))) (Pu.ev_call (Pu.ea_cons (Pu.ev_var (.s (.s (.s (.z))))) (Pu.ea_cons (Pu.ev_var (.s (.s (.s (.s (.s (.s (.s (.z))))))))) Pu.ea_nil)))))))))))))
  case f => intros; kernel_rfl
theorem ok_whole_of (T : PuX.TxE exG fa fn K mg) : OkF P w K mg base 6 (He.ga K "whole_of") ["rows", "thing"] (spD (xcK K) [(dTuN (dTuN (dP2 dInt dInt))), dInt] (dP2 dInt dInt) (fun x => m_whole_of x.1 x.2.1)) := by
  refine okF (T.c.def_ 25 (d := d_25) rfl) sc_whole_of (lenD rfl) (fun _ _ _ _ _ _ us hl => match us, hl with | [_, _], _ => rfl) ?_
  intro cdv A outer s H E hr
  refine ⟨_, (pss_cons (ps_set (i := 2) sc_whole_of.nd (by rfl) (by first | exact Or.inl rfl | exact Or.inr rfl) (pmake (ok_Part_init T) hr (by decide) (T.mkr 18) (T.glo 19) pxB (pa_cons pe_int (pa_cons pe_int pa_nil)))) (pss_cons (ps_for poB (by rfl) (Pu.pi_listK (K := K) (pcall (ok_running T) hr (by decide) (T.glo 39) pxB (pa_cons (pe_lc (own := [("row", 4)]) (by rfl) sc_whole_of.nd (Pu.pi_tupK (K := K) (pv 0)) (blkOk_by (N := ["rows", "thing", "total", "part", "row"]) (sc := defScope s_whole_of) (by decide +kernel)) (fun _ _ _ _ _ => (pg_name (i := 4) sc_whole_of.nd (by rfl) (by first | exact Or.inl rfl | exact Or.inr rfl))) (fun _ _ _ _ _ => pts_nil) (fun _ _ _ _ _ => (pe_ix (Pu.ix_tupK (K := K)) (pv 4) (pv 1) (fun _ _ => rfl)))) pa_nil))) (pg_name (i := 3) sc_whole_of.nd (by rfl) (by first | exact Or.inl rfl | exact Or.inr rfl)) (pss_one (ps_set (i := 2) sc_whole_of.nd (by rfl) (by first | exact Or.inl rfl | exact Or.inr rfl) (pv 3)))) (pss_one (ps_ret (pmeth0 (ok_Part_shown T) hr (by decide) (T.cls 15) (T.meth 28) pxB (pv 2)))))), ?_⟩
  intro vs Q h
  refine run_D (Γe := []) (cs := [(dTuN (dTuN (dP2 dInt dInt))), dInt]) (n := 3) (T := ?T) rfl ?h ?f vs H Q h
  case h => exact (Pu.st_seq (Pu.st_set (p := false) (.s (.s (.z))) (Pu.freezeO (fs := fs_Part K) (Pu.en_make (Pu.ea_cons (Pu.ev_c (c := dInt) (x := 0) fun _ => rfl) (Pu.ea_cons (Pu.ev_c (c := dInt) (x := 1) fun _ => rfl) Pu.ea_nil))))) (Pu.st_seq (Pu.st_for (p := false) (Γ' := [.da (dTuN (dTuN (dP2 dInt dInt))), .da dInt, .da (dI_Part K), .da (dI_Part K), .no]) (Pu.ei_list (Pu.ev_call (Pu.ea_cons (Pu.freeze (c := (dP2 dInt dInt)) (Pu.en_lc (q := false) (vs := [4]) (Γ0 := [.da (dTuN (dTuN (dP2 dInt dInt))), .da dInt, .da (dI_Part K), .no, .no]) (Γ1 := [.da (dTuN (dTuN (dP2 dInt dInt))), .da dInt, .da (dI_Part K), .no, .da (dTuN (dP2 dInt dInt))]) Hd.id (by rfl) (by decide) (Bk.drop Bk.id (.s (.s (.s (.s (.z)))))) (Pu.ei_tup (Pu.ev_sb (Pu.sb_tun (c := (dTuN (dP2 dInt dInt)))) (Pu.ev_var .z))) (Pu.tg_name (.s (.s (.s (.s (.z)))))) Pu.pts_et (Pu.ev_opP Pu.o_ixT (Pu.ev_sb (Pu.sb_tun (c := (dP2 dInt dInt))) (Pu.ev_var (.s (.s (.s (.s (.z))))))) (Pu.ev_var (.s (.z)))))) Pu.ea_nil))) (Pu.tg_name (.s (.s (.s (.z))))) (Pu.st_post (Bk.drop Bk.id (.s (.s (.s (.z))))) (Pu.st_set (p := false) (.s (.s (.z))) (Pu.ev_var (.s (.s (.s (.z)))))))) (Pu.st_ret (p := false) prD (Pu.ev_meth (nm := "shown") (names := nm_Part) (by decide +kernel) (Pu.ev_var (.s (.s (.z)))) Pu.ea_nil))))
  case f => intros; kernel_rfl
theorem ok_law_flat (T : PuX.TxE exG fa fn K mg) : OkF P w K mg base 1 (He.ga K "_law_flat") ["rows"] (spD (xcK K) [(dLst (dLst (dP2 (dP2 dInt dInt) dInt)))] (dLst (dP2 (dP2 dInt dInt) dInt)) (fun x => m_law_flat x.1)) := by
  refine okF (T.c.def_ 26 (d := d_26) rfl) sc_law_flat (lenD rfl) (fun _ _ _ _ _ _ us hl => match us, hl with | [_], _ => rfl) ?_
  intro cdv A outer s H E hr
  refine ⟨_, (pss_cons (ps_set (i := 1) sc_law_flat.nd (by rfl) (by first | exact Or.inl rfl | exact Or.inr rfl) (pe_lst pa_nil)) (pss_cons (ps_for poB (by rfl) (Pu.pi_listK (K := K) (pv 0)) (pg_name (i := 2) sc_law_flat.nd (by rfl) (by first | exact Or.inl rfl | exact Or.inr rfl)) (pss_one (ps_set (i := 1) sc_law_flat.nd (by rfl) (by first | exact Or.inl rfl | exact Or.inr rfl) (pe_op op_cat (pv 1) (pv 2))))) (pss_one (ps_ret (pv 1))))), ?_⟩
  intro vs Q h
  refine run_D (Γe := []) (cs := [(dLst (dLst (dP2 (dP2 dInt dInt) dInt)))]) (n := 2) (T := ?T) rfl ?h ?f vs H Q h
  case h => exact (Pu.st_seq (Pu.st_set (p := false) (.s (.z)) (Pu.freeze (c := (dP2 (dP2 dInt dInt) dInt)) Pu.en_nil)) (Pu.st_seq (Pu.st_for (p := false) (Γ' := [.da (dLst (dLst (dP2 (dP2 dInt dInt) dInt))), .da (dLst (dP2 (dP2 dInt dInt) dInt)), .da (dLst (dP2 (dP2 dInt dInt) dInt))]) (Pu.ei_list (Pu.ev_var .z)) (Pu.tg_name (.s (.s (.z)))) (Pu.st_post (Bk.drop Bk.id (.s (.s (.z)))) (Pu.st_set (p := false) (.s (.z)) (Pu.freeze (c := (dP2 (dP2 dInt dInt) dInt)) (Pu.en_cat (Pu.ev_var (.s (.z))) (Pu.ev_var (.s (.s (.z))))))))) (Pu.st_ret (p := false) prD (Pu.ev_var (.s (.z))))))
  case f => intros; kernel_rfl
theorem ok_law_gcd (T : PuX.TxE exG fa fn K mg) : OkF P w K mg base 1 (He.ga K "_law_gcd") ["one", "other"] (spD (xcK K) [dInt, dInt] dInt (fun x => m_law_gcd x.1 x.2.1)) := by
  refine okF (T.c.def_ 27 (d := d_27) rfl) sc_law_gcd (lenD rfl) (fun _ _ _ _ _ _ us hl => match us, hl with | [_, _], _ => rfl) ?_
  intro cdv A outer s H E hr
  refine ⟨_, (pss_cons (ps_while poB (pt_cmpR (Pu.op_neDK (K := K) hr.units) (pv 1) pe_int (nomark _)) (pss_one (ps_par (i := 0) (j := 1) rfl sc_law_gcd.nd rfl rfl (by decide) rfl rfl (pa_cons (pv 1) (pa_cons (pe_op op_mod (pv 0) (pv 1)) pa_nil)) (by rfl)))) (pss_one (ps_ret (pv 0)))), ?_⟩
  intro vs Q h
  refine run_D (Γe := []) (cs := [dInt, dInt]) (n := 0) (T := ?T) rfl ?h ?f vs H Q h
  case h => exact (Pu.st_seq (Pu.st_while (p := false) 100000 (Pu.et_test (Pu.ev_op (Pu.o_ne Pu.dqInt (by decide)) (Pu.ev_var (.s (.z))) (Pu.ev_c (c := dInt) (x := 0) fun _ => rfl))) (Pu.st_par2 (p := false) .z (.s (.z)) (Pu.ev_var (.s (.z))) (Pu.ev_opP Pu.o_mod (Pu.ev_var .z) (Pu.ev_var (.s (.z)))))) (Pu.st_ret (p := false) prD (Pu.ev_var .z)))
  case f => intros; kernel_rfl
theorem ok_law_small (T : PuX.TxE exG fa fn K mg) : OkF P w K mg base 2 (He.ga K "_law_small") ["top", "low"] (spD (xcK K) [dInt, dInt] (dP2 dInt dInt) (fun x => m_law_small x.1 x.2.1)) := by
  refine okF (T.c.def_ 28 (d := d_28) rfl) sc_law_small (lenD rfl) (fun _ _ _ _ _ _ us hl => match us, hl with | [_, _], _ => rfl) ?_
  intro cdv A outer s H E hr
  refine ⟨_, (pss_cons (ps_set (i := 2) sc_law_small.nd (by rfl) (by first | exact Or.inl rfl | exact Or.inr rfl) (pcall (ok_law_gcd T) hr (by decide) (T.glo 48) pxB (pa_cons (pe_callB call_abs (by rfl) (T.free 49) (by decide +kernel) (pa_cons (pv 0) pa_nil)) (pa_cons (pv 1) pa_nil)))) (pss_one (ps_ret (pe_tup (pa_cons (pe_op op_fdiv (pv 0) (pv 2)) (pa_cons (pe_op op_fdiv (pv 1) (pv 2)) pa_nil)))))), ?_⟩
  intro vs Q h
  refine run_D (Γe := []) (cs := [dInt, dInt]) (n := 1) (T := ?T) rfl ?h ?f vs H Q h
  case h => exact (Pu.st_seq (Pu.st_set (p := false) (.s (.s (.z))) (Pu.ev_call (Pu.ea_cons (Pu.ev_b1 Pu.o_abs (Pu.ev_var .z)) (Pu.ea_cons (Pu.ev_var (.s (.z))) Pu.ea_nil)))) (Pu.st_ret (p := false) prD (Pu.ev_p2 (Pu.ea_cons (Pu.ev_opP Pu.o_fdiv (Pu.ev_var .z) (Pu.ev_var (.s (.s (.z))))) (Pu.ea_cons (Pu.ev_opP Pu.o_fdiv (Pu.ev_var (.s (.z))) (Pu.ev_var (.s (.s (.z))))) Pu.ea_nil)))))
  case f => intros; kernel_rfl
theorem ok_law_eaten (T : PuX.TxE exG fa fn K mg) : OkF P w K mg base 3 (He.ga K "_law_eaten") ["lists", "many"] (spD (xcK K) [(dLst (dTup dInt)), dInt] (dP2 (dLst (dTup (dP2 dInt dInt))) (dLst (dP2 dInt dInt))) (fun x => m_law_eaten x.1 x.2.1)) := by
  refine okF (T.c.def_ 29 (d := d_29) rfl) sc_law_eaten (lenD rfl) (fun _ _ _ _ _ _ us hl => match us, hl with | [_, _], _ => rfl) ?_
  intro cdv A outer s H E hr
  refine ⟨_, (pss_cons (ps_set (i := 2) sc_law_eaten.nd (by rfl) (by first | exact Or.inl rfl | exact Or.inr rfl) pe_int) (pss_cons (ps_asg (pe_tup (pa_cons (pe_op op_rep (pe_lst (pa_cons (pv 2) pa_nil)) (pv 1)) (pa_cons pe_int (pa_cons (pe_lst pa_nil) pa_nil)))) (Pu.pg_tupK (K := K) (n := 3) (by rfl) (pgs_cons (pg_name (i := 3) sc_law_eaten.nd (by rfl) (by first | exact Or.inl rfl | exact Or.inr rfl)) (pgs_cons (pg_name (i := 4) sc_law_eaten.nd (by rfl) (by first | exact Or.inl rfl | exact Or.inr rfl)) (pgs_cons (pg_name (i := 5) sc_law_eaten.nd (by rfl) (by first | exact Or.inl rfl | exact Or.inr rfl)) pgs_nil))))) (pss_cons (ps_setLc (i := 6) (own := [("order", 7)]) (by rfl) sc_law_eaten.nd rfl rfl (sw_true rfl rfl rfl (by decide +kernel)) (Pu.pi_listK (K := K) (pv 0)) (blkOk_by (N := ["lists", "many", "low", "left", "clock", "ends", "had", "order", "going", "bites", "thing", "steps", "step", "k", "row", "one"]) (sc := defScope s_law_eaten) (by decide +kernel)) (fun _ _ _ _ _ => (pg_name (i := 7) sc_law_eaten.nd (by rfl) (by first | exact Or.inl rfl | exact Or.inr rfl))) (fun _ _ _ _ _ => pts_nil) (fun _ _ _ _ _ => (pe_op op_rep (pe_lst (pa_cons pe_int pa_nil)) (pv 1)))) (pss_cons (ps_set (i := 8) sc_law_eaten.nd (by rfl) (by first | exact Or.inl rfl | exact Or.inr rfl) pe_bl) (pss_cons (ps_while poB (pt_val (pv 8)) (pss_cons (ps_set (i := 9) sc_law_eaten.nd (by rfl) (by first | exact Or.inl rfl | exact Or.inr rfl) (pe_lc (own := [("order", 7)]) (by rfl) sc_law_eaten.nd (Pu.pi_listK (K := K) (pv 0)) (blkOk_by (N := ["lists", "many", "low", "left", "clock", "ends", "had", "order", "going", "bites", "thing", "steps", "step", "k", "row", "one"]) (sc := defScope s_law_eaten) (by decide +kernel)) (fun _ _ _ _ _ => (pg_name (i := 7) sc_law_eaten.nd (by rfl) (by first | exact Or.inl rfl | exact Or.inr rfl))) (fun _ _ _ _ _ => pts_nil) (fun _ _ _ _ _ => (pe_ix (Pu.ix_listK (K := K)) (pe_op op_cat (pe_lc (own := [("thing", 10)]) (by rfl) sc_law_eaten.nd (Pu.pi_tupK (K := K) (pv 7)) (blkOk_by (N := ["lists", "many", "low", "left", "clock", "ends", "had", "order", "going", "bites", "thing", "steps", "step", "k", "row", "one"]) (by kernel_rfl)) (fun _ _ _ _ _ => (pg_name (i := 10) sc_law_eaten.nd (by rfl) (by first | exact Or.inl rfl | exact Or.inr rfl))) (fun _ _ _ _ _ => pts_one (pt_cmpR op_gt (pe_ix (Pu.ix_listK (K := K)) (pv 3) (pv 10) (fun _ _ => rfl)) pe_int (nomark _))) (fun _ _ _ _ _ => (pv 10))) (pe_lst (pa_cons pe_non pa_nil))) pe_int (fun _ _ => rfl))))) (pss_cons (ps_setLc (i := 11) (own := [("thing", 10)]) (by rfl) sc_law_eaten.nd rfl rfl (sw_true rfl rfl rfl (by decide +kernel)) (pi_range1 (by rfl) (T.free 23) (pa_cons (pv 1) pa_nil)) (blkOk_by (N := ["lists", "many", "low", "left", "clock", "ends", "had", "order", "going", "bites", "thing", "steps", "step", "k", "row", "one"]) (sc := defScope s_law_eaten) (by decide +kernel)) (fun _ _ _ _ _ => (pg_name (i := 10) sc_law_eaten.nd (by rfl) (by first | exact Or.inl rfl | exact Or.inr rfl))) (fun _ _ _ _ _ => pts_one (pt_cmpR (Pu.op_in_seqK (K := K)) (pv 10) (pv 9) rfl)) (fun _ _ _ _ _ => (pe_op op_fdiv (pe_op op_mul (pe_ix (Pu.ix_listK (K := K)) (pv 3) (pv 10) (fun _ _ => rfl)) pe_int) (Pu.pe_bmK (K := K) PySem.F.plainAttrs_list PySem.F.slot_list_count PySem.F.type_list_count (PuX.mt_countLK (K := K)) (pv 9) (pa_cons (pv 10) pa_nil))))) (pss_cons (ps_set (i := 12) sc_law_eaten.nd (by rfl) (by first | exact Or.inl rfl | exact Or.inr rfl) (pe_op op_fdiv (pe_callB (cr_minLK (K := K) (by rfl)) (by rfl) (T.free 50) (by decide +kernel) (pa_cons (pe_op op_cat (pv 11) (pe_lst (pa_cons (pe_op op_mul (pe_op op_sub (pv 2) (pv 4)) pe_int) pa_nil))) pa_nil)) pe_int)) (pss_cons (ps_set (i := 8) sc_law_eaten.nd (by rfl) (by first | exact Or.inl rfl | exact Or.inr rfl) (pe_and (pe_cmpR (Pu.op_neDK (K := K) hr.units) (pv 11) (pe_lst pa_nil) (nomark _)) (pe_one (pe_cmpR op_lt (pv 4) (pv 2) (nomark _))))) (pss_one (ps_if (pt_val (pv 8)) (pss_cons (ps_for poB (by rfl) (pi_range1 (by rfl) (T.free 23) (pa_cons (pe_callB (Pu.call_lenK (K := K)) (by rfl) (T.free 5) PySem.boot_len (pa_cons (pv 0) pa_nil)) pa_nil)) (pg_name (i := 13) sc_law_eaten.nd (by rfl) (by first | exact Or.inl rfl | exact Or.inr rfl)) (pss_one (ps_if (pt_cmpR op_notN (pe_ix (Pu.ix_listK (K := K)) (pv 9) (pv 13) (fun _ _ => rfl)) pe_non (nomark _)) (pss_cons (ps_asg (pe_op op_add (pe_ix (Pu.ix_listK (K := K)) (pe_ix (Pu.ix_listK (K := K)) (pv 6) (pv 13) (fun _ _ => rfl)) (pe_ix (Pu.ix_listK (K := K)) (pv 9) (pv 13) (fun _ _ => rfl)) (fun _ _ => rfl)) (pv 12)) (pg_sub (pe_ix (Pu.ix_listK (K := K)) (pv 6) (pv 13) (fun _ _ => rfl)) (pe_ix (Pu.ix_listK (K := K)) (pv 9) (pv 13) (fun _ _ => rfl)) set_list)) (pss_one (ps_asg (pe_op op_sub (pe_ix (Pu.ix_listK (K := K)) (pv 3) (pe_ix (Pu.ix_listK (K := K)) (pv 9) (pv 13) (fun _ _ => rfl)) (fun _ _ => rfl)) (pv 12)) (pg_sub (pv 3) (pe_ix (Pu.ix_listK (K := K)) (pv 9) (pv 13) (fun _ _ => rfl)) set_list)))) pss_nil))) (pss_cons (ps_set (i := 4) sc_law_eaten.nd (by rfl) (by first | exact Or.inl rfl | exact Or.inr rfl) (pe_op op_add (pv 4) (pv 12))) (pss_one (ps_expr (Pu.pe_bmK (K := K) PySem.F.plainAttrs_list PySem.F.slot_list_append PySem.F.type_list_append mt_append (pv 5) (pa_cons (pcall (ok_law_small T) hr (by decide) (T.glo 51) pxB (pa_cons (pv 4) (pa_cons (pv 2) pa_nil))) pa_nil)))))) pss_nil))))))) (pss_one (ps_ret (pe_tup (pa_cons (pe_lc (own := [("row", 14)]) (by rfl) sc_law_eaten.nd (Pu.pi_listK (K := K) (pv 6)) (blkOk_by (N := ["lists", "many", "low", "left", "clock", "ends", "had", "order", "going", "bites", "thing", "steps", "step", "k", "row", "one"]) (sc := defScope s_law_eaten) (by decide +kernel)) (fun _ _ _ _ _ => (pg_name (i := 14) sc_law_eaten.nd (by rfl) (by first | exact Or.inl rfl | exact Or.inr rfl))) (fun _ _ _ _ _ => pts_nil) (fun _ _ _ _ _ => (Pu.pe_tupleNK (K := K) (by rfl) (T.free 0) (pe_lc (own := [("one", 15)]) (by rfl) sc_law_eaten.nd (Pu.pi_listK (K := K) (pv 14)) (blkOk_by (N := ["lists", "many", "low", "left", "clock", "ends", "had", "order", "going", "bites", "thing", "steps", "step", "k", "row", "one"]) (by kernel_rfl)) (fun _ _ _ _ _ => (pg_name (i := 15) sc_law_eaten.nd (by rfl) (by first | exact Or.inl rfl | exact Or.inr rfl))) (fun _ _ _ _ _ => pts_nil) (fun _ _ _ _ _ => (pcall (ok_law_small T) hr (by decide) (T.glo 51) passL (pa_cons (pv 15) (pa_cons (pv 2) pa_nil)))))))) (pa_cons (pv 5) pa_nil)))))))))), ?_⟩
  intro vs Q h
  refine PuX.run_D0 (Γe := []) (cs := [(dLst (dTup dInt)), dInt]) (n := 14) (T := ?T) rfl ?h ?f vs H Q h
  case h => exact (PuX.st_seq0 (Pu.st_set (p := false) (.s (.s (.z))) (Pu.ev_c (c := dInt) (x := 3456) fun _ => rfl)) (PuX.st_seq0 (Pu.st_asgNDN (p := false) (.s (.s (.s (.z)))) (.s (.s (.s (.s (.z))))) (.s (.s (.s (.s (.s (.z)))))) (Pu.en_rep (Pu.freeze (c := dInt) (Pu.en_lst (c := dInt) 1 (by decide) (Pu.ea_cons (Pu.ev_var (.s (.s (.z)))) Pu.ea_nil))) (Pu.ev_var (.s (.z)))) (Pu.ev_c (c := dInt) (x := 0) fun _ => rfl) Pu.en_nil) (PuX.st_seq0 (Pu.st_setN (p := false) (.s (.s (.s (.s (.s (.s (.z))))))) (PuX.en_lcLL (c := dInt) (vs := [7]) (Γ := [.da (dLst (dTup dInt)), .da dInt, .da dInt, .m .lo (mLst dInt), .da dInt, .m .lo (mLst (dP2 dInt dInt)), .no, .no, .no, .no, .no, .no, .no, .no, .no, .no]) (Γ1 := [.da (dLst (dTup dInt)), .da dInt, .da dInt, .m .lo (mLst dInt), .da dInt, .m .lo (mLst (dP2 dInt dInt)), .no, .da (dTup dInt), .no, .no, .no, .no, .no, .no, .no, .no]) (by rfl) (by decide) (Pu.ei_list (Pu.ev_var .z)) (Pu.tg_name (.s (.s (.s (.s (.s (.s (.s (.z))))))))) (Pu.en_rep (Pu.freeze (c := dInt) (Pu.en_lst (c := dInt) 1 (by decide) (Pu.ea_cons (Pu.ev_c (c := dInt) (x := 0) fun _ => rfl) Pu.ea_nil))) (Pu.ev_var (.s (.z)))))) (PuX.st_seq0 (Pu.st_set (p := false) (.s (.s (.s (.s (.s (.s (.s (.s (.z))))))))) (Pu.ev_c (c := dBl) (x := true) fun _ => rfl)) (PuX.st_seq0 (Pu.st_while (p := false) 100000 (Pu.et_B (Pu.ev_var (.s (.s (.s (.s (.s (.s (.s (.s (.z))))))))))) (Pu.st_post (Bk.drop (Bk.drop (Bk.drop Bk.id (.s (.s (.s (.s (.s (.s (.s (.s (.s (.s (.s (.s (.z)))))))))))))) (.s (.s (.s (.s (.s (.s (.s (.s (.s (.s (.s (.z))))))))))))) (.s (.s (.s (.s (.s (.s (.s (.s (.s (.z))))))))))) (Pu.st_seq (Pu.st_set (p := false) (.s (.s (.s (.s (.s (.s (.s (.s (.s (.z)))))))))) (Pu.freeze (c := (dOpt dInt)) (Pu.en_lc (q := false) (vs := [7]) (Γ0 := [.da (dLst (dTup dInt)), .da dInt, .da dInt, .m .lo (mLst dInt), .da dInt, .m .lo (mLst (dP2 dInt dInt)), .m .lo (PuX.mLL dInt), .no, .da dBl, .no, .no, .no, .no, .no, .no, .no]) (Γ1 := [.da (dLst (dTup dInt)), .da dInt, .da dInt, .m .lo (mLst dInt), .da dInt, .m .lo (mLst (dP2 dInt dInt)), .m .lo (PuX.mLL dInt), .da (dTup dInt), .da dBl, .no, .no, .no, .no, .no, .no, .no]) Hd.id (by rfl) (by decide) (Bk.drop Bk.id (.s (.s (.s (.s (.s (.s (.s (.z))))))))) (Pu.ei_list (Pu.ev_var .z)) (Pu.tg_name (.s (.s (.s (.s (.s (.s (.s (.z))))))))) Pu.pts_et (Pu.ev_opP Pu.o_ixL (Pu.freeze (c := (dOpt dInt)) (Pu.en_cat (Pu.ev_sb Pu.sb_someL (Pu.freeze (c := dInt) (Pu.en_lc (q := false) (vs := [10]) (Γ0 := [.da (dLst (dTup dInt)), .da dInt, .da dInt, .m .lo (mLst dInt), .da dInt, .m .lo (mLst (dP2 dInt dInt)), .m .lo (PuX.mLL dInt), .da (dTup dInt), .da dBl, .no, .no, .no, .no, .no, .no, .no]) (Γ1 := [.da (dLst (dTup dInt)), .da dInt, .da dInt, .m .lo (mLst dInt), .da dInt, .m .lo (mLst (dP2 dInt dInt)), .m .lo (PuX.mLL dInt), .da (dTup dInt), .da dBl, .no, .da dInt, .no, .no, .no, .no, .no]) Hd.id (by rfl) (by decide) (Bk.drop Bk.id (.s (.s (.s (.s (.s (.s (.s (.s (.s (.s (.z)))))))))))) (Pu.ei_tup (Pu.ev_var (.s (.s (.s (.s (.s (.s (.s (.z)))))))))) (Pu.tg_name (.s (.s (.s (.s (.s (.s (.s (.s (.s (.s (.z)))))))))))) (Pu.et_test (Pu.ev_op Pu.o_cmp (Pu.ev_ixM (.s (.s (.s (.z)))) (Pu.ev_var (.s (.s (.s (.s (.s (.s (.s (.s (.s (.s (.z))))))))))))) (Pu.ev_c (c := dInt) (x := 0) fun _ => rfl))) (Pu.ev_var (.s (.s (.s (.s (.s (.s (.s (.s (.s (.s (.z))))))))))))))) (Pu.ev_sb Pu.sb_noneL (Pu.freeze (c := dNon) (Pu.en_lst (c := dNon) 1 (by decide) (Pu.ea_cons (Pu.ev_c (c := dNon) (x := ()) fun _ => rfl) Pu.ea_nil)))))) (Pu.ev_c (c := dInt) (x := 0) fun _ => rfl))))) (Pu.st_seq (Pu.st_set (p := false) (.s (.s (.s (.s (.s (.s (.s (.s (.s (.s (.s (.z)))))))))))) (Pu.freeze (c := dInt) (Pu.en_lc (q := false) (vs := [10]) (Γ0 := [.da (dLst (dTup dInt)), .da dInt, .da dInt, .m .lo (mLst dInt), .da dInt, .m .lo (mLst (dP2 dInt dInt)), .m .lo (PuX.mLL dInt), .no, .da dBl, .da (dLst (dOpt dInt)), .no, .no, .no, .no, .no, .no]) (Γ1 := [.da (dLst (dTup dInt)), .da dInt, .da dInt, .m .lo (mLst dInt), .da dInt, .m .lo (mLst (dP2 dInt dInt)), .m .lo (PuX.mLL dInt), .no, .da dBl, .da (dLst (dOpt dInt)), .da dInt, .no, .no, .no, .no, .no]) Hd.id (by rfl) (by decide) (Bk.drop Bk.id (.s (.s (.s (.s (.s (.s (.s (.s (.s (.s (.z)))))))))))) (Pu.ei_rng1 (Pu.ea_cons (Pu.ev_var (.s (.z))) Pu.ea_nil)) (Pu.tg_name (.s (.s (.s (.s (.s (.s (.s (.s (.s (.s (.z)))))))))))) (Pu.et_test (Pu.ev_op (Pu.o_inL flOI false) (Pu.ev_as (a := dInt) (b := dOpt dInt) some someI (Pu.ev_var (.s (.s (.s (.s (.s (.s (.s (.s (.s (.s (.z))))))))))))) (Pu.ev_var (.s (.s (.s (.s (.s (.s (.s (.s (.s (.z))))))))))))) (Pu.ev_opP Pu.o_fdiv (Pu.ev_opP Pu.o_mul (Pu.ev_ixM (.s (.s (.s (.z)))) (Pu.ev_var (.s (.s (.s (.s (.s (.s (.s (.s (.s (.s (.z))))))))))))) (Pu.ev_c (c := dInt) (x := 24) fun _ => rfl)) (PuX.ev_countLF flOI (Pu.ev_var (.s (.s (.s (.s (.s (.s (.s (.s (.s (.z))))))))))) (Pu.ev_as (a := dInt) (b := dOpt dInt) some someI (Pu.ev_var (.s (.s (.s (.s (.s (.s (.s (.s (.s (.s (.z)))))))))))))))))) (Pu.st_seq (Pu.st_set (p := false) (.s (.s (.s (.s (.s (.s (.s (.s (.s (.s (.s (.s (.z))))))))))))) (Pu.ev_opP Pu.o_fdiv (Pu.ev_b1P Pu.o_minL (Pu.freeze (c := dInt) (Pu.en_cat (Pu.ev_var (.s (.s (.s (.s (.s (.s (.s (.s (.s (.s (.s (.z))))))))))))) (Pu.freeze (c := dInt) (Pu.en_lst (c := dInt) 1 (by decide) (Pu.ea_cons (Pu.ev_opP Pu.o_mul (Pu.ev_op Pu.o_int (Pu.ev_var (.s (.s (.z)))) (Pu.ev_var (.s (.s (.s (.s (.z))))))) (Pu.ev_c (c := dInt) (x := 24) fun _ => rfl)) Pu.ea_nil)))))) (Pu.ev_c (c := dInt) (x := 24) fun _ => rfl))) (Pu.st_seq (Pu.st_set (p := false) (.s (.s (.s (.s (.s (.s (.s (.s (.z))))))))) (Pu.ev_and (Pu.ev_op (Pu.o_ne (Pu.dqLst Pu.dqInt) (by decide)) (Pu.ev_var (.s (.s (.s (.s (.s (.s (.s (.s (.s (.s (.s (.z))))))))))))) (Pu.freeze Pu.en_nil)) (Pu.ev_op Pu.o_cmp (Pu.ev_var (.s (.s (.s (.s (.z)))))) (Pu.ev_var (.s (.s (.z))))))) (Pu.st_if (p := false) (Pu.et_B (Pu.ev_var (.s (.s (.s (.s (.s (.s (.s (.s (.z))))))))))) (Pu.st_seq (Pu.st_for (p := false) (Γ' := [.da (dLst (dTup dInt)), .da dInt, .da dInt, .m .lo (mLst dInt), .da dInt, .m .lo (mLst (dP2 dInt dInt)), .m .lo (PuX.mLL dInt), .no, .da dBl, .da (dLst (dOpt dInt)), .no, .da (dLst dInt), .da dInt, .da dInt, .no, .no]) (Pu.ei_rng1 (Pu.ea_cons (Pu.ev_b1 Pu.o_lenL (Pu.ev_var .z)) Pu.ea_nil)) (Pu.tg_name (.s (.s (.s (.s (.s (.s (.s (.s (.s (.s (.s (.s (.s (.z))))))))))))))) (Pu.st_post (Bk.drop Bk.id (.s (.s (.s (.s (.s (.s (.s (.s (.s (.s (.s (.s (.s (.z))))))))))))))) (Pu.st_if (p := false) (Pu.et_test (Pu.ev_op Pu.o_notN (Pu.ev_opP Pu.o_ixL (Pu.ev_var (.s (.s (.s (.s (.s (.s (.s (.s (.s (.z))))))))))) (Pu.ev_var (.s (.s (.s (.s (.s (.s (.s (.s (.s (.s (.s (.s (.s (.z)))))))))))))))) (Pu.ev_c (c := dNon) (x := ()) fun _ => rfl))) (Pu.st_seq (PuX.st_setLL (p := false) (k := .lo) (by decide) (.s (.s (.s (.s (.s (.s (.z))))))) (Pu.ev_op Pu.o_int (Pu.ev_frz (Γ' := [.da (dLst (dTup dInt)), .da dInt, .da dInt, .da (dLst dInt), .da dInt, .da (dLst (dP2 dInt dInt)), .da (dLst (dLst dInt)), .no, .da dBl, .da (dLst (dOpt dInt)), .no, .da (dLst dInt), .da dInt, .da dInt, .no, .no]) (.da (.da (.da (.m Pu.fzL (.da (.m Pu.fzL (.m PuX.fzLL (.no (.da (.da (.no (.da (.da (.da (.no (.no .nil)))))))))))))))) Pu.und_int (Pu.ev_opP Pu.o_ixL (Pu.ev_opP Pu.o_ixL (Pu.ev_var (.s (.s (.s (.s (.s (.s (.z)))))))) (Pu.ev_var (.s (.s (.s (.s (.s (.s (.s (.s (.s (.s (.s (.s (.s (.z)))))))))))))))) (Pu.ev_asP (a := dOpt dInt) (b := dInt) (fun x => x) Pu.o_someI (Pu.ev_opP Pu.o_ixL (Pu.ev_var (.s (.s (.s (.s (.s (.s (.s (.s (.s (.z))))))))))) (Pu.ev_var (.s (.s (.s (.s (.s (.s (.s (.s (.s (.s (.s (.s (.s (.z))))))))))))))))))) (Pu.ev_var (.s (.s (.s (.s (.s (.s (.s (.s (.s (.s (.s (.s (.z))))))))))))))) (Pu.ev_var (.s (.s (.s (.s (.s (.s (.s (.s (.s (.s (.s (.s (.s (.z))))))))))))))) (Pu.ev_asP (a := dOpt dInt) (b := dInt) (fun x => x) Pu.o_someI (Pu.ev_opP Pu.o_ixL (Pu.ev_var (.s (.s (.s (.s (.s (.s (.s (.s (.s (.z))))))))))) (Pu.ev_var (.s (.s (.s (.s (.s (.s (.s (.s (.s (.s (.s (.s (.s (.z)))))))))))))))))) (Pu.st_setIx (p := false) (k := .lo) (by decide) (.s (.s (.s (.z)))) (Pu.ev_op Pu.o_int (Pu.ev_ixM (.s (.s (.s (.z)))) (Pu.ev_asP (a := dOpt dInt) (b := dInt) (fun x => x) Pu.o_someI (Pu.ev_opP Pu.o_ixL (Pu.ev_var (.s (.s (.s (.s (.s (.s (.s (.s (.s (.z))))))))))) (Pu.ev_var (.s (.s (.s (.s (.s (.s (.s (.s (.s (.s (.s (.s (.s (.z)))))))))))))))))) (Pu.ev_var (.s (.s (.s (.s (.s (.s (.s (.s (.s (.s (.s (.s (.z))))))))))))))) (Pu.ev_asP (a := dOpt dInt) (b := dInt) (fun x => x) Pu.o_someI (Pu.ev_opP Pu.o_ixL (Pu.ev_var (.s (.s (.s (.s (.s (.s (.s (.s (.s (.z))))))))))) (Pu.ev_var (.s (.s (.s (.s (.s (.s (.s (.s (.s (.s (.s (.s (.s (.z))))))))))))))))))) Pu.st_next))) (Pu.st_seq (Pu.st_set (p := false) (.s (.s (.s (.s (.z))))) (Pu.ev_op Pu.o_int (Pu.ev_var (.s (.s (.s (.s (.z)))))) (Pu.ev_var (.s (.s (.s (.s (.s (.s (.s (.s (.s (.s (.s (.s (.z)))))))))))))))) (Pu.st_app (p := false) (by decide) (.s (.s (.s (.s (.s (.z)))))) (Pu.ev_call (Pu.ea_cons (Pu.ev_var (.s (.s (.s (.s (.z)))))) (Pu.ea_cons (Pu.ev_var (.s (.s (.z)))) Pu.ea_nil)))))) Pu.st_next))))))) (PuX.st_frz0 (.s (.s (.s (.s (.s (.z)))))) (PuX.st_of (Pu.st_ret (p := false) prD (Pu.ev_p2 (Pu.ea_cons (Pu.ev_frzLM (Γ' := [.da (dLst (dTup dInt)), .da dInt, .da dInt, .da (dLst dInt), .da dInt, .da (dLst (dP2 dInt dInt)), .da (dLst (dLst dInt)), .no, .da dBl, .no, .no, .no, .no, .no, .no, .no]) (c := (dTup (dP2 dInt dInt))) (.da (.da (.da (.m Pu.fzL (.da (.da (.m PuX.fzLL (.no (.da (.no (.no (.no (.no (.no (.no (.no .nil)))))))))))))))) (Pu.und_tup (Pu.und_p2 Pu.und_int Pu.und_int)) (Pu.en_lc (q := false) (vs := [14]) (Γ0 := [.da (dLst (dTup dInt)), .da dInt, .da dInt, .da (dLst dInt), .da dInt, .da (dLst (dP2 dInt dInt)), .da (dLst (dLst dInt)), .no, .da dBl, .no, .no, .no, .no, .no, .no, .no]) (Γ1 := [.da (dLst (dTup dInt)), .da dInt, .da dInt, .da (dLst dInt), .da dInt, .da (dLst (dP2 dInt dInt)), .da (dLst (dLst dInt)), .no, .da dBl, .no, .no, .no, .no, .no, .da (dLst dInt), .no]) Hd.id (by rfl) (by decide) (Bk.drop Bk.id (.s (.s (.s (.s (.s (.s (.s (.s (.s (.s (.s (.s (.s (.s (.z)))))))))))))))) (Pu.ei_list (Pu.ev_var (.s (.s (.s (.s (.s (.s (.z))))))))) (Pu.tg_name (.s (.s (.s (.s (.s (.s (.s (.s (.s (.s (.s (.s (.s (.s (.z)))))))))))))))) Pu.pts_et (Pu.ev_sb (Pu.sb_tun (c := (dP2 dInt dInt))) (Pu.ev_1 Pu.o_tupNL (Pu.freeze (c := (dP2 dInt dInt)) (Pu.en_lc (q := false) (vs := [15]) (Γ0 := [.da (dLst (dTup dInt)), .da dInt, .da dInt, .da (dLst dInt), .da dInt, .da (dLst (dP2 dInt dInt)), .da (dLst (dLst dInt)), .no, .da dBl, .no, .no, .no, .no, .no, .da (dLst dInt), .no]) (Γ1 := [.da (dLst (dTup dInt)), .da dInt, .da dInt, .da (dLst dInt), .da dInt, .da (dLst (dP2 dInt dInt)), .da (dLst (dLst dInt)), .no, .da dBl, .no, .no, .no, .no, .no, .da (dLst dInt), .da dInt]) Hd.id (by rfl) (by decide) (Bk.drop Bk.id (.s (.s (.s (.s (.s (.s (.s (.s (.s (.s (.s (.s (.s (.s (.s (.z))))))))))))))))) (Pu.ei_list (Pu.ev_var (.s (.s (.s (.s (.s (.s (.s (.s (.s (.s (.s (.s (.s (.s (.z))))))))))))))))) (Pu.tg_name (.s (.s (.s (.s (.s (.s (.s (.s (.s (.s (.s (.s (.s (.s (.s (.z))))))))))))))))) Pu.pts_et (Pu.ev_call (Pu.ea_cons (Pu.ev_var (.s (.s (.s (.s (.s (.s (.s (.s (.s (.s (.s (.s (.s (.s (.s (.z))))))))))))))))) (Pu.ea_cons (Pu.ev_var (.s (.s (.z)))) Pu.ea_nil))))))))) (Pu.ea_cons (Pu.ev_var (.s (.s (.s (.s (.s (.z))))))) Pu.ea_nil)))))))))))
  case f => intros; kernel_rfl
theorem ok_law_dice (T : PuX.TxE exG fa fn K mg) : OkF P w K mg base 1 (He.ga K "_law_dice") ["cell"] (spN (xcK K) [dInt] (mLst dInt) (fun x => m_law_dice x.1)) := by
  refine okF (T.c.def_ 30 (d := d_30) rfl) sc_law_dice (lenN rfl) (fun _ _ _ _ _ _ us hl => match us, hl with | [_], _ => rfl) ?_
  intro cdv A outer s H E hr
  refine ⟨_, (pss_cons (ps_if (pt_chain op_lt op_lt (pe_op op_sub pe_int pe_int) (pv 0) pe_int) (pss_one (ps_ret (pe_lst (pa_cons (pe_callB call_abs (by rfl) (T.free 49) (by decide +kernel) (pa_cons (pv 0) pa_nil)) (pa_cons pe_int (pa_cons pe_int pa_nil)))))) pss_nil) (pss_one (ps_ret (pe_lst (pa_cons (pv 0) (pa_cons (pe_op op_add pe_int (pe_op op_mod (pe_callTy call_int1 (by rfl) (T.free 52) (by decide +kernel) (pa_cons (pv 0) pa_nil)) pe_int)) (pa_cons (pe_callTy call_int1 (by rfl) (T.free 52) (by decide +kernel) (pa_cons (pe_cmpR op_ge (pv 0) (pe_op op_pow pe_int pe_int) (nomark _)) pa_nil)) pa_nil))))))), ?_⟩
  intro vs Q h
  refine run_N (Γe := []) (cs := [dInt]) (n := 0) (T := ?T) rfl ?h ?f vs H Q h
  case h => exact (Pu.st_seq (Pu.st_if (p := false) (Pu.et_test (Pu.ev_chain Pu.o_cmp Pu.o_cmp (Pu.ev_op Pu.o_int (Pu.ev_c (c := dInt) (x := 0) fun _ => rfl) (Pu.ev_c (c := dInt) (x := 10) fun _ => rfl)) (Pu.ev_var .z) (Pu.ev_c (c := dInt) (x := 10) fun _ => rfl))) (Pu.st_retNew (p := false) (Pu.en_lst (c := dInt) 3 (by decide) (Pu.ea_cons (Pu.ev_b1 Pu.o_abs (Pu.ev_var .z)) (Pu.ea_cons (Pu.ev_c (c := dInt) (x := 0) fun _ => rfl) (Pu.ea_cons (Pu.ev_c (c := dInt) (x := 2) fun _ => rfl) Pu.ea_nil))))) Pu.st_next) (Pu.st_retNew (p := false) (Pu.en_lst (c := dInt) 3 (by decide) (Pu.ea_cons (Pu.ev_var .z) (Pu.ea_cons (Pu.ev_op Pu.o_int (Pu.ev_c (c := dInt) (x := 1) fun _ => rfl) (Pu.ev_opP Pu.o_mod (Pu.ev_b1 Pu.o_intI (Pu.ev_var .z)) (Pu.ev_c (c := dInt) (x := 1009) fun _ => rfl))) (Pu.ea_cons (Pu.ev_b1 Pu.o_intB (Pu.ev_op Pu.o_cmp (Pu.ev_var .z) (Pu.ev_opP Pu.o_pow (Pu.ev_c (c := dInt) (x := 10) fun _ => rfl) (Pu.ev_c (c := dInt) (x := 18) fun _ => rfl)))) Pu.ea_nil))))))
  case f => intros; kernel_rfl
theorem ok_law_rounds (T : PuX.TxE exG fa fn K mg) : OkF P w K mg base 2 (He.ga K "_law_rounds") ["script", "most_now"] (spN (xcK K) [(dScr K), dInt] (mOne (mLst dInt)) (fun x => m_law_rounds x.1 x.2.1)) := by
  refine okF (T.c.def_ 31 (d := d_31) rfl) sc_law_rounds (lenN rfl) (fun _ _ _ _ _ _ us hl => match us, hl with | [_, _], _ => rfl) ?_
  intro cdv A outer s H E hr
  refine ⟨_, (pss_cons (ps_set (i := 2) sc_law_rounds.nd (by rfl) (by first | exact Or.inl rfl | exact Or.inr rfl) (pe_slice (Pu.sl_listK (K := K)) (pv 0) po_none (po_some (pv 1)))) (pss_cons (ps_if (pt_cmpR (Pu.op_eqDK (K := K) hr.units) (pv 2) (pe_lst pa_nil) (nomark _)) (pss_one (ps_set (i := 2) sc_law_rounds.nd (by rfl) (by first | exact Or.inl rfl | exact Or.inr rfl) (pe_lst (pa_cons pe_int pa_nil)))) pss_nil) (pss_one (ps_ret (pe_lc (own := [("cell", 3)]) (by rfl) sc_law_rounds.nd (Pu.pi_listK (K := K) (pv 2)) (blkOk_by (N := ["script", "most_now", "cells", "cell"]) (sc := defScope s_law_rounds) (by decide +kernel)) (fun _ _ _ _ _ => (pg_name (i := 3) sc_law_rounds.nd (by rfl) (by first | exact Or.inl rfl | exact Or.inr rfl))) (fun _ _ _ _ _ => pts_nil) (fun _ _ _ _ _ => (pcall (ok_law_dice T) hr (by decide) (T.glo 53) passL (pa_cons (pv 3) pa_nil)))))))), ?_⟩
  intro vs Q h
  refine run_N (Γe := []) (cs := [(dScr K), dInt]) (n := 2) (T := ?T) rfl ?h ?f vs H Q h
  case h => exact (Pu.st_seq (Pu.st_set (p := false) (.s (.s (.z))) (Pu.freeze (c := dInt) (Pu.en_slScr (Pu.ev_var .z) Pu.eo_no (Pu.eo_some (Pu.ev_var (.s (.z))))))) (Pu.st_seq (Pu.st_if (p := false) (Pu.et_test (Pu.ev_op (Pu.o_eq (Pu.dqLst Pu.dqInt) (by decide)) (Pu.ev_var (.s (.s (.z)))) (Pu.freeze Pu.en_nil))) (Pu.st_set (p := false) (.s (.s (.z))) (Pu.freeze (c := dInt) (Pu.en_lst (c := dInt) 1 (by decide) (Pu.ea_cons (Pu.ev_c (c := dInt) (x := 0) fun _ => rfl) Pu.ea_nil)))) Pu.st_next) (Pu.st_retNew (p := false) (Pu.en_lc1 (vs := [3]) (Γ1 := [.da (dScr K), .da dInt, .da (dLst dInt), .da dInt]) (by rfl) (by decide) (Bk.drop Bk.id (.s (.s (.s (.z))))) (Pu.ei_list (Pu.ev_var (.s (.s (.z))))) (Pu.tg_name (.s (.s (.s (.z))))) (Pu.ev_callN (Pu.ea_cons (Pu.ev_var (.s (.s (.s (.z))))) Pu.ea_nil))))))
  case f => intros; kernel_rfl
theorem ok_law_roll (T : PuX.TxE exG fa fn K mg) : OkF P w K mg base 1 (He.ga K "_law_roll") ["dice", "many"] (spM (xcK K) (mLst dInt) [dInt] dInt (fun y x => m_law_roll y x.1)) := by
  refine okF (T.c.def_ 32 (d := d_32) rfl) sc_law_roll (lenM rfl) (fun _ _ _ _ _ _ us hl => match us, hl with | [_, _], _ => rfl) ?_
  intro cdv A outer s H E hr
  refine ⟨_, (pss_cons (ps_if (PW.pt (pw_or (pt_cmpR (Pu.op_eqDK (K := K) hr.units) (pe_ix (Pu.ix_listK (K := K)) (pv 0) pe_int (fun _ _ => rfl)) pe_int (nomark _)) (pw_or1 (PW.pt (pw_and (pt_cmpR (Pu.op_eqDK (K := K) hr.units) (pe_ix (Pu.ix_listK (K := K)) (pv 0) pe_int (fun _ _ => rfl)) pe_int (nomark _)) (pw_and1 (pt_cmpR op_gt (pe_ix (Pu.ix_listK (K := K)) (pv 0) pe_int (fun _ _ => rfl)) pe_int (nomark _)))))))) (pss_cons (ps_set (i := 2) sc_law_roll.nd (by rfl) (by first | exact Or.inl rfl | exact Or.inr rfl) (pe_op op_mod (pe_callTy call_int1 (by rfl) (T.free 52) (by decide +kernel) (pa_cons (pe_ix (Pu.ix_listK (K := K)) (pv 0) pe_int (fun _ _ => rfl)) pa_nil)) (pv 1))) (pss_cons (ps_asg (pe_op op_fdiv (pe_ix (Pu.ix_listK (K := K)) (pv 0) pe_int (fun _ _ => rfl)) (pv 1)) (pg_sub (pv 0) pe_int set_list)) (pss_one (ps_ret (pv 2))))) pss_nil) (pss_cons (ps_asg pe_int (pg_sub (pv 0) pe_int set_list)) (pss_cons (ps_asg (pe_op op_mod (pe_callTy call_int1 (by rfl) (T.free 52) (by decide +kernel) (pa_cons (pe_op op_add (pe_op op_add (pe_op op_mul (pe_ix (Pu.ix_listK (K := K)) (pv 0) pe_int (fun _ _ => rfl)) pe_int) (pe_op op_mul (pe_ix (Pu.ix_listK (K := K)) (pv 0) pe_int (fun _ _ => rfl)) pe_int)) pe_int) pa_nil)) pe_int) (pg_sub (pv 0) pe_int set_list)) (pss_cons (ps_asg (pe_op op_add (pe_ix (Pu.ix_listK (K := K)) (pv 0) pe_int (fun _ _ => rfl)) pe_int) (pg_sub (pv 0) pe_int set_list)) (pss_one (ps_ret (pe_op op_mod (pe_callTy call_int1 (by rfl) (T.free 52) (by decide +kernel) (pa_cons (pe_op op_add (pe_op op_fdiv (pe_ix (Pu.ix_listK (K := K)) (pv 0) pe_int (fun _ _ => rfl)) pe_int) (pe_ix (Pu.ix_listK (K := K)) (pv 0) pe_int (fun _ _ => rfl))) pa_nil)) (pv 1)))))))), ?_⟩
  intro vs Q h
  refine run_M (Γe := []) (cs := [dInt]) (n := 1) (T := ?T) rfl ?h ?f vs H Q h
  case h => exact (Pu.st_seq (Pu.st_if (p := false) (Pu.et_or (Pu.et_test (Pu.ev_op (Pu.o_eq Pu.dqInt (by decide)) (Pu.ev_ixM .z (Pu.ev_c (c := dInt) (x := 2) fun _ => rfl)) (Pu.ev_c (c := dInt) (x := 2) fun _ => rfl))) (Pu.et_and (Pu.et_test (Pu.ev_op (Pu.o_eq Pu.dqInt (by decide)) (Pu.ev_ixM .z (Pu.ev_c (c := dInt) (x := 2) fun _ => rfl)) (Pu.ev_c (c := dInt) (x := 1) fun _ => rfl))) (Pu.et_test (Pu.ev_op Pu.o_cmp (Pu.ev_ixM .z (Pu.ev_c (c := dInt) (x := 0) fun _ => rfl)) (Pu.ev_c (c := dInt) (x := 0) fun _ => rfl))))) (Pu.st_seq (Pu.st_set (p := false) (.s (.s (.z))) (Pu.ev_opP Pu.o_mod (Pu.ev_b1 Pu.o_intI (Pu.ev_ixM .z (Pu.ev_c (c := dInt) (x := 0) fun _ => rfl))) (Pu.ev_var (.s (.z))))) (Pu.st_seq (Pu.st_setIx (p := false) (k := .pa) (by decide) .z (Pu.ev_opP Pu.o_fdiv (Pu.ev_ixM .z (Pu.ev_c (c := dInt) (x := 0) fun _ => rfl)) (Pu.ev_var (.s (.z)))) (Pu.ev_c (c := dInt) (x := 0) fun _ => rfl)) (Pu.st_ret (p := false) (prM .z) (Pu.ev_var (.s (.s (.z))))))) Pu.st_next) (Pu.st_seq (Pu.st_setIx (p := false) (k := .pa) (by decide) .z (Pu.ev_c (c := dInt) (x := 0) fun _ => rfl) (Pu.ev_c (c := dInt) (x := 2) fun _ => rfl)) (Pu.st_seq (Pu.st_setIx (p := false) (k := .pa) (by decide) .z (Pu.ev_opP Pu.o_mod (Pu.ev_b1 Pu.o_intI (Pu.ev_op Pu.o_int (Pu.ev_op Pu.o_int (Pu.ev_opP Pu.o_mul (Pu.ev_ixM .z (Pu.ev_c (c := dInt) (x := 0) fun _ => rfl)) (Pu.ev_c (c := dInt) (x := 48271) fun _ => rfl)) (Pu.ev_opP Pu.o_mul (Pu.ev_ixM .z (Pu.ev_c (c := dInt) (x := 1) fun _ => rfl)) (Pu.ev_c (c := dInt) (x := 69621) fun _ => rfl))) (Pu.ev_c (c := dInt) (x := 11) fun _ => rfl))) (Pu.ev_c (c := dInt) (x := 2147483647) fun _ => rfl)) (Pu.ev_c (c := dInt) (x := 0) fun _ => rfl)) (Pu.st_seq (Pu.st_setIx (p := false) (k := .pa) (by decide) .z (Pu.ev_op Pu.o_int (Pu.ev_ixM .z (Pu.ev_c (c := dInt) (x := 1) fun _ => rfl)) (Pu.ev_c (c := dInt) (x := 1) fun _ => rfl)) (Pu.ev_c (c := dInt) (x := 1) fun _ => rfl)) (Pu.st_ret (p := false) (prM .z) (Pu.ev_opP Pu.o_mod (Pu.ev_b1 Pu.o_intI (Pu.ev_op Pu.o_int (Pu.ev_opP Pu.o_fdiv (Pu.ev_ixM .z (Pu.ev_c (c := dInt) (x := 0) fun _ => rfl)) (Pu.ev_c (c := dInt) (x := 7) fun _ => rfl)) (Pu.ev_ixM .z (Pu.ev_c (c := dInt) (x := 0) fun _ => rfl)))) (Pu.ev_var (.s (.z)))))))))
  case f => intros; kernel_rfl
theorem ok_law_list (T : PuX.TxE exG fa fn K mg) : OkF P w K mg base 2 (He.ga K "_law_list") ["dice", "many"] (spM (xcK K) (mLst dInt) [dInt] (dTuN dInt) (fun y x => m_law_list y x.1)) := by
  refine okF (T.c.def_ 33 (d := d_33) rfl) sc_law_list (lenM rfl) (fun _ _ _ _ _ _ us hl => match us, hl with | [_, _], _ => rfl) ?_
  intro cdv A outer s H E hr
  refine ⟨_, (pss_cons (ps_par (i := 2) (j := 3) rfl sc_law_list.nd rfl rfl (by decide) rfl rfl (pa_cons (pe_listRg (by rfl) (by rfl) (T.free 54) (prg_1 (by rfl) (T.free 23) (pv 1))) (pa_cons (pe_lst pa_nil) pa_nil)) (by rfl)) (pss_cons (ps_for poB (by rfl) (pi_range1 (by rfl) (T.free 23) (pa_cons (pcall (ok_law_roll T) hr (by decide) (T.glo 55) pxB (pa_cons (pv 0) (pa_cons (pe_op op_add (pv 1) pe_int) pa_nil))) pa_nil)) (pg_name (i := 4) sc_law_list.nd (by rfl) (by first | exact Or.inl rfl | exact Or.inr rfl)) (pss_cons (ps_set (i := 5) sc_law_list.nd (by rfl) (by first | exact Or.inl rfl | exact Or.inr rfl) (pe_ix (Pu.ix_listK (K := K)) (pv 2) (pcall (ok_law_roll T) hr (by decide) (T.glo 55) pxB (pa_cons (pv 0) (pa_cons (pe_callB (Pu.call_lenK (K := K)) (by rfl) (T.free 5) PySem.boot_len (pa_cons (pv 2) pa_nil)) pa_nil))) (fun _ _ => rfl))) (pss_cons (ps_expr (Pu.pe_bmK (K := K) PySem.F.plainAttrs_list PySem.F.slot_list_append PySem.F.type_list_append mt_append (pv 3) (pa_cons (pv 5) pa_nil))) (pss_one (ps_expr (Pu.pe_bmK (K := K) PySem.F.plainAttrs_list PySem.F.slot_list_remove PySem.F.type_list_remove mt_remove (pv 2) (pa_cons (pv 5) pa_nil))))))) (pss_one (ps_ret (Pu.pe_tupleNK (K := K) (by rfl) (T.free 0) (pv 3)))))), ?_⟩
  intro vs Q h
  refine run_M (Γe := []) (cs := [dInt]) (n := 4) (T := ?T) rfl ?h ?f vs H Q h
  case h => exact (Pu.st_seq (Pu.st_parNN (p := false) (.s (.s (.z))) (.s (.s (.s (.z)))) (Pu.en_listRg (Pu.ev_var (.s (.z)))) Pu.en_nil) (Pu.st_seq (Pu.st_for (p := false) (Γ' := [.m .pa (mLst dInt), .da dInt, .m .lo (mLst dInt), .m .lo (mLst dInt), .da dInt, .no]) (Pu.ei_rng1 (Pu.ea_cons (Pu.ev_callM (k := .pa) (by decide) .z (Pu.ea_cons (Pu.ev_op Pu.o_int (Pu.ev_var (.s (.z))) (Pu.ev_c (c := dInt) (x := 1) fun _ => rfl)) Pu.ea_nil)) Pu.ea_nil)) (Pu.tg_name (.s (.s (.s (.s (.z)))))) (Pu.st_post (Bk.drop (Bk.drop Bk.id (.s (.s (.s (.s (.s (.z))))))) (.s (.s (.s (.s (.z)))))) (Pu.st_seq (Pu.st_set (p := false) (.s (.s (.s (.s (.s (.z)))))) (Pu.ev_ixM (.s (.s (.z))) (Pu.ev_callM (k := .pa) (by decide) .z (Pu.ea_cons (Pu.ev_lenM (.s (.s (.z)))) Pu.ea_nil)))) (Pu.st_seq (Pu.st_app (p := false) (by decide) (.s (.s (.s (.z)))) (Pu.ev_var (.s (.s (.s (.s (.s (.z)))))))) (Pu.st_rem (p := false) (k := .lo) (by decide) (.s (.s (.z))) (Pu.ev_var (.s (.s (.s (.s (.s (.z)))))))))))) (Pu.st_ret (p := false) (prM .z) (Pu.ev_tupNM (.s (.s (.s (.z))))))))
  case f => intros; kernel_rfl
theorem law_s0 (T : PuX.TxE exG fa fn K mg) {cdv : Value} {A : Around} {outer : List PySem.Env} {s : Shared} {H : Hp} {E : XK} (hr : Room 7 (A.deeper (envOfC "law" (defScope s_law) s.heap.objs.size (He.ga K "law") cdv))) :
    ∃ ts, PS (cxOf (L2.CX P w) P w K mg base ["script", "dice", "lists", "many", "k", "told_now", "due", "ends", "j", "downs", "whole", "place", "part", "pairs", "worse", "better", "thing", "top", "low", "one"] "law" (defScope s_law) (He.ga K "law") cdv A outer s H E) ((forBody (defBody s_law) 0).getD 0 (.Pass ⟨0, 0, 0, 0⟩)) ts ∧ StE E (xcK K) (retD dBl) [.da (dScr K), .m .lo (mLst dInt), .no, .no, .no, .no, .no, .no, .no, .no, .no, .no, .no, .no, .no, .no, .no, .no, .no, .no] ts [.da (dScr K), .m .lo (mLst dInt), .da (dLst (dTuN dInt)), .da dInt, .no, .no, .no, .no, .no, .no, .no, .no, .no, .no, .no, .no, .no, .no, .no, .no] [.da (dScr K), .m .lo (mLst dInt), .da (dLst (dTuN dInt)), .da dInt, .no, .da (dTuN (dTuN (dP2 dInt dInt))), .da (dLst (dTup (dP2 dInt dInt))), .da (dLst (dP2 dInt dInt)), .no, .no, .no, .no, .no, .da (dLst (dP2 dInt dInt)), .no, .no, .no, .no, .no, .no] (fun R nx rt bk ct ρ => m_law_s0 nx (fun x => rt x ()) ρ) := by
  refine ⟨_, (ps_asg (pe_tup (pa_cons (pe_lc (own := [("k", 4)]) (by rfl) sc_law.nd (pi_range1 (by rfl) (T.free 23) (pa_cons (pe_op op_add pe_int (pcall (ok_law_roll T) hr (by decide) (T.glo 55) pxB (pa_cons (pv 1) (pa_cons pe_int pa_nil)))) pa_nil)) (blkOk_by (N := ["script", "dice", "lists", "many", "k", "told_now", "due", "ends", "j", "downs", "whole", "place", "part", "pairs", "worse", "better", "thing", "top", "low", "one"]) (sc := defScope s_law) (by decide +kernel)) (fun _ _ _ _ _ => (pg_name (i := 4) sc_law.nd (by rfl) (by first | exact Or.inl rfl | exact Or.inr rfl))) (fun _ _ _ _ _ => pts_nil) (fun _ _ _ _ _ => (pcall (ok_law_list T) hr (by decide) (T.glo 57) passL (pa_cons (pv 1) (pa_cons pe_int pa_nil))))) (pa_cons pe_int pa_nil))) (Pu.pg_tupK (K := K) (n := 2) (by rfl) (pgs_cons (pg_name (i := 2) sc_law.nd (by rfl) (by first | exact Or.inl rfl | exact Or.inr rfl)) (pgs_cons (pg_name (i := 3) sc_law.nd (by rfl) (by first | exact Or.inl rfl | exact Or.inr rfl)) pgs_nil)))), ?_⟩
  refine StE.as (T := ?T) ?h ?f
  case h => exact (Pu.st_asg (p := false) (Pu.ev_p2 (Pu.ea_cons (Pu.freeze (c := (dTuN dInt)) (Pu.en_lc (q := false) (vs := [4]) (Γ0 := [.da (dScr K), .m .lo (mLst dInt), .no, .no, .no, .no, .no, .no, .no, .no, .no, .no, .no, .no, .no, .no, .no, .no, .no, .no]) (Γ1 := [.da (dScr K), .m .lo (mLst dInt), .no, .no, .da dInt, .no, .no, .no, .no, .no, .no, .no, .no, .no, .no, .no, .no, .no, .no, .no]) Hd.id (by rfl) (by decide) (Bk.drop Bk.id (.s (.s (.s (.s (.z)))))) (Pu.ei_rng1 (Pu.ea_cons (Pu.ev_op Pu.o_int (Pu.ev_c (c := dInt) (x := 1) fun _ => rfl) (Pu.ev_callM (k := .lo) (by decide) (.s (.z)) (Pu.ea_cons (Pu.ev_c (c := dInt) (x := 3) fun _ => rfl) Pu.ea_nil))) Pu.ea_nil)) (Pu.tg_name (.s (.s (.s (.s (.z)))))) Pu.pts_et (Pu.ev_callM (k := .lo) (by decide) (.s (.z)) (Pu.ea_cons (Pu.ev_c (c := dInt) (x := 4) fun _ => rfl) Pu.ea_nil)))) (Pu.ea_cons (Pu.ev_c (c := dInt) (x := 4) fun _ => rfl) Pu.ea_nil))) (Pu.tg_p2 (Pu.tg_name (.s (.s (.z)))) (Pu.tg_name (.s (.s (.s (.z)))))))
  case f => kernel_rfl
theorem law_s1 (T : PuX.TxE exG fa fn K mg) {cdv : Value} {A : Around} {outer : List PySem.Env} {s : Shared} {H : Hp} {E : XK} (hr : Room 7 (A.deeper (envOfC "law" (defScope s_law) s.heap.objs.size (He.ga K "law") cdv))) :
    ∃ ts, PS (cxOf (L2.CX P w) P w K mg base ["script", "dice", "lists", "many", "k", "told_now", "due", "ends", "j", "downs", "whole", "place", "part", "pairs", "worse", "better", "thing", "top", "low", "one"] "law" (defScope s_law) (He.ga K "law") cdv A outer s H E) ((forBody (defBody s_law) 0).getD 1 (.Pass ⟨0, 0, 0, 0⟩)) ts ∧ StE E (xcK K) (retD dBl) [.da (dScr K), .m .lo (mLst dInt), .da (dLst (dTuN dInt)), .da dInt, .no, .no, .no, .no, .no, .no, .no, .no, .no, .no, .no, .no, .no, .no, .no, .no] ts [.da (dScr K), .m .lo (mLst dInt), .da (dLst (dTuN dInt)), .da dInt, .no, .da (dTuN (dTuN (dP2 dInt dInt))), .da (dLst (dTup (dP2 dInt dInt))), .da (dLst (dP2 dInt dInt)), .no, .no, .no, .no, .no, .no, .no, .no, .no, .no, .no, .no] [.da (dScr K), .m .lo (mLst dInt), .da (dLst (dTuN dInt)), .da dInt, .no, .da (dTuN (dTuN (dP2 dInt dInt))), .da (dLst (dTup (dP2 dInt dInt))), .da (dLst (dP2 dInt dInt)), .no, .no, .no, .no, .no, .da (dLst (dP2 dInt dInt)), .no, .no, .no, .no, .no, .no] (fun R nx rt bk ct ρ => m_law_s1 nx (fun x => rt x ()) ρ) := by
  refine ⟨_, (ps_asg (pe_tup (pa_cons (pcall (ok_shares T) hr (by decide) (T.glo 58) pxB (pa_cons (pv 2) (pa_cons (pv 3) pa_nil))) (pa_cons (pcall (ok_law_eaten T) hr (by decide) (T.glo 59) pxB (pa_cons (pv 2) (pa_cons (pv 3) pa_nil))) pa_nil))) (Pu.pg_tupK (K := K) (n := 2) (by rfl) (pgs_cons (pg_name (i := 5) sc_law.nd (by rfl) (by first | exact Or.inl rfl | exact Or.inr rfl)) (pgs_cons (Pu.pg_tupK (K := K) (n := 2) (by rfl) (pgs_cons (pg_name (i := 6) sc_law.nd (by rfl) (by first | exact Or.inl rfl | exact Or.inr rfl)) (pgs_cons (pg_name (i := 7) sc_law.nd (by rfl) (by first | exact Or.inl rfl | exact Or.inr rfl)) pgs_nil))) pgs_nil)))), ?_⟩
  refine StE.as (T := ?T) ?h ?f
  case h => exact (Pu.st_asg (p := false) (Pu.ev_p2 (Pu.ea_cons (Pu.ev_call (Pu.ea_cons (Pu.ev_sb (Pu.sb_lstTun (c := dInt)) (Pu.ev_var (.s (.s (.z))))) (Pu.ea_cons (Pu.ev_var (.s (.s (.s (.z))))) Pu.ea_nil))) (Pu.ea_cons (Pu.ev_call (Pu.ea_cons (Pu.ev_sb (Pu.sb_lstTun (c := dInt)) (Pu.ev_var (.s (.s (.z))))) (Pu.ea_cons (Pu.ev_var (.s (.s (.s (.z))))) Pu.ea_nil))) Pu.ea_nil))) (Pu.tg_p2 (Pu.tg_name (.s (.s (.s (.s (.s (.z))))))) (Pu.tg_p2 (Pu.tg_name (.s (.s (.s (.s (.s (.s (.z)))))))) (Pu.tg_name (.s (.s (.s (.s (.s (.s (.s (.z))))))))))))
  case f => kernel_rfl
theorem law_s2 (T : PuX.TxE exG fa fn K mg) {cdv : Value} {A : Around} {outer : List PySem.Env} {s : Shared} {H : Hp} {E : XK} (hr : Room 7 (A.deeper (envOfC "law" (defScope s_law) s.heap.objs.size (He.ga K "law") cdv))) :
    ∃ ts, PS (cxOf (L2.CX P w) P w K mg base ["script", "dice", "lists", "many", "k", "told_now", "due", "ends", "j", "downs", "whole", "place", "part", "pairs", "worse", "better", "thing", "top", "low", "one"] "law" (defScope s_law) (He.ga K "law") cdv A outer s H E) ((forBody (defBody s_law) 0).getD 2 (.Pass ⟨0, 0, 0, 0⟩)) ts ∧ StE E (xcK K) (retD dBl) [.da (dScr K), .m .lo (mLst dInt), .da (dLst (dTuN dInt)), .da dInt, .no, .da (dTuN (dTuN (dP2 dInt dInt))), .da (dLst (dTup (dP2 dInt dInt))), .da (dLst (dP2 dInt dInt)), .no, .no, .no, .no, .no, .no, .no, .no, .no, .no, .no, .no] ts [.da (dScr K), .m .lo (mLst dInt), .da (dLst (dTuN dInt)), .da dInt, .no, .da (dTuN (dTuN (dP2 dInt dInt))), .da (dLst (dTup (dP2 dInt dInt))), .da (dLst (dP2 dInt dInt)), .no, .no, .no, .no, .no, .no, .no, .no, .no, .no, .no, .no] [.da (dScr K), .m .lo (mLst dInt), .da (dLst (dTuN dInt)), .da dInt, .no, .da (dTuN (dTuN (dP2 dInt dInt))), .da (dLst (dTup (dP2 dInt dInt))), .da (dLst (dP2 dInt dInt)), .no, .no, .no, .no, .no, .da (dLst (dP2 dInt dInt)), .no, .no, .no, .no, .no, .no] (fun R nx rt bk ct ρ => m_law_s2 nx (fun x => rt x ()) ρ) := by
  refine ⟨_, (ps_if (PW.pt (pw_or (pt_cmpR (Pu.op_neDK (K := K) hr.units) (pe_callTy (Pu.call_list_ofK (K := K)) (by rfl) (T.free 54) (by decide +kernel) (pa_cons (pv 5) pa_nil)) (pv 6) (nomark _)) (pw_or1 (pt_cmpR (Pu.op_neDK (K := K) hr.units) (pe_callTy (Pu.call_list_ofK (K := K)) (by rfl) (T.free 54) (by decide +kernel) (pa_cons (pcall (ok_times T) hr (by decide) (T.glo 60) pxB (pa_cons (pv 2) (pa_cons (pv 3) pa_nil))) pa_nil)) (pv 7) (nomark _))))) (pss_one (ps_ret pe_bl)) pss_nil), ?_⟩
  refine StE.as (T := ?T) ?h ?f
  case h => exact (Pu.st_if (p := false) (Pu.et_or (Pu.et_test (Pu.ev_op (Pu.o_ne (Pu.dqLst (Pu.dqTup (Pu.dqP2 Pu.dqInt Pu.dqInt))) (by decide)) (Pu.ev_sb (Pu.sb_lstTun (c := (dP2 dInt dInt))) (Pu.freeze (c := (dTuN (dP2 dInt dInt))) (Pu.en_listS rfl (Pu.ev_sb (Pu.sb_tunS (c := (dTuN (dP2 dInt dInt)))) (Pu.ev_var (.s (.s (.s (.s (.s (.z))))))))))) (Pu.ev_var (.s (.s (.s (.s (.s (.s (.z)))))))))) (Pu.et_test (Pu.ev_op (Pu.o_ne (Pu.dqLst (Pu.dqP2 Pu.dqInt Pu.dqInt)) (by decide)) (Pu.freeze (c := (dP2 dInt dInt)) (Pu.en_listS rfl (Pu.ev_sb (Pu.sb_tunS (c := (dP2 dInt dInt))) (Pu.ev_call (Pu.ea_cons (Pu.ev_sb (Pu.sb_lstTun (c := dInt)) (Pu.ev_var (.s (.s (.z))))) (Pu.ea_cons (Pu.ev_var (.s (.s (.s (.z))))) Pu.ea_nil)))))) (Pu.ev_var (.s (.s (.s (.s (.s (.s (.s (.z)))))))))))) (Pu.st_ret (p := false) prD (Pu.ev_c (c := dBl) (x := false) fun _ => rfl)) Pu.st_next)
  case f => kernel_rfl
theorem law_s3 (T : PuX.TxE exG fa fn K mg) {cdv : Value} {A : Around} {outer : List PySem.Env} {s : Shared} {H : Hp} {E : XK} (hr : Room 7 (A.deeper (envOfC "law" (defScope s_law) s.heap.objs.size (He.ga K "law") cdv))) :
    ∃ ts, PS (cxOf (L2.CX P w) P w K mg base ["script", "dice", "lists", "many", "k", "told_now", "due", "ends", "j", "downs", "whole", "place", "part", "pairs", "worse", "better", "thing", "top", "low", "one"] "law" (defScope s_law) (He.ga K "law") cdv A outer s H E) ((forBody (defBody s_law) 0).getD 3 (.Pass ⟨0, 0, 0, 0⟩)) ts ∧ StE E (xcK K) (retD dBl) [.da (dScr K), .m .lo (mLst dInt), .da (dLst (dTuN dInt)), .da dInt, .no, .da (dTuN (dTuN (dP2 dInt dInt))), .da (dLst (dTup (dP2 dInt dInt))), .da (dLst (dP2 dInt dInt)), .no, .no, .no, .no, .no, .no, .no, .no, .no, .no, .no, .no] ts [.da (dScr K), .m .lo (mLst dInt), .da (dLst (dTuN dInt)), .da dInt, .no, .da (dTuN (dTuN (dP2 dInt dInt))), .da (dLst (dTup (dP2 dInt dInt))), .da (dLst (dP2 dInt dInt)), .no, .no, .no, .no, .no, .no, .no, .no, .no, .no, .no, .no] [.da (dScr K), .m .lo (mLst dInt), .da (dLst (dTuN dInt)), .da dInt, .no, .da (dTuN (dTuN (dP2 dInt dInt))), .da (dLst (dTup (dP2 dInt dInt))), .da (dLst (dP2 dInt dInt)), .no, .no, .no, .no, .no, .da (dLst (dP2 dInt dInt)), .no, .no, .no, .no, .no, .no] (fun R nx rt bk ct ρ => m_law_s3 nx (fun x => rt x ()) ρ) := by
  refine ⟨_, (ps_for poB (by rfl) (pi_range1 (by rfl) (T.free 23) (pa_cons (pe_callB (Pu.call_lenK (K := K)) (by rfl) (T.free 5) PySem.boot_len (pa_cons (pv 2) pa_nil)) pa_nil)) (pg_name (i := 8) sc_law.nd (by rfl) (by first | exact Or.inl rfl | exact Or.inr rfl)) (pss_cons (ps_set (i := 9) sc_law.nd (by rfl) (by first | exact Or.inl rfl | exact Or.inr rfl) (pcall (ok_sums_down T) hr (by decide) (T.glo 61) pxB (pa_cons (pe_ix (Pu.ix_listK (K := K)) (pv 2) (pv 8) (fun _ _ => rfl)) (pa_cons (pe_ix (Pu.ix_tupK (K := K)) (pv 5) (pv 8) (fun _ _ => rfl)) pa_nil)))) (pss_cons (ps_set (i := 10) sc_law.nd (by rfl) (by first | exact Or.inl rfl | exact Or.inr rfl) (pe_tup (pa_cons pe_int (pa_cons pe_int pa_nil)))) (pss_cons (ps_for poB (by rfl) (pi_range1 (by rfl) (T.free 23) (pa_cons (pe_callB (Pu.call_lenK (K := K)) (by rfl) (T.free 5) PySem.boot_len (pa_cons (pe_ix (Pu.ix_listK (K := K)) (pv 2) (pv 8) (fun _ _ => rfl)) pa_nil)) pa_nil)) (pg_name (i := 11) sc_law.nd (by rfl) (by first | exact Or.inl rfl | exact Or.inr rfl)) (pss_cons (ps_set (i := 12) sc_law.nd (by rfl) (by first | exact Or.inl rfl | exact Or.inr rfl) (pe_ix (Pu.ix_tupK (K := K)) (pe_ix (Pu.ix_tupK (K := K)) (pv 5) (pv 8) (fun _ _ => rfl)) (pe_ix (Pu.ix_tupK (K := K)) (pe_ix (Pu.ix_listK (K := K)) (pv 2) (pv 8) (fun _ _ => rfl)) (pv 11) (fun _ _ => rfl)) (fun _ _ => rfl))) (pss_cons (ps_set (i := 10) sc_law.nd (by rfl) (by first | exact Or.inl rfl | exact Or.inr rfl) (pcall (ok_law_small T) hr (by decide) (T.glo 51) pxB (pa_cons (pe_op op_add (pe_op op_mul (pe_ix (Pu.ix_tupK (K := K)) (pv 10) pe_int (fun _ _ => rfl)) (pe_ix (Pu.ix_tupK (K := K)) (pv 12) pe_int (fun _ _ => rfl))) (pe_op op_mul (pe_ix (Pu.ix_tupK (K := K)) (pv 12) pe_int (fun _ _ => rfl)) (pe_ix (Pu.ix_tupK (K := K)) (pv 10) pe_int (fun _ _ => rfl)))) (pa_cons (pe_op op_mul (pe_ix (Pu.ix_tupK (K := K)) (pv 10) pe_int (fun _ _ => rfl)) (pe_ix (Pu.ix_tupK (K := K)) (pv 12) pe_int (fun _ _ => rfl))) pa_nil)))) (pss_one (ps_if (pt_cmpR (Pu.op_neDK (K := K) hr.units) (pe_ix (Pu.ix_tupK (K := K)) (pv 9) (pv 11) (fun _ _ => rfl)) (pv 10) (nomark _)) (pss_one (ps_ret pe_bl)) pss_nil))))) (pss_one (ps_for poB (by rfl) (pi_range1 (by rfl) (T.free 23) (pa_cons (pe_callB (Pu.call_lenK (K := K)) (by rfl) (T.free 5) PySem.boot_len (pa_cons (pv 2) pa_nil)) pa_nil)) (pg_name (i := 4) sc_law.nd (by rfl) (by first | exact Or.inl rfl | exact Or.inr rfl)) (pss_one (ps_if (pt_not (pt_val (pcall (ok_as_much T) hr (by decide) (T.glo 62) pxB (pa_cons (pe_ix (Pu.ix_listK (K := K)) (pv 2) (pv 8) (fun _ _ => rfl)) (pa_cons (pe_ix (Pu.ix_tupK (K := K)) (pv 5) (pv 8) (fun _ _ => rfl)) (pa_cons (pe_ix (Pu.ix_tupK (K := K)) (pv 5) (pv 4) (fun _ _ => rfl)) pa_nil)))))) (pss_one (ps_ret pe_bl)) pss_nil)))))))), ?_⟩
  refine StE.as (T := ?T) ?h ?f
  case h => exact (Pu.st_for (p := false) (Γ' := [.da (dScr K), .m .lo (mLst dInt), .da (dLst (dTuN dInt)), .da dInt, .no, .da (dTuN (dTuN (dP2 dInt dInt))), .da (dLst (dTup (dP2 dInt dInt))), .da (dLst (dP2 dInt dInt)), .da dInt, .no, .no, .no, .no, .no, .no, .no, .no, .no, .no, .no]) (Pu.ei_rng1 (Pu.ea_cons (Pu.ev_b1 Pu.o_lenL (Pu.ev_var (.s (.s (.z))))) Pu.ea_nil)) (Pu.tg_name (.s (.s (.s (.s (.s (.s (.s (.s (.z)))))))))) (Pu.st_post (Bk.drop (Bk.drop (Bk.drop Bk.id (.s (.s (.s (.s (.s (.s (.s (.s (.s (.s (.z)))))))))))) (.s (.s (.s (.s (.s (.s (.s (.s (.s (.z))))))))))) (.s (.s (.s (.s (.s (.s (.s (.s (.z)))))))))) (Pu.st_seq (Pu.st_set (p := false) (.s (.s (.s (.s (.s (.s (.s (.s (.s (.z)))))))))) (Pu.ev_call (Pu.ea_cons (Pu.ev_sb (Pu.sb_tun (c := dInt)) (Pu.ev_opP Pu.o_ixL (Pu.ev_var (.s (.s (.z)))) (Pu.ev_var (.s (.s (.s (.s (.s (.s (.s (.s (.z)))))))))))) (Pu.ea_cons (Pu.ev_sb (Pu.sb_tun (c := (dP2 dInt dInt))) (Pu.ev_opP Pu.o_ixT (Pu.ev_sb (Pu.sb_tun (c := (dTuN (dP2 dInt dInt)))) (Pu.ev_var (.s (.s (.s (.s (.s (.z)))))))) (Pu.ev_var (.s (.s (.s (.s (.s (.s (.s (.s (.z)))))))))))) Pu.ea_nil)))) (Pu.st_seq (Pu.st_set (p := false) (.s (.s (.s (.s (.s (.s (.s (.s (.s (.s (.z))))))))))) (Pu.ev_p2 (Pu.ea_cons (Pu.ev_c (c := dInt) (x := 0) fun _ => rfl) (Pu.ea_cons (Pu.ev_c (c := dInt) (x := 1) fun _ => rfl) Pu.ea_nil)))) (Pu.st_seq (Pu.st_for (p := false) (Γ' := [.da (dScr K), .m .lo (mLst dInt), .da (dLst (dTuN dInt)), .da dInt, .no, .da (dTuN (dTuN (dP2 dInt dInt))), .da (dLst (dTup (dP2 dInt dInt))), .da (dLst (dP2 dInt dInt)), .da dInt, .da (dTuN (dP2 dInt dInt)), .da (dP2 dInt dInt), .da dInt, .no, .no, .no, .no, .no, .no, .no, .no]) (Pu.ei_rng1 (Pu.ea_cons (Pu.ev_b1 Pu.o_lenT (Pu.ev_sb (Pu.sb_tun (c := dInt)) (Pu.ev_opP Pu.o_ixL (Pu.ev_var (.s (.s (.z)))) (Pu.ev_var (.s (.s (.s (.s (.s (.s (.s (.s (.z))))))))))))) Pu.ea_nil)) (Pu.tg_name (.s (.s (.s (.s (.s (.s (.s (.s (.s (.s (.s (.z))))))))))))) (Pu.st_post (Bk.drop (Bk.drop Bk.id (.s (.s (.s (.s (.s (.s (.s (.s (.s (.s (.s (.s (.z)))))))))))))) (.s (.s (.s (.s (.s (.s (.s (.s (.s (.s (.s (.z))))))))))))) (Pu.st_seq (Pu.st_set (p := false) (.s (.s (.s (.s (.s (.s (.s (.s (.s (.s (.s (.s (.z))))))))))))) (Pu.ev_opP Pu.o_ixT (Pu.ev_sb (Pu.sb_tun (c := (dP2 dInt dInt))) (Pu.ev_opP Pu.o_ixT (Pu.ev_sb (Pu.sb_tun (c := (dTuN (dP2 dInt dInt)))) (Pu.ev_var (.s (.s (.s (.s (.s (.z)))))))) (Pu.ev_var (.s (.s (.s (.s (.s (.s (.s (.s (.z)))))))))))) (Pu.ev_opP Pu.o_ixT (Pu.ev_sb (Pu.sb_tun (c := dInt)) (Pu.ev_opP Pu.o_ixL (Pu.ev_var (.s (.s (.z)))) (Pu.ev_var (.s (.s (.s (.s (.s (.s (.s (.s (.z)))))))))))) (Pu.ev_var (.s (.s (.s (.s (.s (.s (.s (.s (.s (.s (.s (.z)))))))))))))))) (Pu.st_seq (Pu.st_set (p := false) (.s (.s (.s (.s (.s (.s (.s (.s (.s (.s (.z))))))))))) (Pu.ev_call (Pu.ea_cons (Pu.ev_op Pu.o_int (Pu.ev_opP Pu.o_mul (Pu.ev_opP Pu.o_p20 (Pu.ev_var (.s (.s (.s (.s (.s (.s (.s (.s (.s (.s (.z)))))))))))) (Pu.ev_c (c := dInt) (x := 0) fun _ => rfl)) (Pu.ev_opP Pu.o_p21 (Pu.ev_var (.s (.s (.s (.s (.s (.s (.s (.s (.s (.s (.s (.s (.z)))))))))))))) (Pu.ev_c (c := dInt) (x := 1) fun _ => rfl))) (Pu.ev_opP Pu.o_mul (Pu.ev_opP Pu.o_p20 (Pu.ev_var (.s (.s (.s (.s (.s (.s (.s (.s (.s (.s (.s (.s (.z)))))))))))))) (Pu.ev_c (c := dInt) (x := 0) fun _ => rfl)) (Pu.ev_opP Pu.o_p21 (Pu.ev_var (.s (.s (.s (.s (.s (.s (.s (.s (.s (.s (.z)))))))))))) (Pu.ev_c (c := dInt) (x := 1) fun _ => rfl)))) (Pu.ea_cons (Pu.ev_opP Pu.o_mul (Pu.ev_opP Pu.o_p21 (Pu.ev_var (.s (.s (.s (.s (.s (.s (.s (.s (.s (.s (.z)))))))))))) (Pu.ev_c (c := dInt) (x := 1) fun _ => rfl)) (Pu.ev_opP Pu.o_p21 (Pu.ev_var (.s (.s (.s (.s (.s (.s (.s (.s (.s (.s (.s (.s (.z)))))))))))))) (Pu.ev_c (c := dInt) (x := 1) fun _ => rfl))) Pu.ea_nil)))) (Pu.st_if (p := false) (Pu.et_test (Pu.ev_op (Pu.o_ne (Pu.dqP2 Pu.dqInt Pu.dqInt) (by decide)) (Pu.ev_opP Pu.o_ixT (Pu.ev_sb (Pu.sb_tun (c := (dP2 dInt dInt))) (Pu.ev_var (.s (.s (.s (.s (.s (.s (.s (.s (.s (.z)))))))))))) (Pu.ev_var (.s (.s (.s (.s (.s (.s (.s (.s (.s (.s (.s (.z)))))))))))))) (Pu.ev_var (.s (.s (.s (.s (.s (.s (.s (.s (.s (.s (.z)))))))))))))) (Pu.st_ret (p := false) prD (Pu.ev_c (c := dBl) (x := false) fun _ => rfl)) Pu.st_next))))) (Pu.st_for (p := false) (Γ' := [.da (dScr K), .m .lo (mLst dInt), .da (dLst (dTuN dInt)), .da dInt, .da dInt, .da (dTuN (dTuN (dP2 dInt dInt))), .da (dLst (dTup (dP2 dInt dInt))), .da (dLst (dP2 dInt dInt)), .da dInt, .da (dTuN (dP2 dInt dInt)), .da (dP2 dInt dInt), .no, .no, .no, .no, .no, .no, .no, .no, .no]) (Pu.ei_rng1 (Pu.ea_cons (Pu.ev_b1 Pu.o_lenL (Pu.ev_var (.s (.s (.z))))) Pu.ea_nil)) (Pu.tg_name (.s (.s (.s (.s (.z)))))) (Pu.st_post (Bk.drop Bk.id (.s (.s (.s (.s (.z)))))) (Pu.st_if (p := false) (Pu.et_not (Pu.et_B (Pu.ev_call (Pu.ea_cons (Pu.ev_sb (Pu.sb_tun (c := dInt)) (Pu.ev_opP Pu.o_ixL (Pu.ev_var (.s (.s (.z)))) (Pu.ev_var (.s (.s (.s (.s (.s (.s (.s (.s (.z)))))))))))) (Pu.ea_cons (Pu.ev_sb (Pu.sb_tun (c := (dP2 dInt dInt))) (Pu.ev_opP Pu.o_ixT (Pu.ev_sb (Pu.sb_tun (c := (dTuN (dP2 dInt dInt)))) (Pu.ev_var (.s (.s (.s (.s (.s (.z)))))))) (Pu.ev_var (.s (.s (.s (.s (.s (.s (.s (.s (.z)))))))))))) (Pu.ea_cons (Pu.ev_sb (Pu.sb_tun (c := (dP2 dInt dInt))) (Pu.ev_opP Pu.o_ixT (Pu.ev_sb (Pu.sb_tun (c := (dTuN (dP2 dInt dInt)))) (Pu.ev_var (.s (.s (.s (.s (.s (.z)))))))) (Pu.ev_var (.s (.s (.s (.s (.z)))))))) Pu.ea_nil)))))) (Pu.st_ret (p := false) prD (Pu.ev_c (c := dBl) (x := false) fun _ => rfl)) Pu.st_next))))))))
  case f => kernel_rfl
theorem law_s4 (T : PuX.TxE exG fa fn K mg) {cdv : Value} {A : Around} {outer : List PySem.Env} {s : Shared} {H : Hp} {E : XK} (hr : Room 7 (A.deeper (envOfC "law" (defScope s_law) s.heap.objs.size (He.ga K "law") cdv))) :
    ∃ ts, PS (cxOf (L2.CX P w) P w K mg base ["script", "dice", "lists", "many", "k", "told_now", "due", "ends", "j", "downs", "whole", "place", "part", "pairs", "worse", "better", "thing", "top", "low", "one"] "law" (defScope s_law) (He.ga K "law") cdv A outer s H E) ((forBody (defBody s_law) 0).getD 4 (.Pass ⟨0, 0, 0, 0⟩)) ts ∧ StE E (xcK K) (retD dBl) [.da (dScr K), .m .lo (mLst dInt), .da (dLst (dTuN dInt)), .da dInt, .no, .da (dTuN (dTuN (dP2 dInt dInt))), .da (dLst (dTup (dP2 dInt dInt))), .da (dLst (dP2 dInt dInt)), .no, .no, .no, .no, .no, .no, .no, .no, .no, .no, .no, .no] ts [.da (dScr K), .m .lo (mLst dInt), .da (dLst (dTuN dInt)), .da dInt, .no, .da (dTuN (dTuN (dP2 dInt dInt))), .da (dLst (dTup (dP2 dInt dInt))), .da (dLst (dP2 dInt dInt)), .no, .no, .no, .no, .no, .no, .no, .no, .no, .no, .no, .no] [.da (dScr K), .m .lo (mLst dInt), .da (dLst (dTuN dInt)), .da dInt, .no, .da (dTuN (dTuN (dP2 dInt dInt))), .da (dLst (dTup (dP2 dInt dInt))), .da (dLst (dP2 dInt dInt)), .no, .no, .no, .no, .no, .da (dLst (dP2 dInt dInt)), .no, .no, .no, .no, .no, .no] (fun R nx rt bk ct ρ => m_law_s4 nx (fun x => rt x ()) ρ) := by
  refine ⟨_, (ps_if (pt_not (pt_val (pcall (ok_is_tight T) hr (by decide) (T.glo 63) pxB (pa_cons (pv 2) (pa_cons (pv 5) pa_nil))))) (pss_one (ps_ret pe_bl)) pss_nil), ?_⟩
  refine StE.as (T := ?T) ?h ?f
  case h => exact (Pu.st_if (p := false) (Pu.et_not (Pu.et_B (Pu.ev_call (Pu.ea_cons (Pu.ev_sb (Pu.sb_lstTun (c := dInt)) (Pu.ev_var (.s (.s (.z))))) (Pu.ea_cons (Pu.ev_var (.s (.s (.s (.s (.s (.z))))))) Pu.ea_nil))))) (Pu.st_ret (p := false) prD (Pu.ev_c (c := dBl) (x := false) fun _ => rfl)) Pu.st_next)
  case f => kernel_rfl
theorem law_s5 (T : PuX.TxE exG fa fn K mg) {cdv : Value} {A : Around} {outer : List PySem.Env} {s : Shared} {H : Hp} {E : XK} (hr : Room 7 (A.deeper (envOfC "law" (defScope s_law) s.heap.objs.size (He.ga K "law") cdv))) :
    ∃ ts, PS (cxOf (L2.CX P w) P w K mg base ["script", "dice", "lists", "many", "k", "told_now", "due", "ends", "j", "downs", "whole", "place", "part", "pairs", "worse", "better", "thing", "top", "low", "one"] "law" (defScope s_law) (He.ga K "law") cdv A outer s H E) ((forBody (defBody s_law) 0).getD 5 (.Pass ⟨0, 0, 0, 0⟩)) ts ∧ StE E (xcK K) (retD dBl) [.da (dScr K), .m .lo (mLst dInt), .da (dLst (dTuN dInt)), .da dInt, .no, .da (dTuN (dTuN (dP2 dInt dInt))), .da (dLst (dTup (dP2 dInt dInt))), .da (dLst (dP2 dInt dInt)), .no, .no, .no, .no, .no, .no, .no, .no, .no, .no, .no, .no] ts [.da (dScr K), .m .lo (mLst dInt), .da (dLst (dTuN dInt)), .da dInt, .no, .da (dTuN (dTuN (dP2 dInt dInt))), .da (dLst (dTup (dP2 dInt dInt))), .da (dLst (dP2 dInt dInt)), .no, .no, .no, .no, .no, .da (dLst (dP2 dInt dInt)), .no, .no, .no, .no, .no, .no] [.da (dScr K), .m .lo (mLst dInt), .da (dLst (dTuN dInt)), .da dInt, .no, .da (dTuN (dTuN (dP2 dInt dInt))), .da (dLst (dTup (dP2 dInt dInt))), .da (dLst (dP2 dInt dInt)), .no, .no, .no, .no, .no, .da (dLst (dP2 dInt dInt)), .no, .no, .no, .no, .no, .no] (fun R nx rt bk ct ρ => m_law_s5 nx (fun x => rt x ()) ρ) := by
  refine ⟨_, (ps_set (i := 13) sc_law.nd (by rfl) (by first | exact Or.inl rfl | exact Or.inr rfl) (pe_callB (PuX.cr_sortedDTK (K := K) (by rfl)) (by rfl) (T.free 44) (by decide +kernel) (pa_cons (pe_callTy (PuX.call_dictTOK (K := K) (by rfl) hr.units) (by rfl) (T.free 8) (by decide +kernel) (pa_cons (pcall (ok_law_flat T) hr (by decide) (T.glo 64) pxB (pa_cons (pe_lc (own := [("j", 8)]) (by rfl) sc_law.nd (pi_range1 (by rfl) (T.free 23) (pa_cons (pe_callB (Pu.call_lenK (K := K)) (by rfl) (T.free 5) PySem.boot_len (pa_cons (pv 2) pa_nil)) pa_nil)) (blkOk_by (N := ["script", "dice", "lists", "many", "k", "told_now", "due", "ends", "j", "downs", "whole", "place", "part", "pairs", "worse", "better", "thing", "top", "low", "one"]) (sc := defScope s_law) (by decide +kernel)) (fun _ _ _ _ _ => (pg_name (i := 8) sc_law.nd (by rfl) (by first | exact Or.inl rfl | exact Or.inr rfl))) (fun _ _ _ _ _ => pts_nil) (fun _ _ _ _ _ => (pcall (ok_law_flat T) hr (by decide) (T.glo 64) passL (pa_cons (pe_lc (own := [("place", 11)]) (by rfl) sc_law.nd (pi_range1 (by rfl) (T.free 23) (pa_cons (pe_callB (Pu.call_lenK (K := K)) (by rfl) (T.free 5) PySem.boot_len (pa_cons (pe_ix (Pu.ix_listK (K := K)) (pv 2) (pv 8) (fun _ _ => rfl)) pa_nil)) pa_nil)) (blkOk_by (N := ["script", "dice", "lists", "many", "k", "told_now", "due", "ends", "j", "downs", "whole", "place", "part", "pairs", "worse", "better", "thing", "top", "low", "one"]) (by kernel_rfl)) (fun _ _ _ _ _ => (pg_name (i := 11) sc_law.nd (by rfl) (by first | exact Or.inl rfl | exact Or.inr rfl))) (fun _ _ _ _ _ => pts_nil) (fun _ _ _ _ _ => (pcall (ok_law_flat T) hr (by decide) (T.glo 64) passL (pa_cons (pe_lc (own := [("worse", 14)]) (by rfl) sc_law.nd (Pu.pi_listK (K := K) (pe_lst (pa_cons (pe_ix (Pu.ix_tupK (K := K)) (pe_ix (Pu.ix_listK (K := K)) (pv 2) (pv 8) (fun _ _ => rfl)) (pv 11) (fun _ _ => rfl)) pa_nil))) (blkOk_by (N := ["script", "dice", "lists", "many", "k", "told_now", "due", "ends", "j", "downs", "whole", "place", "part", "pairs", "worse", "better", "thing", "top", "low", "one"]) (by kernel_rfl)) (fun _ _ _ _ _ => (pg_name (i := 14) sc_law.nd (by rfl) (by first | exact Or.inl rfl | exact Or.inr rfl))) (fun _ _ _ _ _ => pts_one (pt_cmpR op_gt (pe_ix (Pu.ix_tupK (K := K)) (pe_ix (Pu.ix_tupK (K := K)) (pe_ix (Pu.ix_tupK (K := K)) (pv 5) (pv 8) (fun _ _ => rfl)) (pv 14) (fun _ _ => rfl)) pe_int (fun _ _ => rfl)) pe_int (nomark _))) (fun _ _ _ _ _ => (pe_lc (own := [("better", 15)]) (by rfl) sc_law.nd (Pu.pi_tupK (K := K) (pe_slice (PuE.sl_tupFK (K := K)) (pe_ix (Pu.ix_listK (K := K)) (pv 2) (pv 8) (fun _ _ => rfl)) po_none (po_some (pv 11)))) (blkOk_by (N := ["script", "dice", "lists", "many", "k", "told_now", "due", "ends", "j", "downs", "whole", "place", "part", "pairs", "worse", "better", "thing", "top", "low", "one"]) (by kernel_rfl)) (fun _ _ _ _ _ => (pg_name (i := 15) sc_law.nd (by rfl) (by first | exact Or.inl rfl | exact Or.inr rfl))) (fun _ _ _ _ _ => pts_nil) (fun _ _ _ _ _ => (pe_tup (pa_cons (pe_tup (pa_cons (pv 15) (pa_cons (pv 14) pa_nil))) (pa_cons pe_int pa_nil))))))) pa_nil)))) pa_nil)))) pa_nil)) pa_nil)) pa_nil))), ?_⟩
  refine StE.as (T := ?T) ?h ?f
  case h => exact (Pu.st_set (p := false) (.s (.s (.s (.s (.s (.s (.s (.s (.s (.s (.s (.s (.s (.z)))))))))))))) (PuX.ev_sortDP (Pu.ev_call (Pu.ea_cons (Pu.freeze (c := (dLst (dP2 (dP2 dInt dInt) dInt))) (Pu.en_lc (q := false) (vs := [8]) (Γ0 := [.da (dScr K), .m .lo (mLst dInt), .da (dLst (dTuN dInt)), .da dInt, .no, .da (dTuN (dTuN (dP2 dInt dInt))), .da (dLst (dTup (dP2 dInt dInt))), .da (dLst (dP2 dInt dInt)), .no, .no, .no, .no, .no, .no, .no, .no, .no, .no, .no, .no]) (Γ1 := [.da (dScr K), .m .lo (mLst dInt), .da (dLst (dTuN dInt)), .da dInt, .no, .da (dTuN (dTuN (dP2 dInt dInt))), .da (dLst (dTup (dP2 dInt dInt))), .da (dLst (dP2 dInt dInt)), .da dInt, .no, .no, .no, .no, .no, .no, .no, .no, .no, .no, .no]) Hd.id (by rfl) (by decide) (Bk.drop Bk.id (.s (.s (.s (.s (.s (.s (.s (.s (.z)))))))))) (Pu.ei_rng1 (Pu.ea_cons (Pu.ev_b1 Pu.o_lenL (Pu.ev_var (.s (.s (.z))))) Pu.ea_nil)) (Pu.tg_name (.s (.s (.s (.s (.s (.s (.s (.s (.z)))))))))) Pu.pts_et (Pu.ev_call (Pu.ea_cons (Pu.freeze (c := (dLst (dP2 (dP2 dInt dInt) dInt))) (Pu.en_lc (q := false) (vs := [11]) (Γ0 := [.da (dScr K), .m .lo (mLst dInt), .da (dLst (dTuN dInt)), .da dInt, .no, .da (dTuN (dTuN (dP2 dInt dInt))), .da (dLst (dTup (dP2 dInt dInt))), .da (dLst (dP2 dInt dInt)), .da dInt, .no, .no, .no, .no, .no, .no, .no, .no, .no, .no, .no]) (Γ1 := [.da (dScr K), .m .lo (mLst dInt), .da (dLst (dTuN dInt)), .da dInt, .no, .da (dTuN (dTuN (dP2 dInt dInt))), .da (dLst (dTup (dP2 dInt dInt))), .da (dLst (dP2 dInt dInt)), .da dInt, .no, .no, .da dInt, .no, .no, .no, .no, .no, .no, .no, .no]) Hd.id (by rfl) (by decide) (Bk.drop Bk.id (.s (.s (.s (.s (.s (.s (.s (.s (.s (.s (.s (.z))))))))))))) (Pu.ei_rng1 (Pu.ea_cons (Pu.ev_b1 Pu.o_lenT (Pu.ev_sb (Pu.sb_tun (c := dInt)) (Pu.ev_opP Pu.o_ixL (Pu.ev_var (.s (.s (.z)))) (Pu.ev_var (.s (.s (.s (.s (.s (.s (.s (.s (.z))))))))))))) Pu.ea_nil)) (Pu.tg_name (.s (.s (.s (.s (.s (.s (.s (.s (.s (.s (.s (.z))))))))))))) Pu.pts_et (Pu.ev_call (Pu.ea_cons (Pu.freeze (c := (dLst (dP2 (dP2 dInt dInt) dInt))) (Pu.en_lc (q := false) (vs := [14]) (Γ0 := [.da (dScr K), .m .lo (mLst dInt), .da (dLst (dTuN dInt)), .da dInt, .no, .da (dTuN (dTuN (dP2 dInt dInt))), .da (dLst (dTup (dP2 dInt dInt))), .da (dLst (dP2 dInt dInt)), .da dInt, .no, .no, .da dInt, .no, .no, .no, .no, .no, .no, .no, .no]) (Γ1 := [.da (dScr K), .m .lo (mLst dInt), .da (dLst (dTuN dInt)), .da dInt, .no, .da (dTuN (dTuN (dP2 dInt dInt))), .da (dLst (dTup (dP2 dInt dInt))), .da (dLst (dP2 dInt dInt)), .da dInt, .no, .no, .da dInt, .no, .no, .da dInt, .no, .no, .no, .no, .no]) Hd.id (by rfl) (by decide) (Bk.drop Bk.id (.s (.s (.s (.s (.s (.s (.s (.s (.s (.s (.s (.s (.s (.s (.z)))))))))))))))) (Pu.ei_list (Pu.freeze (c := dInt) (Pu.en_lst (c := dInt) 1 (by decide) (Pu.ea_cons (Pu.ev_opP Pu.o_ixT (Pu.ev_sb (Pu.sb_tun (c := dInt)) (Pu.ev_opP Pu.o_ixL (Pu.ev_var (.s (.s (.z)))) (Pu.ev_var (.s (.s (.s (.s (.s (.s (.s (.s (.z)))))))))))) (Pu.ev_var (.s (.s (.s (.s (.s (.s (.s (.s (.s (.s (.s (.z)))))))))))))) Pu.ea_nil)))) (Pu.tg_name (.s (.s (.s (.s (.s (.s (.s (.s (.s (.s (.s (.s (.s (.s (.z)))))))))))))))) (Pu.et_test (Pu.ev_op Pu.o_cmp (Pu.ev_opP Pu.o_p20 (Pu.ev_opP Pu.o_ixT (Pu.ev_sb (Pu.sb_tun (c := (dP2 dInt dInt))) (Pu.ev_opP Pu.o_ixT (Pu.ev_sb (Pu.sb_tun (c := (dTuN (dP2 dInt dInt)))) (Pu.ev_var (.s (.s (.s (.s (.s (.z)))))))) (Pu.ev_var (.s (.s (.s (.s (.s (.s (.s (.s (.z)))))))))))) (Pu.ev_var (.s (.s (.s (.s (.s (.s (.s (.s (.s (.s (.s (.s (.s (.s (.z))))))))))))))))) (Pu.ev_c (c := dInt) (x := 0) fun _ => rfl)) (Pu.ev_c (c := dInt) (x := 0) fun _ => rfl))) (Pu.freeze (c := (dP2 (dP2 dInt dInt) dInt)) (Pu.en_lc (q := false) (vs := [15]) (Γ0 := [.da (dScr K), .m .lo (mLst dInt), .da (dLst (dTuN dInt)), .da dInt, .no, .da (dTuN (dTuN (dP2 dInt dInt))), .da (dLst (dTup (dP2 dInt dInt))), .da (dLst (dP2 dInt dInt)), .da dInt, .no, .no, .da dInt, .no, .no, .da dInt, .no, .no, .no, .no, .no]) (Γ1 := [.da (dScr K), .m .lo (mLst dInt), .da (dLst (dTuN dInt)), .da dInt, .no, .da (dTuN (dTuN (dP2 dInt dInt))), .da (dLst (dTup (dP2 dInt dInt))), .da (dLst (dP2 dInt dInt)), .da dInt, .no, .no, .da dInt, .no, .no, .da dInt, .da dInt, .no, .no, .no, .no]) Hd.id (by rfl) (by decide) (Bk.drop Bk.id (.s (.s (.s (.s (.s (.s (.s (.s (.s (.s (.s (.s (.s (.s (.s (.z))))))))))))))))) (Pu.ei_tup (Pu.ev_sb (Pu.sb_tun (c := dInt)) (PuE.ev_slTN (Pu.ev_opP Pu.o_ixL (Pu.ev_var (.s (.s (.z)))) (Pu.ev_var (.s (.s (.s (.s (.s (.s (.s (.s (.z))))))))))) Pu.eo_no (Pu.eo_some (Pu.ev_var (.s (.s (.s (.s (.s (.s (.s (.s (.s (.s (.s (.z))))))))))))))))) (Pu.tg_name (.s (.s (.s (.s (.s (.s (.s (.s (.s (.s (.s (.s (.s (.s (.s (.z))))))))))))))))) Pu.pts_et (Pu.ev_p2 (Pu.ea_cons (Pu.ev_p2 (Pu.ea_cons (Pu.ev_var (.s (.s (.s (.s (.s (.s (.s (.s (.s (.s (.s (.s (.s (.s (.s (.z))))))))))))))))) (Pu.ea_cons (Pu.ev_var (.s (.s (.s (.s (.s (.s (.s (.s (.s (.s (.s (.s (.s (.s (.z)))))))))))))))) Pu.ea_nil))) (Pu.ea_cons (Pu.ev_c (c := dInt) (x := 1) fun _ => rfl) Pu.ea_nil))))))) Pu.ea_nil)))) Pu.ea_nil)))) Pu.ea_nil))))
  case f => kernel_rfl
theorem law_s6 (T : PuX.TxE exG fa fn K mg) {cdv : Value} {A : Around} {outer : List PySem.Env} {s : Shared} {H : Hp} {E : XK} (hr : Room 7 (A.deeper (envOfC "law" (defScope s_law) s.heap.objs.size (He.ga K "law") cdv))) :
    ∃ ts, PS (cxOf (L2.CX P w) P w K mg base ["script", "dice", "lists", "many", "k", "told_now", "due", "ends", "j", "downs", "whole", "place", "part", "pairs", "worse", "better", "thing", "top", "low", "one"] "law" (defScope s_law) (He.ga K "law") cdv A outer s H E) ((forBody (defBody s_law) 0).getD 6 (.Pass ⟨0, 0, 0, 0⟩)) ts ∧ StE E (xcK K) (retD dBl) [.da (dScr K), .m .lo (mLst dInt), .da (dLst (dTuN dInt)), .da dInt, .no, .da (dTuN (dTuN (dP2 dInt dInt))), .da (dLst (dTup (dP2 dInt dInt))), .da (dLst (dP2 dInt dInt)), .no, .no, .no, .no, .no, .da (dLst (dP2 dInt dInt)), .no, .no, .no, .no, .no, .no] ts [.da (dScr K), .m .lo (mLst dInt), .da (dLst (dTuN dInt)), .da dInt, .no, .da (dTuN (dTuN (dP2 dInt dInt))), .da (dLst (dTup (dP2 dInt dInt))), .da (dLst (dP2 dInt dInt)), .no, .no, .no, .no, .no, .da (dLst (dP2 dInt dInt)), .no, .no, .no, .no, .no, .no] [.da (dScr K), .m .lo (mLst dInt), .da (dLst (dTuN dInt)), .da dInt, .no, .da (dTuN (dTuN (dP2 dInt dInt))), .da (dLst (dTup (dP2 dInt dInt))), .da (dLst (dP2 dInt dInt)), .no, .no, .no, .no, .no, .da (dLst (dP2 dInt dInt)), .no, .no, .no, .no, .no, .no] (fun R nx rt bk ct ρ => m_law_s6 nx (fun x => rt x ()) ρ) := by
  refine ⟨_, (ps_if (pt_cmpR (Pu.op_neDK (K := K) hr.units) (pe_callTy (Pu.call_list_ofK (K := K)) (by rfl) (T.free 54) (by decide +kernel) (pa_cons (pcall (ok_wanted_more T) hr (by decide) (T.glo 46) pxB (pa_cons (pv 2) (pa_cons (pv 5) pa_nil))) pa_nil)) (pv 13) (nomark _)) (pss_one (ps_ret pe_bl)) pss_nil), ?_⟩
  refine StE.as (T := ?T) ?h ?f
  case h => exact (Pu.st_if (p := false) (Pu.et_test (Pu.ev_op (Pu.o_ne (Pu.dqLst (Pu.dqP2 Pu.dqInt Pu.dqInt)) (by decide)) (Pu.freeze (c := (dP2 dInt dInt)) (Pu.en_listS rfl (Pu.ev_sb (Pu.sb_tupS (c := (dP2 dInt dInt))) (Pu.ev_call (Pu.ea_cons (Pu.ev_sb (Pu.sb_lstTun (c := dInt)) (Pu.ev_var (.s (.s (.z))))) (Pu.ea_cons (Pu.ev_var (.s (.s (.s (.s (.s (.z))))))) Pu.ea_nil)))))) (Pu.ev_var (.s (.s (.s (.s (.s (.s (.s (.s (.s (.s (.s (.s (.s (.z))))))))))))))))) (Pu.st_ret (p := false) prD (Pu.ev_c (c := dBl) (x := false) fun _ => rfl)) Pu.st_next)
  case f => kernel_rfl
theorem law_s7 (T : PuX.TxE exG fa fn K mg) {cdv : Value} {A : Around} {outer : List PySem.Env} {s : Shared} {H : Hp} {E : XK} (hr : Room 7 (A.deeper (envOfC "law" (defScope s_law) s.heap.objs.size (He.ga K "law") cdv))) :
    ∃ ts, PS (cxOf (L2.CX P w) P w K mg base ["script", "dice", "lists", "many", "k", "told_now", "due", "ends", "j", "downs", "whole", "place", "part", "pairs", "worse", "better", "thing", "top", "low", "one"] "law" (defScope s_law) (He.ga K "law") cdv A outer s H E) ((forBody (defBody s_law) 0).getD 7 (.Pass ⟨0, 0, 0, 0⟩)) ts ∧ StE E (xcK K) (retD dBl) [.da (dScr K), .m .lo (mLst dInt), .da (dLst (dTuN dInt)), .da dInt, .no, .da (dTuN (dTuN (dP2 dInt dInt))), .da (dLst (dTup (dP2 dInt dInt))), .da (dLst (dP2 dInt dInt)), .no, .no, .no, .no, .no, .da (dLst (dP2 dInt dInt)), .no, .no, .no, .no, .no, .no] ts [.da (dScr K), .m .lo (mLst dInt), .da (dLst (dTuN dInt)), .da dInt, .no, .da (dTuN (dTuN (dP2 dInt dInt))), .da (dLst (dTup (dP2 dInt dInt))), .da (dLst (dP2 dInt dInt)), .no, .no, .no, .no, .no, .da (dLst (dP2 dInt dInt)), .no, .no, .no, .no, .no, .no] [.da (dScr K), .m .lo (mLst dInt), .da (dLst (dTuN dInt)), .da dInt, .no, .da (dTuN (dTuN (dP2 dInt dInt))), .da (dLst (dTup (dP2 dInt dInt))), .da (dLst (dP2 dInt dInt)), .no, .no, .no, .no, .no, .da (dLst (dP2 dInt dInt)), .no, .no, .no, .no, .no, .no] (fun R nx rt bk ct ρ => m_law_s7 nx (fun x => rt x ()) ρ) := by
  refine ⟨_, (ps_for poB (by rfl) (pi_range1 (by rfl) (T.free 23) (pa_cons (pv 3) pa_nil)) (pg_name (i := 16) sc_law.nd (by rfl) (by first | exact Or.inl rfl | exact Or.inr rfl)) (pss_cons (ps_asg (pcall (ok_whole_of T) hr (by decide) (T.glo 65) pxB (pa_cons (pv 5) (pa_cons (pv 16) pa_nil))) (Pu.pg_tupK (K := K) (n := 2) (by rfl) (pgs_cons (pg_name (i := 17) sc_law.nd (by rfl) (by first | exact Or.inl rfl | exact Or.inr rfl)) (pgs_cons (pg_name (i := 18) sc_law.nd (by rfl) (by first | exact Or.inl rfl | exact Or.inr rfl)) pgs_nil)))) (pss_one (ps_if (pt_cmpR op_gt (pv 17) (pv 18) (nomark _)) (pss_one (ps_ret pe_bl)) pss_nil)))), ?_⟩
  refine StE.as (T := ?T) ?h ?f
  case h => exact (Pu.st_for (p := false) (Γ' := [.da (dScr K), .m .lo (mLst dInt), .da (dLst (dTuN dInt)), .da dInt, .no, .da (dTuN (dTuN (dP2 dInt dInt))), .da (dLst (dTup (dP2 dInt dInt))), .da (dLst (dP2 dInt dInt)), .no, .no, .no, .no, .no, .da (dLst (dP2 dInt dInt)), .no, .no, .da dInt, .no, .no, .no]) (Pu.ei_rng1 (Pu.ea_cons (Pu.ev_var (.s (.s (.s (.z))))) Pu.ea_nil)) (Pu.tg_name (.s (.s (.s (.s (.s (.s (.s (.s (.s (.s (.s (.s (.s (.s (.s (.s (.z)))))))))))))))))) (Pu.st_post (Bk.drop (Bk.drop (Bk.drop Bk.id (.s (.s (.s (.s (.s (.s (.s (.s (.s (.s (.s (.s (.s (.s (.s (.s (.s (.s (.z)))))))))))))))))))) (.s (.s (.s (.s (.s (.s (.s (.s (.s (.s (.s (.s (.s (.s (.s (.s (.s (.z))))))))))))))))))) (.s (.s (.s (.s (.s (.s (.s (.s (.s (.s (.s (.s (.s (.s (.s (.s (.z)))))))))))))))))) (Pu.st_seq (Pu.st_asg (p := false) (Pu.ev_call (Pu.ea_cons (Pu.ev_var (.s (.s (.s (.s (.s (.z))))))) (Pu.ea_cons (Pu.ev_var (.s (.s (.s (.s (.s (.s (.s (.s (.s (.s (.s (.s (.s (.s (.s (.s (.z)))))))))))))))))) Pu.ea_nil))) (Pu.tg_p2 (Pu.tg_name (.s (.s (.s (.s (.s (.s (.s (.s (.s (.s (.s (.s (.s (.s (.s (.s (.s (.z))))))))))))))))))) (Pu.tg_name (.s (.s (.s (.s (.s (.s (.s (.s (.s (.s (.s (.s (.s (.s (.s (.s (.s (.s (.z)))))))))))))))))))))) (Pu.st_if (p := false) (Pu.et_test (Pu.ev_op Pu.o_cmp (Pu.ev_var (.s (.s (.s (.s (.s (.s (.s (.s (.s (.s (.s (.s (.s (.s (.s (.s (.s (.z))))))))))))))))))) (Pu.ev_var (.s (.s (.s (.s (.s (.s (.s (.s (.s (.s (.s (.s (.s (.s (.s (.s (.s (.s (.z)))))))))))))))))))))) (Pu.st_ret (p := false) prD (Pu.ev_c (c := dBl) (x := false) fun _ => rfl)) Pu.st_next))))
  case f => kernel_rfl
theorem ok_law (T : PuX.TxE exG fa fn K mg) {fd : FuncData} (F : FunD K "law" "law" (defArgs s_law) (defBody s_law) (defScope s_law) [] [] (He.ga K "law") fd) : FnOk P w K mg base (L2.CX P w) 8 (He.ga K "law") fd ["script"] (spD (xcK K) [(dScr K)] dBl (fun x => m_law x.1)) := by
  refine okF2 F sc_law (lenD rfl) ?_
  intro cdv A outer s H E hr
  obtain ⟨ts0, p0, e0⟩ := law_s0 (P := P) (w := w) (base := base) T (outer := outer) (H := H) (E := E) hr
  obtain ⟨ts1, p1, e1⟩ := law_s1 (P := P) (w := w) (base := base) T (outer := outer) (H := H) (E := E) hr
  obtain ⟨ts2, p2, e2⟩ := law_s2 (P := P) (w := w) (base := base) T (outer := outer) (H := H) (E := E) hr
  obtain ⟨ts3, p3, e3⟩ := law_s3 (P := P) (w := w) (base := base) T (outer := outer) (H := H) (E := E) hr
  obtain ⟨ts4, p4, e4⟩ := law_s4 (P := P) (w := w) (base := base) T (outer := outer) (H := H) (E := E) hr
  obtain ⟨ts5, p5, e5⟩ := law_s5 (P := P) (w := w) (base := base) T (outer := outer) (H := H) (E := E) hr
  obtain ⟨ts6, p6, e6⟩ := law_s6 (P := P) (w := w) (base := base) T (outer := outer) (H := H) (E := E) hr
  obtain ⟨ts7, p7, e7⟩ := law_s7 (P := P) (w := w) (base := base) T (outer := outer) (H := H) (E := E) hr
  refine ⟨_, (pss_cons (ps_for poB (by rfl) (Pu.pi_listK (K := K) (pcall (ok_law_rounds T) hr (by decide) (T.glo 56) pxB (pa_cons (pv 0) (pa_cons pe_int pa_nil)))) (pg_name (i := 1) sc_law.nd (by rfl) (by first | exact Or.inl rfl | exact Or.inr rfl)) (pss_cons p0 (pss_cons p1 (pss_cons p2 (pss_cons p3 (pss_cons p4 (pss_cons p5 (pss_cons p6 (pss_one p7))))))))) (pss_cons (ps_set (i := 19) sc_law.nd (by rfl) (by first | exact Or.inl rfl | exact Or.inr rfl) (pmake (ok_Part_init T) hr (by decide) (T.mkr 18) (T.glo 19) pxB (pa_cons pe_int (pa_cons (pe_op op_sub pe_int pe_int) pa_nil)))) (pss_cons (ps_if (PW.pt (pw_or (pt_cmpR (Pu.op_neDK (K := K) hr.units) (pmeth0 (ok_Part_shown T) hr (by decide) (T.cls 15) (T.meth 28) pxB (pv 19)) (pe_tup (pa_cons (pe_op op_sub pe_int pe_int) (pa_cons pe_int pa_nil))) (nomark _)) (pw_or (pt_cmpR (Pu.op_neDK (K := K) hr.units) (pmeth0 (ok_Part_shown T) hr (by decide) (T.cls 15) (T.meth 28) pxB (pmeth (ok_Part_plus T) hr (by decide) (T.cls 15) (T.meth 34) pxB (pv 19) (pa_cons (pmake (ok_Part_init T) hr (by decide) (T.mkr 18) (T.glo 19) pxB (pa_cons pe_int (pa_cons pe_int pa_nil))) pa_nil))) (pe_tup (pa_cons (pe_op op_sub pe_int pe_int) (pa_cons pe_int pa_nil))) (nomark _)) (pw_or (pt_cmpR (Pu.op_neDK (K := K) hr.units) (pmeth0 (ok_Part_shown T) hr (by decide) (T.cls 15) (T.meth 28) pxB (pmeth (ok_Part_over T) hr (by decide) (T.cls 15) (T.meth 32) pxB (pv 19) (pa_cons pe_int pa_nil))) (pe_tup (pa_cons (pe_op op_sub pe_int pe_int) (pa_cons pe_int pa_nil))) (nomark _)) (pw_or1 (pt_not (pt_val (pmeth (ok_Part_below T) hr (by decide) (T.cls 15) (T.meth 33) pxB (pv 19) (pa_cons (pmake (ok_Part_init T) hr (by decide) (T.mkr 18) (T.glo 19) pxB (pa_cons pe_int (pa_cons pe_int pa_nil))) pa_nil))))))))) (pss_one (ps_ret pe_bl)) pss_nil) (pss_one (ps_ret (pe_and (pe_cmpR op_isT (pcall (ok_is_tight T) hr (by decide) (T.glo 63) pxB (pa_cons (pe_lst (pa_cons (pe_tup (pa_cons pe_int (pa_cons pe_int pa_nil))) (pa_cons (pe_tup (pa_cons pe_int (pa_cons pe_int pa_nil))) pa_nil))) (pa_cons (pe_tupF (pa_cons (pe_tupF (pa_cons (pe_tup (pa_cons pe_int (pa_cons pe_int pa_nil))) (pa_cons (pe_tup (pa_cons pe_int (pa_cons pe_int pa_nil))) pa_nil))) (pa_cons (pe_tupF (pa_cons (pe_tup (pa_cons pe_int (pa_cons pe_int pa_nil))) (pa_cons (pe_tup (pa_cons pe_int (pa_cons pe_int pa_nil))) pa_nil))) pa_nil))) pa_nil))) pe_bl (nomark _)) (pe_one (pe_cmpR (Pu.op_eqDK (K := K) hr.units) (pmeth0 (ok_Part_shown T) hr (by decide) (T.cls 15) (T.meth 28) pxB (pmeth (ok_Part_minus T) hr (by decide) (T.cls 15) (T.meth 31) pxB (pmake (ok_Part_init T) hr (by decide) (T.mkr 18) (T.glo 19) pxB (pa_cons pe_int (pa_cons pe_int pa_nil))) (pa_cons (pmake (ok_Part_init T) hr (by decide) (T.mkr 18) (T.glo 19) pxB (pa_cons pe_int (pa_cons pe_int pa_nil))) pa_nil))) (pe_tup (pa_cons (pe_op op_sub pe_int pe_int) (pa_cons pe_int pa_nil))) (nomark _))))))))), ?_⟩
  intro vs Q h
  refine run_D (Γe := []) (cs := [(dScr K)]) (n := 19) (T := ?T) rfl ?h ?f vs H Q h
  case h => exact (Pu.st_seq (Pu.st_for1 (p := false) (Γ2 := [.da (dScr K), .m .lo (mLst dInt), .da (dLst (dTuN dInt)), .da dInt, .no, .da (dTuN (dTuN (dP2 dInt dInt))), .da (dLst (dTup (dP2 dInt dInt))), .da (dLst (dP2 dInt dInt)), .no, .no, .no, .no, .no, .da (dLst (dP2 dInt dInt)), .no, .no, .no, .no, .no, .no]) (.s (.z)) (Pu.ev_callN (Pu.ea_cons (Pu.ev_var .z) (Pu.ea_cons (Pu.ev_c (c := dInt) (x := 1) fun _ => rfl) Pu.ea_nil))) (Pu.st_seq e0 (Pu.st_seq e1 (Pu.st_seq e2 (Pu.st_seq e3 (Pu.st_seq e4 (Pu.st_seq e5 (Pu.st_seq e6 e7)))))))) (Pu.st_seq (Pu.st_set (p := false) (.s (.s (.s (.s (.s (.s (.s (.s (.s (.s (.s (.s (.s (.s (.s (.s (.s (.s (.s (.z)))))))))))))))))))) (Pu.freezeO (fs := fs_Part K) (Pu.en_make (Pu.ea_cons (Pu.ev_c (c := dInt) (x := 6) fun _ => rfl) (Pu.ea_cons (Pu.ev_op Pu.o_int (Pu.ev_c (c := dInt) (x := 0) fun _ => rfl) (Pu.ev_c (c := dInt) (x := 4) fun _ => rfl)) Pu.ea_nil))))) (Pu.st_seq (Pu.st_if (p := false) (Pu.et_or (Pu.et_test (Pu.ev_op (Pu.o_ne (Pu.dqP2 Pu.dqInt Pu.dqInt) (by decide)) (Pu.ev_meth (nm := "shown") (names := nm_Part) (by decide +kernel) (Pu.ev_var (.s (.s (.s (.s (.s (.s (.s (.s (.s (.s (.s (.s (.s (.s (.s (.s (.s (.s (.s (.z))))))))))))))))))))) Pu.ea_nil) (Pu.ev_p2 (Pu.ea_cons (Pu.ev_op Pu.o_int (Pu.ev_c (c := dInt) (x := 0) fun _ => rfl) (Pu.ev_c (c := dInt) (x := 3) fun _ => rfl)) (Pu.ea_cons (Pu.ev_c (c := dInt) (x := 2) fun _ => rfl) Pu.ea_nil))))) (Pu.et_or (Pu.et_test (Pu.ev_op (Pu.o_ne (Pu.dqP2 Pu.dqInt Pu.dqInt) (by decide)) (Pu.ev_meth (nm := "shown") (names := nm_Part) (by decide +kernel) (Pu.ev_meth (nm := "plus") (names := nm_Part) (by decide +kernel) (Pu.ev_var (.s (.s (.s (.s (.s (.s (.s (.s (.s (.s (.s (.s (.s (.s (.s (.s (.s (.s (.s (.z))))))))))))))))))))) (Pu.ea_cons (Pu.freezeO (fs := fs_Part K) (Pu.en_make (Pu.ea_cons (Pu.ev_c (c := dInt) (x := 1) fun _ => rfl) (Pu.ea_cons (Pu.ev_c (c := dInt) (x := 2) fun _ => rfl) Pu.ea_nil)))) Pu.ea_nil)) Pu.ea_nil) (Pu.ev_p2 (Pu.ea_cons (Pu.ev_op Pu.o_int (Pu.ev_c (c := dInt) (x := 0) fun _ => rfl) (Pu.ev_c (c := dInt) (x := 1) fun _ => rfl)) (Pu.ea_cons (Pu.ev_c (c := dInt) (x := 1) fun _ => rfl) Pu.ea_nil))))) (Pu.et_or (Pu.et_test (Pu.ev_op (Pu.o_ne (Pu.dqP2 Pu.dqInt Pu.dqInt) (by decide)) (Pu.ev_meth (nm := "shown") (names := nm_Part) (by decide +kernel) (Pu.ev_meth (nm := "over") (names := nm_Part) (by decide +kernel) (Pu.ev_var (.s (.s (.s (.s (.s (.s (.s (.s (.s (.s (.s (.s (.s (.s (.s (.s (.s (.s (.s (.z))))))))))))))))))))) (Pu.ea_cons (Pu.ev_c (c := dInt) (x := 3) fun _ => rfl) Pu.ea_nil)) Pu.ea_nil) (Pu.ev_p2 (Pu.ea_cons (Pu.ev_op Pu.o_int (Pu.ev_c (c := dInt) (x := 0) fun _ => rfl) (Pu.ev_c (c := dInt) (x := 1) fun _ => rfl)) (Pu.ea_cons (Pu.ev_c (c := dInt) (x := 2) fun _ => rfl) Pu.ea_nil))))) (Pu.et_not (Pu.et_B (Pu.ev_meth (nm := "below") (names := nm_Part) (by decide +kernel) (Pu.ev_var (.s (.s (.s (.s (.s (.s (.s (.s (.s (.s (.s (.s (.s (.s (.s (.s (.s (.s (.s (.z))))))))))))))))))))) (Pu.ea_cons (Pu.freezeO (fs := fs_Part K) (Pu.en_make (Pu.ea_cons (Pu.ev_c (c := dInt) (x := 0) fun _ => rfl) (Pu.ea_cons (Pu.ev_c (c := dInt) (x := 1) fun _ => rfl) Pu.ea_nil)))) Pu.ea_nil))))))) (Pu.st_ret (p := false) prD (Pu.ev_c (c := dBl) (x := false) fun _ => rfl)) Pu.st_next) (Pu.st_ret (p := false) prD (Pu.ev_and (Pu.ev_op Pu.o_isB (Pu.ev_call (Pu.ea_cons (Pu.freeze (c := (dTup dInt)) (Pu.en_lst (c := (dTup dInt)) 2 (by decide) (Pu.ea_cons (Pu.ev_tup (c := dInt) 2 (by decide) (Pu.ea_cons (Pu.ev_c (c := dInt) (x := 0) fun _ => rfl) (Pu.ea_cons (Pu.ev_c (c := dInt) (x := 1) fun _ => rfl) Pu.ea_nil))) (Pu.ea_cons (Pu.ev_tup (c := dInt) 2 (by decide) (Pu.ea_cons (Pu.ev_c (c := dInt) (x := 1) fun _ => rfl) (Pu.ea_cons (Pu.ev_c (c := dInt) (x := 0) fun _ => rfl) Pu.ea_nil))) Pu.ea_nil)))) (Pu.ea_cons (Pu.ev_tupN (c := (dTuN (dP2 dInt dInt))) 2 (by decide) (Pu.ea_cons (Pu.ev_tupN (c := (dP2 dInt dInt)) 2 (by decide) (Pu.ea_cons (Pu.ev_p2 (Pu.ea_cons (Pu.ev_c (c := dInt) (x := 0) fun _ => rfl) (Pu.ea_cons (Pu.ev_c (c := dInt) (x := 1) fun _ => rfl) Pu.ea_nil))) (Pu.ea_cons (Pu.ev_p2 (Pu.ea_cons (Pu.ev_c (c := dInt) (x := 1) fun _ => rfl) (Pu.ea_cons (Pu.ev_c (c := dInt) (x := 1) fun _ => rfl) Pu.ea_nil))) Pu.ea_nil))) (Pu.ea_cons (Pu.ev_tupN (c := (dP2 dInt dInt)) 2 (by decide) (Pu.ea_cons (Pu.ev_p2 (Pu.ea_cons (Pu.ev_c (c := dInt) (x := 1) fun _ => rfl) (Pu.ea_cons (Pu.ev_c (c := dInt) (x := 1) fun _ => rfl) Pu.ea_nil))) (Pu.ea_cons (Pu.ev_p2 (Pu.ea_cons (Pu.ev_c (c := dInt) (x := 0) fun _ => rfl) (Pu.ea_cons (Pu.ev_c (c := dInt) (x := 1) fun _ => rfl) Pu.ea_nil))) Pu.ea_nil))) Pu.ea_nil))) Pu.ea_nil))) (Pu.ev_c (c := dBl) (x := false) fun _ => rfl)) (Pu.ev_op (Pu.o_eq (Pu.dqP2 Pu.dqInt Pu.dqInt) (by decide)) (Pu.ev_meth (nm := "shown") (names := nm_Part) (by decide +kernel) (Pu.ev_meth (nm := "minus") (names := nm_Part) (by decide +kernel) (Pu.freezeO (fs := fs_Part K) (Pu.en_make (Pu.ea_cons (Pu.ev_c (c := dInt) (x := 1) fun _ => rfl) (Pu.ea_cons (Pu.ev_c (c := dInt) (x := 3) fun _ => rfl) Pu.ea_nil)))) (Pu.ea_cons (Pu.freezeO (fs := fs_Part K) (Pu.en_make (Pu.ea_cons (Pu.ev_c (c := dInt) (x := 1) fun _ => rfl) (Pu.ea_cons (Pu.ev_c (c := dInt) (x := 2) fun _ => rfl) Pu.ea_nil)))) Pu.ea_nil)) Pu.ea_nil) (Pu.ev_p2 (Pu.ea_cons (Pu.ev_op Pu.o_int (Pu.ev_c (c := dInt) (x := 0) fun _ => rfl) (Pu.ev_c (c := dInt) (x := 1) fun _ => rfl)) (Pu.ea_cons (Pu.ev_c (c := dInt) (x := 6) fun _ => rfl) Pu.ea_nil)))))))))
  case f => intros; kernel_rfl
def lawLevel : Nat := 8
def lawFact : Nat := 66
def lawDef : Nat := 34
end
end G
set_option linter.all false
/-! all eat their best thing left at one pace, told by ticks -/
namespace Dl
def bit (left : Int → Nat) (l : List Int) : Option Int := l.find? fun t => decide (left t ≠ 0)
def cnt (ls : List (List Int)) (left : Int → Nat) (t : Int) : Nat := (ls.filter fun l => decide (bit left l = some t)).length
def lft (ls : List (List Int)) (L : Nat) : Nat → Int → Nat
  | 0 => fun _ => L
  | s + 1 => fun t => lft ls L s t - cnt ls (lft ls L s) t
def hd (ls : List (List Int)) (L : Nat) (l : List Int) (t : Int) : Nat → Nat
  | 0 => 0
  | s + 1 => hd ls L l t s + if bit (lft ls L s) l = some t then 1 else 0
theorem bit_some {left : Int → Nat} {l : List Int} {t : Int} (h : bit left l = some t) : t ∈ l ∧ left t ≠ 0 := by
  unfold bit at h
  exact ⟨List.mem_of_find?_eq_some h, by have := List.find?_some h; simpa using this⟩
theorem bit_congr {f g : Int → Nat} {l : List Int} (h : ∀ t, t ∈ l → (f t = 0 ↔ g t = 0)) : bit f l = bit g l := by
  unfold bit
  induction l with
  | nil => rfl
  | cons x l ih =>
    rw [List.find?_cons, List.find?_cons]
    have hx := h x List.mem_cons_self
    have e : decide (f x ≠ 0) = decide (g x ≠ 0) := decide_eq_decide.mpr (not_congr hx)
    rw [e, ih fun t ht => h t (List.mem_cons_of_mem _ ht)]
theorem bit_is {left : Int → Nat} {l : List Int} {t : Int} : bit left l = some t ↔ left t ≠ 0 ∧ ∃ as bs, l = as ++ t :: bs ∧ ∀ x, x ∈ as → left x = 0 := by
  unfold bit
  rw [List.find?_eq_some_iff_append]
  simp only [decide_eq_true_eq, Bool.not_eq_eq_eq_not, Bool.not_true, decide_eq_false_iff_not, Decidable.not_not]
theorem cnt_congr {ls : List (List Int)} {f g : Int → Nat} (h : ∀ l, l ∈ ls → bit f l = bit g l) (t : Int) : cnt ls f t = cnt ls g t := by
  unfold cnt
  rw [List.filter_congr fun l hl => by rw [h l hl]]
theorem cnt_pos {ls : List (List Int)} {f : Int → Nat} {t : Int} : 0 < cnt ls f t ↔ ∃ l, l ∈ ls ∧ bit f l = some t := by
  unfold cnt
  rw [List.length_pos_iff_exists_mem]
  constructor
  · rintro ⟨l, hl⟩
    obtain ⟨h1, h2⟩ := List.mem_filter.mp hl
    exact ⟨l, h1, of_decide_eq_true h2⟩
  · rintro ⟨l, h1, h2⟩
    exact ⟨l, List.mem_filter.mpr ⟨h1, decide_eq_true h2⟩⟩
theorem cnt_le {ls : List (List Int)} {f : Int → Nat} {t : Int} : cnt ls f t ≤ ls.length := List.length_filter_le _ _
section
variable {ls : List (List Int)} {L : Nat}
theorem lft_mono {t : Int} {s r : Nat} (h : s ≤ r) : lft ls L r t ≤ lft ls L s t := by
  induction r with
  | zero => rw [Nat.le_zero.mp h]; exact Nat.le_refl _
  | succ r ih =>
    rcases Nat.lt_or_ge s (r + 1) with q | q
    · exact Nat.le_trans (Nat.sub_le _ _) (ih (by omega))
    · rw [show s = r + 1 by omega]; exact Nat.le_refl _
theorem lft_zero {t : Int} {s r : Nat} (h : s ≤ r) (e : lft ls L s t = 0) : lft ls L r t = 0 := Nat.le_zero.mp (e ▸ lft_mono h)
theorem hd_mem {l : List Int} {t : Int} (h : t ∉ l) : ∀ s, hd ls L l t s = 0
  | 0 => rfl
  | s + 1 => by
    unfold hd
    rw [hd_mem h s, if_neg fun e => h (bit_some e).1]
theorem hd_when {l : List Int} {t : Int} : ∀ s, 0 < hd ls L l t s → ∃ r, r < s ∧ bit (lft ls L r) l = some t
  | 0, h => absurd h (Nat.lt_irrefl 0)
  | s + 1, h => by
    unfold hd at h
    by_cases e : bit (lft ls L s) l = some t
    · exact ⟨s, by omega, e⟩
    · rw [if_neg e] at h
      obtain ⟨r, h1, h2⟩ := hd_when s h
      exact ⟨r, by omega, h2⟩
theorem ahead_gone {l as bs : List Int} {a w : Int} (e : l = as ++ a :: bs) (hw : w ∈ bs) (nd : l.Nodup) {s : Nat} (h : bit (lft ls L s) l = some w) : lft ls L s a = 0 := by
  obtain ⟨h1, as2, bs2, e2, h2⟩ := bit_is.mp h
  refine h2 a ?_
  rw [e] at nd e2
  -- a stands ahead of w
  have nd1 := List.nodup_append.mp nd
  have nd2 := List.nodup_cons.mp nd1.2.1
  rcases List.append_eq_append_iff.mp e2 with ⟨c, q1, q2⟩ | ⟨c, q1, q2⟩
  · cases c with
    | nil =>
      rw [List.nil_append] at q2
      injection q2 with q3 q4
      exact absurd (by rw [q3]; exact hw) nd2.1
    | cons x c =>
      rw [List.cons_append] at q2
      injection q2 with q3 q4
      rw [q1, q3]
      simp
  · cases c with
    | nil =>
      rw [List.nil_append] at q2
      injection q2 with q3 q4
      exact absurd (by rw [← q3]; exact hw) nd2.1
    | cons x c =>
      rw [List.cons_append] at q2
      injection q2 with q3 q4
      refine absurd rfl (nd1.2.2 w (by rw [q1, ← q3]; simp) w (List.mem_cons_of_mem _ hw))
end
/-! ### one eater more -/
section
variable {ls ls' : List (List Int)} {L : Nat}
end
/-! ### other numbers -/
section
variable {ls ls' : List (List Int)} {L : Nat} {σ : Int → Int} {D : Int → Prop}
end
end Dl
set_option linter.all false
/-! steps of several ticks; what is eaten is had; whole numbers -/
namespace Dl
section
variable {ls : List (List Int)} {L : Nat}
def Fit (ls : List (List Int)) (L s st : Nat) : Prop := ∀ t, 0 < cnt ls (lft ls L s) t → cnt ls (lft ls L s) t * st ≤ lft ls L s t
theorem fit_zero {s st r : Nat} (h : Fit ls L s st) (hr : r < st) (t : Int) : (lft ls L s t - cnt ls (lft ls L s) t * r = 0 ↔ lft ls L s t = 0) := by
  constructor
  · intro e
    refine Classical.byContradiction fun q => ?_
    rcases Nat.eq_zero_or_pos (cnt ls (lft ls L s) t) with z | z
    · rw [z, Nat.zero_mul] at e; omega
    · have h1 := h t z
      have h2 : cnt ls (lft ls L s) t * r < cnt ls (lft ls L s) t * st := Nat.mul_lt_mul_of_pos_left hr z
      omega
  · intro e; omega
theorem fit_lft {s st : Nat} (h : Fit ls L s st) : ∀ r, r ≤ st → ∀ t, lft ls L (s + r) t = lft ls L s t - cnt ls (lft ls L s) t * r
  | 0, _, t => by rw [Nat.mul_zero]; rfl
  | r + 1, hr, t => by
    have ih := fit_lft h r (by omega)
    show lft ls L (s + r) t - cnt ls (lft ls L (s + r)) t = _
    have e : cnt ls (lft ls L (s + r)) t = cnt ls (lft ls L s) t := cnt_congr (fun l _ => bit_congr fun x _ => by rw [ih x]; exact fit_zero h (by omega) x) t
    rw [e, ih t, Nat.mul_succ]
    omega
theorem fit_bit {s st : Nat} (h : Fit ls L s st) {r : Nat} (hr : r < st) (l : List Int) : bit (lft ls L (s + r)) l = bit (lft ls L s) l := bit_congr fun x _ => by
  rw [fit_lft h r (by omega) x]; exact fit_zero h hr x
theorem fit_cnt {s st : Nat} (h : Fit ls L s st) {r : Nat} (hr : r < st) (t : Int) : cnt ls (lft ls L (s + r)) t = cnt ls (lft ls L s) t := cnt_congr (fun l _ => fit_bit h hr l) t
theorem fit_hd {s st : Nat} (h : Fit ls L s st) {l : List Int} {t : Int} : ∀ r, r ≤ st → hd ls L l t (s + r) = hd ls L l t s + if bit (lft ls L s) l = some t then r else 0
  | 0, _ => by
    show hd ls L l t s = _
    split <;> omega
  | r + 1, hr => by
    show hd ls L l t (s + r) + (if bit (lft ls L (s + r)) l = some t then 1 else 0) = _
    rw [fit_hd h r (by omega), fit_bit h (by omega)]
    split <;> omega
def Exact (ls : List (List Int)) (L s : Nat) : Prop := ∀ r, r < s → ∀ t, cnt ls (lft ls L r) t ≤ lft ls L r t
theorem fit_exact {s st : Nat} (h : Fit ls L s st) (x : Exact ls L s) : Exact ls L (s + st) := fun r hr t => by
  rcases Nat.lt_or_ge r s with q | q
  · exact x r q t
  · obtain ⟨d, rfl⟩ : ∃ d, r = s + d := ⟨r - s, by omega⟩
    rw [fit_cnt h (by omega), fit_lft h d (by omega)]
    rcases Nat.eq_zero_or_pos (cnt ls (lft ls L s) t) with z | z
    · rw [z]; exact Nat.zero_le _
    · have h1 := h t z
      have h2 : cnt ls (lft ls L s) t * (d + 1) ≤ cnt ls (lft ls L s) t * st := Nat.mul_le_mul_left _ (by omega)
      rw [Nat.mul_succ] at h2
      omega
/-! ### what is eaten is had -/
theorem cnt_sum (f : Int → Nat) (t : Int) : ∀ ms : List (List Int), cnt ms f t = (ms.map fun l => if bit f l = some t then 1 else 0).sum
  | [] => rfl
  | l :: ms => by
    have ih := cnt_sum f t ms
    unfold cnt at ih ⊢
    rw [List.filter_cons, List.map_cons, List.sum_cons, ← ih]
    by_cases e : bit f l = some t
    · rw [if_pos (decide_eq_true e), if_pos e, List.length_cons]; omega
    · rw [if_neg (by rw [decide_eq_false e]; decide), if_neg e]; omega
theorem sum_add' {α : Type} (f g : α → Nat) : ∀ xs : List α, (xs.map fun x => f x + g x).sum = (xs.map f).sum + (xs.map g).sum
  | [] => rfl
  | x :: xs => by simp only [List.map_cons, List.sum_cons, sum_add' f g xs]; omega
theorem sum_zero {α : Type} : ∀ xs : List α, (xs.map fun _ => 0).sum = 0
  | [] => rfl
  | x :: xs => by simp only [List.map_cons, List.sum_cons, sum_zero xs]
theorem sum_le {α : Type} {f g : α → Nat} : ∀ xs : List α, (∀ x, x ∈ xs → f x ≤ g x) → (xs.map f).sum ≤ (xs.map g).sum
  | [], _ => Nat.le_refl _
  | x :: xs, h => by
    have h1 := h x List.mem_cons_self
    have h2 := sum_le xs fun y hy => h y (List.mem_cons_of_mem _ hy)
    simp only [List.map_cons, List.sum_cons]
    omega
theorem sum_swap {α β : Type} (f : α → β → Nat) (ys : List β) : ∀ xs : List α, (xs.map fun x => (ys.map fun y => f x y).sum).sum = (ys.map fun y => (xs.map fun x => f x y).sum).sum
  | [] => by simp only [List.map_nil, List.sum_nil, sum_zero]
  | x :: xs => by simp only [List.map_cons, List.sum_cons, sum_swap f ys xs, sum_add']
theorem sum_const {α : Type} (c : Nat) : ∀ xs : List α, (xs.map fun _ => c).sum = xs.length * c
  | [] => by rw [List.map_nil, List.length_nil, Nat.zero_mul]; rfl
  | x :: xs => by simp only [List.map_cons, List.sum_cons, List.length_cons, sum_const c xs, Nat.succ_mul]; omega
def all (ls : List (List Int)) (L : Nat) (t : Int) (s : Nat) : Nat := (ls.map fun l => hd ls L l t s).sum
theorem all_succ (t : Int) (s : Nat) : all ls L t (s + 1) = all ls L t s + cnt ls (lft ls L s) t := by
  unfold all
  rw [cnt_sum, ← sum_add']
  rfl
theorem all_zero (t : Int) : all ls L t 0 = 0 := sum_zero ls
theorem kept : ∀ {s : Nat}, Exact ls L s → ∀ t, lft ls L s t + all ls L t s = L
  | 0, _, t => by rw [all_zero]; rfl
  | s + 1, x, t => by
    have ih := kept (s := s) (fun r hr => x r (by omega)) t
    have h := x s (by omega) t
    rw [all_succ]
    show lft ls L s t - cnt ls (lft ls L s) t + _ = L
    omega
theorem one_at {o : Option Int} : ∀ {ts : List Int}, ts.Nodup → (ts.map fun t => if o = some t then 1 else 0).sum ≤ 1
  | [], _ => Nat.zero_le _
  | t :: ts, nd => by
    obtain ⟨n1, n2⟩ := List.nodup_cons.mp nd
    have ih := one_at (o := o) n2
    rw [List.map_cons, List.sum_cons]
    by_cases e : o = some t
    · rw [if_pos e]
      have : (ts.map fun t => if o = some t then 1 else 0).sum = 0 := by
        have e2 : ts.map (fun t => if o = some t then 1 else 0) = ts.map fun _ => 0 := List.map_congr_left fun x hx => if_neg fun z => by
          rw [e] at z
          injection z with z
          exact n1 (z ▸ hx)
        rw [e2, sum_zero]
      omega
    · rw [if_neg e]; omega
theorem had_le {l : List Int} {ts : List Int} (nd : ts.Nodup) : ∀ s, (ts.map fun t => hd ls L l t s).sum ≤ s
  | 0 => by rw [show (ts.map fun t => hd ls L l t 0) = ts.map fun _ => 0 from rfl, sum_zero]; exact Nat.le_refl _
  | s + 1 => by
    have ih := had_le (l := l) nd s
    have := one_at (o := bit (lft ls L s) l) nd
    show (ts.map fun t => hd ls L l t s + if bit (lft ls L s) l = some t then 1 else 0).sum ≤ s + 1
    rw [sum_add']
    omega
def exh (ls : List (List Int)) (L : Nat) (ts : List Int) (s : Nat) : Nat := (ts.filter fun t => decide (lft ls L s t = 0)).length
theorem exh_le {ts : List Int} (nd : ts.Nodup) {s : Nat} (x : Exact ls L s) : exh ls L ts s * L ≤ ls.length * s := by
  have h1 : exh ls L ts s * L = ((ts.filter fun t => decide (lft ls L s t = 0)).map fun t => all ls L t s).sum := by
    unfold exh
    rw [← sum_const]
    refine congrArg List.sum (List.map_congr_left fun t ht => ?_)
    have := of_decide_eq_true (List.mem_filter.mp ht).2
    have := kept x t
    omega
  rw [h1]
  unfold all
  rw [sum_swap, ← sum_const s ls]
  exact sum_le _ fun l _ => had_le (nd.filter _) s
/-! ### nobody eats -/
theorem idle {s : Nat} (h : ∀ l, l ∈ ls → bit (lft ls L s) l = none) : ∀ d, (∀ t, lft ls L (s + d) t = lft ls L s t) ∧ ∀ l, l ∈ ls → ∀ t, hd ls L l t (s + d) = hd ls L l t s := by
  intro d
  induction d with
  | zero => exact ⟨fun t => rfl, fun l _ t => rfl⟩
  | succ d ih =>
    have hb : ∀ l, l ∈ ls → bit (lft ls L (s + d)) l = none := fun l hl => by
      rw [bit_congr (g := lft ls L s) fun t _ => by rw [ih.1 t]]; exact h l hl
    refine ⟨fun t => ?_, fun l hl t => ?_⟩
    · show lft ls L (s + d) t - cnt ls (lft ls L (s + d)) t = _
      have : cnt ls (lft ls L (s + d)) t = 0 := Nat.le_zero.mp (Nat.le_of_not_lt fun z => by
        obtain ⟨l, hl, e⟩ := cnt_pos.mp z
        rw [hb l hl] at e; cases e)
      rw [this, ih.1 t]; rfl
    · show hd ls L l t (s + d) + (if bit (lft ls L (s + d)) l = some t then 1 else 0) = _
      rw [hb l hl, if_neg (fun z => nomatch z), ih.2 l hl t]; rfl
theorem idle_exact {s : Nat} (h : ∀ l, l ∈ ls → bit (lft ls L s) l = none) (x : Exact ls L s) (d : Nat) : Exact ls L (s + d) := fun r hr t => by
  rcases Nat.lt_or_ge r s with q | q
  · exact x r q t
  · obtain ⟨d2, rfl⟩ : ∃ d, r = s + d := ⟨r - s, by omega⟩
    have : cnt ls (lft ls L (s + d2)) t = 0 := Nat.le_zero.mp (Nat.le_of_not_lt fun z => by
      obtain ⟨l, hl, e⟩ := cnt_pos.mp z
      rw [bit_congr (g := lft ls L s) fun t _ => by rw [(idle h d2).1 t], h l hl] at e; cases e)
    rw [this]; exact Nat.zero_le _
/-! ### when a thing is eaten up, or all is over -/
def ev (ls : List (List Int)) (L s : Nat) : Bool := ls.any fun l => match bit (lft ls L s) l with
  | some t => decide (s + 1 = L) || decide (lft ls L (s + 1) t = 0)
  | none => false
def evs (ls : List (List Int)) (L s : Nat) : List Nat := ((List.range s).filter (ev ls L)).map (· + 1)
theorem evs_succ (s : Nat) : evs ls L (s + 1) = evs ls L s ++ if ev ls L s = true then [s + 1] else [] := by
  unfold evs
  rw [List.range_succ, List.filter_append, List.map_append]
  refine congrArg _ ?_
  by_cases e : ev ls L s = true
  · rw [if_pos e, List.filter_cons, if_pos e]; rfl
  · rw [if_neg e, List.filter_cons, if_neg e]; rfl
theorem ev_true {s : Nat} : ev ls L s = true ↔ ∃ l t, l ∈ ls ∧ bit (lft ls L s) l = some t ∧ (s + 1 = L ∨ lft ls L (s + 1) t = 0) := by
  unfold ev
  rw [List.any_eq_true]
  constructor
  · rintro ⟨l, hl, e⟩
    cases hb : bit (lft ls L s) l with
    | none => rw [hb] at e; cases e
    | some t =>
      rw [hb] at e
      simp only [Bool.or_eq_true, decide_eq_true_eq] at e
      exact ⟨l, t, hl, hb, e⟩
  · rintro ⟨l, t, hl, hb, e⟩
    refine ⟨l, hl, ?_⟩
    rw [hb]
    simp only [Bool.or_eq_true, decide_eq_true_eq]
    exact e
theorem fit_evs0 {s st : Nat} (h : Fit ls L s st) (hL : s + st ≤ L) : ∀ r, r < st → evs ls L (s + r) = evs ls L s
  | 0, _ => rfl
  | r + 1, hr => by
    show evs ls L (s + r + 1) = _
    rw [evs_succ, fit_evs0 h hL r (by omega), if_neg, List.append_nil]
    intro e
    obtain ⟨l, t, hl, hb, q⟩ := ev_true.mp e
    rw [fit_bit h (by omega)] at hb
    rcases q with q | q
    · omega
    · have q : lft ls L (s + (r + 1)) t = 0 := q
      rw [fit_lft h (r + 1) (by omega)] at q
      exact (bit_some hb).2 ((fit_zero h (by omega) t).mp q)
theorem fit_evs {s st : Nat} (h : Fit ls L s st) (h1 : 1 ≤ st) (hL : s + st ≤ L) {l : List Int} {t : Int} (hl : l ∈ ls) (hb : bit (lft ls L s) l = some t) (q : s + st = L ∨ cnt ls (lft ls L s) t * st = lft ls L s t) : evs ls L (s + st) = evs ls L s ++ [s + st] := by
  obtain ⟨r, rfl⟩ : ∃ r, st = r + 1 := ⟨st - 1, by omega⟩
  show evs ls L (s + r + 1) = _
  rw [evs_succ, fit_evs0 h hL r (by omega), if_pos]
  · rfl
  · refine ev_true.mpr ⟨l, t, hl, by rw [fit_bit h (by omega)]; exact hb, q.imp (fun z => z) fun z => ?_⟩
    show lft ls L (s + (r + 1)) t = 0
    rw [fit_lft h (r + 1) (Nat.le_refl _), z, Nat.sub_self]
theorem idle_evs {s : Nat} (h : ∀ l, l ∈ ls → bit (lft ls L s) l = none) : ∀ d, evs ls L (s + d) = evs ls L s
  | 0 => rfl
  | d + 1 => by
    show evs ls L (s + d + 1) = _
    rw [evs_succ, idle_evs h d, if_neg, List.append_nil]
    intro e
    obtain ⟨l, t, hl, hb, _⟩ := ev_true.mp e
    rw [bit_congr (g := lft ls L s) fun t _ => by rw [(idle h d).1 t], h l hl] at hb
    cases hb
/-! ### all stays whole -/
structure Whole (ls : List (List Int)) (D r : Nat) (ts : List Int) (s : Nat) : Prop where
  n : ls.length ≤ r
  x : Exact ls (D ^ r) s
  le : s ≤ D ^ r
  c : s < D ^ r → D ^ (r - exh ls (D ^ r) ts s) ∣ s
  d : s < D ^ r → ∀ t, D ^ (r - exh ls (D ^ r) ts s) ∣ lft ls (D ^ r) s t
theorem pow_div {D a b : Nat} (h : a ≤ b) : D ^ a ∣ D ^ b := Nat.pow_dvd_pow D h
theorem whole0 {D r : Nat} {ts : List Int} (n : ls.length ≤ r) : Whole ls D r ts 0 := ⟨n, fun r hr => absurd hr (Nat.not_lt_zero _), Nat.zero_le _, fun _ => Nat.dvd_zero _, fun _ t => pow_div (Nat.sub_le _ _)⟩
variable {D s r : Nat} {ts : List Int}
theorem Whole.few (W : Whole ls D r ts s) (nd : ts.Nodup) (h : s < D ^ r) (ne : ls ≠ []) : exh ls (D ^ r) ts s < ls.length := by
  have h1 := exh_le nd W.x
  have hl : 0 < ls.length := List.length_pos_iff.mpr ne
  exact Nat.lt_of_mul_lt_mul_right (a := D ^ r) (Nat.lt_of_le_of_lt h1 (Nat.mul_lt_mul_of_pos_left h hl))
theorem Whole.cdiv (W : Whole ls D r ts s) (nd : ts.Nodup) (h : s < D ^ r) (ne : ls ≠ []) (hD : ∀ c, 1 ≤ c → c ≤ ls.length → c ∣ D) {c : Nat} (c1 : 1 ≤ c) (c2 : c ≤ ls.length) (t : Int) :
    c ∣ lft ls (D ^ r) s t ∧ D ^ (r - exh ls (D ^ r) ts s - 1) ∣ lft ls (D ^ r) s t / c := by
  have f := W.few nd h ne
  have wn := W.n
  obtain ⟨e, he⟩ := hD c c1 c2
  obtain ⟨m, hm⟩ := W.d h t
  obtain ⟨k, hk⟩ : ∃ k, r - exh ls (D ^ r) ts s = k + 1 := ⟨r - exh ls (D ^ r) ts s - 1, by omega⟩
  rw [hk] at hm ⊢
  rw [hm, Nat.pow_succ]
  have e0 : ∀ P : Nat, P * (c * e) * m = c * (P * (e * m)) := fun P => by ac_rfl
  have e1 := e0 (D ^ k)
  rw [← he] at e1
  rw [e1]
  refine ⟨Nat.dvd_mul_right _ _, ?_⟩
  rw [Nat.mul_div_cancel_left _ (by omega)]
  exact Nat.dvd_mul_right _ _
theorem exh_grow {q : Nat} (hr : s ≤ q) {t : Int} (ht : t ∈ ts) (h0 : lft ls L s t ≠ 0) (h1 : lft ls L q t = 0) : exh ls L ts s + 1 ≤ exh ls L ts q := by
  unfold exh
  rw [← List.countP_eq_length_filter, ← List.countP_eq_length_filter]
  have mono : ∀ us : List Int, us.countP (fun t => decide (lft ls L s t = 0)) ≤ us.countP (fun t => decide (lft ls L q t = 0)) := fun us => List.countP_mono_left fun x _ hx => decide_eq_true (lft_zero hr (of_decide_eq_true hx))
  obtain ⟨as, bs, rfl⟩ := List.append_of_mem ht
  rw [List.countP_append, List.countP_append, List.countP_cons, List.countP_cons]
  have m1 := mono as
  have m2 := mono bs
  rw [if_neg (by rw [decide_eq_false h0]; decide), if_pos (decide_eq_true h1)]
  omega
theorem Whole.step (W : Whole ls D r ts s) (nd : ts.Nodup) (h : s < D ^ r) (ne : ls ≠ []) {st : Nat} (fit : Fit ls (D ^ r) s st) (hL : s + st ≤ D ^ r) (hd : D ^ (r - exh ls (D ^ r) ts s - 1) ∣ st)
    (q : s + st = D ^ r ∨ ∃ t, t ∈ ts ∧ lft ls (D ^ r) s t ≠ 0 ∧ lft ls (D ^ r) (s + st) t = 0) : Whole ls D r ts (s + st) := by
  have f := W.few nd h ne
  have wn := W.n
  have key : s + st < D ^ r → D ^ (r - exh ls (D ^ r) ts (s + st)) ∣ D ^ (r - exh ls (D ^ r) ts s - 1) := fun lt => by
    rcases q with q | ⟨t, ht, h0, h1⟩
    · omega
    · have := exh_grow (Nat.le_add_right s st) ht h0 h1
      exact pow_div (by omega)
  have low : D ^ (r - exh ls (D ^ r) ts s - 1) ∣ D ^ (r - exh ls (D ^ r) ts s) := pow_div (Nat.sub_le _ _)
  refine ⟨W.n, fit_exact fit W.x, hL, fun lt => ?_, fun lt t => ?_⟩
  · exact Nat.dvd_trans (key lt) (Nat.dvd_add (Nat.dvd_trans low (W.c h)) hd)
  · rw [fit_lft fit st (Nat.le_refl _)]
    exact Nat.dvd_trans (key lt) (Nat.dvd_sub (Nat.dvd_trans low (W.d h t)) (Nat.dvd_trans hd (Nat.dvd_mul_left _ _)))
end
end Dl
set_option linter.all false
namespace Dl
section
variable {ls ls' : List (List Int)} {L : Nat} {σ : Int → Int} {D : Int → Prop}
end
end Dl
set_option Elab.async false
set_option linter.all false
set_option maxRecDepth 100000
set_option maxHeartbeats 2000000
namespace G
open PySem L2 Evl Pu
theorem at0 {a b c : Int} : L2.atI [a, b, c] (0 : Int) = some a := rfl
theorem at1 {a b c : Int} : L2.atI [a, b, c] (1 : Int) = some b := rfl
theorem at2 {a b c : Int} : L2.atI [a, b, c] (2 : Int) = some c := rfl
theorem set0 {a b c x : Int} : setL [a, b, c] (0 : Int) x = some [x, b, c] := rfl
theorem set1 {a b c x : Int} : setL [a, b, c] (1 : Int) x = some [a, x, c] := rfl
theorem set2 {a b c x : Int} : setL [a, b, c] (2 : Int) x = some [a, b, x] := rfl
theorem opt_some {α β : Type} (x : α) (f : α → Pu.Res β) : opt (some x) f = f x := rfl
theorem dice_ok (cell : Int) : ∃ a b c, m_law_dice cell = .ok [a, b, c] := by
  unfold m_law_dice
  have h1 : (if 0 < (1009 : Int) then some (cell % (1009 : Int)) else none) = some (cell % 1009) := if_pos (by decide)
  have h2 : (if CPow (10 : Int) (18 : Int) then some ((10 : Int) ^ (18 : Int).toNat) else none) = some ((10 : Int) ^ (18 : Int).toNat) := if_pos (by unfold CPow; decide)
  simp only [h1, h2, opt_some]
  repeat' split
  all_goals first | exact ⟨_, _, _, rfl⟩ | skip
theorem roll_ok (a b c many : Int) (h0 : 0 < many) (h1 : many < 1073741824) : ∃ x a' b' c', m_law_roll [a, b, c] many = .ok (x, [a', b', c']) ∧ 0 ≤ x ∧ x < many := by
  have m1 : ∀ x : Int, (if 0 < many then some (x % many) else none) = some (x % many) := fun x => if_pos h0
  have m2 : ∀ x : Int, (if CDiv x many then some (x / many) else none) = some (x / many) := fun x => if_pos ⟨h0, h1⟩
  have m3 : ∀ x : Int, (if CMul x (48271 : Int) then some (x * (48271 : Int)) else none) = some (x * 48271) := fun x => if_pos (.inr (by decide))
  have m4 : ∀ x : Int, (if CMul x (69621 : Int) then some (x * (69621 : Int)) else none) = some (x * 69621) := fun x => if_pos (.inr (by decide))
  have m5 : ∀ x : Int, (if 0 < (2147483647 : Int) then some (x % (2147483647 : Int)) else none) = some (x % 2147483647) := fun x => if_pos (by decide)
  have m6 : ∀ x : Int, (if CDiv x (7 : Int) then some (x / (7 : Int)) else none) = some (x / 7) := fun x => if_pos ⟨by decide, by decide⟩
  have p0 : ∀ x : Int, 0 ≤ x % many := fun x => Int.emod_nonneg _ (by omega)
  have p1 : ∀ x : Int, x % many < many := fun x => Int.emod_lt_of_pos _ h0
  unfold m_law_roll
  simp only [at0, at1, at2, set0, set1, set2, m1, m2, m3, m4, m5, m6, opt_some]
  by_cases k1 : c = 2
  · refine ⟨a % many, a / many, b, c, ?_, p0 _, p1 _⟩
    simp [k1]
  · by_cases k2 : c = 1 ∧ 0 < a
    · refine ⟨a % many, a / many, b, c, ?_, p0 _, p1 _⟩
      simp [k2.1, k2.2]
    · refine ⟨((a * 48271 + b * 69621 + 11) % 2147483647 / 7 + (a * 48271 + b * 69621 + 11) % 2147483647) % many, (a * 48271 + b * 69621 + 11) % 2147483647, b + 1, 0, ?_, p0 _, p1 _⟩
      by_cases k3 : c = 1
      · have k4 : ¬ 0 < a := fun z => k2 ⟨k3, z⟩
        simp [k3, k4]
      · simp [k1, k3]
theorem bind_ok {α β : Type} (x : α) (f : α → Pu.Res β) : (Pu.Res.ok x).bind f = f x := rfl
theorem chk_true {β : Type} (r : Pu.Res β) : chk true r = r := rfl
theorem rng_ok {n : Int} (h0 : 0 ≤ n) (h1 : n ≤ 16777216) : rng n = some (rngL n) := by
  unfold rng
  exact if_pos ⟨by omega, h1⟩
theorem rngL_len {n : Int} : (rngL n).length = n.toNat := by unfold rngL; rw [List.length_map, List.length_range]
theorem rngL_mem {n x : Int} : x ∈ rngL n ↔ 0 ≤ x ∧ x < n := by
  unfold rngL
  rw [List.mem_map]
  constructor
  · rintro ⟨k, hk, rfl⟩
    have := List.mem_range.mp hk
    exact ⟨Int.natCast_nonneg k, by show (k : Int) < n; omega⟩
  · rintro ⟨h1, h2⟩
    exact ⟨x.toNat, List.mem_range.mpr (by omega), by show ((x.toNat : Nat) : Int) = x; omega⟩
theorem rngL_nodup (n : Int) : (rngL n).Nodup := by
  unfold rngL
  refine List.Pairwise.map _ (fun a b h e => h (by cases e; rfl)) List.nodup_range
theorem at_in {xs : List Int} {i : Int} (h0 : 0 ≤ i) (h1 : i < xs.length) : ∃ y, L2.atI xs i = some y ∧ y ∈ xs := by
  have hlt : i.toNat < xs.length := by omega
  refine ⟨xs[i.toNat], ?_, List.getElem_mem hlt⟩
  unfold L2.atI L2.ixN
  rw [if_pos h0, if_pos h1]
  show xs[i.toNat]? = _
  exact List.getElem?_eq_getElem hlt
def fnI (xs : List Int) : Int → Nat := fun a => if 0 ≤ a then (xs.getD a.toNat 0).toNat else 0
def fnL (ls : List (List Int)) : Int → List Int := fun a => if 0 ≤ a then ls.getD a.toNat [] else []
abbrev Steps := List (Int × Int × Option Int)
section
variable {lists orders : List (List Int)} {seats nx : List Int} {hd : List (Option Int)} {st : Steps} {a : Int}
def left (lists : List (List Int)) (nx : List Int) : Nat := ((rngL lists.length).map fun a => (fnL lists a).length - fnI nx a).sum
end
theorem list_ok (a b c many : Int) (h0 : 0 ≤ many) (h1 : many ≤ 1000) : ∃ l a' b' c', m_law_list [a, b, c] many = .ok (l, [a', b', c']) ∧ l.Nodup ∧ ∀ x, x ∈ l → 0 ≤ x ∧ x < many := by
  obtain ⟨n, a1, b1, c1, e1, n0, n1⟩ := roll_ok a b c (many + 1) (by omega) (by omega)
  have hr : rng many = some (rngL many) := rng_ok h0 (by omega)
  have hr2 : rng n = some (rngL n) := rng_ok n0 (by omega)
  unfold m_law_list
  rw [hr, opt_some, e1, bind_ok]
  show ∃ l a' b' c', opt (rng n) _ = _ ∧ _
  rw [hr2, opt_some]
  show ∃ l a' b' c', List.foldr (fun (x38 : Int) (k39 : (List Int) × Int × (List Int) × (List Int) × Unit × Unit × Unit → Pu.Res _) (r40 : (List Int) × Int × (List Int) × (List Int) × Unit × Unit × Unit) => (m_law_roll r40.1 (r40.2.2.1.length : Int)).bind fun x43 => opt (L2.atI r40.2.2.1 x43.1) fun x44 => chk (decide (List.length (α := Int) r40.2.2.2.1 < 16777216)) (chk (List.contains (α := Int) r40.2.2.1 x44) (k39 (x43.2, r40.2.1, (List.erase (α := Int) r40.2.2.1 x44), (app1 r40.2.2.2.1 x44), (), (), ())))) (fun r41 => Pu.Res.ok (r41.2.2.2.1, r41.1)) (rngL n) ([a1, b1, c1], many, rngL many, [], (), (), ()) = _ ∧ _
  have go : ∀ (ts left found : List Int) (a b c : Int), ts.length ≤ left.length → left.length ≤ 1000 → found.length + left.length ≤ 1000 → left.Nodup → found.Nodup → (∀ x, x ∈ found → x ∉ left) → (∀ x, x ∈ found → 0 ≤ x ∧ x < many) → (∀ x, x ∈ left → 0 ≤ x ∧ x < many) →
      ∃ l a' b' c', List.foldr (fun (x38 : Int) (k39 : (List Int) × Int × (List Int) × (List Int) × Unit × Unit × Unit → Pu.Res _) (r40 : (List Int) × Int × (List Int) × (List Int) × Unit × Unit × Unit) => (m_law_roll r40.1 (r40.2.2.1.length : Int)).bind fun x43 => opt (L2.atI r40.2.2.1 x43.1) fun x44 => chk (decide (List.length (α := Int) r40.2.2.2.1 < 16777216)) (chk (List.contains (α := Int) r40.2.2.1 x44) (k39 (x43.2, r40.2.1, (List.erase (α := Int) r40.2.2.1 x44), (app1 r40.2.2.2.1 x44), (), (), ())))) (fun r41 => Pu.Res.ok (r41.2.2.2.1, r41.1)) ts ([a, b, c], many, left, found, (), (), ()) = .ok (l, [a', b', c']) ∧ l.Nodup ∧ ∀ x, x ∈ l → 0 ≤ x ∧ x < many := by
    intro ts
    induction ts with
    | nil => exact fun left found a b c _ _ _ _ nf _ hf _ => ⟨found, a, b, c, rfl, nf, hf⟩
    | cons t ts ih =>
      intro left found a b c hl hk hk2 nl nf hd hf hm
      rw [List.length_cons] at hl
      obtain ⟨x, a2, b2, c2, e2, x0, x1⟩ := roll_ok a b c (left.length : Int) (by omega) (by omega)
      obtain ⟨y, hy, ym⟩ := at_in x0 x1
      rw [List.foldr_cons]
      show ∃ l a' b' c', (m_law_roll [a, b, c] (left.length : Int)).bind _ = _ ∧ _
      rw [e2, bind_ok]
      show ∃ l a' b' c', opt (L2.atI left x) _ = _ ∧ _
      rw [hy, opt_some]
      have k1 : decide (List.length (α := Int) found < 16777216) = true := decide_eq_true (by omega)
      have k2 : List.contains (α := Int) left y = true := List.elem_iff.mpr ym
      show ∃ l a' b' c', chk (decide (List.length (α := Int) found < 16777216)) (chk (List.contains (α := Int) left y) _) = _ ∧ _
      rw [k1, chk_true, k2, chk_true]
      have hlen := List.length_erase_of_mem ym
      have hpos : 0 < left.length := List.length_pos_of_mem ym
      refine ih (left.erase y) (app1 found y) a2 b2 c2 (by omega) (by omega) (by rw [app1_len]; omega) (nl.erase y) ?_ ?_ ?_ fun z hz => hm z (List.mem_of_mem_erase hz)
      · unfold app1
        refine List.nodup_append.mpr ⟨nf, by simp, fun z hz w hw e => ?_⟩
        have hw : w = y := by simpa using hw
        subst hw
        exact hd z hz (e ▸ ym)
      · intro z hz hz2
        unfold app1 at hz
        rcases List.mem_append.mp hz with q | q
        · exact hd z q (List.mem_of_mem_erase hz2)
        · have q : z = y := by simpa using q
          subst q
          exact (List.Nodup.mem_erase_iff nl).mp hz2 |>.1 rfl
      · intro z hz
        unfold app1 at hz
        rcases List.mem_append.mp hz with q | q
        · exact hf z q
        · have q : z = y := by simpa using q
          subst q
          exact hm z ym
  exact go (rngL n) (rngL many) [] a1 b1 c1 (by rw [rngL_len, rngL_len]; omega) (by rw [rngL_len]; omega) (by rw [rngL_len, List.length_nil]; omega) (rngL_nodup _) .nil (fun x hx => nomatch hx) (fun x hx => nomatch hx) fun x hx => rngL_mem.mp hx
theorem comp_all {α β S : Type} {body : α → S → Pu.Res (Option β × S)} {I : S → Prop} {P : β → Prop} (h : ∀ x s, I s → ∃ y s', body x s = .ok (some y, s') ∧ P y ∧ I s') :
    ∀ (xs : List α) (s : S), I s → ∃ ys s', compL body xs s = some (ys, s') ∧ ys.length = xs.length ∧ (∀ y, y ∈ ys → P y) ∧ I s'
  | [], s, i => ⟨[], s, rfl, rfl, fun y hy => (nomatch hy), i⟩
  | x :: xs, s, i => by
    obtain ⟨y, s1, e1, p1, i1⟩ := h x s i
    obtain ⟨ys, s2, e2, l2, p2, i2⟩ := comp_all h xs s1 i1
    refine ⟨y :: ys, s2, ?_, by rw [List.length_cons, List.length_cons, l2], fun z hz => ?_, i2⟩
    · show (match body x s with
        | .ok (o, s1) => (match compL body xs s1 with
          | some (ys, s2) => some (o.toList ++ ys, s2)
          | none => none)
        | _ => none) = _
      rw [e1]
      show (match compL body xs s1 with
          | some (ys, s2) => some ((some y).toList ++ ys, s2)
          | none => none) = _
      rw [e2]
      rfl
    · rcases List.mem_cons.mp hz with q | q
      · rw [q]; exact p1
      · exact p2 z q
theorem comp_map {α β S : Type} {body : α → S → Pu.Res (Option β × S)} {g : α → β} {s : S} : ∀ (xs : List α), (∀ x, x ∈ xs → body x s = .ok (some (g x), s)) → compL body xs s = some (xs.map g, s)
  | [], _ => rfl
  | x :: xs, h => by
    have e2 := comp_map (body := body) (g := g) (s := s) xs fun y hy => h y (List.mem_cons_of_mem _ hy)
    show (match body x s with
        | .ok (o, s1) => (match compL body xs s1 with
          | some (ys, s2) => some (o.toList ++ ys, s2)
          | none => none)
        | _ => none) = _
    rw [h x (List.mem_cons_self ..)]
    show (match compL body xs s with
          | some (ys, s2) => some ((some (g x)).toList ++ ys, s2)
          | none => none) = _
    rw [e2]
    rfl
theorem dmerge_new {α : Type} : ∀ (xs acc : List (Int × α)), ((acc ++ xs).map (·.1)).Nodup → dmerge acc xs = acc ++ xs
  | [], acc, _ => by rw [List.append_nil]; rfl
  | q :: xs, acc, nd => by
    show dmerge (dput acc q.1 q.2) xs = _
    have hn : (acc.any fun p => decide (p.1 = q.1)) = false := by
      rw [List.any_eq_false]
      intro p hp
      have h2 := nd
      rw [List.map_append] at h2
      have := (List.nodup_append.mp h2).2.2 p.1 (List.mem_map.mpr ⟨p, hp, rfl⟩) q.1 (List.mem_map.mpr ⟨q, List.mem_cons_self .., rfl⟩)
      simpa using this
    have e : dput acc q.1 q.2 = acc ++ [q] := by
      unfold dput
      rw [hn]
      rfl
    rw [e, dmerge_new xs (acc ++ [q]) (by rw [List.append_assoc]; exact nd), List.append_assoc]
    rfl
theorem check_ok {l : List Int} {many : Int} (nd : l.Nodup) (h : ∀ x, x ∈ l → 0 ≤ x ∧ x < many) : m_check_list l many = .ok l := by
  unfold m_check_list
  rw [comp_map (g := fun x => (x, (1 : Int))) l (fun x _ => rfl), opt_some]
  have e : dmerge [] (l.map fun x => (x, (1 : Int))) = l.map fun x => (x, (1 : Int)) := by
    rw [dmerge_new _ _ (by rw [List.nil_append, List.map_map, show l.map ((fun x : Int × Int => x.1) ∘ fun x => (x, (1 : Int))) = l from List.map_id l]; exact nd)]
    rfl
  show (if (!decide (((dmerge [] (l.map fun x => (x, (1 : Int)))).length : Int) = (l.length : Int))) = true then _ else _) = _
  rw [e, List.length_map]
  rw [if_neg (by simp)]
  rw [comp_map (g := fun _ => false) l (fun x hx => by
    obtain ⟨k1, k2⟩ := h x hx
    show (if true = true then _ else _) = _
    rw [if_pos rfl]
    show (if decide ((0 : Int) ≤ x) = true then Pu.Res.ok (some (!decide (x < many)), _) else _) = _
    rw [decide_eq_true k1, if_pos rfl, decide_eq_true k2]
    rfl), opt_some]
  have e2 : ((l.map fun _ => false).any id) = false := by
    rw [List.any_eq_false]
    intro b hb
    obtain ⟨_, _, rfl⟩ := List.mem_map.mp hb
    simp
  show (if ((l.map fun _ => false).any id) = true then _ else _) = _
  rw [e2, if_neg (by decide)]
theorem wish_ok {l : List Int} (nd : l.Nodup) : m_Wish_init l = .ok (l, (enumL l).map fun x => (x.2, x.1), ()) := by
  unfold m_Wish_init
  rw [comp_map (g := fun x : Int × Int => (x.2, x.1)) (enumL l) (fun x _ => rfl), opt_some]
  show Pu.Res.ok (l, dmerge [] ((enumL l).map fun x => (x.2, x.1)), ()) = _
  rw [dmerge_new _ _ (by
    rw [List.nil_append, List.map_map]
    have : (enumL l).map ((fun x : Int × Int => x.1) ∘ fun x : Int × Int => (x.2, x.1)) = l := by
      unfold enumL
      rw [List.map_map]
      apply List.ext_getElem
      · rw [List.length_map, List.length_zipIdx]
      · intro i h1 h2
        simp
    rw [this]; exact nd)]
  rfl
def mkW (l : List Int) : A_Wish := (l, (enumL l).map fun x => (x.2, x.1), ())
theorem dget_zip : ∀ (l : List Int) (n : Nat) (x : Int), dget ((l.zipIdx n).map fun p => (p.1, (p.2 : Int))) x = if x ∈ l then some ((n + l.idxOf x : Nat) : Int) else none
  | [], n, x => rfl
  | y :: l, n, x => by
    rw [List.zipIdx_cons, List.map_cons]
    unfold dget
    by_cases e : y = x
    · subst e
      rw [if_pos rfl, if_pos (List.mem_cons_self ..), List.idxOf_cons_self]
      rfl
    · have hb : (y == x) = false := by simpa using e
      rw [if_neg e, dget_zip l (n + 1) x, List.idxOf_cons, hb]
      by_cases hm : x ∈ l
      · rw [if_pos hm, if_pos (List.mem_cons_of_mem _ hm)]
        congr 1
        show ((n + 1 + l.idxOf x : Nat) : Int) = ((n + (l.idxOf x + 1) : Nat) : Int)
        omega
      · rw [if_neg hm, if_neg fun z => (List.mem_cons.mp z).elim (fun q => e q.symm) hm]
theorem ranks_get (l : List Int) (x : Int) : dget (mkW l).2.1 x = if x ∈ l then some ((l.idxOf x : Nat) : Int) else none := by
  have e : (mkW l).2.1 = (l.zipIdx 0).map fun p => (p.1, (p.2 : Int)) := by
    unfold mkW enumL
    show (List.map _ (List.map _ _)) = _
    rw [List.map_map]
    rfl
  rw [e, dget_zip]
  simp
theorem comp_filt {α β S : Type} {body : α → S → Pu.Res (Option β × S)} {p : α → Bool} {g : α → β} {s : S} : ∀ (xs : List α), (∀ x, x ∈ xs → body x s = .ok (if p x = true then some (g x) else none, s)) → compL body xs s = some ((xs.filter p).map g, s)
  | [], _ => rfl
  | x :: xs, h => by
    have e2 := comp_filt (body := body) (p := p) (g := g) (s := s) xs fun y hy => h y (List.mem_cons_of_mem _ hy)
    show (match body x s with
        | .ok (o, s1) => (match compL body xs s1 with
          | some (ys, s2) => some (o.toList ++ ys, s2)
          | none => none)
        | _ => none) = _
    rw [h x (List.mem_cons_self ..)]
    show (match compL body xs s with
          | some (ys, s2) => some ((if p x = true then some (g x) else none).toList ++ ys, s2)
          | none => none) = _
    rw [e2]
    cases hp : p x with
    | true => rw [List.filter_cons_of_pos hp, if_pos rfl]; rfl
    | false => rw [List.filter_cons_of_neg (by rw [hp]; simp), if_neg (by decide)]; rfl
theorem at_d {α : Type} {xs : List α} {i : Int} (d : α) (h0 : 0 ≤ i) (h1 : i < xs.length) : L2.atI xs i = some (xs.getD i.toNat d) ∧ xs.getD i.toNat d ∈ xs := by
  have hlt : i.toNat < xs.length := by omega
  have e : xs[i.toNat]? = some (xs.getD i.toNat d) := by
    rw [List.getD_eq_getElem?_getD, List.getElem?_eq_getElem hlt]; rfl
  refine ⟨?_, List.mem_of_getElem? e⟩
  unfold L2.atI L2.ixN
  rw [if_pos h0, if_pos h1]
  exact e
def pl (l : List Int) (o : Option Int) : Nat := match o with
  | some r => l.idxOf r
  | none => l.length
theorem cut_ok {α : Type} (xs : List α) {n : Int} (h : 0 ≤ n) : cutL xs none (some n) = xs.take n.toNat := by
  unfold cutL HT.sIx
  dsimp only
  rw [if_neg (by omega), List.drop_zero, Nat.sub_zero]
  exact List.take_eq_take_min.symm
theorem rounds_ok (ns : List Int) : ∃ a b c, m_law_rounds ns (1 : Int) = .ok [a, b, c] := by
  have hcut : cutL ns none (some 1) = ns.take 1 := cut_ok ns (by decide)
  unfold m_law_rounds
  dsimp only
  rw [hcut]
  match ns with
  | [] =>
    obtain ⟨a, b, c, e⟩ := dice_ok 0
    refine ⟨a, b, c, ?_⟩
    rw [if_pos (by rfl)]
    unfold oneL
    dsimp only
    rw [e]; rfl
  | x :: xs =>
    obtain ⟨a, b, c, e⟩ := dice_ok x
    refine ⟨a, b, c, ?_⟩
    rw [if_neg (by simp)]
    unfold oneL
    dsimp only [List.take]
    rw [e]; rfl
theorem fold_q {α S R : Type} {Q : Pu.Res R → Prop} {I : List α → S → Prop} {B : α → (S → Pu.Res R) → S → Pu.Res R} {nx : S → Pu.Res R} {xs : List α} {s : S}
    (step : ∀ pre x post, xs = pre ++ x :: post → ∀ s, I pre s → ∀ k : S → Pu.Res R, (∀ s', I (pre ++ [x]) s' → Q (k s')) → Q (B x k s)) (h0 : I [] s) (hn : ∀ s', I xs s' → Q (nx s')) : Q (List.foldr B nx xs s) := by
  have go : ∀ (post pre : List α), xs = pre ++ post → ∀ s, I pre s → Q (List.foldr B nx post s) := by
    intro post
    induction post with
    | nil => exact fun pre e s i => hn s (by rw [e, List.append_nil]; exact i)
    | cons x post ih =>
      intro pre e s i
      rw [List.foldr_cons]
      exact step pre x post e s i _ fun s' i' => ih (pre ++ [x]) (by rw [e]; simp) s' i'
  exact go xs [] rfl s h0
theorem cat_ok {α : Type} {xs ys : List α} (h : xs.length + ys.length ≤ 16777216) : catL xs ys = some (xs ++ ys) := if_pos h
section
variable {lists orders : List (List Int)} {seats : List Int} {m : List (Option Int)}
theorem idx_out {l : List Int} {x : Int} (h : x ∉ l) : l.idxOf x = l.length := List.idxOf_eq_length h
end
section
variable {lists orders : List (List Int)} {seats : List Int} {m : List (Option Int)}
theorem rank_ok {l : List Int} {o : Option Int} : m_Wish_rank (mkW l) o = .ok (if ∀ r, o = some r → r ∈ l then some ((pl l o : Nat) : Int) else none) := by
  unfold m_Wish_rank
  cases o with
  | none =>
    rw [if_pos (show (none : Option Int).isNone = true from rfl), if_pos (fun r e => nomatch e)]
    rfl
  | some r =>
    rw [if_neg (show ¬ (some r).isNone = true from fun z => nomatch z), opt_some, ranks_get]
    by_cases h : r ∈ l
    · rw [if_pos (fun x e => by cases e; exact h), if_pos h]
      rfl
    · rw [if_neg (show ¬ ∀ r', some r = some r' → r' ∈ l from fun z => h (z r rfl)), if_neg h]
end
section
variable {lists orders : List (List Int)} {seats : List Int} {m : List (Option Int)}
theorem better_some {l : List Int} {x : Int} {y : Option Int} : m_Wish_better (mkW l) (some x) y = .ok (decide (x ∈ l ∧ l.idxOf x < pl l y)) := by
  unfold m_Wish_better
  rw [rank_ok, bind_ok, rank_ok, bind_ok]
  by_cases h : x ∈ l
  · rw [if_pos (show ∀ r', some x = some r' → r' ∈ l from fun r e => by cases e; exact h), if_neg (show ¬ (some ((pl l (some x) : Nat) : Int)).isNone = true from fun z => nomatch z)]
    by_cases hy : ∀ r, y = some r → r ∈ l
    · rw [if_pos hy]
      dsimp only
      rw [if_neg (show ¬ (some ((pl l y : Nat) : Int)).isNone = true from fun z => nomatch z), opt_some, opt_some]
      congr 1
      have : pl l (some x) = l.idxOf x := rfl
      rw [this]
      by_cases hlt : l.idxOf x < pl l y
      · rw [decide_eq_true (show (x ∈ l ∧ l.idxOf x < pl l y) from ⟨h, hlt⟩)]; exact decide_eq_true (by omega)
      · rw [decide_eq_false (show ¬ (x ∈ l ∧ l.idxOf x < pl l y) from fun z => hlt z.2)]; exact decide_eq_false (by omega)
    · rw [if_neg hy]
      dsimp only
      rw [if_pos (show (none : Option Int).isNone = true from rfl)]
      congr 1
      cases y with
      | none => exact absurd (fun r e => nomatch e) hy
      | some z =>
        have hz : z ∉ l := fun w => hy fun r e => by cases e; exact w
        have : pl l (some z) = l.length := idx_out hz
        rw [this]
        exact (decide_eq_true ⟨h, List.idxOf_lt_length_of_mem h⟩).symm
  · rw [if_neg (show ¬ ∀ r', some x = some r' → r' ∈ l from fun z => h (z x rfl)), if_pos (show (none : Option Int).isNone = true from rfl), decide_eq_false fun z => h z.1]
end
section
variable {lists orders : List (List Int)} {seats : List Int} {m : List (Option Int)}
theorem filter_take : ∀ {l : List Int} (nd : l.Nodup) (n : Nat), l.filter (fun r => decide (l.idxOf r < n)) = l.take n
  | [], _, n => by rw [List.take_nil, List.filter_nil]
  | a :: l, nd, 0 => by
    rw [List.take_zero, List.filter_eq_nil_iff]
    intro r _ h
    exact absurd (of_decide_eq_true h) (Nat.not_lt_zero _)
  | a :: l, nd, n + 1 => by
    obtain ⟨h1, h2⟩ := List.nodup_cons.mp nd
    have e : l.filter (fun r => decide ((a :: l).idxOf r < n + 1)) = l.filter (fun r => decide (l.idxOf r < n)) := List.filter_congr fun r hr => by
      have : a ≠ r := fun z => h1 (z ▸ hr)
      rw [List.idxOf_cons, show (a == r) = false by simpa using this, cond_false]
      exact decide_eq_decide.mpr (by omega)
    rw [List.filter_cons_of_pos (by rw [List.idxOf_cons_self]; exact decide_eq_true (Nat.succ_pos _)), List.take_succ_cons, e, filter_take h2 n]
end
section
variable {lists orders : List (List Int)} {seats : List Int} {m : List (Option Int)}
theorem ahead_gen {l : List Int} (nd : l.Nodup) {o : Option Int} : m_Wish_ahead_of (mkW l) o = .ok (l.take (pl l o)) := by
  unfold m_Wish_ahead_of
  rw [comp_filt (p := fun r => decide (l.idxOf r < pl l o)) (g := id) (mkW l).1 (fun r hr => by
    have hr : r ∈ l := hr
    dsimp only
    rw [better_some, bind_ok]
    by_cases h : l.idxOf r < pl l o
    · rw [decide_eq_true h, decide_eq_true (show r ∈ l ∧ _ from ⟨hr, h⟩)]; rfl
    · rw [decide_eq_false h, decide_eq_false (show ¬ (r ∈ l ∧ l.idxOf r < pl l o) from fun z => h z.2)]; rfl), opt_some, List.map_id]
  show Pu.Res.ok (l.filter _) = _
  rw [filter_take nd]
end
theorem whl_q {S R : Type} {stp : (S → Pu.Res R) → S → Pu.Res R} {P : Pu.Res R → Prop} {I : Nat → S → Prop} (h : ∀ f s, I (f + 1) s → ∀ k : S → Pu.Res R, (∀ s', I f s' → P (k s')) → P (stp k s)) (h0 : ∀ s, ¬ I 0 s) : ∀ f s, I f s → P (whl stp f s)
  | 0, s, i => absurd i (h0 s)
  | f + 1, s, i => h f s i _ fun s' i' => whl_q h h0 f s' i'
theorem comp_all_q {α β S R : Type} {body : α → S → Pu.Res (Option β × S)} {I : S → Prop} {P : β → Prop} {Q : Pu.Res R → Prop} {K : List β × S → Pu.Res R} {xs : List α} {s : S} (h : ∀ x s, I s → ∃ y s', body x s = .ok (some y, s') ∧ P y ∧ I s') (i : I s)
    (hk : ∀ ys s', ys.length = xs.length → (∀ y, y ∈ ys → P y) → I s' → Q (K (ys, s'))) : Q (opt (compL body xs s) K) := by
  obtain ⟨ys, s', e, l, p, i'⟩ := comp_all h xs s i
  rw [e]
  exact hk ys s' l p i'
end G
set_option Elab.async false
set_option linter.all false
set_option maxRecDepth 100000
set_option maxHeartbeats 2000000
namespace G
open PySem L2 Evl Pu
/-! ### parts of a whole -/
def nm (p q : Int) : Int × Int := (p / PuX.gcdI p q, q / PuX.gcdI p q)
def pr (p q : Int) : A_Part := ((nm p q).1, (nm p q).2, ())
theorem gcd_pos {p q : Int} (h : 0 < q) : 0 < PuX.gcdI p q := by
  unfold PuX.gcdI
  have : 0 < Nat.gcd p.natAbs q.natAbs := Nat.gcd_pos_of_pos_right _ (by omega)
  omega
theorem gcd_r (p q : Int) : PuX.gcdI p q ∣ q := Int.ofNat_dvd_left.mpr (Nat.gcd_dvd_right p.natAbs q.natAbs)
theorem gcd_l (p q : Int) : PuX.gcdI p q ∣ p := Int.ofNat_dvd_left.mpr (Nat.gcd_dvd_left p.natAbs q.natAbs)
theorem gcd_le {p q : Int} (h : 0 < q) : PuX.gcdI p q ≤ q := Int.le_of_dvd h (gcd_r p q)
theorem nm_rat {p q : Int} (h : 0 < q) : nm p q = ((mkRat p q.toNat).num, ((mkRat p q.toNat).den : Int)) := by
  have hz : q.toNat ≠ 0 := by omega
  have e : q.natAbs = q.toNat := by omega
  have e2 : ((q.toNat : Nat) : Int) = q := by omega
  rw [← Rat.normalize_eq_mkRat hz, Rat.normalize_eq]
  unfold nm PuX.gcdI
  rw [e]
  refine Prod.ext rfl ?_
  show q / _ = ((q.toNat / _ : Nat) : Int)
  rw [Int.natCast_ediv, e2]
theorem nm_eq {p q p' q' : Int} (h : 0 < q) (h' : 0 < q') (e : p * q' = p' * q) : nm p q = nm p' q' := by
  have z : q.toNat ≠ 0 := by omega
  have z' : q'.toNat ≠ 0 := by omega
  have e1 : ((q.toNat : Nat) : Int) = q := by omega
  have e2 : ((q'.toNat : Nat) : Int) = q' := by omega
  rw [nm_rat h, nm_rat h', (Rat.mkRat_eq_iff z z').mpr]
  rw [e1, e2]
  exact e
theorem pr_eq {p q p' q' : Int} (h : 0 < q) (h' : 0 < q') (e : p * q' = p' * q) : pr p q = pr p' q' := by
  unfold pr
  rw [nm_eq h h' e]
theorem nm_low {p q : Int} (h : 0 < q) : 0 < (nm p q).2 ∧ (nm p q).2 ≤ q := by
  have g := gcd_pos (p := p) h
  have e : (nm p q).2 * PuX.gcdI p q = q := Int.ediv_mul_cancel (gcd_r p q)
  have l : (nm p q).2 ≤ q := Int.ediv_le_self _ (by omega)
  refine ⟨?_, l⟩
  rcases Int.lt_or_le 0 (nm p q).2 with k | k
  · exact k
  · have := Int.mul_le_mul_of_nonneg_right k (Int.le_of_lt g)
    rw [e, Int.zero_mul] at this
    omega
theorem nm_cross {p q : Int} (h : 0 < q) : (nm p q).1 * q = p * (nm p q).2 := by
  show p / PuX.gcdI p q * q = p * (q / PuX.gcdI p q)
  rw [← Int.mul_ediv_assoc _ (gcd_r p q), Int.mul_comm, ← Int.mul_ediv_assoc _ (gcd_l p q), Int.mul_comm]
theorem nm_inj {p p' q : Int} (h : 0 < q) (e : nm p q = nm p' q) : p = p' := by
  have h1 := nm_cross (p := p) h
  have h2 := nm_cross (p := p') h
  have l := (nm_low (p := p') h).1
  rw [e] at h1
  rw [h1] at h2
  exact Int.eq_of_mul_eq_mul_right (by omega) h2
theorem nm_zero {q : Int} (h : 0 < q) : nm 0 q = (0, 1) := by
  rw [nm_eq h (by decide : (0 : Int) < 1) (p' := 0) (by rw [Int.zero_mul, Int.zero_mul])]
  decide
theorem nm_one {q : Int} (h : 0 < q) : nm q q = (1, 1) := by
  rw [nm_eq h (by decide : (0 : Int) < 1) (p' := 1) (by rw [Int.mul_comm])]
  decide
theorem nm_is0 {p q : Int} (h : 0 < q) : nm p q = (0, 1) ↔ p = 0 := ⟨fun e => nm_inj h (e.trans (nm_zero h).symm), fun e => by rw [e]; exact nm_zero h⟩
theorem nm_lt {m n q : Int} (h : 0 < q) : (nm m q).1 * (nm n q).2 < (nm n q).1 * (nm m q).2 ↔ m < n := by
  have h1 := nm_cross (p := m) h
  have h2 := nm_cross (p := n) h
  have l1 := (nm_low (p := m) h).1
  have l2 := (nm_low (p := n) h).1
  have pp : 0 < (nm m q).2 * (nm n q).2 := Int.mul_pos l1 l2
  have e1 : (nm m q).1 * (nm n q).2 * q = m * ((nm m q).2 * (nm n q).2) := by
    rw [Int.mul_right_comm, h1, Int.mul_assoc]
  have e2 : (nm n q).1 * (nm m q).2 * q = n * ((nm m q).2 * (nm n q).2) := by
    rw [Int.mul_right_comm, h2, Int.mul_assoc, Int.mul_comm (nm n q).2]
  constructor
  · intro lt
    have := Int.mul_lt_mul_of_pos_right lt h
    rw [e1, e2] at this
    exact Int.lt_of_mul_lt_mul_right this (Int.le_of_lt pp)
  · intro lt
    have := Int.mul_lt_mul_of_pos_right lt pp
    rw [← e1, ← e2] at this
    exact Int.lt_of_mul_lt_mul_right this (Int.le_of_lt h)
theorem init_pr {p q : Int} (h : 0 < q) (h2 : q < 1073741824) : m_Part_init p q = .ok (pr p q) := by
  have g := gcd_pos (p := p) h
  have gl := gcd_le (p := p) h
  have c : ∀ i : Int, CDivN i (PuX.gcdI p q) := fun i => ⟨by omega, by omega⟩
  unfold m_Part_init m_shared
  rw [decide_eq_false (by omega), if_neg (by decide)]
  dsimp only
  rw [decide_eq_true h, if_pos rfl, bind_ok, if_pos (c p), opt_some, if_pos (c q), opt_some, Int.fdiv_eq_ediv_of_nonneg _ (by omega), Int.fdiv_eq_ediv_of_nonneg _ (by omega)]
  rfl
section
variable {L : Int}
abbrev pt (L n : Int) : A_Part := pr n L
theorem mulR {a b : Int} (h0 : 0 < b) (h : b < 32768) : (if CMul a b then some (a * b) else none) = some (a * b) := if_pos (.inr ⟨by omega, by omega⟩)
theorem sq_lt {a b : Int} (h0 : 0 < a) (h1 : a < 32768) (h2 : 0 < b) (h3 : b < 32768) : 0 < a * b ∧ a * b < 1073741824 := by
  refine ⟨Int.mul_pos h0 h2, ?_⟩
  have : a * b ≤ 32767 * 32767 := Int.mul_le_mul (by omega) (by omega) (by omega) (by decide)
  omega
theorem plus_pt (h : 0 < L) (hL : L < 32768) (m n : Int) : m_Part_plus (pt L m) (pt L n) = .ok (pt L (m + n)) := by
  have l1 := nm_low (p := m) h
  have l2 := nm_low (p := n) h
  have c1 := nm_cross (p := m) h
  have c2 := nm_cross (p := n) h
  have s := sq_lt l1.1 (by omega) l2.1 (by omega)
  unfold m_Part_plus pt
  show opt (if CMul (nm m L).1 (nm n L).2 then some ((nm m L).1 * (nm n L).2) else none) _ = _
  rw [mulR l2.1 (by omega), opt_some]
  show opt (if CMul (nm n L).1 (nm m L).2 then some ((nm n L).1 * (nm m L).2) else none) _ = _
  rw [mulR l1.1 (by omega), opt_some]
  show opt (if CMul (nm m L).2 (nm n L).2 then some ((nm m L).2 * (nm n L).2) else none) _ = _
  rw [mulR l2.1 (by omega), opt_some, init_pr s.1 s.2, bind_ok]
  refine congrArg Pu.Res.ok (pr_eq s.1 h ?_)
  have e1 : (nm m L).1 * (nm n L).2 * L = m * ((nm m L).2 * (nm n L).2) := by rw [Int.mul_right_comm, c1, Int.mul_assoc]
  have e2 : (nm n L).1 * (nm m L).2 * L = n * ((nm m L).2 * (nm n L).2) := by rw [Int.mul_right_comm, c2, Int.mul_assoc, Int.mul_comm (nm n L).2]
  rw [Int.add_mul, e1, e2, Int.add_mul]
theorem minus_pt (h : 0 < L) (hL : L < 32768) (m n : Int) : m_Part_minus (pt L m) (pt L n) = .ok (pt L (m - n)) := by
  have l1 := nm_low (p := m) h
  have l2 := nm_low (p := n) h
  have c1 := nm_cross (p := m) h
  have c2 := nm_cross (p := n) h
  have s := sq_lt l1.1 (by omega) l2.1 (by omega)
  unfold m_Part_minus pt
  show opt (if CMul (nm m L).1 (nm n L).2 then some ((nm m L).1 * (nm n L).2) else none) _ = _
  rw [mulR l2.1 (by omega), opt_some]
  show opt (if CMul (nm n L).1 (nm m L).2 then some ((nm n L).1 * (nm m L).2) else none) _ = _
  rw [mulR l1.1 (by omega), opt_some]
  show opt (if CMul (nm m L).2 (nm n L).2 then some ((nm m L).2 * (nm n L).2) else none) _ = _
  rw [mulR l2.1 (by omega), opt_some, init_pr s.1 s.2, bind_ok]
  refine congrArg Pu.Res.ok (pr_eq s.1 h ?_)
  have e1 : (nm m L).1 * (nm n L).2 * L = m * ((nm m L).2 * (nm n L).2) := by rw [Int.mul_right_comm, c1, Int.mul_assoc]
  have e2 : (nm n L).1 * (nm m L).2 * L = n * ((nm m L).2 * (nm n L).2) := by rw [Int.mul_right_comm, c2, Int.mul_assoc, Int.mul_comm (nm n L).2]
  rw [Int.sub_mul, e1, e2, Int.sub_mul]
theorem over_pt (h : 0 < L) (hL : L < 32768) {c k : Int} (c0 : 0 < c) (cL : c < 32768) : m_Part_over (pt L (c * k)) c = .ok (pt L k) := by
  have l1 := nm_low (p := c * k) h
  have c1 := nm_cross (p := c * k) h
  have s := sq_lt l1.1 (by omega) c0 cL
  unfold m_Part_over pt
  show opt (if CMul (nm (c * k) L).2 c then some ((nm (c * k) L).2 * c) else none) _ = _
  rw [mulR c0 cL, opt_some]
  show (m_Part_init (nm (c * k) L).1 _).bind _ = _
  rw [init_pr s.1 s.2, bind_ok]
  refine congrArg Pu.Res.ok (pr_eq s.1 h ?_)
  rw [c1]
  ac_rfl
theorem below_pt (h : 0 < L) (hL : L < 32768) (m n : Int) : m_Part_below (pt L m) (pt L n) = .ok (decide (m < n)) := by
  have l1 := nm_low (p := m) h
  have l2 := nm_low (p := n) h
  unfold m_Part_below pt
  show opt (if CMul (nm m L).1 (nm n L).2 then some ((nm m L).1 * (nm n L).2) else none) _ = _
  rw [mulR l2.1 (by omega), opt_some]
  show opt (if CMul (nm n L).1 (nm m L).2 then some ((nm n L).1 * (nm m L).2) else none) _ = _
  rw [mulR l1.1 (by omega), opt_some]
  exact congrArg Pu.Res.ok (decide_eq_decide.mpr (nm_lt h))
theorem shown_pt (n : Int) : m_Part_shown (pt L n) = .ok (nm n L) := rfl
theorem one_pt (h : 0 < L) : m_Part_init 1 1 = .ok (pt L L) := by
  rw [init_pr (by decide) (by decide)]
  exact congrArg Pu.Res.ok (pr_eq (by decide) h (by rw [Int.mul_comm]))
theorem zero_pt (h : 0 < L) : m_Part_init 0 1 = .ok (pt L 0) := by
  rw [init_pr (by decide) (by decide)]
  exact congrArg Pu.Res.ok (pr_eq (by decide) h (by rw [Int.zero_mul, Int.zero_mul]))
end
end G
set_option Elab.async false
set_option linter.all false
set_option maxRecDepth 100000
set_option maxHeartbeats 2000000
namespace G
open PySem L2 Evl Pu
/-! ### rows by place -/
theorem ixN_in {n : Nat} {i : Int} (h0 : 0 ≤ i) (h1 : i < n) : L2.ixN n i = some i.toNat := by
  unfold L2.ixN
  rw [if_pos h0, if_pos h1]
theorem grid_get {α : Type} {n : Int} {F : Int → α} {i : Int} (h0 : 0 ≤ i) (h1 : i < n) : ((rngL n).map F)[i.toNat]? = some (F i) := by
  unfold rngL
  rw [List.getElem?_map, List.getElem?_map, List.getElem?_range (by omega)]
  show some (F ((i.toNat : Nat) : Int)) = _
  rw [show ((i.toNat : Nat) : Int) = i by omega]
theorem grid_at {α : Type} {n : Int} {F : Int → α} {i : Int} (h0 : 0 ≤ i) (h1 : i < n) : L2.atI ((rngL n).map F) i = some (F i) := by
  unfold L2.atI
  rw [List.length_map, rngL_len, ixN_in h0 (by omega)]
  exact grid_get h0 h1
theorem grid_put {α : Type} {n : Int} {F : Int → α} {i : Int} {v : α} (h0 : 0 ≤ i) (h1 : i < n) : ((rngL n).map F).set i.toNat v = (rngL n).map fun x => if x = i then v else F x := by
  apply List.ext_getElem?
  intro j
  rw [List.getElem?_set]
  by_cases hj : j < n.toNat
  · have e : ∀ {G : Int → α}, ((rngL n).map G)[j]? = some (G (j : Int)) := fun {G} => by
      have := grid_get (F := G) (i := (j : Int)) (n := n) (by omega) (by omega)
      rw [Int.toNat_natCast] at this
      exact this
    rw [e, e, List.length_map, rngL_len]
    by_cases q : i.toNat = j
    · rw [if_pos q, if_pos (by omega), if_pos (by omega)]
    · rw [if_neg q, if_neg (by omega)]
  · rw [if_neg (by omega), List.getElem?_eq_none (by rw [List.length_map, rngL_len]; omega), List.getElem?_eq_none (by rw [List.length_map, rngL_len]; omega)]
theorem grid_set {α : Type} {n : Int} {F : Int → α} {i : Int} {v : α} (h0 : 0 ≤ i) (h1 : i < n) : setL ((rngL n).map F) i v = some ((rngL n).map fun x => if x = i then v else F x) := by
  unfold setL
  rw [List.length_map, rngL_len, ixN_in h0 (by omega)]
  exact congrArg some (grid_put h0 h1)
theorem grid_set2 {α : Type} {n m : Int} {F : Int → Int → α} {i j : Int} {v : α} (h0 : 0 ≤ i) (h1 : i < n) (k0 : 0 ≤ j) (k1 : j < m) :
    PuX.setLL ((rngL n).map fun a => (rngL m).map (F a)) i j v = some ((rngL n).map fun a => (rngL m).map fun b => if a = i ∧ b = j then v else F a b) := by
  unfold PuX.setLL
  rw [List.length_map, rngL_len, ixN_in h0 (by omega)]
  dsimp only
  rw [grid_get h0 h1]
  dsimp only
  rw [grid_set k0 k1]
  dsimp only
  rw [grid_put h0 h1]
  refine congrArg some (List.map_congr_left fun a ha => ?_)
  by_cases q : a = i
  · rw [if_pos q]
    exact List.map_congr_left fun b hb => by
      by_cases q2 : b = j
      · rw [if_pos q2, if_pos ⟨q, q2⟩]
      · rw [if_neg q2, if_neg (fun z => q2 z.2), q]
  · rw [if_neg q]
    exact List.map_congr_left fun b hb => by rw [if_neg (fun z => q z.1)]
/-! ### the meal -/
def meal (lists : List (List Int)) (many L : Int) (f : Int → Int) (g : Int → Int → Int) (clock : Int) (steps : List (Int × Int)) : A_Meal :=
  (lists, (rngL many).map (fun t => pt L (f t)), (rngL lists.length).map (fun k => (rngL many).map fun t => pt L (g k t)), pt L clock, steps, ())
structure Ls (lists : List (List Int)) (many L : Int) : Prop where
  m0 : 0 ≤ many
  m1 : many ≤ 1000
  l : ∀ l, l ∈ lists → l.Nodup ∧ ∀ x, x ∈ l → 0 ≤ x ∧ x < many
  n : lists.length ≤ 1000
  L0 : 0 < L
  L1 : L < 32768
section
abbrev nf (f : Int → Nat) : Int → Int := fun t => ((f t : Nat) : Int)
variable {lists : List (List Int)} {many L : Int} {f : Int → Nat} {g : Int → Int → Int} {clock : Int} {steps : List (Int × Int)}
theorem at_l (i : Int) (h0 : 0 ≤ i) (h1 : i < lists.length) : ∃ l, L2.atI lists i = some l ∧ lists[i.toNat]? = some l ∧ l ∈ lists := by
  have hlt : i.toNat < lists.length := by omega
  refine ⟨lists[i.toNat], ?_, List.getElem?_eq_getElem hlt, List.getElem_mem _⟩
  unfold L2.atI
  rw [ixN_in h0 h1]
  exact List.getElem?_eq_getElem hlt
def lst (lists : List (List Int)) (i : Int) : List Int := lists.getD i.toNat []
theorem lst_at {i : Int} (h0 : 0 ≤ i) (h1 : i < lists.length) : L2.atI lists i = some (lst lists i) ∧ lst lists i ∈ lists := by
  obtain ⟨l, h2, h3, h4⟩ := at_l i h0 h1
  unfold lst
  rw [List.getD_eq_getElem?_getD, h3]
  exact ⟨h2, h4⟩
theorem bite_ok (H : Ls lists many L) {i : Int} (h0 : 0 ≤ i) (h1 : i < lists.length) : m_Meal_bite (meal lists many L (nf f) g clock steps) i = .ok (Dl.bit f (lst lists i)) := by
  obtain ⟨e, hm⟩ := lst_at h0 h1
  have hl := (H.l _ hm).2
  unfold m_Meal_bite
  show opt (L2.atI lists i) _ = _
  rw [e, opt_some]
  dsimp only
  unfold Dl.bit
  generalize lst lists i = l at hl
  induction l with
  | nil => rfl
  | cons x l ih =>
    obtain ⟨x0, x1⟩ := hl x List.mem_cons_self
    rw [List.foldr_cons, List.find?_cons]
    show opt (L2.atI ((rngL many).map fun t => pt L (nf f t)) x) _ = _
    rw [grid_at x0 x1, opt_some, shown_pt, bind_ok]
    have k := nm_is0 (p := (f x : Int)) H.L0
    by_cases q : f x = 0
    · rw [if_neg (by rw [decide_eq_true (k.mpr (by omega))]; decide), decide_eq_false (fun z => z q)]
      exact ih fun y hy => hl y (List.mem_cons_of_mem _ hy)
    · rw [if_pos (by rw [decide_eq_false (fun z => q (by have := k.mp z; omega))]; rfl), decide_eq_true q]
/-! #### who eats what -/
def ddk : List Int → List Int → List Int
  | acc, [] => acc
  | acc, k :: ks => ddk (if k ∈ acc then acc else acc ++ [k]) ks
theorem ddk_mem : ∀ (ks acc : List Int) (x : Int), x ∈ ddk acc ks ↔ x ∈ acc ∨ x ∈ ks
  | [], acc, x => by unfold ddk; simp
  | k :: ks, acc, x => by
    unfold ddk
    rw [ddk_mem ks]
    by_cases q : k ∈ acc
    · rw [if_pos q, List.mem_cons]
      constructor
      · rintro (h | h)
        · exact .inl h
        · exact .inr (.inr h)
      · rintro (h | rfl | h)
        · exact .inl h
        · exact .inl q
        · exact .inr h
    · rw [if_neg q, List.mem_append, List.mem_singleton, List.mem_cons]
      constructor
      · rintro ((h | h) | h)
        · exact .inl h
        · exact .inr (.inl h)
        · exact .inr (.inr h)
      · rintro (h | h | h)
        · exact .inl (.inl h)
        · exact .inl (.inr h)
        · exact .inr h
theorem ddk_nd : ∀ (ks acc : List Int), acc.Nodup → (ddk acc ks).Nodup
  | [], acc, h => h
  | k :: ks, acc, h => by
    unfold ddk
    refine ddk_nd ks _ ?_
    by_cases q : k ∈ acc
    · rw [if_pos q]; exact h
    · rw [if_neg q, List.nodup_append]
      exact ⟨h, by simp, fun a ha b hb => fun e => q (by rw [List.mem_singleton.mp hb] at e; exact e ▸ ha)⟩
theorem dmerge_dd {α : Type} (F : Int → α) : ∀ (ks acc : List Int), dmerge (acc.map fun k => (k, F k)) (ks.map fun k => (k, F k)) = (ddk acc ks).map fun k => (k, F k)
  | [], acc => rfl
  | k :: ks, acc => by
    unfold ddk
    rw [List.map_cons]
    show dmerge (dput (acc.map fun k => (k, F k)) k (F k)) _ = _
    have e : dput (acc.map fun k => (k, F k)) k (F k) = (if k ∈ acc then acc else acc ++ [k]).map fun k => (k, F k) := by
      unfold dput
      by_cases q : k ∈ acc
      · rw [if_pos (List.any_eq_true.mpr ⟨(k, F k), List.mem_map.mpr ⟨k, q, rfl⟩, decide_eq_true rfl⟩), if_pos q, List.map_map]
        refine List.map_congr_left fun x hx => ?_
        show (if x = k then (x, F k) else (x, F x)) = _
        by_cases z : x = k
        · rw [if_pos z, z]
        · rw [if_neg z]
      · rw [if_neg (fun z => by
          obtain ⟨p, hp, e⟩ := List.any_eq_true.mp z
          obtain ⟨x, hx, rfl⟩ := List.mem_map.mp hp
          exact q (of_decide_eq_true e ▸ hx)), if_neg q, List.map_append]
        rfl
    rw [e]
    exact dmerge_dd F ks _
def bites (lists : List (List Int)) (f : Int → Nat) : List (Option Int) := (rngL lists.length).map fun i => Dl.bit f (lst lists i)
def ones (lists : List (List Int)) (f : Int → Nat) (t : Int) : List Int := (rngL lists.length).filter fun i => decide (Dl.bit f (lst lists i) = some t)
def eaten (lists : List (List Int)) (f : Int → Nat) : List Int := ddk [] ((bites lists f).filterMap id)
theorem rng_lst : (rngL lists.length).map (lst lists) = lists := by
  apply List.ext_getElem?
  intro j
  by_cases hj : j < lists.length
  · have := grid_get (F := lst lists) (i := (j : Int)) (n := (lists.length : Int)) (by omega) (by omega)
    rw [Int.toNat_natCast] at this
    rw [this]
    unfold lst
    rw [Int.toNat_natCast, List.getD_eq_getElem?_getD, List.getElem?_eq_getElem hj]
    rfl
  · rw [List.getElem?_eq_none (by rw [List.length_map, rngL_len]; omega), List.getElem?_eq_none (by omega)]
theorem ones_len (t : Int) : (ones lists f t).length = Dl.cnt lists f t := by
  unfold ones Dl.cnt
  conv => rhs; rw [← rng_lst (lists := lists)]
  rw [List.filter_map, List.length_map]
  rfl
theorem eaten_mem {t : Int} : t ∈ eaten lists f ↔ 0 < Dl.cnt lists f t := by
  unfold eaten bites
  rw [ddk_mem, List.mem_filterMap]
  rw [← ones_len]
  unfold ones
  constructor
  · rintro (h | ⟨o, ho, e⟩)
    · cases h
    · have e : o = some t := e
      subst e
      obtain ⟨i, hi, e⟩ := List.mem_map.mp ho
      exact List.length_pos_iff_exists_mem.mpr ⟨i, List.mem_filter.mpr ⟨hi, decide_eq_true e⟩⟩
  · intro h
    obtain ⟨i, hi⟩ := List.length_pos_iff_exists_mem.mp h
    obtain ⟨h1, h2⟩ := List.mem_filter.mp hi
    exact .inr ⟨some t, List.mem_map.mpr ⟨i, h1, of_decide_eq_true h2⟩, rfl⟩
theorem eaten_nd : (eaten lists f).Nodup := ddk_nd _ _ List.nodup_nil
theorem comp_opt {α β S : Type} {body : Option α → S → Pu.Res (Option β × S)} {F : α → β} {s : S} (hn : body none s = .ok (none, s)) : ∀ (os : List (Option α)), (∀ x, some x ∈ os → body (some x) s = .ok (some (F x), s)) → compL body os s = some ((os.filterMap id).map F, s)
  | [], _ => rfl
  | o :: os, h => by
    have e2 := comp_opt hn os fun y hy => h y (List.mem_cons_of_mem _ hy)
    show (match body o s with
        | .ok (o, s1) => (match compL body os s1 with
          | some (ys, s2) => some (o.toList ++ ys, s2)
          | none => none)
        | _ => none) = _
    cases o with
    | none =>
      rw [hn]
      dsimp only
      rw [e2]
      rfl
    | some x =>
      rw [h x List.mem_cons_self]
      dsimp only
      rw [e2]
      rfl
theorem enum_grid {α : Type} {n : Int} (F : Int → α) : enumL ((rngL n).map F) = (rngL n).map fun i => (i, F i) := by
  apply List.ext_getElem?
  intro j
  unfold enumL
  by_cases hj : j < n.toNat
  · have e : ∀ {β : Type} {G : Int → β}, ((rngL n).map G)[j]? = some (G (j : Int)) := fun {β G} => by
      have := grid_get (F := G) (i := (j : Int)) (n := n) (by omega) (by omega)
      rw [Int.toNat_natCast] at this
      exact this
    rw [e, List.getElem?_map, List.getElem?_zipIdx, e]
    show some (((0 + j : Nat) : Int), F (j : Int)) = _
    rw [Nat.zero_add]
  · rw [List.getElem?_eq_none (by rw [List.length_map, List.length_zipIdx, List.length_map, rngL_len]; omega), List.getElem?_eq_none (by rw [List.length_map, rngL_len]; omega)]
theorem eaters_ok (H : Ls lists many L) : m_Meal_eaters (meal lists many L (nf f) g clock steps) = .ok ((eaten lists f).map fun t => (t, ones lists f t)) := by
  have hn := H.n
  unfold m_Meal_eaters
  show opt (rng (lists.length : Int)) _ = _
  rw [rng_ok (by omega) (by omega), opt_some, comp_map (g := fun i => Dl.bit f (lst lists i)) (rngL (lists.length : Int)) (fun i hi => by
    obtain ⟨i0, i1⟩ := rngL_mem.mp hi
    dsimp only
    rw [if_pos rfl, bite_ok H i0 i1, bind_ok]), opt_some]
  dsimp only
  rw [comp_opt (F := fun t => (t, ones lists f t)) (by
    dsimp only
    rw [if_neg (by decide)]) _ (fun t ht => by
    dsimp only
    rw [if_pos (show (some t).isSome = true from rfl), opt_some, comp_filt (p := fun x : Int × Option Int => decide (x.2 = some t)) (g := fun x => x.1) _ (fun x _ => by
      dsimp only
      by_cases q : x.2 = some t
      · rw [decide_eq_true q, if_pos rfl, if_pos rfl]
      · rw [decide_eq_false q, if_neg (by decide), if_neg (by decide)]), opt_some]
    dsimp only
    rw [enum_grid, List.filter_map, List.map_map]
    refine congrArg Pu.Res.ok (congrArg (fun z => (some (t, z), _)) ?_)
    unfold ones
    rw [show ((fun x : Int × Option Int => x.1) ∘ fun i => (i, Dl.bit f (lst lists i))) = fun i => i from rfl, List.map_id']
    rfl), opt_some]
  dsimp only
  have e := dmerge_dd (fun t => ones lists f t) ((bites lists f).filterMap id) []
  have e : dmerge [] (((bites lists f).filterMap id).map fun t => (t, ones lists f t)) = (eaten lists f).map fun t => (t, ones lists f t) := e
  show chk (decide (List.length (α := Int × List Int) (dmerge [] (((bites lists f).filterMap id).map fun t => (t, ones lists f t))) ≤ 16777216)) _ = _
  have hlen : (eaten lists f).length ≤ lists.length := by
    unfold eaten bites
    have h1 : ∀ (ks acc : List Int), (ddk acc ks).length ≤ acc.length + ks.length := by
      intro ks
      induction ks with
      | nil => exact fun acc => Nat.le_refl _
      | cons k ks ih =>
        intro acc
        unfold ddk
        refine Nat.le_trans (ih _) ?_
        rw [List.length_cons]
        split
        · omega
        · rw [List.length_append, List.length_singleton]; omega
    refine Nat.le_trans (h1 _ _) ?_
    refine Nat.le_trans (Nat.le_of_eq (Nat.zero_add _)) (Nat.le_trans (List.length_filterMap_le _ _) ?_)
    rw [List.length_map, rngL_len]
    omega
  rw [e, decide_eq_true (by rw [List.length_map]; omega), chk_true]
  exact congrArg Pu.Res.ok e
end
end G
set_option Elab.async false
set_option linter.all false
set_option maxRecDepth 100000
set_option maxHeartbeats 2000000
namespace G
open PySem L2 Evl Pu
theorem fold_t {α S R T : Type} {B : α → (S → Pu.Res R) → S → Pu.Res R} {nx : S → Pu.Res R} (enc : T → S) (F : T → α → T) : ∀ (xs : List α) (τ : T), (∀ x, x ∈ xs → ∀ τ k, B x k (enc τ) = k (enc (F τ x))) → List.foldr B nx xs (enc τ) = nx (enc (xs.foldl F τ))
  | [], τ, _ => rfl
  | x :: xs, τ, h => by
    rw [List.foldr_cons, h x List.mem_cons_self, fold_t enc F xs _ fun y hy => h y (List.mem_cons_of_mem _ hy)]
    rfl
section
variable {lists : List (List Int)} {many L : Int} {f : Int → Nat} {g : Int → Int → Int} {clock : Int} {steps : List (Int × Int)}
def stp (lists : List (List Int)) (f : Int → Nat) (m : Int) (x : Int × List Int) : Int := if ((f x.1 / Dl.cnt lists f x.1 : Nat) : Int) < m then ((f x.1 / Dl.cnt lists f x.1 : Nat) : Int) else m
def eatF (st : Int) (τ : (Int → Int) × (Int → Int → Int)) (x : Int × List Int) : (Int → Int) × (Int → Int → Int) :=
  (fun y => if y = x.1 then τ.1 y - x.2.length * st else τ.1 y, fun k y => if y = x.1 ∧ k ∈ x.2 then τ.2 k y + st else τ.2 k y)
def eat1 (st t : Int) (τ : (Int → Int) × (Int → Int → Int)) (k : Int) : (Int → Int) × (Int → Int → Int) :=
  (fun y => if y = t then τ.1 y - st else τ.1 y, fun k' y => if k' = k ∧ y = t then τ.2 k' y + st else τ.2 k' y)
theorem eat1_all (st t : Int) : ∀ (ks : List Int), ks.Nodup → ∀ τ, ks.foldl (eat1 st t) τ = eatF st τ (t, ks)
  | [], _, τ => by
    unfold eatF
    refine Prod.ext (funext fun y => ?_) (funext fun k => funext fun y => ?_)
    · show τ.1 y = if y = t then τ.1 y - (0 : Nat) * st else τ.1 y
      split <;> simp
    · show τ.2 k y = if y = t ∧ k ∈ [] then _ else _
      rw [if_neg fun z => nomatch z.2]
  | k :: ks, nd, τ => by
    obtain ⟨n1, n2⟩ := List.nodup_cons.mp nd
    rw [List.foldl_cons, eat1_all st t ks n2]
    unfold eatF eat1
    refine Prod.ext (funext fun y => ?_) (funext fun k' => funext fun y => ?_)
    · dsimp only
      by_cases q : y = t
      · rw [if_pos q, if_pos q, if_pos q, List.length_cons, Int.natCast_add, Int.add_mul]
        omega
      · rw [if_neg q, if_neg q, if_neg q]
    · dsimp only
      by_cases q : y = t
      · by_cases q2 : k' = k
        · rw [if_neg (fun z => n1 (q2 ▸ z.2)), if_pos ⟨q2, q⟩, if_pos ⟨q, q2 ▸ List.mem_cons_self⟩]
        · by_cases q3 : k' ∈ ks
          · rw [if_pos ⟨q, q3⟩, if_neg (fun z => q2 z.1), if_pos ⟨q, List.mem_cons_of_mem _ q3⟩]
          · rw [if_neg (fun z => q3 z.2), if_neg (fun z => q2 z.1), if_neg (fun z => (List.mem_cons.mp z.2).elim q2 q3)]
      · rw [if_neg (fun z => q z.1), if_neg (fun z => q z.2), if_neg (fun z => q z.1)]
theorem eatF_all (lists : List (List Int)) (f : Int → Nat) (st : Int) : ∀ (ts : List Int), ts.Nodup → ∀ τ : (Int → Int) × (Int → Int → Int), (ts.map fun t => (t, ones lists f t)).foldl (eatF st) τ =
    (fun y => if y ∈ ts then τ.1 y - (Dl.cnt lists f y : Nat) * st else τ.1 y, fun k y => if y ∈ ts ∧ k ∈ ones lists f y then τ.2 k y + st else τ.2 k y)
  | [], _, τ => by
    refine Prod.ext (funext fun y => ?_) (funext fun k => funext fun y => ?_)
    · show τ.1 y = (if y ∈ ([] : List Int) then τ.1 y - (Dl.cnt lists f y : Nat) * st else τ.1 y)
      rw [if_neg List.not_mem_nil]
    · show τ.2 k y = (if y ∈ ([] : List Int) ∧ k ∈ ones lists f y then τ.2 k y + st else τ.2 k y)
      rw [if_neg fun z => List.not_mem_nil z.1]
  | t :: ts, nd, τ => by
    obtain ⟨n1, n2⟩ := List.nodup_cons.mp nd
    rw [List.map_cons, List.foldl_cons, eatF_all lists f st ts n2]
    unfold eatF
    refine Prod.ext (funext fun y => ?_) (funext fun k => funext fun y => ?_)
    · dsimp only
      rw [ones_len]
      by_cases q : y = t
      · rw [if_neg (fun z => n1 (q ▸ z)), if_pos q, if_pos (q ▸ List.mem_cons_self), q]
      · by_cases q2 : y ∈ ts
        · rw [if_pos q2, if_neg q, if_pos (List.mem_cons_of_mem _ q2)]
        · rw [if_neg q2, if_neg q, if_neg fun z => (List.mem_cons.mp z).elim q q2]
    · dsimp only
      by_cases q : y = t
      · rw [if_neg (fun z => n1 (q ▸ z.1))]
        by_cases q2 : k ∈ ones lists f t
        · rw [if_pos ⟨q, q2⟩, if_pos ⟨q ▸ List.mem_cons_self, q ▸ q2⟩]
        · rw [if_neg (fun z => q2 z.2), if_neg (fun z => q2 (q ▸ z.2))]
      · by_cases q2 : y ∈ ts ∧ k ∈ ones lists f y
        · rw [if_pos q2, if_neg (fun z => q z.1), if_pos ⟨List.mem_cons_of_mem _ q2.1, q2.2⟩]
        · rw [if_neg q2, if_neg (fun z => q z.1), if_neg fun z => (List.mem_cons.mp z.1).elim q fun w => q2 ⟨w, z.2⟩]
theorem eat_no (H : Ls lists many L) (h : eaten lists f = [] ∨ clock = L) : m_Meal_eat (meal lists many L (nf f) g clock steps) = .ok (false, meal lists many L (nf f) g clock steps) := by
  unfold m_Meal_eat
  rw [eaters_ok H, bind_ok, one_pt H.L0, bind_ok]
  show (m_Part_minus (pt L L) (pt L clock)).bind _ = _
  rw [minus_pt H.L0 H.L1, bind_ok]
  dsimp only
  by_cases q : eaten lists f = []
  · rw [q, if_pos (by rfl), if_pos rfl]
  · rw [if_neg (by
      cases e : eaten lists f with
      | nil => exact absurd e q
      | cons x xs => simp), shown_pt, bind_ok, decide_eq_true ((nm_is0 H.L0).mpr (by have := h.resolve_left q; omega)), if_pos rfl]
theorem eat_yes (H : Ls lists many L) (ne : eaten lists f ≠ []) (hc : clock ≠ L) (hs : steps.length < 16777216) (hd : ∀ t, t ∈ eaten lists f → Dl.cnt lists f t ∣ f t) (hi : ∀ t, t ∈ eaten lists f → 0 ≤ t ∧ t < many) :
    m_Meal_eat (meal lists many L (nf f) g clock steps) =
      (let st := ((eaten lists f).map fun t => (t, ones lists f t)).foldl (stp lists f) (L - clock)
       .ok (true, meal lists many L (fun y => if y ∈ eaten lists f then nf f y - (Dl.cnt lists f y : Nat) * st else nf f y) (fun k y => if y ∈ eaten lists f ∧ k ∈ ones lists f y then g k y + st else g k y) (clock + st) (steps ++ [nm (clock + st) L]))) := by
  have hn := H.n
  unfold m_Meal_eat
  rw [eaters_ok H, bind_ok, one_pt H.L0, bind_ok]
  show (m_Part_minus (pt L L) (pt L clock)).bind _ = _
  rw [minus_pt H.L0 H.L1, bind_ok]
  dsimp only
  rw [if_neg (by
      cases e : eaten lists f with
      | nil => exact absurd e ne
      | cons x xs => simp), shown_pt, bind_ok, decide_eq_false (fun z => hc (by have := (nm_is0 H.L0).mp z; omega)), if_neg (by decide)]
  rw [fold_t (enc := fun m : Int => (meal lists many L (nf f) g clock steps, (eaten lists f).map fun t => (t, ones lists f t), pt L m, (), (), (), (), ())) (F := stp lists f) _ _ (fun x hx m k => by
    obtain ⟨t, ht, rfl⟩ := List.mem_map.mp hx
    obtain ⟨t0, t1⟩ := hi t ht
    obtain ⟨q, hq⟩ := hd t ht
    have c0 := eaten_mem.mp ht
    have cl : Dl.cnt lists f t ≤ lists.length := Dl.cnt_le
    dsimp only
    show opt (L2.atI ((rngL many).map fun t => pt L (nf f t)) t) _ = _
    rw [grid_at t0 t1, opt_some, ones_len]
    have e1 : nf f t = ((Dl.cnt lists f t : Nat) : Int) * (q : Int) := by
      show ((f t : Nat) : Int) = _
      rw [hq, Int.natCast_mul]
    have e2 : f t / Dl.cnt lists f t = q := by rw [hq, Nat.mul_div_cancel_left _ c0]
    rw [e1, over_pt H.L0 H.L1 (by omega) (by omega), bind_ok, below_pt H.L0 H.L1, bind_ok]
    unfold stp
    dsimp only
    rw [e2]
    by_cases z : (q : Int) < m
    · rw [decide_eq_true z, if_pos rfl, if_pos z]
    · rw [decide_eq_false z, if_neg (by decide), if_neg z])]
  dsimp only
  generalize ((eaten lists f).map fun t => (t, ones lists f t)).foldl (stp lists f) (L - clock) = st
  rw [fold_t (enc := fun τ : (Int → Int) × (Int → Int → Int) => (meal lists many L τ.1 τ.2 clock steps, (eaten lists f).map fun t => (t, ones lists f t), pt L st, (), (), (), (), ())) (F := eatF st) _ (nf f, g) (fun x hx τ k => by
    obtain ⟨t, ht, rfl⟩ := List.mem_map.mp hx
    obtain ⟨t0, t1⟩ := hi t ht
    dsimp only
    rw [fold_t (enc := fun τ : (Int → Int) × (Int → Int → Int) => (meal lists many L τ.1 τ.2 clock steps, (eaten lists f).map fun t => (t, ones lists f t), pt L st, t, ones lists f t, (), (), ())) (F := eat1 st t) _ τ (fun i hi τ k => by
      obtain ⟨h1, _⟩ := List.mem_filter.mp hi
      obtain ⟨i0, i1⟩ := rngL_mem.mp h1
      dsimp only
      show opt (L2.atI ((rngL many).map fun t => pt L (τ.1 t)) t) _ = _
      rw [grid_at t0 t1, opt_some, minus_pt H.L0 H.L1, bind_ok]
      show opt (setL ((rngL many).map fun t => pt L (τ.1 t)) t _) _ = _
      rw [grid_set t0 t1, opt_some]
      show opt (L2.atI ((rngL lists.length).map (fun k => (rngL many).map fun t => pt L (τ.2 k t))) i) _ = _
      rw [grid_at i0 i1, opt_some, grid_at t0 t1, opt_some, plus_pt H.L0 H.L1, bind_ok]
      show opt (L2.atI ((rngL lists.length).map (fun k => (rngL many).map fun t => pt L (τ.2 k t))) i) _ = _
      rw [grid_at i0 i1, opt_some]
      show opt (PuX.setLL ((rngL lists.length).map (fun k => (rngL many).map fun t => pt L (τ.2 k t))) i t _) _ = _
      rw [grid_set2 (F := fun k t => pt L (τ.2 k t)) i0 i1 t0 t1, opt_some]
      refine congrArg k (congrArg (fun z => (z, _)) ?_)
      unfold meal eat1
      refine Prod.ext rfl (Prod.ext ?_ (Prod.ext ?_ rfl))
      · exact List.map_congr_left fun y _ => by
          dsimp only
          by_cases q : y = t
          · rw [if_pos q, if_pos q, q]
          · rw [if_neg q, if_neg q]
      · exact List.map_congr_left fun a _ => List.map_congr_left fun b _ => by
          dsimp only
          by_cases q : a = i ∧ b = t
          · rw [if_pos q, if_pos q, q.1, q.2]
          · rw [if_neg q, if_neg q])]
    dsimp only
    rw [eat1_all st t (ones lists f t) ((rngL_nodup _).filter _)])]
  dsimp only
  rw [eatF_all lists f st _ eaten_nd]
  show (m_Part_plus (pt L clock) (pt L st)).bind _ = _
  rw [plus_pt H.L0 H.L1, bind_ok, shown_pt, bind_ok]
  show chk (decide (List.length (α := Int × Int) steps < 16777216)) _ = _
  rw [decide_eq_true hs, chk_true]
  rfl
end
end G
set_option Elab.async false
set_option linter.all false
set_option maxRecDepth 100000
set_option maxHeartbeats 2000000
namespace G
open PySem L2 Evl Pu
structure Pl (lists : List (List Int)) (many : Int) (D r : Nat) : Prop where
  m0 : 0 ≤ many
  m1 : many ≤ 1000
  l : ∀ l, l ∈ lists → l.Nodup ∧ ∀ x, x ∈ l → 0 ≤ x ∧ x < many
  n : lists.length ≤ 1000
  D0 : 0 < D
  d : ∀ c, 1 ≤ c → c ≤ lists.length → c ∣ D
  rr : lists.length ≤ r
  L1 : D ^ r < 32768
section
variable {lists : List (List Int)} {many : Int} {D r : Nat}
theorem Pl.lw0 (P : Pl lists many D r) : 0 < D ^ r := Nat.pow_pos P.D0
theorem Pl.ls (P : Pl lists many D r) : Ls lists many (D ^ r : Nat) := ⟨P.m0, P.m1, P.l, P.n, by have := P.lw0; omega, by have := P.L1; omega⟩
def mealS (lists : List (List Int)) (many : Int) (D r : Nat) (c : Int) (s : Nat) : A_Meal :=
  meal lists many (D ^ r : Nat) (nf (Dl.lft lists (D ^ r) s)) (fun k t => ((Dl.hd lists (D ^ r) (lst lists k) t s : Nat) : Int)) c ((Dl.evs lists (D ^ r) s).map fun e => nm ((e : Nat) : Int) (D ^ r : Nat))
theorem meal_congr {L : Int} {f f' : Int → Int} {g g' : Int → Int → Int} {c c' : Int} {st st' : List (Int × Int)} (hf : ∀ t, t ∈ rngL many → f t = f' t) (hg : ∀ k, k ∈ rngL (lists.length : Int) → ∀ t, g k t = g' k t) (hc : c = c') (hs : st = st') : meal lists many L f g c st = meal lists many L f' g' c' st' := by
  unfold meal
  subst hc hs
  refine Prod.ext rfl (Prod.ext ?_ (Prod.ext ?_ rfl))
  · exact List.map_congr_left fun t ht => by rw [hf t ht]
  · exact List.map_congr_left fun k hk => List.map_congr_left fun t _ => by rw [hg k hk t]
theorem ones_bit {f : Int → Nat} {k t : Int} : k ∈ ones lists f t ↔ k ∈ rngL (lists.length : Int) ∧ Dl.bit f (lst lists k) = some t := by
  unfold ones
  rw [List.mem_filter, decide_eq_true_eq]
theorem stp_all (f : Int → Nat) (M : Nat) : ∀ (E : List (Int × List Int)) (m : Nat), M ∣ m → (∀ x, x ∈ E → M ∣ f x.1 / Dl.cnt lists f x.1) → ∃ st : Nat, E.foldl (stp lists f) (m : Int) = (st : Int) ∧ M ∣ st ∧ st ≤ m ∧ (∀ x, x ∈ E → st ≤ f x.1 / Dl.cnt lists f x.1) ∧ (st = m ∨ ∃ x, x ∈ E ∧ st = f x.1 / Dl.cnt lists f x.1)
  | [], m, h, _ => ⟨m, rfl, h, Nat.le_refl _, (fun x hx => nomatch hx), .inl rfl⟩
  | y :: E, m, h, hE => by
    have hy := hE y List.mem_cons_self
    have hE' := fun x hx => hE x (List.mem_cons_of_mem _ hx)
    rw [List.foldl_cons]
    by_cases q : ((f y.1 / Dl.cnt lists f y.1 : Nat) : Int) < m
    · have e : stp lists f (m : Int) y = ((f y.1 / Dl.cnt lists f y.1 : Nat) : Int) := if_pos q
      obtain ⟨st, h1, h2, h3, h4, h5⟩ := stp_all f M E _ hy hE'
      rw [e]
      refine ⟨st, h1, h2, by omega, fun x hx => (List.mem_cons.mp hx).elim (fun z => by rw [z]; exact h3) (h4 x), .inr ?_⟩
      rcases h5 with h5 | ⟨x, hx, h5⟩
      · exact ⟨y, List.mem_cons_self, h5⟩
      · exact ⟨x, List.mem_cons_of_mem _ hx, h5⟩
    · have e : stp lists f (m : Int) y = (m : Int) := if_neg q
      obtain ⟨st, h1, h2, h3, h4, h5⟩ := stp_all f M E m h hE'
      rw [e]
      refine ⟨st, h1, h2, h3, fun x hx => (List.mem_cons.mp hx).elim (fun z => by rw [z]; omega) (h4 x), ?_⟩
      rcases h5 with h5 | ⟨x, hx, h5⟩
      · exact .inl h5
      · exact .inr ⟨x, List.mem_cons_of_mem _ hx, h5⟩
theorem evs_len (ls : List (List Int)) (L : Nat) : ∀ s, (Dl.evs ls L s).length ≤ s := fun s => by
  unfold Dl.evs
  rw [List.length_map]
  refine Nat.le_trans (List.length_filter_le _ _) ?_
  rw [List.length_range]
  exact Nat.le_refl _
theorem eat_ok (P : Pl lists many D r) {s : Nat} (W : Dl.Whole lists D r (rngL many) s) (hs : s < D ^ r) (ne : eaten lists (Dl.lft lists (D ^ r) s) ≠ []) :
    ∃ st, 1 ≤ st ∧ Dl.Whole lists D r (rngL many) (s + st) ∧ m_Meal_eat (mealS lists many D r s s) = .ok (true, mealS lists many D r ((s + st : Nat) : Int) (s + st)) := by
  have L1 := P.L1
  have ndT : (rngL many).Nodup := rngL_nodup _
  have nel : lists ≠ [] := fun z => by
    obtain ⟨t, ht⟩ := List.exists_mem_of_ne_nil _ ne
    obtain ⟨l, hl, _⟩ := Dl.cnt_pos.mp (eaten_mem.mp ht)
    rw [z] at hl; cases hl
  have key : ∀ t, t ∈ eaten lists (Dl.lft lists (D ^ r) s) → ∃ l, l ∈ lists ∧ Dl.bit (Dl.lft lists (D ^ r) s) l = some t := fun t ht => Dl.cnt_pos.mp (eaten_mem.mp ht)
  have hi : ∀ t, t ∈ eaten lists (Dl.lft lists (D ^ r) s) → 0 ≤ t ∧ t < many := fun t ht => by
    obtain ⟨l, hl, e⟩ := key t ht
    exact (P.l l hl).2 t (Dl.bit_some e).1
  have cd := fun t (ht : t ∈ eaten lists (Dl.lft lists (D ^ r) s)) => W.cdiv ndT hs nel P.d (c := Dl.cnt lists (Dl.lft lists (D ^ r) s) t) (eaten_mem.mp ht) Dl.cnt_le t
  obtain ⟨M, hM⟩ : ∃ M, M = D ^ (r - Dl.exh lists (D ^ r) (rngL many) s - 1) := ⟨_, rfl⟩
  have dL : M ∣ D ^ r - s := by
    rw [hM]
    refine Nat.dvd_sub (Dl.pow_div (by omega)) (Nat.dvd_trans (Dl.pow_div (Nat.sub_le _ _)) (W.c hs))
  obtain ⟨st, g1, g2, g3, g4, g5⟩ := stp_all (lists := lists) (Dl.lft lists (D ^ r) s) M ((eaten lists (Dl.lft lists (D ^ r) s)).map fun t => (t, ones lists (Dl.lft lists (D ^ r) s) t)) (D ^ r - s) dL (fun x hx => by
    obtain ⟨t, ht, rfl⟩ := List.mem_map.mp hx
    rw [hM]
    exact (cd t ht).2)
  have g4 : ∀ t, t ∈ eaten lists (Dl.lft lists (D ^ r) s) → st ≤ Dl.lft lists (D ^ r) s t / Dl.cnt lists (Dl.lft lists (D ^ r) s) t := fun t ht => g4 _ (List.mem_map.mpr ⟨t, ht, rfl⟩)
  have fit : Dl.Fit lists (D ^ r) s st := fun t ht => by
    refine Nat.le_trans (Nat.mul_le_mul_left _ (g4 t (eaten_mem.mpr ht))) ?_
    exact Nat.mul_div_le _ _
  have full : ∀ t, t ∈ eaten lists (Dl.lft lists (D ^ r) s) → st = Dl.lft lists (D ^ r) s t / Dl.cnt lists (Dl.lft lists (D ^ r) s) t → Dl.cnt lists (Dl.lft lists (D ^ r) s) t * st = Dl.lft lists (D ^ r) s t := fun t ht e => by
    rw [e]; exact Nat.mul_div_cancel' (cd t ht).1
  have st1 : 1 ≤ st := by
    rcases g5 with h | ⟨x, hx, h⟩
    · omega
    · obtain ⟨t, ht, rfl⟩ := List.mem_map.mp hx
      have h2 := full t ht h
      obtain ⟨l, hl, e⟩ := key t ht
      have h3 := (Dl.bit_some e).2
      rcases Nat.eq_zero_or_pos st with z | z
      · rw [z, Nat.mul_zero] at h2; omega
      · exact z
  have q : s + st = D ^ r ∨ ∃ t, t ∈ eaten lists (Dl.lft lists (D ^ r) s) ∧ Dl.cnt lists (Dl.lft lists (D ^ r) s) t * st = Dl.lft lists (D ^ r) s t := by
    rcases g5 with h | ⟨x, hx, h⟩
    · left; omega
    · obtain ⟨t, ht, rfl⟩ := List.mem_map.mp hx
      exact .inr ⟨t, ht, full t ht h⟩
  have W2 : Dl.Whole lists D r (rngL many) (s + st) := W.step ndT hs nel fit (by show s + st ≤ D ^ r; omega) (hM ▸ g2) (q.imp (fun z => z) fun ⟨t, ht, e⟩ => by
    obtain ⟨l, hl, eb⟩ := key t ht
    exact ⟨t, rngL_mem.mpr (hi t ht), (Dl.bit_some eb).2, by rw [Dl.fit_lft fit st (Nat.le_refl _), e, Nat.sub_self]⟩)
  have he : Dl.evs lists (D ^ r) (s + st) = Dl.evs lists (D ^ r) s ++ [s + st] := by
    rcases q with z | ⟨t, ht, e⟩
    · obtain ⟨t, ht⟩ := List.exists_mem_of_ne_nil _ ne
      obtain ⟨l, hl, eb⟩ := key t ht
      exact Dl.fit_evs fit st1 (by omega) hl eb (.inl z)
    · obtain ⟨l, hl, eb⟩ := key t ht
      exact Dl.fit_evs fit st1 (by omega) hl eb (.inr e)
  refine ⟨st, st1, W2, ?_⟩
  have evl := evs_len lists (D ^ r) s
  unfold mealS
  rw [eat_yes P.ls ne (by omega) (by rw [List.length_map]; omega) (fun t ht => (cd t ht).1) hi]
  dsimp only
  have g1 : ((eaten lists (Dl.lft lists (D ^ r) s)).map fun t => (t, ones lists (Dl.lft lists (D ^ r) s) t)).foldl (stp lists (Dl.lft lists (D ^ r) s)) (((D ^ r : Nat) : Int) - (s : Int)) = (st : Int) := by
    rw [← Int.natCast_sub (Nat.le_of_lt hs)]
    exact g1
  rw [g1]
  refine congrArg Pu.Res.ok (congrArg (fun z => (true, z)) (meal_congr (fun t _ => ?_) (fun k hk t => ?_) (by omega) ?_))
  · show _ = ((Dl.lft lists (D ^ r) (s + st) t : Nat) : Int)
    rw [Dl.fit_lft fit st (Nat.le_refl _)]
    by_cases z : t ∈ eaten lists (Dl.lft lists (D ^ r) s)
    · rw [if_pos z]
      have := fit t (eaten_mem.mp z)
      show ((Dl.lft lists (D ^ r) s t : Nat) : Int) - _ = _
      rw [Int.natCast_sub this, Int.natCast_mul]
    · rw [if_neg z, show Dl.cnt lists (Dl.lft lists (D ^ r) s) t = 0 from Nat.le_zero.mp (Nat.le_of_not_lt fun w => z (eaten_mem.mpr w)), Nat.zero_mul]
      rfl
  · rw [Dl.fit_hd fit st (Nat.le_refl _)]
    by_cases z : Dl.bit (Dl.lft lists (D ^ r) s) (lst lists k) = some t
    · obtain ⟨k0, k1⟩ := rngL_mem.mp hk
      have m1 : k ∈ ones lists (Dl.lft lists (D ^ r) s) t := ones_bit.mpr ⟨hk, z⟩
      rw [if_pos ⟨eaten_mem.mpr (Dl.cnt_pos.mpr ⟨_, (lst_at k0 k1).2, z⟩), m1⟩, if_pos z]
      omega
    · rw [if_neg (fun w => z (ones_bit.mp w.2).2), if_neg z]
      rfl
  · rw [he, List.map_append, List.map_cons, List.map_nil]
    congr 3
theorem rows0 (F : Int → A_Part) : ∀ xs : List (List Int), (xs.map fun _ => (rngL many).map F) = (rngL (xs.length : Int)).map fun _ => (rngL many).map F := fun xs => by
  apply List.ext_getElem?
  intro j
  by_cases hj : j < xs.length
  · have := grid_get (F := fun _ => (rngL many).map F) (i := (j : Int)) (n := (xs.length : Int)) (by omega) (by omega)
    rw [Int.toNat_natCast] at this
    rw [this, List.getElem?_map, List.getElem?_eq_getElem hj]
    rfl
  · rw [List.getElem?_eq_none (by rw [List.length_map]; omega), List.getElem?_eq_none (by rw [List.length_map, rngL_len]; omega)]
theorem init_meal (P : Pl lists many D r) : m_Meal_init lists many = .ok (mealS lists many D r 0 0) := by
  have m0 := P.m0
  have m1 := P.m1
  have L0 : (0 : Int) < (D ^ r : Nat) := by have := P.lw0; omega
  unfold m_Meal_init
  rw [comp_map (g := fun l => l) lists (fun l hl => by
    dsimp only
    rw [if_pos rfl, check_ok (P.l l hl).1 (P.l l hl).2, bind_ok]), opt_some]
  dsimp only
  rw [List.map_id', rng_ok m0 (by omega), opt_some, comp_map (g := fun _ => pt ((D ^ r : Nat) : Int) ((D ^ r : Nat) : Int)) (rngL many) (fun x _ => by
    dsimp only
    rw [if_pos rfl, one_pt L0, bind_ok]), opt_some]
  dsimp only
  rw [comp_map (g := fun _ => (rngL many).map fun _ => pt ((D ^ r : Nat) : Int) 0) lists (fun l _ => by
    rw [rng_ok m0 (by omega), opt_some, comp_map (g := fun _ => pt ((D ^ r : Nat) : Int) 0) (rngL many) (fun x _ => by
      dsimp only
      rw [if_pos rfl, zero_pt L0, bind_ok]), opt_some]), opt_some]
  dsimp only
  rw [zero_pt L0, bind_ok, rows0]
  rfl
theorem eaten_ok (P : Pl lists many D r) : ∃ c, m_eaten lists many = .ok (mealS lists many D r c (D ^ r)) ∧ Dl.Exact lists (D ^ r) (D ^ r) := by
  have L1 := P.L1
  have nd : (rngL many).Nodup := rngL_nodup _
  unfold m_eaten
  rw [init_meal P, bind_ok]
  dsimp only
  suffices go : ∀ (fuel s : Nat), Dl.Whole lists D r (rngL many) s → D ^ r + 1 ≤ fuel + s → ∃ c, whl _ fuel (lists, many, mealS lists many D r s s, ()) = .ok (mealS lists many D r c (D ^ r)) ∧ Dl.Exact lists (D ^ r) (D ^ r) from
    go 100000 0 (Dl.whole0 P.rr) (by omega)
  intro fuel
  induction fuel with
  | zero =>
    intro s W h
    have := W.le
    omega
  | succ fuel ih =>
    intro s W h
    have le := W.le
    unfold whl
    dsimp only
    by_cases q : s = D ^ r
    · unfold mealS
      rw [eat_no P.ls (.inr (by omega)), bind_ok]
      dsimp only
      rw [if_neg (by decide)]
      rw [q]
      exact ⟨_, rfl, q ▸ W.x⟩
    · by_cases q2 : eaten lists (Dl.lft lists (D ^ r) s) = []
      · have idle : ∀ l, l ∈ lists → Dl.bit (Dl.lft lists (D ^ r) s) l = none := fun l hl => by
          cases e : Dl.bit (Dl.lft lists (D ^ r) s) l with
          | none => rfl
          | some t =>
            have := eaten_mem.mpr (Dl.cnt_pos.mpr ⟨l, hl, e⟩)
            rw [q2] at this
            cases this
        obtain ⟨d, hd⟩ : ∃ d, D ^ r = s + d := ⟨D ^ r - s, by omega⟩
        obtain ⟨i1, i2⟩ := Dl.idle idle d
        refine ⟨s, ?_, by have := Dl.idle_exact idle W.x d; rw [← hd] at this; exact this⟩
        have em : mealS lists many D r s s = mealS lists many D r s (D ^ r) := by
          conv => rhs; unfold mealS
          unfold mealS
          refine meal_congr (fun t _ => ?_) (fun k hk t => ?_) rfl ?_
          · show ((Dl.lft lists (D ^ r) s t : Nat) : Int) = ((Dl.lft lists (D ^ r) (D ^ r) t : Nat) : Int)
            have := i1 t
            rw [← hd] at this
            rw [this]
          · obtain ⟨k0, k1⟩ := rngL_mem.mp hk
            have := i2 _ (lst_at k0 k1).2 t
            rw [← hd] at this
            rw [this]
          · have := Dl.idle_evs idle d
            rw [← hd] at this
            rw [this]
        unfold mealS at em
        unfold mealS
        rw [eat_no P.ls (.inl q2), bind_ok]
        dsimp only
        rw [if_neg (by decide)]
        exact congrArg Pu.Res.ok em
      · obtain ⟨st, st1, W2, e⟩ := eat_ok P W (by omega) q2
        rw [e, bind_ok]
        dsimp only
        rw [if_pos rfl]
        exact ih (s + st) W2 (by omega)
theorem shares_ok (P : Pl lists many D r) : m_shares lists many = .ok ((rngL (lists.length : Int)).map fun k => (rngL many).map fun t => nm ((Dl.hd lists (D ^ r) (lst lists k) t (D ^ r) : Nat) : Int) ((D ^ r : Nat) : Int)) := by
  obtain ⟨c, e, _⟩ := eaten_ok P
  unfold m_shares
  rw [e, bind_ok]
  show opt (compL _ ((rngL (lists.length : Int)).map (fun k => (rngL many).map fun t => pt ((D ^ r : Nat) : Int) ((Dl.hd lists (D ^ r) (lst lists k) t (D ^ r) : Nat) : Int))) _) _ = _
  rw [comp_map (g := fun row => row.map fun x : A_Part => (x.1, x.2.1)) _ (fun row _ => by
    dsimp only
    rw [if_pos rfl, comp_map (g := fun x : A_Part => (x.1, x.2.1)) row (fun x _ => by
      dsimp only
      rw [if_pos rfl]
      rfl), opt_some]), opt_some]
  dsimp only
  rw [List.map_map]
  exact congrArg Pu.Res.ok (List.map_congr_left fun k _ => by
    show ((rngL many).map _).map _ = _
    rw [List.map_map]
    rfl)
theorem times_ok (P : Pl lists many D r) : m_times lists many = .ok ((Dl.evs lists (D ^ r) (D ^ r)).map fun e => nm ((e : Nat) : Int) ((D ^ r : Nat) : Int)) := by
  obtain ⟨c, e, _⟩ := eaten_ok P
  unfold m_times
  rw [e, bind_ok]
  rfl
end
end G
set_option Elab.async false
set_option linter.all false
set_option maxRecDepth 100000
set_option maxHeartbeats 2000000
namespace G
open PySem L2 Evl Pu
section
variable {L : Int}
theorem init_nm (h : 0 < L) (hL : L < 32768) (n : Int) : m_Part_init (nm n L).1 (nm n L).2 = .ok (pt L n) := by
  have l := nm_low (p := n) h
  rw [init_pr l.1 (by omega)]
  exact congrArg Pu.Res.ok (pr_eq l.1 h (nm_cross h))
def sums : Int → List Int → List Int
  | _, [] => []
  | t, n :: ns => (t + n) :: sums (t + n) ns
theorem running_ok (h : 0 < L) (hL : L < 32768) (ns : List Int) (hn : ns.length ≤ 1000) : m_running (ns.map fun n => nm n L) = .ok ((sums 0 ns).map (pt L)) := by
  unfold m_running
  rw [zero_pt h, bind_ok]
  dsimp only
  suffices go : ∀ (ms : List Int) (acc : List A_Part) (t : Int), acc.length + ms.length ≤ 1000 → (List.foldr (β := (List (Int × Int)) × (List A_Part) × A_Part × Unit × Unit × Unit → Pu.Res (List A_Part)) _ _ (ms.map fun n => nm n L)) (ns.map fun n => nm n L, acc, pt L t, (), (), ()) = Pu.Res.ok (acc ++ (sums t ms).map (pt L)) from go ns [] 0 (by rw [List.length_nil]; omega)
  intro ms
  induction ms with
  | nil =>
    intro acc t _
    show Pu.Res.ok acc = Pu.Res.ok (acc ++ [])
    rw [List.append_nil]
  | cons n ms ih =>
    intro acc t hl
    rw [List.length_cons] at hl
    rw [List.map_cons, List.foldr_cons]
    dsimp only
    rw [init_nm h hL, bind_ok, plus_pt h hL, bind_ok, decide_eq_true (by omega), chk_true, ih (app1 acc (pt L (t + n))) (t + n) (by show (acc ++ [_]).length + _ ≤ _; rw [List.length_append, List.length_singleton]; omega)]
    show Pu.Res.ok ((acc ++ [pt L (t + n)]) ++ _) = Pu.Res.ok (acc ++ (pt L (t + n) :: _))
    rw [List.append_assoc]
    rfl
theorem comp_mapF {α β γ S : Type} {body : α → S → Pu.Res (Option β × S)} {F : γ → α} {g : γ → β} {s : S} : ∀ (ks : List γ), (∀ k, k ∈ ks → body (F k) s = .ok (some (g k), s)) → compL body (ks.map F) s = some (ks.map g, s)
  | [], _ => rfl
  | k :: ks, h => by
    have e2 := comp_mapF (body := body) (F := F) (g := g) (s := s) ks fun y hy => h y (List.mem_cons_of_mem _ hy)
    show (match body (F k) s with
        | .ok (o, s1) => (match compL body (ks.map F) s1 with
          | some (ys, s2) => some (o.toList ++ ys, s2)
          | none => none)
        | _ => none) = _
    rw [h k List.mem_cons_self]
    dsimp only
    rw [e2]
    rfl
theorem whole_ok (h : 0 < L) (hL : L < 32768) {n many : Int} (n0 : n ≤ 1000) (F : Int → Int → Int) {t : Int} (t0 : 0 ≤ t) (t1 : t < many) :
    m_whole_of ((rngL n).map fun k => (rngL many).map fun t => nm (F k t) L) t = .ok (nm (((rngL n).map fun k => F k t).sum) L) := by
  unfold m_whole_of
  rw [zero_pt h, bind_ok]
  rw [comp_mapF (F := fun k => (rngL many).map fun t => nm (F k t) L) (g := fun k => nm (F k t) L) (rngL n) (fun k _ => by
    dsimp only
    rw [if_pos rfl, grid_at t0 t1, opt_some]), opt_some]
  dsimp only
  have e1 : ((rngL n).map fun k => nm (F k t) L) = ((rngL n).map fun k => F k t).map fun x => nm x L := by rw [List.map_map]; rfl
  rw [e1, running_ok h hL _ (by rw [List.length_map, rngL_len]; omega), bind_ok]
  generalize (rngL n).map (fun k => F k t) = ns
  suffices go : ∀ (ms : List Int) (t0 : Int), (List.foldr (β := (List (List (Int × Int))) × Int × A_Part × Unit × Unit × Unit → Pu.Res (Int × Int)) _ _ ((sums t0 ms).map (pt L))) (_, t, pt L t0, (), (), ()) = Pu.Res.ok (nm (t0 + ms.sum) L) by
    have := go ns 0
    rw [Int.zero_add] at this
    exact this
  intro ms
  induction ms with
  | nil =>
    intro t0
    show (m_Part_shown (pt L t0)).bind _ = _
    rw [shown_pt, bind_ok, List.sum_nil, Int.add_zero]
  | cons n ms ih =>
    intro t0
    show (List.foldr (β := (List (List (Int × Int))) × Int × A_Part × Unit × Unit × Unit → Pu.Res (Int × Int)) _ _ ((sums (t0 + n) ms).map (pt L))) (_, t, pt L (t0 + n), (), (), ()) = _
    rw [ih (t0 + n), List.sum_cons, Int.add_assoc]
end
end G
set_option Elab.async false
set_option linter.all false
set_option maxRecDepth 100000
set_option maxHeartbeats 2000000
namespace G
open PySem L2 Evl Pu
theorem gcd_abs (p q : Int) : PuX.gcdI (absI p) q = PuX.gcdI p q := by
  unfold PuX.gcdI absI
  split
  · rw [Int.natAbs_neg]
  · rfl
theorem gcd_mod (a b : Int) (ha : 0 ≤ a) (hb : 0 < b) : PuX.gcdI b (a % b) = PuX.gcdI a b := by
  unfold PuX.gcdI
  rw [Int.natAbs_emod_of_nonneg ha, Nat.gcd_comm a.natAbs, Nat.gcd_rec b.natAbs a.natAbs, Nat.gcd_comm]
theorem law_gcd_ok {a b : Int} (ha : 0 ≤ a) (hb : 0 ≤ b) (h : b < 100000) : m_law_gcd a b = .ok (PuX.gcdI a b) := by
  unfold m_law_gcd
  dsimp only
  obtain ⟨fu, hfu⟩ : ∃ fu : Nat, fu = 100000 := ⟨_, rfl⟩
  rw [← hfu]
  refine whl_q (P := fun z => z = Pu.Res.ok (PuX.gcdI a b)) (I := fun f s => ∃ x y : Int, s = (x, y, ()) ∧ 0 ≤ x ∧ 0 ≤ y ∧ y < f ∧ PuX.gcdI x y = PuX.gcdI a b) (fun f s i k hk => ?_) (fun s ⟨_, _, _, _, _, _, _⟩ => by omega) fu _ ⟨a, b, rfl, ha, hb, by omega, rfl⟩
  obtain ⟨x, y, rfl, x0, y0, yf, e⟩ := i
  dsimp only
  by_cases z : y = 0
  · subst z
    rw [if_neg (show ¬ (!decide ((0 : Int) = 0)) = true by decide), ← e]
    show Pu.Res.ok x = Pu.Res.ok (PuX.gcdI x 0)
    unfold PuX.gcdI
    rw [show (0 : Int).natAbs = 0 from rfl, Nat.gcd_zero_right]
    congr 1
    omega
  · rw [if_pos (by rw [decide_eq_false z]; rfl), if_pos (by omega), opt_some]
    have m0 := Int.emod_nonneg x z
    have m1 := Int.emod_lt_of_pos x (show 0 < y by omega)
    exact hk _ ⟨y, x % y, rfl, y0, m0, by omega, by rw [gcd_mod x y x0 (by omega), e]⟩
theorem small_ok {p q : Int} (hq : 0 < q) (h : q < 100000) : m_law_small p q = .ok (nm p q) := by
  unfold m_law_small
  have g := gcd_pos (p := p) hq
  have gl := gcd_le (p := p) hq
  have c : ∀ i : Int, CDiv i (PuX.gcdI p q) := fun i => ⟨g, by omega⟩
  rw [law_gcd_ok (by unfold absI; split <;> omega) (by omega) h, bind_ok, gcd_abs, if_pos (c p), opt_some, if_pos (c q), opt_some]
  rfl
end G
set_option Elab.async false
set_option linter.all false
set_option maxRecDepth 100000
set_option maxHeartbeats 2000000
namespace G
open PySem L2 Evl Pu
section
variable {lists : List (List Int)} {many : Int} {D r : Nat}
def eats (lists : List (List Int)) (many : Int) (f : Int → Nat) : List Int := (rngL many).filter fun t => decide (0 < Dl.cnt lists f t)
theorem step_facts (P : Pl lists many D r) {s : Nat} (W : Dl.Whole lists D r (rngL many) s) (hs : s < D ^ r) (ne : ∃ t, 0 < Dl.cnt lists (Dl.lft lists (D ^ r) s) t) {st : Nat} (g3 : st ≤ D ^ r - s)
    (g4 : ∀ t, 0 < Dl.cnt lists (Dl.lft lists (D ^ r) s) t → st ≤ Dl.lft lists (D ^ r) s t / Dl.cnt lists (Dl.lft lists (D ^ r) s) t)
    (g5 : st = D ^ r - s ∨ ∃ t, 0 < Dl.cnt lists (Dl.lft lists (D ^ r) s) t ∧ st = Dl.lft lists (D ^ r) s t / Dl.cnt lists (Dl.lft lists (D ^ r) s) t) :
    1 ≤ st ∧ Dl.Whole lists D r (rngL many) (s + st) ∧ Dl.Fit lists (D ^ r) s st ∧ Dl.evs lists (D ^ r) (s + st) = Dl.evs lists (D ^ r) s ++ [s + st] := by
  have ndT : (rngL many).Nodup := rngL_nodup _
  obtain ⟨t0, ht0⟩ := ne
  have nel : lists ≠ [] := fun z => by
    obtain ⟨l, hl, _⟩ := Dl.cnt_pos.mp ht0
    rw [z] at hl; cases hl
  have hi : ∀ t, 0 < Dl.cnt lists (Dl.lft lists (D ^ r) s) t → 0 ≤ t ∧ t < many := fun t ht => by
    obtain ⟨l, hl, e⟩ := Dl.cnt_pos.mp ht
    exact (P.l l hl).2 t (Dl.bit_some e).1
  have cd := fun t (ht : 0 < Dl.cnt lists (Dl.lft lists (D ^ r) s) t) => W.cdiv ndT hs nel P.d (c := Dl.cnt lists (Dl.lft lists (D ^ r) s) t) ht Dl.cnt_le t
  have dL : D ^ (r - Dl.exh lists (D ^ r) (rngL many) s - 1) ∣ D ^ r - s :=
    Nat.dvd_sub (Dl.pow_div (by omega)) (Nat.dvd_trans (Dl.pow_div (Nat.sub_le _ _)) (W.c hs))
  have g2 : D ^ (r - Dl.exh lists (D ^ r) (rngL many) s - 1) ∣ st := by
    rcases g5 with h | ⟨t, ht, h⟩
    · rw [h]; exact dL
    · rw [h]; exact (cd t ht).2
  have fit : Dl.Fit lists (D ^ r) s st := fun t ht => Nat.le_trans (Nat.mul_le_mul_left _ (g4 t ht)) (Nat.mul_div_le _ _)
  have full : ∀ t, 0 < Dl.cnt lists (Dl.lft lists (D ^ r) s) t → st = Dl.lft lists (D ^ r) s t / Dl.cnt lists (Dl.lft lists (D ^ r) s) t → Dl.cnt lists (Dl.lft lists (D ^ r) s) t * st = Dl.lft lists (D ^ r) s t := fun t ht e => by
    rw [e]; exact Nat.mul_div_cancel' (cd t ht).1
  have st1 : 1 ≤ st := by
    rcases g5 with h | ⟨t, ht, h⟩
    · omega
    · have h2 := full t ht h
      obtain ⟨l, hl, e⟩ := Dl.cnt_pos.mp ht
      have h3 := (Dl.bit_some e).2
      rcases Nat.eq_zero_or_pos st with z | z
      · rw [z, Nat.mul_zero] at h2; omega
      · exact z
  have q : s + st = D ^ r ∨ ∃ t, 0 < Dl.cnt lists (Dl.lft lists (D ^ r) s) t ∧ Dl.cnt lists (Dl.lft lists (D ^ r) s) t * st = Dl.lft lists (D ^ r) s t := by
    rcases g5 with h | ⟨t, ht, h⟩
    · left; omega
    · exact .inr ⟨t, ht, full t ht h⟩
  refine ⟨st1, W.step ndT hs nel fit (by omega) g2 (q.imp (fun z => z) fun ⟨t, ht, e⟩ => by
    obtain ⟨l, hl, eb⟩ := Dl.cnt_pos.mp ht
    exact ⟨t, rngL_mem.mpr (hi t ht), (Dl.bit_some eb).2, by rw [Dl.fit_lft fit st (Nat.le_refl _), e, Nat.sub_self]⟩), fit, ?_⟩
  · rcases q with z | ⟨t, ht, e⟩
    · obtain ⟨l, hl, eb⟩ := Dl.cnt_pos.mp ht0
      exact Dl.fit_evs fit st1 (by omega) hl eb (.inl z)
    · obtain ⟨l, hl, eb⟩ := Dl.cnt_pos.mp ht
      exact Dl.fit_evs fit st1 (by omega) hl eb (.inr e)
end
abbrev LS := (List (List Int)) × Int × Int × (List Int) × Int × (List (Int × Int)) × (List (List Int)) × Unit × Bool × Unit × Unit × Unit × Unit × Unit × Unit × Unit × Unit
def eS (lists : List (List Int)) (many : Int) (f : Int → Int) (c : Int) (ends : List (Int × Int)) (g : Int → Int → Int) (b : Bool) : LS :=
  (lists, many, 3456, (rngL many).map f, c, ends, (rngL (lists.length : Int)).map (fun k => (rngL many).map (g k)), (), b, (), (), (), (), (), (), (), ())
theorem min_ok {ys : List Int} (h : ys ≠ []) : ∃ m, minI ys = some m ∧ m ∈ ys ∧ ∀ y, y ∈ ys → m ≤ y := by
  cases ys with
  | nil => exact absurd rfl h
  | cons x xs => exact ⟨_, rfl, (foldl_min xs x).1, (foldl_min xs x).2⟩
theorem isIn_g {α : Type} {d : DecidableEq α} {x : α} {xs : List α} : isIn d x xs = true ↔ x ∈ xs := by
  unfold isIn
  rw [List.any_eq_true]
  exact ⟨fun ⟨y, hy, e⟩ => (of_decide_eq_true e) ▸ hy, fun h => ⟨x, h, decide_eq_true rfl⟩⟩
theorem at_head {α : Type} (a : α) (as : List α) : L2.atI (a :: as) (0 : Int) = some a := by
  unfold L2.atI
  rw [ixN_in (Int.le_refl 0) (by rw [List.length_cons]; omega)]
  rfl
theorem head_bit (f : Int → Nat) (p : Int → Bool) (hp : ∀ x, p x = decide (f x ≠ 0)) (l : List Int) : L2.atI (((l.filter p).map fun x => x).map some ++ [none]) (0 : Int) = some (Dl.bit f l) := by
  unfold Dl.bit
  induction l with
  | nil => rfl
  | cons x l ih =>
    rw [List.filter_cons, List.find?_cons, hp x]
    by_cases q : f x ≠ 0
    · rw [decide_eq_true q, if_pos rfl]; exact at_head _ _
    · rw [decide_eq_false q, if_neg Bool.false_ne_true]; exact ih
theorem cnt_bites (lists : List (List Int)) (f : Int → Nat) (t : Int) : countL flOI.dec (lists.map (Dl.bit f)) (some t) = (Dl.cnt lists f t : Int) := by
  unfold countL Dl.cnt
  rw [List.countP_map, List.countP_eq_length_filter]
  congr 3
theorem mem_bites (lists : List (List Int)) (f : Int → Nat) (t : Int) : some t ∈ lists.map (Dl.bit f) ↔ 0 < Dl.cnt lists f t := by
  rw [Dl.cnt_pos, List.mem_map]
def bite1 (lists : List (List Int)) (f : Int → Nat) (st : Int) (τ : (Int → Int) × (Int → Int → Int)) (k : Int) : (Int → Int) × (Int → Int → Int) :=
  match Dl.bit f (lst lists k) with
  | some t => eat1 st t τ k
  | none => τ
theorem bites_all (lists : List (List Int)) (f : Int → Nat) (st : Int) : ∀ (ks : List Int), ks.Nodup → ∀ τ : (Int → Int) × (Int → Int → Int), ks.foldl (bite1 lists f st) τ =
    (fun y => τ.1 y - ((ks.filter fun k => decide (Dl.bit f (lst lists k) = some y)).length : Nat) * st, fun k y => if k ∈ ks ∧ Dl.bit f (lst lists k) = some y then τ.2 k y + st else τ.2 k y)
  | [], _, τ => by
    refine Prod.ext (funext fun y => ?_) (funext fun k => funext fun y => ?_)
    · show τ.1 y = τ.1 y - (0 : Nat) * st
      simp
    · show τ.2 k y = if k ∈ ([] : List Int) ∧ Dl.bit f (lst lists k) = some y then τ.2 k y + st else τ.2 k y
      rw [if_neg fun z => nomatch z.1]
  | k :: ks, nd, τ => by
    obtain ⟨n1, n2⟩ := List.nodup_cons.mp nd
    rw [List.foldl_cons, bites_all lists f st ks n2]
    unfold bite1
    cases hb : Dl.bit f (lst lists k) with
    | none =>
      refine Prod.ext (funext fun y => ?_) (funext fun k' => funext fun y => ?_)
      · dsimp only
        rw [List.filter_cons, hb, if_neg (by simp)]
      · dsimp only
        by_cases q : k' = k
        · subst q
          rw [if_neg (fun z => n1 z.1), if_neg (fun z => by rw [hb] at z; exact nomatch z.2)]
        · by_cases q2 : k' ∈ ks ∧ Dl.bit f (lst lists k') = some y
          · rw [if_pos q2, if_pos ⟨List.mem_cons_of_mem _ q2.1, q2.2⟩]
          · rw [if_neg q2, if_neg (fun z => q2 ⟨(List.mem_cons.mp z.1).resolve_left q, z.2⟩)]
    | some t =>
      unfold eat1
      refine Prod.ext (funext fun y => ?_) (funext fun k' => funext fun y => ?_)
      · dsimp only
        rw [List.filter_cons, hb]
        by_cases q : y = t
        · subst q
          rw [if_pos rfl, if_pos (by simp), List.length_cons, Int.natCast_add, Int.add_mul]
          omega
        · rw [if_neg q, if_neg (by simp; exact fun e => q e.symm)]
      · dsimp only
        by_cases q : k' = k
        · subst q
          rw [if_neg (fun z => n1 z.1)]
          by_cases q2 : y = t
          · rw [if_pos ⟨rfl, q2⟩, if_pos ⟨List.mem_cons_self, by rw [hb, q2]⟩]
          · rw [if_neg (fun z => q2 z.2), if_neg (fun z => q2 (by rw [hb] at z; exact (Option.some.inj z.2).symm))]
        · rw [if_neg (show ¬ (k' = k ∧ y = t) from fun z => q z.1)]
          by_cases q2 : k' ∈ ks ∧ Dl.bit f (lst lists k') = some y
          · rw [if_pos q2, if_pos ⟨List.mem_cons_of_mem _ q2.1, q2.2⟩]
          · rw [if_neg q2, if_neg (fun z => q2 ⟨(List.mem_cons.mp z.1).resolve_left q, z.2⟩)]
end G
set_option Elab.async false
set_option linter.all false
set_option maxRecDepth 100000
set_option maxHeartbeats 2000000
namespace G
open PySem L2 Evl Pu
section
variable {lists : List (List Int)} {many : Int} {D r : Nat}
theorem rep_rng {v : Int} {many : Int} (h0 : 0 ≤ many) (h1 : many ≤ 1000) : repL [v] many = some ((rngL many).map fun _ => v) := by
  unfold repL
  rw [if_pos ⟨by omega, by omega, by rw [List.length_singleton]; omega⟩]
  refine congrArg some ?_
  unfold rngL
  rw [List.map_map]
  generalize many.toNat = n
  induction n with
  | zero => rfl
  | succ n ih =>
    rw [List.replicate_succ', List.flatten_append, ih, List.range_succ, List.map_append]
    rfl
theorem rowsI (row : List Int) (xs : List (List Int)) : (xs.map fun _ => row) = (rngL (xs.length : Int)).map fun _ => row := by
  apply List.ext_getElem?
  intro j
  by_cases hj : j < xs.length
  · have := grid_get (F := fun _ => row) (i := (j : Int)) (n := (xs.length : Int)) (by omega) (by omega)
    rw [Int.toNat_natCast] at this
    rw [this, List.getElem?_map, List.getElem?_eq_getElem hj]
    rfl
  · rw [List.getElem?_eq_none (by rw [List.length_map]; omega), List.getElem?_eq_none (by rw [List.length_map, rngL_len]; omega)]
theorem at_map {α β : Type} (g : α → β) (xs : List α) (i : Int) : L2.atI (xs.map g) i = (L2.atI xs i).map g := by
  unfold L2.atI
  rw [List.length_map]
  cases L2.ixN xs.length i with
  | none => rfl
  | some y => exact List.getElem?_map ..
theorem nm16 (x : Int) : nm (16 * x) 3456 = nm x ((6 ^ 3 : Nat) : Int) := nm_eq (by decide) (by decide) (by show 16 * x * 216 = x * 3456; omega)
theorem law_eaten_ok (P : Pl lists many 6 3) : m_law_eaten lists many = .ok ((rngL (lists.length : Int)).map (fun k => (rngL many).map fun t => nm ((Dl.hd lists (6 ^ 3) (lst lists k) t (6 ^ 3) : Nat) : Int) ((6 ^ 3 : Nat) : Int)), (Dl.evs lists (6 ^ 3) (6 ^ 3)).map fun e => nm ((e : Nat) : Int) ((6 ^ 3 : Nat) : Int)) := by
  have m0 := P.m0
  have m1 := P.m1
  have hn := P.rr
  have L216 : (6 : Nat) ^ 3 = 216 := rfl
  unfold m_law_eaten
  rw [rep_rng m0 m1, opt_some, comp_map (g := fun _ => (rngL many).map fun _ => (0 : Int)) lists (fun l _ => by rw [rep_rng m0 m1, opt_some]), opt_some]
  dsimp only
  rw [rowsI]
  suffices go : ∀ (fuel s : Nat) (b : Bool), (b = true → Dl.Whole lists 6 3 (rngL many) s ∧ 218 ≤ fuel + s) → (b = false → 0 < fuel ∧ (∀ l, l ∈ lists → ∀ t, Dl.hd lists (6 ^ 3) l t s = Dl.hd lists (6 ^ 3) l t (6 ^ 3)) ∧ Dl.evs lists (6 ^ 3) s = Dl.evs lists (6 ^ 3) (6 ^ 3)) →
      whl (S := LS) _ fuel (eS lists many (fun t => 16 * ((Dl.lft lists (6 ^ 3) s t : Nat) : Int)) (16 * (s : Int)) ((Dl.evs lists (6 ^ 3) s).map fun e => nm ((e : Nat) : Int) ((6 ^ 3 : Nat) : Int)) (fun k t => 16 * ((Dl.hd lists (6 ^ 3) (lst lists k) t s : Nat) : Int)) b) = .ok ((rngL (lists.length : Int)).map (fun k => (rngL many).map fun t => nm ((Dl.hd lists (6 ^ 3) (lst lists k) t (6 ^ 3) : Nat) : Int) ((6 ^ 3 : Nat) : Int)), (Dl.evs lists (6 ^ 3) (6 ^ 3)).map fun e => nm ((e : Nat) : Int) ((6 ^ 3 : Nat) : Int)) from
    go 100000 0 true (fun _ => ⟨Dl.whole0 P.rr, by omega⟩) (fun z => nomatch z)
  intro fuel
  induction fuel with
  | zero =>
    intro s b hb hb2
    cases b with
    | true =>
      obtain ⟨W, h⟩ := hb rfl
      have := W.le
      omega
    | false => exact absurd (hb2 rfl).1 (Nat.lt_irrefl 0)
  | succ fuel ih =>
    intro s b hb hb2
    cases b with
    | false =>
      obtain ⟨_, h1, h2⟩ := hb2 rfl
      unfold whl
      dsimp only [eS]
      refine (if_neg Bool.false_ne_true).trans ?_
      rw [comp_map (g := fun row : List Int => row.map fun x => nm x 3456) _ (fun row _ => by
        rw [if_pos (show true = true from rfl), comp_map (g := fun x => nm x 3456) row (fun x _ => by
          rw [if_pos (show true = true from rfl)]
          show (m_law_small x 3456).bind _ = _
          rw [small_ok (by decide) (by decide), bind_ok]), opt_some]), opt_some]
      dsimp only
      rw [h2, List.map_map]
      refine congrArg Pu.Res.ok (congrArg (fun z => (z, _)) (List.map_congr_left fun k hk => ?_))
      obtain ⟨k0, k1⟩ := rngL_mem.mp hk
      show ((rngL many).map _).map _ = _
      rw [List.map_map]
      refine List.map_congr_left fun t _ => ?_
      show nm (16 * _) 3456 = _
      rw [nm16, h1 _ (lst_at k0 k1).2]
    | true =>
    obtain ⟨W, h⟩ := hb rfl
    have le := W.le
    unfold whl
    dsimp only [eS]
    refine (if_pos (show true = true from rfl)).trans ?_
    rw [comp_map (g := Dl.bit (Dl.lft lists (6 ^ 3) s)) lists (fun l hl => by
      have hx := (P.l l hl).2
      rw [if_pos (show true = true from rfl), comp_filt (p := fun x => decide (0 < 16 * ((Dl.lft lists (6 ^ 3) s x : Nat) : Int))) (g := fun x => x) l (fun x hxl => by
        obtain ⟨x0, x1⟩ := hx x hxl
        rw [grid_at x0 x1, opt_some]
        by_cases q : 0 < 16 * ((Dl.lft lists (6 ^ 3) s x : Nat) : Int)
        · rw [decide_eq_true q, if_pos rfl, if_pos rfl]
        · rw [decide_eq_false q, if_neg Bool.false_ne_true, if_neg Bool.false_ne_true]), opt_some]
      dsimp only
      have hll : l.length ≤ 1000 := by
        have := (P.l l hl).1.length_le_of_subset (l₂ := rngL many) fun x hx' => rngL_mem.mpr (hx x hx')
        rw [rngL_len] at this
        omega
      have hle := List.length_filter_le (fun x => decide (0 < 16 * ((Dl.lft lists (6 ^ 3) s x : Nat) : Int))) l
      rw [List.map_cons, List.map_nil, cat_ok (by rw [List.length_map, List.length_map, List.length_singleton]; omega), opt_some, head_bit (Dl.lft lists (6 ^ 3) s) _ (fun x => decide_eq_decide.mpr (by omega)), opt_some]), opt_some]
    dsimp only
    rw [rng_ok m0 (by omega), opt_some, comp_filt (p := fun t => decide (0 < Dl.cnt lists (Dl.lft lists (6 ^ 3) s) t)) (g := fun t => 16 * ((Dl.lft lists (6 ^ 3) s t : Nat) : Int) * 24 / ((Dl.cnt lists (Dl.lft lists (6 ^ 3) s) t : Nat) : Int)) (rngL many) (fun t ht => by
      obtain ⟨t0, t1⟩ := rngL_mem.mp ht
      dsimp only
      have cl := Dl.cnt_le (ls := lists) (f := Dl.lft lists (6 ^ 3) s) (t := t)
      by_cases q : 0 < Dl.cnt lists (Dl.lft lists (6 ^ 3) s) t
      · rw [if_pos (isIn_g.mpr ((mem_bites lists _ t).mpr q)), grid_at t0 t1, opt_some, if_pos (.inr (by decide)), opt_some, cnt_bites, if_pos ⟨by omega, by omega⟩, opt_some, decide_eq_true q, if_pos rfl]
      · rw [if_neg (fun z => q ((mem_bites lists _ t).mp (isIn_g.mp z))), decide_eq_false q, if_neg Bool.false_ne_true]), opt_some]
    dsimp only
    rw [if_pos (.inr (by decide)), opt_some]
    generalize hE : (rngL many).filter (fun t => decide (0 < Dl.cnt lists (Dl.lft lists (6 ^ 3) s) t)) = E
    have hEl : E.length ≤ 1000 := by
      have := List.length_filter_le (fun t => decide (0 < Dl.cnt lists (Dl.lft lists (6 ^ 3) s) t)) (rngL many)
      rw [rngL_len, hE] at this
      omega
    rw [cat_ok (by rw [List.length_map, List.length_singleton]; omega), opt_some]
    obtain ⟨m, hm, hmem, hmin⟩ := min_ok (ys := E.map (fun t => 16 * ((Dl.lft lists (6 ^ 3) s t : Nat) : Int) * 24 / ((Dl.cnt lists (Dl.lft lists (6 ^ 3) s) t : Nat) : Int)) ++ [(3456 - 16 * (s : Int)) * 24]) (by simp)
    rw [hm, opt_some, if_pos ⟨by decide, by decide⟩, opt_some]
    have hi : ∀ t, 0 < Dl.cnt lists (Dl.lft lists (6 ^ 3) s) t → 0 ≤ t ∧ t < many := fun t ht => by
      obtain ⟨l, hl, e⟩ := Dl.cnt_pos.mp ht
      exact (P.l l hl).2 t (Dl.bit_some e).1
    have hEm : ∀ t, t ∈ E ↔ 0 < Dl.cnt lists (Dl.lft lists (6 ^ 3) s) t := fun t => by
      rw [← hE, List.mem_filter, decide_eq_true_iff]
      exact ⟨fun z => z.2, fun z => ⟨rngL_mem.mpr (hi t z), z⟩⟩
    have stay : (s = 6 ^ 3 ∨ ∀ l, l ∈ lists → Dl.bit (Dl.lft lists (6 ^ 3) s) l = none) → whl (S := LS) _ fuel (eS lists many (fun t => 16 * ((Dl.lft lists (6 ^ 3) s t : Nat) : Int)) (16 * (s : Int)) ((Dl.evs lists (6 ^ 3) s).map fun e => nm ((e : Nat) : Int) ((6 ^ 3 : Nat) : Int)) (fun k t => 16 * ((Dl.hd lists (6 ^ 3) (lst lists k) t s : Nat) : Int)) false) = _ := fun hh => by
      refine ih s false (fun z => nomatch z) fun _ => ⟨by omega, ?_⟩
      rcases hh with hh | hh
      · rw [hh]; exact ⟨fun _ _ _ => rfl, rfl⟩
      · obtain ⟨d, hd⟩ : ∃ d, 6 ^ 3 = s + d := ⟨6 ^ 3 - s, by omega⟩
        obtain ⟨_, i2⟩ := Dl.idle hh d
        have i3 := Dl.idle_evs hh d
        rw [← hd] at i2 i3
        exact ⟨fun l hl t => (i2 l hl t).symm, i3.symm⟩
    by_cases ne : ∃ t, 0 < Dl.cnt lists (Dl.lft lists (6 ^ 3) s) t
    · have hne : E.map (fun t => 16 * ((Dl.lft lists (6 ^ 3) s t : Nat) : Int) * 24 / ((Dl.cnt lists (Dl.lft lists (6 ^ 3) s) t : Nat) : Int)) ≠ [] := fun z => by
        obtain ⟨t, ht⟩ := ne
        have := (hEm t).mpr ht
        rw [List.map_eq_nil_iff.mp z] at this
        cases this
      rw [if_pos (by rw [decide_eq_false hne]; rfl)]
      by_cases hs : s = 6 ^ 3
      · rw [show decide (16 * (s : Int) < 3456) = false from decide_eq_false (by omega)]
        refine (if_neg Bool.false_ne_true).trans ?_
        exact stay (.inl hs)
      · rw [show decide (16 * (s : Int) < 3456) = true from decide_eq_true (by omega)]
        refine (if_pos (show true = true from rfl)).trans ?_
        rw [rng_ok (by omega) (by omega), opt_some]
        have nel : lists ≠ [] := fun z => by
          obtain ⟨t, ht⟩ := ne
          obtain ⟨l, hl, _⟩ := Dl.cnt_pos.mp ht
          rw [z] at hl; cases hl
        have val : ∀ t, 0 < Dl.cnt lists (Dl.lft lists (6 ^ 3) s) t → 16 * ((Dl.lft lists (6 ^ 3) s t : Nat) : Int) * 24 / ((Dl.cnt lists (Dl.lft lists (6 ^ 3) s) t : Nat) : Int) = 384 * ((Dl.lft lists (6 ^ 3) s t / Dl.cnt lists (Dl.lft lists (6 ^ 3) s) t : Nat) : Int) := fun t ht => by
          obtain ⟨⟨q, hq⟩, _⟩ := W.cdiv (rngL_nodup _) (by omega) nel P.d (c := Dl.cnt lists (Dl.lft lists (6 ^ 3) s) t) ht Dl.cnt_le t
          rw [hq, Nat.mul_div_cancel_left _ ht]
          rw [show 16 * ((Dl.cnt lists (Dl.lft lists (6 ^ 3) s) t * q : Nat) : Int) * 24 = ((Dl.cnt lists (Dl.lft lists (6 ^ 3) s) t : Nat) : Int) * (384 * (q : Int)) by
            rw [Int.natCast_mul, Int.mul_left_comm _ 384 (q : Int)]
            omega]
          exact Int.mul_ediv_cancel_left _ (by omega)
        obtain ⟨st, hst⟩ : ∃ st : Nat, m = 384 * (st : Int) := by
          rcases List.mem_append.mp hmem with z | z
          · obtain ⟨t, ht, e⟩ := List.mem_map.mp z
            exact ⟨_, e.symm.trans (val t ((hEm t).mp ht))⟩
          · have z : m = (3456 - 16 * (s : Int)) * 24 := by simpa using z
            exact ⟨216 - s, by rw [z]; omega⟩
        have m24 : m / 24 = 16 * (st : Int) := by omega
        have g3 : st ≤ 6 ^ 3 - s := by
          have := hmin _ (List.mem_append_right _ List.mem_cons_self)
          omega
        have g4 : ∀ t, 0 < Dl.cnt lists (Dl.lft lists (6 ^ 3) s) t → st ≤ Dl.lft lists (6 ^ 3) s t / Dl.cnt lists (Dl.lft lists (6 ^ 3) s) t := fun t ht => by
          have := hmin _ (List.mem_append_left _ (List.mem_map.mpr ⟨t, (hEm t).mpr ht, rfl⟩))
          rw [val t ht] at this
          omega
        have g5 : st = 6 ^ 3 - s ∨ ∃ t, 0 < Dl.cnt lists (Dl.lft lists (6 ^ 3) s) t ∧ st = Dl.lft lists (6 ^ 3) s t / Dl.cnt lists (Dl.lft lists (6 ^ 3) s) t := by
          rcases List.mem_append.mp hmem with z | z
          · obtain ⟨t, ht, e⟩ := List.mem_map.mp z
            have ht := (hEm t).mp ht
            refine .inr ⟨t, ht, ?_⟩
            rw [val t ht] at e
            omega
          · have z : m = (3456 - 16 * (s : Int)) * 24 := by simpa using z
            left
            omega
        obtain ⟨st1, W2, fit, he⟩ := step_facts P W (by omega) ne g3 g4 g5
        rw [m24]
        refine (fold_t (T := (Int → Int) × (Int → Int → Int)) (fun τ => (lists, many, 3456, (rngL many).map τ.1, 16 * (s : Int), (Dl.evs lists (6 ^ 3) s).map (fun e => nm ((e : Nat) : Int) ((6 ^ 3 : Nat) : Int)), (rngL (lists.length : Int)).map (fun k => (rngL many).map (τ.2 k)), (), true, lists.map (Dl.bit (Dl.lft lists (6 ^ 3) s)), (), E.map (fun t => 16 * ((Dl.lft lists (6 ^ 3) s t : Nat) : Int) * 24 / ((Dl.cnt lists (Dl.lft lists (6 ^ 3) s) t : Nat) : Int)), 16 * (st : Int), (), (), (), ())) (bite1 lists (Dl.lft lists (6 ^ 3) s) (16 * (st : Int))) (rngL (lists.length : Int)) (fun t => 16 * ((Dl.lft lists (6 ^ 3) s t : Nat) : Int), fun k t => 16 * ((Dl.hd lists (6 ^ 3) (lst lists k) t s : Nat) : Int)) (fun k hk τ kk => ?_)).trans ?_
        · obtain ⟨k0, k1⟩ := rngL_mem.mp hk
          dsimp only
          rw [at_map, (lst_at k0 k1).1]
          dsimp only [Option.map_some]
          rw [opt_some]
          unfold bite1
          cases hb : Dl.bit (Dl.lft lists (6 ^ 3) s) (lst lists k) with
          | none => rfl
          | some t =>
            obtain ⟨t0, t1⟩ := hi t (Dl.cnt_pos.mpr ⟨_, (lst_at k0 k1).2, hb⟩)
            refine (if_pos (show (some t).isSome = true from rfl)).trans ?_
            rw [grid_at k0 k1, opt_some, opt_some, opt_some, grid_at t0 t1, opt_some, opt_some, opt_some, opt_some, grid_set2 k0 k1 t0 t1, opt_some, opt_some, opt_some, grid_at t0 t1, opt_some, opt_some, opt_some, grid_set t0 t1, opt_some]
            dsimp only
            have e1 : (rngL many).map (fun x => if x = t then τ.1 t - 16 * (st : Int) else τ.1 x) = (rngL many).map (eat1 (16 * (st : Int)) t τ k).1 := List.map_congr_left fun y _ => by
              show _ = if y = t then τ.1 y - 16 * (st : Int) else τ.1 y
              by_cases q : y = t
              · rw [if_pos q, if_pos q, q]
              · rw [if_neg q, if_neg q]
            have e2 : (rngL (lists.length : Int)).map (fun a => (rngL many).map fun b => if a = k ∧ b = t then τ.2 k t + 16 * (st : Int) else τ.2 a b) = (rngL (lists.length : Int)).map fun a => (rngL many).map ((eat1 (16 * (st : Int)) t τ k).2 a) := List.map_congr_left fun a _ => List.map_congr_left fun b _ => by
              show _ = if a = k ∧ b = t then τ.2 a b + 16 * (st : Int) else τ.2 a b
              by_cases q : a = k ∧ b = t
              · rw [if_pos q, if_pos q, q.1, q.2]
              · rw [if_neg q, if_neg q]
            rw [e1, e2]
        · dsimp only
          rw [bites_all lists _ _ _ (rngL_nodup _)]
          dsimp only
          have evl := evs_len lists (6 ^ 3) s
          rw [show 16 * (s : Int) + 16 * (st : Int) = 16 * ((s + st : Nat) : Int) by omega]
          refine (congrArg (fun z => Pu.Res.bind z _) (small_ok (p := 16 * ((s + st : Nat) : Int)) (q := 3456) (by decide) (by decide))).trans ?_
          rw [bind_ok, decide_eq_true (by rw [List.length_map]; omega), chk_true]
          have z := ih (s + st) true (fun _ => ⟨W2, by omega⟩) (fun z => nomatch z)
          refine (congrArg (whl (S := LS) _ fuel) ?_).trans z
          unfold eS
          refine Prod.ext rfl (Prod.ext rfl (Prod.ext rfl (Prod.ext ?_ (Prod.ext rfl (Prod.ext ?_ (Prod.ext ?_ rfl))))))
          · refine List.map_congr_left fun y _ => ?_
            have := ones_len (lists := lists) (f := Dl.lft lists (6 ^ 3) s) y
            unfold ones at this
            rw [this, Dl.fit_lft fit st (Nat.le_refl _)]
            have q := fit y
            rcases Nat.eq_zero_or_pos (Dl.cnt lists (Dl.lft lists (6 ^ 3) s) y) with w | w
            · rw [w]; simp
            · have q := q w
              rw [Int.natCast_sub q, Int.natCast_mul, Int.mul_left_comm]
              omega
          · show app1 _ _ = _
            rw [he, List.map_append, List.map_cons, List.map_nil, nm16]
            rfl
          · refine List.map_congr_left fun k hk => List.map_congr_left fun t _ => ?_
            dsimp only
            rw [Dl.fit_hd fit st (Nat.le_refl _)]
            by_cases q : Dl.bit (Dl.lft lists (6 ^ 3) s) (lst lists k) = some t
            · rw [if_pos ⟨hk, q⟩, if_pos q]; omega
            · rw [if_neg (fun z => q z.2), if_neg q]; omega
    · have hnil : E = [] := by
        cases hE2 : E with
        | nil => rfl
        | cons t E' => exact absurd ⟨t, (hEm t).mp (hE2 ▸ List.mem_cons_self)⟩ ne
      rw [if_neg (by rw [hnil, List.map_nil]; simp)]
      refine stay (.inr fun l hl => ?_)
      cases e : Dl.bit (Dl.lft lists (6 ^ 3) s) l with
      | none => rfl
      | some t => exact absurd ⟨t, Dl.cnt_pos.mpr ⟨l, hl, e⟩⟩ ne
end
end G
set_option Elab.async false
set_option linter.all false
set_option maxRecDepth 100000
set_option maxHeartbeats 2000000
namespace G
open PySem L2 Evl Pu
section
variable {L : Int} {many : Int}
theorem sums_down_ok (h : 0 < L) (hL : L < 32768) {order : List Int} (hl : order.length ≤ 1000) (ho : ∀ x, x ∈ order → 0 ≤ x ∧ x < many) (F : Int → Int) :
    m_sums_down order ((rngL many).map fun t => nm (F t) L) = .ok ((sums 0 (order.map F)).map fun n => nm n L) := by
  unfold m_sums_down
  rw [comp_map (g := fun x => nm (F x) L) order (fun x hx => by
    dsimp only
    rw [if_pos (show true = true from rfl), grid_at (ho x hx).1 (ho x hx).2, opt_some]), opt_some]
  dsimp only
  rw [show order.map (fun x => nm (F x) L) = (order.map F).map fun n => nm n L by rw [List.map_map]; rfl, running_ok h hL _ (by rw [List.length_map]; exact hl), bind_ok]
  rw [comp_map (g := fun x : A_Part => (x.1, x.2.1)) _ (fun x _ => by
    dsimp only
    rw [if_pos (show true = true from rfl)]
    rfl), opt_some]
  dsimp only
  rw [List.map_map]
  rfl
theorem sums_len : ∀ (ns : List Int) (t : Int), (sums t ns).length = ns.length
  | [], _ => rfl
  | n :: ns, t => by
    show (sums (t + n) ns).length + 1 = _
    rw [sums_len ns (t + n), List.length_cons]
theorem sums_get : ∀ (ns : List Int) (t : Int) (i : Nat), i < ns.length → (sums t ns)[i]? = some (t + (ns.take (i + 1)).sum)
  | [], _, i, h => absurd h (Nat.not_lt_zero _)
  | n :: ns, t, 0, _ => by
    show some (t + n) = _
    rw [List.take_succ_cons, List.take_zero, List.sum_cons, List.sum_nil, Int.add_zero]
  | n :: ns, t, i + 1, h => by
    show (sums (t + n) ns)[i]? = _
    rw [sums_get ns (t + n) i (by rw [List.length_cons] at h; omega), List.take_succ_cons, List.sum_cons, Int.add_assoc]
theorem as_much_ok (h : 0 < L) (hL : L < 32768) {order : List Int} (hl : order.length ≤ 1000) (ho : ∀ x, x ∈ order → 0 ≤ x ∧ x < many) (F G' : Int → Int) (le : ∀ i, i ≤ order.length → ((order.take i).map G').sum ≤ ((order.take i).map F).sum) :
    m_as_much order ((rngL many).map fun t => nm (F t) L) ((rngL many).map fun t => nm (G' t) L) = .ok true := by
  unfold m_as_much
  rw [comp_map (g := fun x => nm (F x) L) order (fun x hx => by
    dsimp only
    rw [if_pos (show true = true from rfl), grid_at (ho x hx).1 (ho x hx).2, opt_some]), opt_some]
  dsimp only
  rw [show order.map (fun x => nm (F x) L) = (order.map F).map fun n => nm n L by rw [List.map_map]; rfl, running_ok h hL _ (by rw [List.length_map]; exact hl), bind_ok]
  rw [comp_map (g := fun x => nm (G' x) L) order (fun x hx => by
    dsimp only
    rw [if_pos (show true = true from rfl), grid_at (ho x hx).1 (ho x hx).2, opt_some]), opt_some]
  dsimp only
  rw [show order.map (fun x => nm (G' x) L) = (order.map G').map fun n => nm n L by rw [List.map_map]; rfl, running_ok h hL _ (by rw [List.length_map]; exact hl), bind_ok]
  rw [comp_map (g := fun _ => false) _ (fun x hx => by
    dsimp only
    rw [if_pos (show true = true from rfl)]
    obtain ⟨i, hi⟩ := List.getElem?_of_mem hx
    rw [List.getElem?_zip_eq_some] at hi
    obtain ⟨h1, h2⟩ := hi
    rw [List.getElem?_map] at h1 h2
    have hlt : i < order.length := by
      have := (List.getElem?_eq_some_iff.mp (show ((sums 0 (order.map F)).map (pt L))[i]? = some x.1 by rw [List.getElem?_map]; exact h1)).1
      rwa [List.length_map, sums_len, List.length_map] at this
    rw [sums_get _ _ _ (by rw [List.length_map]; exact hlt)] at h1 h2
    have e1 : x.1 = pt L (0 + (((order.map F).take (i + 1)).sum)) := (Option.some.inj h1).symm
    have e2 : x.2 = pt L (0 + (((order.map G').take (i + 1)).sum)) := (Option.some.inj h2).symm
    have := le (i + 1) (by omega)
    rw [e1, e2, below_pt h hL, bind_ok, decide_eq_false (by rw [← List.map_take, ← List.map_take]; omega)]), opt_some]
  dsimp only
  rw [show ∀ {α : Type} (xs : List α), ((xs.map fun _ => false).any id) = false from fun xs => by
    induction xs with
    | nil => rfl
    | cons x xs ih => rw [List.map_cons, List.any_cons, ih]; rfl]
  rfl
end
/-! ### who eats of a list's beginning -/
theorem sum_ge {ls : List (List Int)} {L : Nat} {l l' p q : List Int} (e : l = p ++ q) (nd : l.Nodup) : ∀ s, (p.map fun t => Dl.hd ls L l' t s).sum ≤ (p.map fun t => Dl.hd ls L l t s).sum
  | 0 => by
    show (p.map fun _ => 0).sum ≤ (p.map fun _ => 0).sum
    exact Nat.le_refl _
  | s + 1 => by
    have ih := sum_ge (ls := ls) (L := L) (l' := l') e nd s
    show (p.map fun t => Dl.hd ls L l' t s + if Dl.bit (Dl.lft ls L s) l' = some t then 1 else 0).sum ≤ (p.map fun t => Dl.hd ls L l t s + if Dl.bit (Dl.lft ls L s) l = some t then 1 else 0).sum
    rw [Dl.sum_add', Dl.sum_add']
    refine Nat.add_le_add ih ?_
    have ndp : p.Nodup := (List.nodup_append.mp (e ▸ nd)).1
    by_cases hw : ∃ t, t ∈ p ∧ Dl.lft ls L s t ≠ 0
    · have one : (p.map fun t => if Dl.bit (Dl.lft ls L s) l = some t then 1 else 0).sum = 1 := by
        obtain ⟨t, ht, h0⟩ := hw
        have : ∃ u, u ∈ p ∧ Dl.bit (Dl.lft ls L s) l = some u := by
          unfold Dl.bit
          rw [e, List.find?_append]
          cases hf : p.find? (fun t => decide (Dl.lft ls L s t ≠ 0)) with
          | none => exact absurd (decide_eq_true h0) (List.find?_eq_none.mp hf t ht)
          | some u => exact ⟨u, List.mem_of_find?_eq_some hf, rfl⟩
        obtain ⟨u, hu, hb⟩ := this
        rw [hb]
        clear ih ht h0 hb e
        induction p with
        | nil => cases hu
        | cons y p ihp =>
          obtain ⟨n1, n2⟩ := List.nodup_cons.mp ndp
          rw [List.map_cons, List.sum_cons]
          rcases List.mem_cons.mp hu with z | z
          · subst z
            rw [if_pos rfl]
            have : (p.map fun t => if some u = some t then 1 else 0).sum = 0 := by
              rw [List.map_congr_left (g := fun _ => 0) fun t ht => if_neg fun (w : (some u : Option Int) = some t) => n1 (by rw [Option.some.inj w]; exact ht)]
              exact Dl.sum_zero p
            omega
          · rw [if_neg fun (w : (some u : Option Int) = some y) => n1 (by rw [← Option.some.inj w]; exact z), ihp n2 z]
      rw [one]
      exact Dl.one_at ndp
    · have : (p.map fun t => if Dl.bit (Dl.lft ls L s) l' = some t then 1 else 0).sum = 0 := by
        rw [List.map_congr_left (g := fun _ => 0) fun t ht => if_neg fun w => hw ⟨t, ht, (Dl.bit_some w).2⟩]
        exact Dl.sum_zero p
      omega
end G
set_option Elab.async false
set_option linter.all false
set_option maxRecDepth 100000
set_option maxHeartbeats 2000000
namespace G
open PySem L2 Evl Pu
theorem sortPr_same {xs ys : List (Int × Int)} (h : ∀ z, z ∈ xs ↔ z ∈ ys) : PuX.sortPr xs = PuX.sortPr ys := by
  unfold PuX.sortPr
  congr 1
  refine PuU.ups_eq (PuU.set_ups _) (PuU.set_ups _) fun z => ?_
  rw [PuU.set_mem, PuU.set_mem, List.mem_map, List.mem_map]
  exact ⟨fun ⟨q, hq, e⟩ => ⟨q, (h q).mp hq, e⟩, fun ⟨q, hq, e⟩ => ⟨q, (h q).mpr hq, e⟩⟩
theorem sortPr_mem {xs : List (Int × Int)} {z : Int × Int} : z ∈ PuX.sortPr xs ↔ z ∈ xs := by
  unfold PuX.sortPr
  rw [List.mem_map]
  constructor
  · rintro ⟨l, hl, rfl⟩
    obtain ⟨q, hq, e⟩ := List.mem_map.mp (PuU.set_mem.mp hl)
    rw [← e]
    exact hq
  · intro hz
    exact ⟨PuX.prL z, PuU.set_mem.mpr (List.mem_map.mpr ⟨z, hz, rfl⟩), rfl⟩
theorem comp_mapM {α β S : Type} {body : α → S → Pu.Res (List β × S)} {g : α → List β} {s : S} : ∀ (xs : List α), (∀ x, x ∈ xs → body x s = .ok (g x, s)) → compM body xs s = some (xs.flatMap g, s)
  | [], _ => rfl
  | x :: xs, h => by
    have e2 := comp_mapM (body := body) (g := g) (s := s) xs fun y hy => h y (List.mem_cons_of_mem _ hy)
    show (match body x s with
      | .ok (o, s1) => (match compM body xs s1 with
        | some (ys, s2) => some (o ++ ys, s2)
        | none => none)
      | _ => none) = _
    rw [h x List.mem_cons_self]
    dsimp only
    rw [e2]
    rfl
theorem flat_len {α β : Type} {g : α → List β} {m : Nat} : ∀ (xs : List α), (∀ x, x ∈ xs → (g x).length ≤ m) → (xs.flatMap g).length ≤ xs.length * m
  | [], _ => Nat.zero_le _
  | x :: xs, h => by
    have h1 := h x List.mem_cons_self
    have h2 := flat_len xs fun y hy => h y (List.mem_cons_of_mem _ hy)
    rw [List.flatMap_cons, List.length_append, List.length_cons, Nat.succ_mul]
    omega
theorem zip_maps {α β γ : Type} (f : α → β) (g : α → γ) : ∀ xs : List α, List.zip (xs.map f) (xs.map g) = xs.map fun x => (f x, g x)
  | [] => rfl
  | x :: xs => by rw [List.map_cons, List.map_cons, List.zip_cons_cons, zip_maps f g xs]; rfl
theorem nm_pos {p q : Int} (h : 0 < q) : 0 < (nm p q).1 ↔ 0 < p := by
  have := nm_lt (m := 0) (n := p) h
  rw [nm_zero h] at this
  simpa using this
section
variable {lists : List (List Int)} {many L : Int} {F : Int → Int → Int}
def rawK (lists : List (List Int)) (L : Int) (F : Int → Int → Int) (k w : Int) : List (Int × Int) :=
  ((lst lists k).take (pl (lst lists k) (some w))).flatMap fun b => if 0 < F k w then [(b, w)] else []
def raw (lists : List (List Int)) (many L : Int) (F : Int → Int → Int) : List (Int × Int) := (rngL (lists.length : Int)).flatMap fun k => (rngL many).flatMap fun w => rawK lists L F k w
theorem wanted_ok (m0 : 0 ≤ many) (hl : ∀ l, l ∈ lists → l.Nodup ∧ ∀ x, x ∈ l → 0 ≤ x ∧ x < many) (h : 0 < L) (few : (raw lists many L F).length < 64) :
    m_wanted_more lists ((rngL (lists.length : Int)).map fun k => (rngL many).map fun t => nm (F k t) L) = .ok (PuX.sortPr (raw lists many L F)) := by
  unfold m_wanted_more
  rw [show List.zip lists ((rngL (lists.length : Int)).map fun k => (rngL many).map fun t => nm (F k t) L) = (rngL (lists.length : Int)).map fun k => (lst lists k, (rngL many).map fun t => nm (F k t) L) by
    conv => lhs; arg 1; rw [← rng_lst (lists := lists)]
    exact zip_maps _ _ _]
  rw [comp_mapM (g := fun x : List Int × List (Int × Int) => (enumL x.2).flatMap fun w => (x.1.take (pl x.1 (some w.1))).flatMap fun b => if 0 < w.2.1 then [(b, w.1)] else []) _ (fun x hx => by
    obtain ⟨k, hk, rfl⟩ := List.mem_map.mp hx
    obtain ⟨k0, k1⟩ := rngL_mem.mp hk
    have nd := (hl _ (lst_at k0 k1).2).1
    rw [if_pos (show true = true from rfl)]
    dsimp only
    rw [comp_mapM (g := fun w : Int × (Int × Int) => ((lst lists k).take (pl (lst lists k) (some w.1))).flatMap fun b => if 0 < w.2.1 then [(b, w.1)] else []) _ (fun w _ => by
      rw [if_pos (show true = true from rfl)]
      dsimp only
      rw [wish_ok nd, bind_ok]
      have ea := ahead_gen nd (o := some w.1)
      unfold mkW at ea
      rw [ea, bind_ok, comp_mapM (g := fun b => if 0 < w.2.1 then [(b, w.1)] else []) _ (fun b _ => by
        show (if decide (0 < w.2.1) = true then PuX.bkR (α := List (Int × Int)) _ _ else _) = _
        by_cases q : 0 < w.2.1
        · rw [decide_eq_true q, if_pos (show true = true from rfl), if_pos q]; rfl
        · rw [decide_eq_false q, if_neg Bool.false_ne_true, if_neg q]), opt_some]
      rfl), opt_some]
    rfl), opt_some]
  dsimp only
  rw [List.flatMap_map]
  have e : ((rngL (lists.length : Int)).flatMap fun k => (enumL ((rngL many).map fun t => nm (F k t) L)).flatMap fun w => ((lst lists k).take (pl (lst lists k) (some w.1))).flatMap fun b => if 0 < w.2.1 then [(b, w.1)] else []) = raw lists many L F := by
    unfold raw
    refine congrArg (fun g => (rngL (lists.length : Int)).flatMap g) (funext fun k => ?_)
    rw [enum_grid, List.flatMap_map]
    refine congrArg (fun g => (rngL many).flatMap g) (funext fun w => ?_)
    unfold rawK
    refine congrArg (fun g => List.flatMap g _) (funext fun b => ?_)
    dsimp only
    by_cases q : 0 < F k w
    · rw [if_pos q, if_pos ((nm_pos h).mpr q)]
    · rw [if_neg q, if_neg fun z => q ((nm_pos h).mp z)]
  dsimp only at e ⊢
  rw [e, decide_eq_true (by omega), chk_true, if_pos few, opt_some]
end
end G
set_option Elab.async false
set_option linter.all false
set_option maxRecDepth 100000
set_option maxHeartbeats 2000000
namespace G
open PySem L2 Evl Pu
abbrev PPI := (Int × Int) × Int
abbrev RW2 := List (List (Int × Int))
def stA (ns d : List Int) (ls : List (List Int)) (many : Int) (told due : RW2) (ends : List (Int × Int)) : (List Int) × (List Int) × (List (List Int)) × Int × Unit × (List (List (Int × Int))) × (List (List (Int × Int))) × (List (Int × Int)) × Unit × Unit × Unit × Unit × Unit × Unit × Unit × Unit × Unit × Unit × Unit × Unit × Unit := (ns, d, ls, many, (), told, due, ends, (), (), (), (), (), (), (), (), (), (), (), (), ())
def stB (ns d : List Int) (ls : List (List Int)) (many : Int) (told due : RW2) (ends prs : List (Int × Int)) : (List Int) × (List Int) × (List (List Int)) × Int × Unit × (List (List (Int × Int))) × (List (List (Int × Int))) × (List (Int × Int)) × Unit × Unit × Unit × Unit × Unit × (List (Int × Int)) × Unit × Unit × Unit × Unit × Unit × Unit × Unit := (ns, d, ls, many, (), told, due, ends, (), (), (), (), (), prs, (), (), (), (), (), (), ())
theorem law_flat_ok (rows : List (List PPI)) (h : rows.flatten.length ≤ 16777216) : m_law_flat rows = .ok rows.flatten := by
  unfold m_law_flat
  dsimp only
  suffices go : ∀ (rs : List (List PPI)) (acc : List PPI), acc.length + rs.flatten.length ≤ 16777216 → List.foldr (β := (List (List PPI)) × (List PPI) × Unit × Unit → Pu.Res (List PPI)) _ _ rs (rows, acc, (), ()) = .ok (acc ++ rs.flatten) from go rows [] (by rw [List.length_nil]; omega)
  intro rs
  induction rs with
  | nil => intro acc _; rw [List.flatten_nil, List.append_nil]; rfl
  | cons r rs ih =>
    intro acc hl
    rw [List.flatten_cons, List.length_append] at hl
    rw [List.foldr_cons]
    dsimp only
    rw [cat_ok (by omega), opt_some, ih _ (by rw [List.length_append]; omega), List.flatten_cons, List.append_assoc]
section
variable {lists : List (List Int)} {many L : Int} {F : Int → Int → Int} {ns d : List Int} {due : RW2} {ends : List (Int × Int)} {R : Type} {rt : Bool → Pu.Res R}
def toldF (lists : List (List Int)) (many L : Int) (F : Int → Int → Int) : RW2 := (rngL (lists.length : Int)).map fun k => (rngL many).map fun t => nm (F k t) L
def qB (lists : List (List Int)) (k place w : Int) : List PPI := ((lst lists k).take place.toNat).map fun b => ((b, w), (1 : Int))
def qP (lists : List (List Int)) (F : Int → Int → Int) (k place : Int) : List PPI := ((([(lst lists k).getD place.toNat 0].filter fun w => decide (0 < F k w)).map (qB lists k place))).flatten
def qK (lists : List (List Int)) (F : Int → Int → Int) (k : Int) : List PPI := ((rngL ((lst lists k).length : Int)).map (qP lists F k)).flatten
def qA (lists : List (List Int)) (F : Int → Int → Int) : List PPI := ((rngL (lists.length : Int)).map (qK lists F)).flatten
theorem qP_len (k place : Int) : (qP lists F k place).length ≤ (lst lists k).length := by
  unfold qP
  rw [List.filter_cons, List.filter_nil]
  split
  · rw [List.map_cons, List.map_nil, List.flatten_cons, List.flatten_nil, List.append_nil]
    unfold qB
    rw [List.length_map]
    exact List.length_take_le' _ _
  · exact Nat.zero_le _
theorem qK_len (k : Int) : (qK lists F k).length ≤ (lst lists k).length * (lst lists k).length := by
  unfold qK
  rw [← List.flatMap_def]
  refine Nat.le_trans (flat_len (m := (lst lists k).length) _ fun p _ => qP_len k p) ?_
  rw [rngL_len, Int.toNat_natCast]
  exact Nat.le_refl _
theorem qA_len (hl : ∀ k, (lst lists k).length ≤ 4) : (qA lists F).length ≤ lists.length * 16 := by
  unfold qA
  rw [← List.flatMap_def]
  refine Nat.le_trans (flat_len (m := 16) _ fun k _ => Nat.le_trans (qK_len k) (Nat.mul_le_mul (hl k) (hl k))) ?_
  rw [rngL_len, Int.toNat_natCast]
  exact Nat.le_refl _
theorem s5_ok {nx : _ → Pu.Res R} (h : 0 < L) (hn : lists.length ≤ 1000) (hl : ∀ l, l ∈ lists → l.Nodup ∧ ∀ x, x ∈ l → 0 ≤ x ∧ x < many) (h4 : ∀ k, (lst lists k).length ≤ 4) :
    m_law_s5 nx rt (stA ns d lists many (toldF lists many L F) due ends) = nx (stB ns d lists many (toldF lists many L F) due ends (PuX.sortPr ((qA lists F).map fun q => q.1))) := by
  unfold m_law_s5 stA
  dsimp only
  rw [rng_ok (by omega) (by omega), opt_some, comp_map (g := qK lists F) (rngL (lists.length : Int)) (fun k hk => by
    obtain ⟨k0, k1⟩ := rngL_mem.mp hk
    have hm := (hl _ (lst_at k0 k1).2).2
    have hk4 := h4 k
    rw [if_pos (show true = true from rfl)]
    dsimp only
    rw [(lst_at k0 k1).1, opt_some, rng_ok (by omega) (by omega), opt_some, comp_map (g := qP lists F k) (rngL ((lst lists k).length : Int)) (fun place hp => by
      obtain ⟨p0, p1⟩ := rngL_mem.mp hp
      obtain ⟨e1, e2⟩ := at_d (xs := lst lists k) (i := place) 0 p0 p1
      obtain ⟨w0, w1⟩ := hm _ e2
      rw [if_pos (show true = true from rfl)]
      dsimp only
      rw [(lst_at k0 k1).1, opt_some, e1, opt_some, comp_filt (p := fun w => decide (0 < F k w)) (g := qB lists k place) [(lst lists k).getD place.toNat 0] (fun w hw => by
        obtain rfl : w = (lst lists k).getD place.toNat 0 := by simpa using hw
        dsimp only
        unfold toldF
        rw [grid_at k0 k1, opt_some, grid_at w0 w1, opt_some]
        show (if decide (0 < (nm (F k ((lst lists k).getD place.toNat 0)) L).1) = true then _ else _) = _
        by_cases q : 0 < F k ((lst lists k).getD place.toNat 0)
        · rw [decide_eq_true ((nm_pos h).mpr q), if_pos (show true = true from rfl), decide_eq_true q, if_pos (show true = true from rfl)]
          rw [(lst_at k0 k1).1, opt_some, cut_ok _ p0, comp_map (g := fun b => ((b, (lst lists k).getD place.toNat 0), (1 : Int))) _ (fun b _ => by rw [if_pos (show true = true from rfl)]), opt_some]
          rfl
        · rw [decide_eq_false (fun z => q ((nm_pos h).mp z)), if_neg Bool.false_ne_true, decide_eq_false q, if_neg Bool.false_ne_true]), opt_some]
      dsimp only
      have := qP_len (lists := lists) (F := F) k place
      unfold qP at this
      rw [law_flat_ok _ (by omega), bind_ok]
      rfl), opt_some]
    dsimp only
    have := qK_len (lists := lists) (F := F) k
    have h16 := Nat.mul_le_mul hk4 hk4
    unfold qK at this
    rw [law_flat_ok _ (by omega), bind_ok]
    rfl), opt_some]
  dsimp only
  have := qA_len (lists := lists) (F := F) h4
  unfold qA at this
  rw [law_flat_ok _ (by omega), bind_ok]
  rfl
theorem pairs_same (hl : ∀ l, l ∈ lists → l.Nodup ∧ ∀ x, x ∈ l → 0 ≤ x ∧ x < many) (hF : ∀ k, k ∈ rngL (lists.length : Int) → ∀ w, 0 < F k w → w ∈ lst lists k) (z : Int × Int) : z ∈ (qA lists F).map (fun q => q.1) ↔ z ∈ raw lists many L F := by
  unfold raw qA
  rw [← List.flatMap_def, List.mem_map, List.mem_flatMap]
  constructor
  · rintro ⟨q, hq, rfl⟩
    obtain ⟨k, hk, hq⟩ := List.mem_flatMap.mp hq
    obtain ⟨k0, k1⟩ := rngL_mem.mp hk
    obtain ⟨nd, hm⟩ := hl _ (lst_at k0 k1).2
    refine ⟨k, hk, ?_⟩
    unfold qK at hq
    rw [← List.flatMap_def] at hq
    obtain ⟨p, hp, hq⟩ := List.mem_flatMap.mp hq
    obtain ⟨p0, p1⟩ := rngL_mem.mp hp
    obtain ⟨_, e2⟩ := at_d (xs := lst lists k) (i := p) 0 p0 p1
    unfold qP at hq
    rw [List.filter_cons, List.filter_nil] at hq
    split at hq
    · rename_i hd
      rw [List.map_cons, List.map_nil, List.flatten_cons, List.flatten_nil, List.append_nil] at hq
      unfold qB at hq
      obtain ⟨b, hb, rfl⟩ := List.mem_map.mp hq
      refine List.mem_flatMap.mpr ⟨_, rngL_mem.mpr (hm _ e2), ?_⟩
      unfold rawK
      refine List.mem_flatMap.mpr ⟨b, ?_, ?_⟩
      · have hlt : p.toNat < (lst lists k).length := by omega
        show b ∈ (lst lists k).take ((lst lists k).idxOf ((lst lists k).getD p.toNat 0))
        rw [List.getD_eq_getElem?_getD, List.getElem?_eq_getElem hlt, Option.getD_some, nd.idxOf_getElem]
        exact hb
      · rw [if_pos (of_decide_eq_true hd)]
        exact List.mem_cons_self
    · cases hq
  · rintro ⟨k, hk, hq⟩
    obtain ⟨k0, k1⟩ := rngL_mem.mp hk
    obtain ⟨w, hw, hq⟩ := List.mem_flatMap.mp hq
    unfold rawK at hq
    obtain ⟨b, hb, hq⟩ := List.mem_flatMap.mp hq
    split at hq
    · rename_i hd
      obtain rfl : z = (b, w) := by simpa using hq
      have hwl := hF k hk w hd
      have hlt := List.idxOf_lt_length_of_mem hwl
      have eg : (lst lists k).getD (lst lists k |>.idxOf w) 0 = w := by
        rw [List.getD_eq_getElem?_getD, List.getElem?_eq_getElem hlt, Option.getD_some, List.getElem_idxOf]
      refine ⟨((b, w), 1), List.mem_flatMap.mpr ⟨k, hk, ?_⟩, rfl⟩
      unfold qK
      rw [← List.flatMap_def]
      refine List.mem_flatMap.mpr ⟨(((lst lists k).idxOf w : Nat) : Int), rngL_mem.mpr ⟨by omega, by omega⟩, ?_⟩
      unfold qP
      rw [Int.toNat_natCast, eg, List.filter_cons, if_pos (decide_eq_true hd), List.filter_nil, List.map_cons, List.map_nil, List.flatten_cons, List.flatten_nil, List.append_nil]
      unfold qB
      rw [Int.toNat_natCast]
      exact List.mem_map.mpr ⟨b, hb, rfl⟩
    · cases hq
end
end G
set_option Elab.async false
set_option linter.all false
set_option maxRecDepth 100000
set_option maxHeartbeats 2000000
namespace G
open PySem L2 Evl Pu
theorem dget_keys {α : Type} : ∀ {xs : List (Int × α)} {v : Int}, (dget xs v).isSome = true ↔ v ∈ xs.map (·.1)
  | [], _ => by simp [dget]
  | (k, j) :: xs, v => by
    unfold dget
    by_cases e : k = v
    · simp [e]
    · simp only [e, if_false]
      rw [dget_keys (xs := xs), List.map_cons, List.mem_cons]
      exact ⟨.inr, fun h => h.resolve_left fun z => e z.symm⟩
theorem dput_new {α : Type} {xs : List (Int × α)} {v : Int} {i : α} (h : v ∉ xs.map (·.1)) : dput xs v i = xs ++ [(v, i)] := by
  unfold dput
  rw [if_neg]
  intro z
  obtain ⟨q, hq, e⟩ := List.any_eq_true.mp z
  exact h (List.mem_map.mpr ⟨q, hq, of_decide_eq_true e⟩)
theorem dget_app {α : Type} {k j : Int} {v : α} : ∀ {kvs : List (Int × α)}, j ∉ kvs.map Prod.fst → dget (kvs ++ [(j, v)]) k = if k = j then some v else dget kvs k
  | [], _ => by
    show (if j = k then some v else none) = _
    by_cases e : k = j
    · rw [if_pos e, if_pos e.symm]
    · rw [if_neg e, if_neg fun z => e z.symm]; rfl
  | p :: r, h => by
    rw [List.map_cons] at h
    show (if p.1 = k then some p.2 else dget (r ++ [(j, v)]) k) = _
    rw [dget_app fun z => h (List.mem_cons_of_mem _ z)]
    by_cases e : p.1 = k
    · rw [if_pos e]
      have : k ≠ j := fun z => h (by rw [← z, ← e]; exact List.mem_cons_self ..)
      rw [if_neg this]
      show _ = if p.1 = k then some p.2 else dget r k
      rw [if_pos e]
    · rw [if_neg e]
      show _ = if k = j then some v else if p.1 = k then some p.2 else dget r k
      rw [if_neg e]
theorem dget_map {α : Type} {k j : Int} {v : α} : ∀ kvs : List (Int × α), dget (kvs.map fun q => if q.1 = k then (q.1, v) else q) j = if j = k then (if k ∈ kvs.map Prod.fst then some v else none) else dget kvs j
  | [] => by
    by_cases e : j = k
    · rw [if_pos e, if_neg (by simp)]; rfl
    · rw [if_neg e]; rfl
  | q :: r => by
    rw [List.map_cons]
    unfold dget
    rw [dget_map r]
    by_cases hq : q.1 = k
    · rw [if_pos hq]
      dsimp only
      by_cases e : j = k
      · rw [if_pos (by rw [hq, e]), if_pos e, if_pos (by rw [List.map_cons, hq]; exact List.mem_cons_self)]
      · rw [if_neg (fun z => e (by rw [← z, hq])), if_neg e, if_neg e, if_neg (fun z => e (by rw [← z, hq]))]
    · rw [if_neg hq]
      by_cases e : j = k
      · rw [if_neg (fun z => hq (by rw [z, e])), if_pos e, if_pos e]
        by_cases h : k ∈ r.map Prod.fst
        · rw [if_pos h, if_pos (by rw [List.map_cons]; exact List.mem_cons_of_mem _ h)]
        · rw [if_neg h, if_neg (by
            rw [List.map_cons]
            exact fun z => (List.mem_cons.mp z).elim (fun w => hq w.symm) h)]
      · rw [if_neg e, if_neg e]
theorem dget_put {α : Type} (kvs : List (Int × α)) (k : Int) (v : α) (j : Int) : dget (dput kvs k v) j = if j = k then some v else dget kvs j := by
  by_cases h : k ∈ kvs.map Prod.fst
  · have e : dput kvs k v = kvs.map fun q => if q.1 = k then (q.1, v) else q := by
      unfold dput
      obtain ⟨q, hq, e⟩ := List.mem_map.mp h
      exact if_pos (List.any_eq_true.mpr ⟨q, hq, decide_eq_true e⟩)
    rw [e, dget_map kvs, if_pos h]
  · rw [dput_new h, dget_app h]

theorem new_get {ks : List Int} {x : Int} : dget (PuX.newDL Int ks) x = if x ∈ ks then some [] else none := by
  have go : ∀ (ks : List Int) (acc : List (Int × List Int)), dget (dmerge acc (ks.map fun k => (k, ([] : List Int)))) x = if x ∈ ks then some [] else dget acc x := by
    intro ks
    induction ks with
    | nil => intro acc; rw [if_neg List.not_mem_nil]; rfl
    | cons k ks ih =>
      intro acc
      show dget (dmerge (dput acc k []) (ks.map fun k => (k, ([] : List Int)))) x = _
      rw [ih, dget_put]
      by_cases h : x ∈ ks
      · rw [if_pos h, if_pos (List.mem_cons_of_mem _ h)]
      · by_cases e : x = k
        · rw [if_neg h, if_pos e, if_pos (e ▸ List.mem_cons_self)]
        · rw [if_neg h, if_neg e, if_neg fun z => (List.mem_cons.mp z).elim e h]
  exact go ks []
theorem app_get {α : Type} {i j : Int} {y : α} : ∀ W : List (Int × List α), dget (PuX.appDL W i y) j = if j = i then (dget W i).map (fun m => m ++ [y]) else dget W j
  | [] => by split <;> rfl
  | q :: r => by
    unfold PuX.appDL
    by_cases e : q.1 = i
    · rw [if_pos e]
      unfold dget
      dsimp only
      by_cases h : j = i
      · rw [if_pos (by rw [e, h]), if_pos h, if_pos e]; rfl
      · rw [if_neg (fun z => h (by rw [← z, e])), if_neg h, if_neg (fun z => h (by rw [← z, e]))]
    · rw [if_neg e]
      unfold dget
      rw [app_get r]
      by_cases h : j = i
      · rw [if_pos h, if_neg (fun z => e (by rw [z, h])), if_pos h, if_neg e]
      · rw [if_neg h, if_neg h]
theorem keys_ok : ∀ ps : List (Int × Int), PuX.keysD (fun x : Int × Int => .ok [x.1, x.2]) ps = some (ps.flatMap fun x => [x.1, x.2])
  | [] => rfl
  | p :: ps => by
    unfold PuX.keysD
    dsimp only
    rw [keys_ok ps]
    rfl
theorem dd_mem {l : List Int} {x : Int} : x ∈ ddk [] l ↔ x ∈ l := (ddk_mem l [] x).trans ⟨fun h => h.resolve_left List.not_mem_nil, .inr⟩
theorem nodup_dd (l : List Int) : (ddk [] l).Nodup := ddk_nd _ _ List.nodup_nil
theorem dd_len (l : List Int) : (ddk [] l).length ≤ l.length := (nodup_dd l).length_le_of_subset fun _ h => dd_mem.mp h
structure Wy (K : List Int) (ps : List (Int × Int)) (W : List (Int × List Int)) : Prop where
  g : ∀ x, x ∈ K → ∃ ys, dget W x = some ys ∧ ys.length ≤ ps.length ∧ ∀ y, y ∈ ys → (x, y) ∈ ps
section
variable {K : List Int} {ps : List (Int × Int)} {W : List (Int × List Int)} {τ : Int → Nat}
theorem reached_ok (H : Wy K ps W) (hK : K.Nodup) (hn : K.length ≤ 1000) (up : ∀ p, p ∈ ps → p.1 ∈ K ∧ p.2 ∈ K ∧ τ p.1 < τ p.2) {s : Int} (hs : s ∈ K) : ∃ c, m_reached_from W s = .ok c ∧ ∀ x, (dget c x).isSome = true → τ s ≤ τ x := by
  unfold m_reached_from
  dsimp only
  obtain ⟨fu, hfu⟩ : ∃ fu : Nat, fu = 100000 := ⟨_, rfl⟩
  rw [← hfu]
  refine whl_q (P := fun z => ∃ c, z = Pu.Res.ok c ∧ ∀ x, (dget c x).isSome = true → τ s ≤ τ x) (I := fun f r => ∃ (came : List (Int × Option Int)) (wt : List Int), r = (W, s, came, wt, (), (), ()) ∧ (came.map (·.1)).Nodup ∧ (∀ x, x ∈ came.map (·.1) → x ∈ K ∧ τ s ≤ τ x) ∧ (∀ x, x ∈ wt → x ∈ came.map (·.1)) ∧ wt.length + K.length < f + came.length ∧ wt.length ≤ came.length)
    (fun f r i k hk => ?_) (fun r ⟨came, wt, _, h1, h2, _, h4, _⟩ => ?_) fu _ ⟨[(s, none)], [s], rfl, by simp, fun x hx => ?_, fun x hx => hx, by simp; omega, Nat.le_refl _⟩
  · obtain ⟨came, wt, rfl, h1, h2, h3, h4, h5⟩ := i
    have hc : came.length ≤ K.length := by
      have := h1.length_le_of_subset (l₂ := K) fun x hx => (h2 x hx).1
      rwa [List.length_map] at this
    dsimp only
    cases wt with
    | nil =>
      rw [if_neg (by simp), decide_eq_true (by omega), chk_true]
      exact ⟨came, rfl, fun x hx => (h2 x (dget_keys.mp hx)).2⟩
    | cons o wt =>
      rw [if_pos (by simp), List.head?_cons, opt_some]
      have ho := h2 o (h3 o List.mem_cons_self)
      obtain ⟨ys, e1, e2, e3⟩ := H.g o ho.1
      rw [e1, opt_some]
      refine fold_q (Q := fun z => ∃ c, z = Pu.Res.ok c ∧ ∀ x, (dget c x).isSome = true → τ s ≤ τ x) (I := fun _ r => ∃ (came' : List (Int × Option Int)) (wt' : List Int), r = (W, s, came', wt', o, (), ()) ∧ (came'.map (·.1)).Nodup ∧ (∀ x, x ∈ came'.map (·.1) → x ∈ K ∧ τ s ≤ τ x) ∧ (∀ x, x ∈ wt' → x ∈ came'.map (·.1)) ∧ wt'.length + K.length < f + came'.length ∧ wt'.length ≤ came'.length)
        (fun pre x post epre r i k2 hk2 => ?_) ⟨came, wt, rfl, h1, h2, fun x hx => h3 x (List.mem_cons_of_mem _ hx), by rw [List.length_cons] at h4; omega, by rw [List.length_cons] at h5; omega⟩ (fun r i => ?_)
      · obtain ⟨came', wt', rfl, g1, g2, g3, g4, g5⟩ := i
        dsimp only
        have hx : x ∈ ys := by rw [epre]; simp
        obtain ⟨_, u2, u3⟩ := up _ (e3 x hx)
        have u2 : x ∈ K := u2
        have u3 : τ o < τ x := u3
        have hc' : came'.length ≤ K.length := by
          have := g1.length_le_of_subset (l₂ := K) fun x hx => (g2 x hx).1
          rwa [List.length_map] at this
        by_cases q : (dget came' x).isSome = true
        · rw [q, if_neg (by decide)]
          exact hk2 _ ⟨came', wt', rfl, g1, g2, g3, g4, g5⟩
        · have hxn : x ∉ came'.map (·.1) := fun z => q (dget_keys.mpr z)
          have e0 : (dget came' x).isSome = false := Bool.eq_false_iff.mpr q
          rw [e0, if_pos (by decide), decide_eq_true (by omega), chk_true, decide_eq_true (by omega), chk_true, dput_new hxn]
          refine hk2 _ ⟨came' ++ [(x, some o)], wt' ++ [x], rfl, ?_, fun z hz => ?_, fun z hz => ?_, ?_, ?_⟩
          · rw [List.map_append]
            exact List.nodup_append.mpr ⟨g1, by simp, fun a ha b hb e => hxn (by rw [show b = x by simpa using hb] at e; exact e ▸ ha)⟩
          · rw [List.map_append] at hz
            rcases List.mem_append.mp hz with w | w
            · exact g2 z w
            · rw [show z = x by simpa using w]
              exact ⟨u2, by have := ho.2; omega⟩
          · rw [List.map_append]
            rcases List.mem_append.mp hz with w | w
            · exact List.mem_append_left _ (g3 z w)
            · exact List.mem_append_right _ (by simpa using w)
          · rw [List.length_append, List.length_append, List.length_singleton, List.length_singleton]; omega
          · rw [List.length_append, List.length_append, List.length_singleton, List.length_singleton]; omega
      · obtain ⟨came', wt', rfl, g1, g2, g3, g4, g5⟩ := i
        exact hk _ ⟨came', wt', rfl, g1, g2, g3, g4, g5⟩
  · have hc : came.length ≤ K.length := by
      have := h1.length_le_of_subset (l₂ := K) fun x hx => (h2 x hx).1
      rwa [List.length_map] at this
    omega
  · rw [show x = s by simpa using hx]
    exact ⟨hs, Nat.le_refl _⟩
theorem tight_ok {lists : List (List Int)} {rows : List (List (Int × Int))} (hw : m_wanted_more lists rows = .ok ps) (up : ∀ p, p ∈ ps → τ p.1 < τ p.2) (hn : ps.length ≤ 100) : m_is_tight lists rows = .ok true := by
  unfold m_is_tight
  rw [hw, bind_ok, keys_ok, opt_some]
  have hl : (ps.flatMap fun x => [x.1, x.2]).length ≤ ps.length * 2 := flat_len ps fun x _ => Nat.le_refl _
  rw [decide_eq_true (by omega), chk_true]
  dsimp only
  generalize hK : (ps.flatMap fun x => [x.1, x.2]) = K0 at hl
  have hin : ∀ p, p ∈ ps → p.1 ∈ K0 ∧ p.2 ∈ K0 := fun p hp => by
    rw [← hK]
    exact ⟨List.mem_flatMap.mpr ⟨p, hp, List.mem_cons_self⟩, List.mem_flatMap.mpr ⟨p, hp, List.mem_cons_of_mem _ List.mem_cons_self⟩⟩
  refine fold_q (Q := fun z => z = Pu.Res.ok true) (I := fun pre r => ∃ W, r = (lists, rows, ps, W, (), (), (), (), ()) ∧ Wy K0 pre W) (fun pre x post epre r i k hk => ?_) ⟨_, rfl, ⟨fun x hx => ⟨[], by rw [new_get, if_pos hx], Nat.le_refl _, fun y hy => nomatch hy⟩⟩⟩ (fun r i => ?_)
  · obtain ⟨W, rfl, H⟩ := i
    dsimp only
    have hx : x ∈ ps := by rw [epre]; simp
    have hpl : pre.length ≤ ps.length := by rw [epre, List.length_append]; omega
    obtain ⟨ys, e1, e2, e3⟩ := H.g x.1 (hin x hx).1
    rw [e1, opt_some, decide_eq_true (by omega), chk_true]
    refine hk _ ⟨_, rfl, ⟨fun z hz => ?_⟩⟩
    rw [app_get]
    by_cases q : z = x.1
    · rw [if_pos q, e1]
      refine ⟨ys ++ [x.2], rfl, by rw [List.length_append, List.length_append, List.length_singleton, List.length_singleton]; omega, fun y hy => ?_⟩
      rcases List.mem_append.mp hy with w | w
      · exact List.mem_append_left _ (q ▸ e3 y w)
      · rw [show y = x.2 by simpa using w, q]
        exact List.mem_append_right _ (by simp)
    · rw [if_neg q]
      obtain ⟨zs, f1, f2, f3⟩ := H.g z hz
      exact ⟨zs, f1, by rw [List.length_append]; omega, fun y hy => List.mem_append_left _ (f3 y hy)⟩
  · obtain ⟨W, rfl, H⟩ := i
    dsimp only
    have Hd : Wy (ddk [] K0) ps W := ⟨fun x hx => H.g x (dd_mem.mp hx)⟩
    rw [comp_map (g := fun _ => false) ps (fun p hp => by
      rw [if_pos (show true = true from rfl)]
      dsimp only
      obtain ⟨c, ec, hc⟩ := reached_ok (τ := τ) (s := p.2) Hd (nodup_dd K0) (by have := dd_len K0; omega) (fun q hq => ⟨dd_mem.mpr (hin q hq).1, dd_mem.mpr (hin q hq).2, up q hq⟩) (dd_mem.mpr (hin p hp).2)
      rw [ec, bind_ok]
      have : (dget c p.1).isSome = false := Bool.eq_false_iff.mpr fun z => by
        have h1 := hc _ z
        have h2 := up p hp
        omega
      rw [this]), opt_some]
    dsimp only
    rw [show ∀ {α : Type} (xs : List α), ((xs.map fun _ => false).any id) = false from fun xs => by
      induction xs with
      | nil => rfl
      | cons x xs ih => rw [List.map_cons, List.any_cons, ih]; rfl]
    rfl
end
end G
set_option Elab.async false
set_option linter.all false
set_option maxRecDepth 100000
set_option maxHeartbeats 2000000
namespace G
open PySem L2 Evl Pu
theorem nm_add {L : Int} (h : 0 < L) (S x : Int) : nm ((nm S L).1 * (nm x L).2 + (nm x L).1 * (nm S L).2) ((nm S L).2 * (nm x L).2) = nm (S + x) L := by
  have e1 := nm_cross (p := S) h
  have e2 := nm_cross (p := x) h
  have l1 := (nm_low (p := S) h).1
  have l2 := (nm_low (p := x) h).1
  refine nm_eq (Int.mul_pos l1 l2) h ?_
  rw [Int.add_mul, Int.mul_right_comm (nm S L).1, e1, Int.mul_right_comm (nm x L).1, e2, Int.add_mul, Int.mul_assoc, Int.mul_assoc, Int.mul_comm (nm x L).2 (nm S L).2]
theorem rng_at {n : Int} {pre post : List Int} {x : Int} (e : rngL n = pre ++ x :: post) : x = (pre.length : Int) := by
  have h1 : (rngL n)[pre.length]? = some x := by rw [e, List.getElem?_append_right (Nat.le_refl _), Nat.sub_self]; rfl
  unfold rngL at h1
  rw [List.getElem?_map] at h1
  have hl : pre.length < n.toNat := by
    have := congrArg List.length e
    rw [rngL_len, List.length_append, List.length_cons] at this
    omega
  rw [List.getElem?_range hl] at h1
  exact (Option.some.inj h1).symm
section
variable {lists : List (List Int)} {many L : Int} {F : Int → Int → Int} {ns d : List Int} {due : RW2} {ends : List (Int × Int)} {R : Type} {rt : Bool → Pu.Res R}
theorem s3_ok {nx : _ → Pu.Res R} (h : 0 < L) (hL : L ≤ 216) (hn : lists.length ≤ 1000) (hl : ∀ l, l ∈ lists → l.Nodup ∧ ∀ x, x ∈ l → 0 ≤ x ∧ x < many) (h4 : ∀ k, (lst lists k).length ≤ 4)
    (le : ∀ j, j ∈ rngL (lists.length : Int) → ∀ k, k ∈ rngL (lists.length : Int) → ∀ i, i ≤ (lst lists j).length → (((lst lists j).take i).map (F k)).sum ≤ (((lst lists j).take i).map (F j)).sum) :
    m_law_s3 nx rt (stA ns d lists many (toldF lists many L F) due ends) = nx (stA ns d lists many (toldF lists many L F) due ends) := by
  unfold m_law_s3 stA
  dsimp only
  rw [rng_ok (by omega) (by omega), opt_some]
  refine fold_t (T := Unit) (fun _ => (ns, d, lists, many, (), toldF lists many L F, due, ends, (), (), (), (), (), (), (), (), (), (), (), (), ())) (fun u _ => u) (rngL (lists.length : Int)) () (fun j hj _ k => ?_)
  obtain ⟨j0, j1⟩ := rngL_mem.mp hj
  have hm := (hl _ (lst_at j0 j1).2).2
  have hj4 := h4 j
  have at2 : ∀ i, i ∈ rngL (lists.length : Int) → L2.atI (toldF lists many L F) i = some ((rngL many).map fun t => nm (F i t) L) := fun i hi => grid_at (rngL_mem.mp hi).1 (rngL_mem.mp hi).2
  dsimp only
  rw [(lst_at j0 j1).1, opt_some, at2 j hj, opt_some, sums_down_ok h (by omega) (by omega) hm, bind_ok, opt_some, rng_ok (by omega) (by omega), opt_some]
  refine fold_q (Q := fun z => z = k (ns, d, lists, many, (), toldF lists many L F, due, ends, (), (), (), (), (), (), (), (), (), (), (), (), ()))
    (I := fun pre r => r = (ns, d, lists, many, (), toldF lists many L F, due, ends, j, (sums 0 ((lst lists j).map (F j))).map (fun n => nm n L), nm ((((lst lists j).take pre.length).map (F j)).sum) L, (), (), (), (), (), (), (), (), (), ()))
    (fun pre x post epre r i k2 hk2 => ?_) (by rw [List.length_nil, List.take_zero, List.map_nil, List.sum_nil, nm_zero h]) (fun r i => ?_)
  · subst i
    have ex := rng_at epre
    have hx : x ∈ rngL ((lst lists j).length : Int) := by rw [epre]; simp
    obtain ⟨x0, x1⟩ := rngL_mem.mp hx
    obtain ⟨e1, e2⟩ := at_d (xs := lst lists j) (i := x) 0 x0 x1
    obtain ⟨w0, w1⟩ := hm _ e2
    have hlt : pre.length < (lst lists j).length := by omega
    generalize hw : (lst lists j).getD x.toNat 0 = w at e1 e2 w0 w1
    have l1 := nm_low (p := (((lst lists j).take pre.length).map (F j)).sum) h
    have l2 := nm_low (p := F j w) h
    dsimp only
    rw [at2 j hj, opt_some, (lst_at j0 j1).1, opt_some, e1, opt_some, grid_at w0 w1, opt_some]
    refine (opt_some _ _).trans ?_
    refine (opt_some _ _).trans ?_
    rw [mulR l2.1 (by omega), opt_some]
    refine (opt_some _ _).trans ?_
    refine (opt_some _ _).trans ?_
    rw [mulR l1.1 (by omega), opt_some]
    refine (opt_some _ _).trans ?_
    refine (opt_some _ _).trans ?_
    have hq : (nm ((((lst lists j).take pre.length).map (F j)).sum) L).2 * (nm (F j w) L).2 ≤ 216 * 216 := Int.mul_le_mul (by omega) (by omega) (by omega) (by omega)
    rw [mulR l2.1 (by omega), opt_some, small_ok (Int.mul_pos l1.1 l2.1) (by omega), bind_ok, nm_add h]
    have ed : L2.atI ((sums 0 ((lst lists j).map (F j))).map fun n => nm n L) x = some (nm ((((lst lists j).take (pre.length + 1)).map (F j)).sum) L) := by
      unfold L2.atI
      rw [List.length_map, sums_len, List.length_map, ixN_in x0 x1]
      show ((sums 0 ((lst lists j).map (F j))).map fun n => nm n L)[x.toNat]? = _
      rw [ex, Int.toNat_natCast, List.getElem?_map, sums_get _ _ _ (by rw [List.length_map]; exact hlt), Int.zero_add, ← List.map_take]
      rfl
    have es : (((lst lists j).take (pre.length + 1)).map (F j)).sum = (((lst lists j).take pre.length).map (F j)).sum + F j w := by
      have : (lst lists j)[pre.length]? = some w := by
        rw [← hw, ex, Int.toNat_natCast, List.getD_eq_getElem?_getD, List.getElem?_eq_getElem hlt]; rfl
      rw [List.take_add_one, this, List.map_append, List.sum_append]
      simp
    rw [ed, opt_some, ← es, decide_eq_true rfl, if_neg (by decide)]
    exact hk2 _ (by rw [List.length_append, List.length_singleton])
  · subst i
    dsimp only
    rw [rng_ok (by omega) (by omega), opt_some]
    refine fold_t (T := Unit) (fun _ => (ns, d, lists, many, (), toldF lists many L F, due, ends, j, (sums 0 ((lst lists j).map (F j))).map (fun n => nm n L), nm ((((lst lists j).take (rngL ((lst lists j).length : Int)).length).map (F j)).sum) L, (), (), (), (), (), (), (), (), (), ())) (fun u _ => u) (rngL (lists.length : Int)) () (fun i hi _ k3 => ?_)
    dsimp only
    rw [(lst_at j0 j1).1, opt_some, at2 j hj, opt_some, at2 i hi, opt_some, as_much_ok h (by omega) (by omega) hm _ _ (le j hj i hi), bind_ok, if_neg (by decide)]
theorem s7_ok {nx : _ → Pu.Res R} {prs : List (Int × Int)} (h : 0 < L) (hL : L ≤ 216) (m0 : 0 ≤ many) (m1 : many ≤ 1000) (hn : lists.length ≤ 1000) (le : ∀ t, t ∈ rngL many → ((rngL (lists.length : Int)).map fun k => F k t).sum ≤ L) :
    m_law_s7 nx rt (stB ns d lists many (toldF lists many L F) due ends prs) = nx (stB ns d lists many (toldF lists many L F) due ends prs) := by
  unfold m_law_s7 stB
  dsimp only
  rw [rng_ok m0 (by omega), opt_some]
  refine fold_t (T := Unit) (fun _ => (ns, d, lists, many, (), toldF lists many L F, due, ends, (), (), (), (), (), prs, (), (), (), (), (), (), ())) (fun u _ => u) (rngL many) () (fun t ht _ k => ?_)
  obtain ⟨t0, t1⟩ := rngL_mem.mp ht
  dsimp only
  unfold toldF
  rw [whole_ok h (by omega) (by omega) F t0 t1, bind_ok]
  have := nm_lt (m := L) (n := ((rngL (lists.length : Int)).map fun k => F k t).sum) h
  rw [nm_one h] at this
  have hle := le t ht
  rw [decide_eq_false (fun z => by
    have z2 := this.mp (by simpa using z)
    omega), if_neg Bool.false_ne_true]
end
end G
set_option Elab.async false
set_option linter.all false
set_option maxRecDepth 100000
set_option maxHeartbeats 2000000
namespace G
open PySem L2 Evl Pu
def gone (lists : List (List Int)) (L : Nat) (t : Int) : Nat := ((List.range L).filter fun r => decide (Dl.lft lists L r t ≠ 0)).length
theorem gone_le {lists : List (List Int)} {L r : Nat} {t : Int} (h : Dl.lft lists L r t = 0) : gone lists L t ≤ r := by
  unfold gone
  have := ((List.nodup_range (n := L)).sublist (List.filter_sublist (p := fun r => decide (Dl.lft lists L r t ≠ 0)))).length_le_of_subset (l₂ := List.range r) fun q hq => by
    obtain ⟨_, h2⟩ := List.mem_filter.mp hq
    rw [List.mem_range]
    rcases Nat.lt_or_ge q r with z | z
    · exact z
    · exact absurd (Dl.lft_zero z h) (of_decide_eq_true h2)
  rwa [List.length_range] at this
theorem gone_gt {lists : List (List Int)} {L r : Nat} {t : Int} (hr : r < L) (h : Dl.lft lists L r t ≠ 0) : r < gone lists L t := by
  unfold gone
  have := (List.nodup_range (n := r + 1)).length_le_of_subset (l₂ := (List.range L).filter fun r => decide (Dl.lft lists L r t ≠ 0)) fun q hq => by
    rw [List.mem_range] at hq
    refine List.mem_filter.mpr ⟨List.mem_range.mpr (by omega), decide_eq_true fun z => h (Dl.lft_zero (by omega) z)⟩
  rw [List.length_range] at this
  omega
theorem gone_lt {lists : List (List Int)} {L : Nat} {l : List Int} (nd : l.Nodup) {b w : Int} (hb : b ∈ l.take (l.idxOf w)) (h : 0 < Dl.hd lists L l w L) : gone lists L b < gone lists L w := by
  obtain ⟨r, hr, e⟩ := Dl.hd_when L h
  have hw := (Dl.bit_some e).1
  have hlt := List.idxOf_lt_length_of_mem hw
  obtain ⟨as, bs, e1⟩ := List.append_of_mem hb
  have e2 : l = as ++ b :: (bs ++ l.drop (l.idxOf w)) := by
    conv => lhs; rw [← List.take_append_drop (l.idxOf w) l, e1]
    rw [List.append_assoc, List.cons_append]
  have hwd : w ∈ l.drop (l.idxOf w) := by
    rw [List.drop_eq_getElem_cons hlt, List.getElem_idxOf]
    exact List.mem_cons_self
  have h0 := Dl.ahead_gone e2 (List.mem_append_right _ hwd) nd e
  have h1 := gone_le h0
  have h2 := gone_gt hr (Dl.bit_some e).2
  omega
section
variable {lists : List (List Int)} {ns : List Int} {rt : Bool → Pu.Res Bool} {a b c : Int} {Q : Pu.Res Bool → Prop}
def Fr (lists : List (List Int)) (k t : Int) : Int := ((Dl.hd lists (6 ^ 3) (lst lists k) t (6 ^ 3) : Nat) : Int)
abbrev L6 : Int := ((6 ^ 3 : Nat) : Int)
structure D9 (lists : List (List Int)) : Prop where
  n : lists.length ≤ 3
  l : ∀ l, l ∈ lists → l.Nodup ∧ ∀ x, x ∈ l → 0 ≤ x ∧ x < 4
theorem D9.pl (H : D9 lists) : Pl lists 4 6 3 := ⟨by decide, by decide, H.l, by have := H.n; omega, by decide, fun c h1 h2 => by
  have := H.n
  have : c = 1 ∨ c = 2 ∨ c = 3 := by omega
  rcases this with rfl | rfl | rfl <;> decide, H.n, by decide⟩
theorem D9.four (H : D9 lists) (k : Int) : (lst lists k).length ≤ 4 := by
  by_cases hk : k.toNat < lists.length
  · have hm : lst lists k ∈ lists := by
      unfold lst
      rw [List.getD_eq_getElem?_getD, List.getElem?_eq_getElem hk]
      exact List.getElem_mem _
    obtain ⟨nd, hx⟩ := H.l _ hm
    have := nd.length_le_of_subset (l₂ := rngL 4) fun x h => rngL_mem.mpr (hx x h)
    rwa [rngL_len] at this
  · unfold lst
    rw [List.getD_eq_getElem?_getD, List.getElem?_eq_none (by omega)]
    exact Nat.zero_le _
theorem s0_q {nx : _ → Pu.Res Bool} (a b c : Int) (h : ∀ a b c lists, D9 lists → Q (nx (ns, [a, b, c], lists, 4, (), (), (), (), (), (), (), (), (), (), (), (), (), (), (), (), ()))) : Q (m_law_s0 nx rt (ns, [a, b, c], (), (), (), (), (), (), (), (), (), (), (), (), (), (), (), (), (), (), ())) := by
  unfold m_law_s0
  dsimp only
  obtain ⟨x, a1, b1, c1, e1, x0, x1⟩ := roll_ok a b c 3 (by decide) (by decide)
  rw [e1, bind_ok, rng_ok (by omega) (by omega), opt_some]
  refine comp_all_q (I := fun s => ∃ a b c : Int, s = (ns, [a, b, c], (), (), (), (), (), (), (), (), (), (), (), (), (), (), (), (), (), (), ())) (P := fun l : List Int => l.Nodup ∧ ∀ x, x ∈ l → 0 ≤ x ∧ x < 4) (fun y s i => ?_) ⟨a1, b1, c1, rfl⟩ (fun ys s hl hp i => ?_)
  · obtain ⟨a, b, c, rfl⟩ := i
    obtain ⟨l, a', b', c', e, h1, h2⟩ := list_ok a b c 4 (by decide) (by decide)
    refine ⟨l, _, ?_, ⟨h1, h2⟩, a', b', c', rfl⟩
    rw [if_pos (show true = true from rfl)]
    dsimp only
    rw [e, bind_ok]
  · obtain ⟨a, b, c, rfl⟩ := i
    refine h a b c ys ⟨by rw [hl, rngL_len]; omega, hp⟩
theorem s1_e {nx : _ → Pu.Res Bool} (H : D9 lists) : m_law_s1 nx rt (ns, [a, b, c], lists, 4, (), (), (), (), (), (), (), (), (), (), (), (), (), (), (), (), ()) = nx (stA ns [a, b, c] lists 4 (toldF lists 4 L6 (Fr lists)) (toldF lists 4 L6 (Fr lists)) ((Dl.evs lists (6 ^ 3) (6 ^ 3)).map fun e => nm ((e : Nat) : Int) L6)) := by
  unfold m_law_s1
  dsimp only
  rw [shares_ok H.pl, bind_ok, law_eaten_ok H.pl, bind_ok]
  rfl
theorem s2_e {nx : _ → Pu.Res Bool} (H : D9 lists) : m_law_s2 nx rt (stA ns [a, b, c] lists 4 (toldF lists 4 L6 (Fr lists)) (toldF lists 4 L6 (Fr lists)) ((Dl.evs lists (6 ^ 3) (6 ^ 3)).map fun e => nm ((e : Nat) : Int) L6)) = nx (stA ns [a, b, c] lists 4 (toldF lists 4 L6 (Fr lists)) (toldF lists 4 L6 (Fr lists)) ((Dl.evs lists (6 ^ 3) (6 ^ 3)).map fun e => nm ((e : Nat) : Int) L6)) := by
  unfold m_law_s2 stA
  dsimp only
  rw [decide_eq_true rfl, if_neg (by decide), times_ok H.pl, bind_ok, decide_eq_true rfl]
  rfl
theorem few (H : D9 lists) : (raw lists 4 L6 (Fr lists)).length ≤ 48 := by
  unfold raw
  refine Nat.le_trans (flat_len (m := 16) _ fun k _ => ?_) ?_
  · refine Nat.le_trans (flat_len (m := 4) _ fun w _ => ?_) (by rw [rngL_len]; decide)
    unfold rawK
    refine Nat.le_trans (flat_len (m := 1) _ fun b _ => by
      split
      · exact Nat.le_refl _
      · exact Nat.zero_le _) ?_
    have := H.four k
    have := List.length_take_le' (pl (lst lists k) (some w)) (lst lists k)
    omega
  · have := H.n
    rw [rngL_len]
    omega
theorem wanted9 (H : D9 lists) : m_wanted_more lists (toldF lists 4 L6 (Fr lists)) = .ok (PuX.sortPr (raw lists 4 L6 (Fr lists))) := wanted_ok (by decide) H.l (by decide) (by have := few H; omega)
theorem tight9 (H : D9 lists) : m_is_tight lists (toldF lists 4 L6 (Fr lists)) = .ok true := by
  refine tight_ok (τ := gone lists (6 ^ 3)) (wanted9 H) (fun p hp => ?_) ?_
  · have hp := sortPr_mem.mp hp
    unfold raw at hp
    obtain ⟨k, hk, hp⟩ := List.mem_flatMap.mp hp
    obtain ⟨w, hw, hp⟩ := List.mem_flatMap.mp hp
    unfold rawK at hp
    obtain ⟨b, hb, hp⟩ := List.mem_flatMap.mp hp
    obtain ⟨k0, k1⟩ := rngL_mem.mp hk
    split at hp
    · rename_i hd
      obtain rfl : p = (b, w) := by simpa using hp
      refine gone_lt (H.l _ (lst_at k0 k1).2).1 hb ?_
      unfold Fr at hd
      show 0 < Dl.hd lists (6 ^ 3) (lst lists k) w (6 ^ 3)
      omega
    · cases hp
  · unfold PuX.sortPr
    rw [List.length_map]
    have h1 : ∀ xs : List (List Int), (PuU.setS xs).length ≤ xs.length := fun xs => by
      have ins : ∀ (x : List Int) (ys : List (List Int)), (PuU.insS x ys).length ≤ ys.length + 1 := fun x ys => by
        induction ys with
        | nil => exact Nat.le_refl _
        | cons y ys ih =>
          unfold PuU.insS
          split
          · omega
          · split
            · exact Nat.le_refl _
            · rw [List.length_cons, List.length_cons]; omega
      induction xs with
      | nil => exact Nat.le_refl _
      | cons x xs ih =>
        have := ins x (PuU.setS xs)
        show (PuU.insS x (PuU.setS xs)).length ≤ _
        rw [List.length_cons]
        omega
    have := h1 ((raw lists 4 L6 (Fr lists)).map PuX.prL)
    rw [List.length_map] at this
    have := few H
    omega
theorem sumI {α : Type} (f : α → Nat) : ∀ xs : List α, (xs.map fun x => ((f x : Nat) : Int)).sum = (((xs.map f).sum : Nat) : Int)
  | [] => rfl
  | x :: xs => by rw [List.map_cons, List.map_cons, List.sum_cons, List.sum_cons, Int.natCast_add, sumI f xs]
theorem le9 (H : D9 lists) : ∀ j, j ∈ rngL (lists.length : Int) → ∀ k, k ∈ rngL (lists.length : Int) → ∀ i, i ≤ (lst lists j).length → (((lst lists j).take i).map (Fr lists k)).sum ≤ (((lst lists j).take i).map (Fr lists j)).sum := fun j hj k _ i _ => by
  obtain ⟨j0, j1⟩ := rngL_mem.mp hj
  unfold Fr
  rw [sumI, sumI]
  exact Int.ofNat_le.mpr (sum_ge (List.take_append_drop i (lst lists j)).symm (H.l _ (lst_at j0 j1).2).1 _)
theorem whole9 (H : D9 lists) : ∀ t, t ∈ rngL 4 → ((rngL (lists.length : Int)).map fun k => Fr lists k t).sum ≤ L6 := fun t _ => by
  obtain ⟨_, _, x⟩ := eaten_ok H.pl
  have := Dl.kept x t
  unfold Dl.all at this
  unfold Fr
  have e : lists.map (fun l => Dl.hd lists (6 ^ 3) l t (6 ^ 3)) = (rngL (lists.length : Int)).map fun k => Dl.hd lists (6 ^ 3) (lst lists k) t (6 ^ 3) := by
    have := congrArg (List.map fun l => Dl.hd lists (6 ^ 3) l t (6 ^ 3)) (rng_lst (lists := lists))
    rw [List.map_map] at this
    exact this.symm
  rw [sumI, ← e]
  exact Int.ofNat_le.mpr (by omega)
end
theorem law_yes (ns : List Int) : m_law ns = .ok true := by
  obtain ⟨a, b, c, e0⟩ := rounds_ok ns
  unfold m_law
  dsimp only
  rw [e0, bind_ok]
  refine s0_q (Q := fun z => z = .ok true) a b c fun a b c lists H => ?_
  have hn := H.n
  have hF : ∀ k, k ∈ rngL (lists.length : Int) → ∀ w, 0 < Fr lists k w → w ∈ lst lists k := fun k _ w h => by
    by_cases q : w ∈ lst lists k
    · exact q
    · unfold Fr at h
      rw [Dl.hd_mem q] at h
      exact absurd h (by decide)
  rw [s1_e H, s2_e H, s3_ok (by decide) (by decide) (by omega) H.l H.four (le9 H)]
  unfold m_law_s4 stA
  dsimp only
  rw [tight9 H, bind_ok, if_neg (by decide)]
  refine (s5_ok (L := L6) (F := Fr lists) (by decide) (by omega) H.l H.four).trans ?_
  unfold m_law_s6 stB
  dsimp only
  rw [wanted9 H, bind_ok, sortPr_same (pairs_same (L := L6) (many := 4) H.l hF), decide_eq_true rfl, if_neg (by decide)]
  refine (s7_ok (L := L6) (F := Fr lists) (by decide) (by decide) (by decide) (by decide) (by omega) (whole9 H)).trans ?_
  kernel_rfl
end G
set_option Elab.async false
set_option linter.all false
set_option maxRecDepth 100000
set_option maxHeartbeats 0
namespace G
open PySem PySem.Spec PyProof.Rows L2 Evl Pu
theorem law_true (ns : List Int) (hl : ns.length ≤ 63) : m_law ns = .ok true := law_yes ns
def loose : List PySem.Str := "_wall" :: "__name__" :: "MarketFault" :: "BadWish" :: "BadSize" :: "reached_from" :: "Wish" :: "check_list" :: "NONE" :: "shared" :: "Part" :: "Meal" :: "eaten" :: "shares" :: "times" :: "running" :: "sums_down" :: "as_much" :: "wanted_more" :: "is_tight" :: "whole_of" :: "_law_flat" :: "_law_dice" :: "_law_roll" :: "_law_rounds" :: "_law_list" :: "_law_gcd" :: "_law_small" :: "_law_eaten" :: []
abbrev R : PySem.W.OpenRow := PySem.W.OpenLaw.row PySem.Challenge.rw_pairmart_k19_chances_by_eating
abbrev hk : PySem.W.Hook := He.hookX 4 fa fn [] [] exG
def ob (s : PySem.W.SharedT) : He.AlX := He.obsX 4 fa fn [] [] exG (HandSHeadRun.getT s)
theorem ob_eq (s : PySem.W.SharedT) : ob s = hk.obs s.abs := He.obsX_eq (HandSHeadRun.getT_eq s)
theorem run (w : World) : HandSHeadRun.RunEqI R (PySem.W.view R.prog [0, 34]) hk ob 8000 loose w := by
  unfold HandSHeadRun.RunEqI
  kernel_rfl
theorem facts {w : World} {K : PySem.W.Frag} {h : Heap} {mg : PySem.Str → Option Value} {f : Addr} (X : K.In h) (G : h.Ns mainGlobals mg) (hfa : mg ("law" : PySem.Str) = some (.ref f)) (cx : He.SaysX fa fn [] [] exG w h K) :
    ∃ fd : FuncData, (∀ (s : Shared) (v : Value), BindsTo s fd ⟨[v], []⟩ [("script", v)]) ∧ ∀ base : Heap, K.In base → base.Ns mainGlobals mg → FnOk (PySem.Challenge.rw_pairmart_k19_chances_by_eating).prog w K mg base (L2.CX (PySem.Challenge.rw_pairmart_k19_chances_by_eating).prog w) lawLevel f fd ["script"] (spD (xcK K) [dScr K] dBl (fun x => m_law x.1)) := by
  have c : He.SaysD fa fn K := cx.t.d
  obtain ⟨fd, F⟩ := c.def_ lawDef rfl
  have e := hfa.symm.trans (He.glo_ok X G (c.fact lawFact (f := .glo "law") rfl))
  cases e
  have b := FunD.bindsA (ps := ["script"]) F fun _ _ _ _ _ _ us hl => match us, hl with | [_], _ => rfl
  exact ⟨fd, fun s v => b s [v] rfl, fun base _ _ => ok_law ⟨⟨c, h, X, G⟩, cx.more⟩ F⟩
end G
open PySem PySem.W PySem.Calls PyProof.Rows
theorem PySem.Challenge.cw_pairmart_k19_chances_by_eating_holds : PySem.Challenge.rw_pairmart_k19_chances_by_eating.Holds := by
  w_on; o_law
  refine HandSHeadRun.head_imp (r := OpenLaw.row PySem.Challenge.rw_pairmart_k19_chances_by_eating) (q := view (OpenLaw.row PySem.Challenge.rw_pairmart_k19_chances_by_eating).prog [0, 34]) (H := G.hk) (ob := G.ob) (M := 8000) (loose := G.loose) (d := HandSHeadRun.topDef (OpenLaw.row PySem.Challenge.rw_pairmart_k19_chances_by_eating).prog 34) (kwd := []) G.ob_eq G.run
    (by kernel_rfl) (by kernel_rfl) (by kernel_rfl) (by rfl) (by first | assumption | decide +kernel) (by decide +kernel) ⟨rfl, rfl, rfl, rfl, rfl, by decide +kernel⟩ ?hw ?hc
  case hw => w_witness2
  case hc =>
    refine Pu.walk_end (l := PySem.Challenge.rw_pairmart_k19_chances_by_eating) (n := 63) (k := G.lawLevel) (x := "script") (CX := fun w => L2.CX (PySem.Challenge.rw_pairmart_k19_chances_by_eating).prog w) rfl (by decide) (by kernel_rfl) ⟨rfl, by decide, by decide⟩ ?F (fun w H s e s' h => Pu.cx_end w H s e s' h)
    intro w mg fa h Y Gm hmg0
    obtain ⟨K, KX, c⟩ := Y
    have hmg : mg ("law" : PySem.Str) = some (.ref fa) := by
      have e : (HandSHeadRun.topDef (OpenLaw.row PySem.Challenge.rw_pairmart_k19_chances_by_eating).prog 34).name = ("law" : PySem.Str) := by kernel_rfl
      rw [← e]
      exact hmg0
    obtain ⟨fd, hb, hF⟩ := G.facts (w := w) KX Gm hmg c
    exact ⟨K, fd, _, KX, hb, fun H a ns hl _ hS => Pu.law_sp hl hS (G.law_true ns hl), hF⟩
