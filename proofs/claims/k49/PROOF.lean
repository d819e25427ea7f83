import PyProof.Rows.All
import Wide.All
import OpenK.AllK
import Wide.FinOn
import HandS.ForMost
import HandS.ForExc
import HandS.Evl
import HandS.Walk
import HandS.TupAny
import HandS.Conv
import HandS.SortInts
import HandS.SetFor
import HandS.DictComp
import HandS.NoneIn
import HandS.Wide
import HandS.Remove
import HandS.Defaults
import HandS.HeadHook1
import HandS.HeadHook2
import HandS.HeadEnd
import HandS.Head2
import KE.GoesMore
import KE.GoesEnum
import PyProof.EnumMake
import HandS.Strs
import PyProof.EqAt
import HandS.WordsDict
import HandS.Style
import HandS.Head0
import HandS.Head1
import HandS.Dict
import HandS.SortRule
import KE.DataMinMax
import HandS.TupLe
import HandS.Deep
import KE.GoesZip
import KE.KDictZip
import PyProof.CollectWalk
import PyProof.TupleOfGen
import HandS.Zip
import HandS.List
import HandS.More
import HandS.Iter
import HandS.TupSets
import HandS.NamedTupSort
import HandS.SetKeys
import HandS.ReSub
import HandS.ListItems
import KE.KDictList
import HandS.Sort
import PySem.Challenge.RW_pairmart_k49_contracts_with_more_room
set_option Elab.async false
set_option linter.all false
set_option maxRecDepth 100000
set_option maxHeartbeats 4000000
/-! Pu: programs by data. Codes of data, slots, readings by what they give. -/
namespace Pu
open PySem L2 Evl

inductive Res (α : Type) where
  | ok (a : α) | exc (n : Str) | bad
def Res.bind {α β : Type} (r : Res α) (f : α → Res β) : Res β := match r with
  | .ok a => f a
  | .exc n => .exc n
  | .bad => .bad
def opt {α β : Type} (o : Option α) (f : α → Res β) : Res β := match o with
  | some a => f a
  | none => .bad
def chk {β : Type} (b : Bool) (r : Res β) : Res β := match b with
  | true => r
  | false => .bad

/-- data: what never changes -/
structure DCod where
  α : Type
  rel : Hp → V → α → Prop
  ext : ∀ {F F' : Hp} {v : V} {x : α}, rel F v x → Ex F F' → rel F' v x
/-- what may change: F the ground of what never changes, H the heap, the addresses it owns -/
structure Cod where
  α : Type
  rel : Hp → Hp → List Addr → V → α → Prop
  ext : ∀ {F F' H H' : Hp} {fp : List Addr} {v : V} {x : α}, rel F H fp v x → Ex F F' → (∀ a, a ∈ fp → H' a = H a) → rel F' H' fp v x

/-- a thing that changes: a parameter (pinned), a local, read only -/
inductive Kd where
  | pa | lo | co
  deriving DecidableEq
/-- slots: nothing known; data; a thing that changes -/
inductive Sl where
  | no | da (c : DCod) | m (k : Kd) (c : Cod)
def Sl.α : Sl → Type
  | .no => Unit
  | .da c => c.α
  | .m _ c => c.α
def Env : List Sl → Type
  | [] => Unit
  | s :: Γ => s.α × Env Γ
abbrev Fps := List (Kd × Addr)
def tag (k : Kd) (fp : List Addr) : Fps := fp.map fun a => (k, a)
/-- slots hold what the environment says; τ: the slots at the entry -/
def SRel : (Γ : List Sl) → St → St → Hp → Hp → Fps → Env Γ → Prop
  | [], τ, σ, _, _, L, _ => σ = [] ∧ L = []
  | .no :: Γ, τ, σ, F, H, L, ρ => ∃ w σ', σ = w :: σ' ∧ SRel Γ τ.tail σ' F H L ρ.2
  | .da c :: Γ, τ, σ, F, H, L, ρ => ∃ v σ', σ = some v :: σ' ∧ c.rel F v ρ.1 ∧ SRel Γ τ.tail σ' F H L ρ.2
  | .m k c :: Γ, τ, σ, F, H, L, ρ => ∃ v σ' fp L', σ = some v :: σ' ∧ (k = .lo ∨ τ.head? = some (some v)) ∧ L = tag k fp ++ L' ∧ c.rel F H fp v ρ.1 ∧ SRel Γ τ.tail σ' F H L' ρ.2

/-- the def's entry: the ground, the heap, what may be written, the slots -/
structure Base where
  F : Hp
  H : Hp
  M : List Addr
  N : List Addr
  O : List Addr
  τ : St
structure Wd (B : Base) (F H : Hp) (L : Fps) : Prop where
  nd : (L.map (·.2)).Nodup
  fr : ∀ k a, (k, a) ∈ L → F a = none ∧ ∃ o, H a = some o
  fh : Ex F H
  bf : Ex B.F F
  keep : ∀ a o, B.H a = some o → a ∉ B.M → a ∉ B.N → H a = some o
  there : ∀ a o, B.H a = some o → ∃ o', H a = some o'
  new : ∀ a o, F a = some o → B.F a = some o ∨ B.H a = none
  own : ∀ a, (Kd.pa, a) ∈ L → a ∈ B.M ∨ B.H a = none
  loc : ∀ a, (Kd.lo, a) ∈ L → a ∈ B.N ∨ B.H a = none
  con : ∀ a, (Kd.co, a) ∈ L → a ∈ B.O ∨ B.H a = none
def SInv (B : Base) (Γ : List Sl) (σ : St) (F H : Hp) (ρ : Env Γ) : Prop := ∃ L, SRel Γ B.τ σ F H L ρ ∧ Wd B F H L

/-- F and H grow: new things alone, what is new in F was not in H -/
structure Pext (F F' H H' : Hp) : Prop where
  hh : Ex H H'
  ff : Ex F F'
  fh : Ex F' H'
  new : ∀ a o, F' a = some o → F a = some o ∨ H a = none
theorem Pext.refl {F H : Hp} (h : Ex F H) : Pext F F H H := ⟨Ex.refl H, Ex.refl F, h, fun _ _ e => .inl e⟩
theorem none_of {H H' : Hp} (e : Ex H H') {a : Addr} (h : H' a = none) : H a = none := fresh_back e h
theorem Pext.trans {F F1 F2 H H1 H2 : Hp} (a : Pext F F1 H H1) (b : Pext F1 F2 H1 H2) : Pext F F2 H H2 :=
  ⟨a.hh.trans b.hh, a.ff.trans b.ff, b.fh, fun x o e => by
    rcases b.new x o e with h | h
    · exact a.new x o h
    · exact .inr (none_of a.hh h)⟩
/-- one new thing -/
theorem ex_upd {F H : Hp} {p : Addr} {o : HO} (h : Ex F H) : Ex (upd F p o) (upd H p o) := fun a u e => by
  by_cases hb : a = p
  · subst hb
    rw [upd_same] at e ⊢
    exact e
  · rw [upd_ne hb] at e ⊢
    exact h a u e
theorem Pext.one {F H : Hp} {p : Addr} {o : HO} (h : Ex F H) (hp : H p = none) : Pext F (upd F p o) H (upd H p o) := by
  refine ⟨Ex.new hp, Ex.new (none_of h hp), ex_upd h, fun a u e => ?_⟩
  by_cases hb : a = p
  · subst hb
    exact .inr hp
  · rw [upd_ne hb] at e
    exact .inl e
/-- a new thing that is not data -/
theorem Pext.own {F H : Hp} {p : Addr} {o : HO} (h : Ex F H) (hp : H p = none) : Pext F F H (upd H p o) :=
  ⟨Ex.new hp, Ex.refl F, h.trans (Ex.new hp), fun _ _ e => .inl e⟩

theorem SRel.ext {F F' H H' : Hp} (eF : Ex F F') : ∀ {Γ : List Sl} {τ σ : St} {L : Fps} {ρ : Env Γ}, SRel Γ τ σ F H L ρ → (∀ k a, (k, a) ∈ L → H' a = H a) → SRel Γ τ σ F' H' L ρ
  | [], τ, σ, L, ρ, h, _ => h
  | .no :: Γ, τ, σ, L, ρ, ⟨w, σ', e, h⟩, k => ⟨w, σ', e, SRel.ext eF h k⟩
  | .da c :: Γ, τ, σ, L, ρ, ⟨v, σ', e, r, h⟩, k => ⟨v, σ', e, c.ext r eF, SRel.ext eF h k⟩
  | .m kd c :: Γ, τ, σ, L, ρ, ⟨v, σ', fp, L', e, e2, e3, r, h⟩, k => by
    subst e3
    exact ⟨v, σ', fp, L', e, e2, rfl, c.ext r eF fun a ha => k kd a (List.mem_append_left _ (List.mem_map.mpr ⟨a, ha, rfl⟩)), SRel.ext eF h fun k' a ha => k k' a (List.mem_append_right _ ha)⟩
theorem Wd.pext {B : Base} {F F' H H' : Hp} {L : Fps} (w : Wd B F H L) (p : Pext F F' H H') : Wd B F' H' L where
  nd := w.nd
  fr := fun k a ha => by
    obtain ⟨h1, o, h2⟩ := w.fr k a ha
    refine ⟨?_, o, p.hh a o h2⟩
    cases e : F' a with
    | none => rfl
    | some u =>
      rcases p.new a u e with q | q
      · rw [h1] at q; cases q
      · rw [h2] at q; cases q
  fh := p.fh
  bf := w.bf.trans p.ff
  keep := fun a o h hm hn => p.hh a o (w.keep a o h hm hn)
  there := fun a o h => let ⟨o', h'⟩ := w.there a o h; ⟨o', p.hh a o' h'⟩
  new := fun a o e => by
    rcases p.new a o e with q | q
    · exact w.new a o q
    · right
      cases e2 : B.H a with
      | none => rfl
      | some u =>
        obtain ⟨o', h'⟩ := w.there a u e2
        rw [q] at h'; cases h'
  own := w.own
  loc := w.loc
  con := w.con
theorem SInv.pext {B : Base} {Γ : List Sl} {σ : St} {F F' H H' : Hp} {ρ : Env Γ} (I : SInv B Γ σ F H ρ) (p : Pext F F' H H') : SInv B Γ σ F' H' ρ := by
  obtain ⟨L, r, w⟩ := I
  refine ⟨L, r.ext p.ff fun k a ha => ?_, w.pext p⟩
  obtain ⟨_, o, h2⟩ := w.fr k a ha
  rw [h2, p.hh a o h2]
theorem SInv.fh {B : Base} {Γ : List Sl} {σ : St} {F H : Hp} {ρ : Env Γ} (I : SInv B Γ σ F H ρ) : Ex F H := let ⟨_, _, w⟩ := I; w.fh
/-- what an exception leaves as it was -/
def Frm (B : Base) (H' : Hp) : Prop := ∀ a o, B.H a = some o → a ∉ B.M → a ∉ B.N → H' a = some o
theorem SInv.frm {B : Base} {Γ : List Sl} {σ : St} {F H : Hp} {ρ : Env Γ} (I : SInv B Γ σ F H ρ) : Frm B H := let ⟨_, _, w⟩ := I; w.keep
theorem Frm.ex {B : Base} {H H' : Hp} (f : Frm B H) (e : Ex H H') : Frm B H' := fun a o h hm hn => e a o (f a o h hm hn)

/-! ### places -/
inductive At : List Sl → Nat → Sl → Type 1 where
  | z {s : Sl} {Γ : List Sl} : At (s :: Γ) 0 s
  | s {s t : Sl} {Γ : List Sl} {i : Nat} (r : At Γ i s) : At (t :: Γ) (i + 1) s
def At.get : {Γ : List Sl} → {i : Nat} → {s : Sl} → At Γ i s → Env Γ → s.α
  | _, _, _, .z, ρ => ρ.1
  | _, _, _, .s r, ρ => r.get ρ.2
def At.put : {Γ : List Sl} → {i : Nat} → {s : Sl} → At Γ i s → Env Γ → s.α → Env Γ
  | _, _, _, .z, ρ, x => (x, ρ.2)
  | _, _, _, .s r, ρ, x => (ρ.1, r.put ρ.2 x)
/-- the i-th slot, s, becomes t -/
inductive Up : List Sl → Nat → Sl → Sl → List Sl → Type 1 where
  | z {s t : Sl} {Γ : List Sl} : Up (s :: Γ) 0 s t (t :: Γ)
  | s {s t u : Sl} {Γ Γ' : List Sl} {i : Nat} (r : Up Γ i s t Γ') : Up (u :: Γ) (i + 1) s t (u :: Γ')
def Up.set : {Γ Γ' : List Sl} → {i : Nat} → {s t : Sl} → Up Γ i s t Γ' → Env Γ → t.α → Env Γ'
  | _, _, _, _, _, .z, ρ, x => (x, ρ.2)
  | _, _, _, _, _, .s r, ρ, x => (ρ.1, r.set ρ.2 x)
def Up.inv : {Γ Γ' : List Sl} → {i : Nat} → {s t : Sl} → Up Γ i s t Γ' → Up Γ' i t s Γ
  | _, _, _, _, _, .z => .z
  | _, _, _, _, _, .s r => .s r.inv
def Up.old : {Γ Γ' : List Sl} → {i : Nat} → {s t : Sl} → Up Γ i s t Γ' → Env Γ → s.α
  | _, _, _, _, _, .z, ρ => ρ.1
  | _, _, _, _, _, .s r, ρ => r.old ρ.2

/-- the rest of the slots, one at i apart -/
theorem SRel.data {F H : Hp} {c : DCod} : ∀ {Γ : List Sl} {i : Nat} (at_ : At Γ i (.da c)) {τ σ : St} {L : Fps} {ρ : Env Γ}, SRel Γ τ σ F H L ρ → ∃ v, σ[i]? = some (some v) ∧ c.rel F v (at_.get ρ)
  | _, _, .z, τ, σ, L, ρ, ⟨v, σ', e, r, h⟩ => ⟨v, by rw [e]; rfl, r⟩
  | .no :: Γ, _, .s r, τ, σ, L, ρ, ⟨w, σ', e, h⟩ => by
    obtain ⟨v, h1, h2⟩ := SRel.data r h
    exact ⟨v, by rw [e]; simpa using h1, h2⟩
  | .da _ :: Γ, _, .s r, τ, σ, L, ρ, ⟨w, σ', e, _, h⟩ => by
    obtain ⟨v, h1, h2⟩ := SRel.data r h
    exact ⟨v, by rw [e]; simpa using h1, h2⟩
  | .m _ _ :: Γ, _, .s r, τ, σ, L, ρ, ⟨w, σ', _, _, e, _, _, _, h⟩ => by
    obtain ⟨v, h1, h2⟩ := SRel.data r h
    exact ⟨v, by rw [e]; simpa using h1, h2⟩
theorem SInv.data {B : Base} {Γ : List Sl} {σ : St} {F H : Hp} {ρ : Env Γ} {c : DCod} {i : Nat} (I : SInv B Γ σ F H ρ) (at_ : At Γ i (.da c)) : ∃ v, σ[i]? = some (some v) ∧ c.rel F v (at_.get ρ) :=
  let ⟨_, r, _⟩ := I; r.data at_
/-- a slot that changes, apart from the rest -/
theorem SRel.mut {F H : Hp} {k : Kd} {c : Cod} : ∀ {Γ : List Sl} {i : Nat} (at_ : At Γ i (.m k c)) {τ σ : St} {L : Fps} {ρ : Env Γ}, SRel Γ τ σ F H L ρ → ∃ v fp L1 L2, σ[i]? = some (some v) ∧ (k = .lo ∨ τ[i]? = some (some v)) ∧ L = L1 ++ tag k fp ++ L2 ∧ c.rel F H fp v (at_.get ρ) ∧
    ∀ F' H' fp' x', Ex F F' → (∀ k a, (k, a) ∈ L1 ++ L2 → H' a = H a) → c.rel F' H' fp' v x' → SRel Γ τ σ F' H' (L1 ++ tag k fp' ++ L2) (at_.put ρ x')
  | _, _, .z, τ, σ, L, ρ, ⟨v, σ', fp, L', e, e2, e3, r, h⟩ => by
    refine ⟨v, fp, [], L', by rw [e]; rfl, ?_, e3, r, fun F' H' fp' x' eF kk r' => ⟨v, σ', fp', L', e, e2, rfl, r', h.ext eF kk⟩⟩
    rcases e2 with e2 | e2
    · exact .inl e2
    · right
      cases τ with
      | nil => cases e2
      | cons t τ => simpa using e2
  | .no :: Γ, _, .s r, τ, σ, L, ρ, ⟨w, σ', e, h⟩ => by
    obtain ⟨v, fp, L1, L2, h1, h2, h3, h4, h5⟩ := SRel.mut r h
    exact ⟨v, fp, L1, L2, by rw [e]; simpa using h1, by simpa using h2, h3, h4, fun F' H' fp' x' eF kk r' => ⟨w, σ', e, h5 F' H' fp' x' eF kk r'⟩⟩
  | .da c' :: Γ, _, .s r, τ, σ, L, ρ, ⟨w, σ', e, hr, h⟩ => by
    obtain ⟨v, fp, L1, L2, h1, h2, h3, h4, h5⟩ := SRel.mut r h
    exact ⟨v, fp, L1, L2, by rw [e]; simpa using h1, by simpa using h2, h3, h4, fun F' H' fp' x' eF kk r' => ⟨w, σ', e, c'.ext hr eF, h5 F' H' fp' x' eF kk r'⟩⟩
  | .m k' c' :: Γ, _, .s r, τ, σ, L, ρ, ⟨w, σ', fp0, L', e, e2, e3, hr, h⟩ => by
    obtain ⟨v, fp, L1, L2, h1, h2, h3, h4, h5⟩ := SRel.mut r h
    refine ⟨v, fp, tag k' fp0 ++ L1, L2, by rw [e]; simpa using h1, by simpa using h2, by rw [e3, h3]; simp [List.append_assoc], h4, fun F' H' fp' x' eF kk r' => ⟨w, σ', fp0, L1 ++ tag k fp' ++ L2, e, e2, by simp [List.append_assoc], c'.ext hr eF fun a ha => kk k' a ?_, h5 F' H' fp' x' eF (fun q a ha => kk q a ?_) r'⟩⟩
    · simp only [List.append_assoc]
      exact List.mem_append_left _ (List.mem_map.mpr ⟨a, ha, rfl⟩)
    · simp only [List.append_assoc]
      exact List.mem_append_right _ ha
/-- a step of one thing: it alone changes -/
structure Step (F H : Hp) (fp : List Addr) (F' H' : Hp) (fp' : List Addr) : Prop where
  ff : Ex F F'
  fh : Ex F' H'
  keep : ∀ a o, H a = some o → a ∉ fp → H' a = some o
  there : ∀ a o, H a = some o → ∃ o', H' a = some o'
  new : ∀ a o, F' a = some o → F a = some o ∨ H a = none
  nd : fp'.Nodup
  own : ∀ a, a ∈ fp' → (a ∈ fp ∨ H a = none) ∧ F' a = none ∧ ∃ o, H' a = some o
theorem mem_tag {k k' : Kd} {fp : List Addr} {a : Addr} : (k', a) ∈ tag k fp ↔ k' = k ∧ a ∈ fp := by
  unfold tag
  simp only [List.mem_map, Prod.mk.injEq]
  constructor
  · rintro ⟨b, h1, h2, h3⟩
    subst h3
    exact ⟨h2.symm, h1⟩
  · rintro ⟨h1, h2⟩
    exact ⟨a, h2, h1.symm, rfl⟩
theorem tag_map {k : Kd} {fp : List Addr} : (tag k fp).map (·.2) = fp := by
  unfold tag
  rw [List.map_map]
  have e : ((fun x : Kd × Addr => x.2) ∘ fun a => (k, a)) = id := rfl
  rw [e, List.map_id]
theorem SInv.mut {B : Base} {Γ : List Sl} {σ : St} {F H : Hp} {ρ : Env Γ} {k : Kd} {c : Cod} {i : Nat} (I : SInv B Γ σ F H ρ) (at_ : At Γ i (.m k c)) :
    ∃ v fp, σ[i]? = some (some v) ∧ (k = .lo ∨ B.τ[i]? = some (some v)) ∧ c.rel F H fp v (at_.get ρ) ∧ fp.Nodup ∧ (∀ a, a ∈ fp → F a = none ∧ (∃ o, H a = some o) ∧ (k = .pa → a ∈ B.M ∨ B.H a = none) ∧ (k = .lo → a ∈ B.N ∨ B.H a = none)) ∧
      (k ≠ .co → ∀ F' H' fp' x', Step F H fp F' H' fp' → c.rel F' H' fp' v x' → SInv B Γ σ F' H' (at_.put ρ x')) := by
  obtain ⟨L, r, w⟩ := I
  obtain ⟨v, fp, L1, L2, h1, h2, h3, h4, h5⟩ := r.mut at_
  subst h3
  have hin : ∀ a, a ∈ fp → (k, a) ∈ L1 ++ tag k fp ++ L2 := fun a ha => by
    simp only [List.mem_append]
    exact .inl (.inr (mem_tag.mpr ⟨rfl, ha⟩))
  have nd := w.nd
  rw [List.map_append, List.map_append, tag_map] at nd
  have nd1 := List.nodup_append.mp nd
  have nd2 := List.nodup_append.mp nd1.1
  refine ⟨v, fp, h1, h2, h4, nd2.2.1, fun a ha => ?_, fun hk F' H' fp' x' st r' => ?_⟩
  · obtain ⟨g1, g2⟩ := w.fr k a (hin a ha)
    refine ⟨g1, g2, fun hk => ?_, fun hk => ?_⟩
    · subst hk; exact w.own a (hin a ha)
    · subst hk; exact w.loc a (hin a ha)
  · have hrest : ∀ k' a, (k', a) ∈ L1 ++ L2 → ∃ o, H a = some o ∧ H' a = some o ∧ a ∉ fp := fun k' a ha => by
      have hm : (k', a) ∈ L1 ++ tag k fp ++ L2 := by
        simp only [List.mem_append] at ha ⊢
        rcases ha with ha | ha
        · exact .inl (.inl ha)
        · exact .inr ha
      obtain ⟨_, o, ho⟩ := w.fr k' a hm
      have hnot : a ∉ fp := fun hf => by
        simp only [List.mem_append] at ha
        rcases ha with ha | ha
        · exact nd2.2.2 a (List.mem_map.mpr ⟨_, ha, rfl⟩) a hf rfl
        · exact nd1.2.2 a (List.mem_append_right _ hf) a (List.mem_map.mpr ⟨_, ha, rfl⟩) rfl
      exact ⟨o, ho, st.keep a o ho hnot, hnot⟩
    refine ⟨L1 ++ tag k fp' ++ L2, h5 F' H' fp' x' st.ff (fun k' a ha => ?_) r', ?_⟩
    · obtain ⟨o, g1, g2, _⟩ := hrest k' a ha
      rw [g1, g2]
    · have cases_ : ∀ k' a, (k', a) ∈ L1 ++ tag k fp' ++ L2 → (k', a) ∈ L1 ++ L2 ∨ (k' = k ∧ a ∈ fp') := fun k' a ha => by
        simp only [List.mem_append] at ha ⊢
        rcases ha with (ha | ha) | ha
        · exact .inl (.inl ha)
        · exact .inr (mem_tag.mp ha)
        · exact .inl (.inr ha)
      have old : ∀ k' a, (k', a) ∈ L1 ++ L2 → (k', a) ∈ L1 ++ tag k fp ++ L2 := fun k' a ha => by
        simp only [List.mem_append] at ha ⊢
        rcases ha with ha | ha
        · exact .inl (.inl ha)
        · exact .inr ha
      refine ⟨?_, fun k' a ha => ?_, st.fh, w.bf.trans st.ff, fun a o h hm hn => ?_, fun a o h => ?_, fun a o e => ?_, fun a ha => ?_, fun a ha => ?_, fun a ha => ?_⟩
      · rw [List.map_append, List.map_append, tag_map]
        have dis : ∀ a, a ∈ fp' → ∀ k' , (k', a) ∈ L1 ++ L2 → False := fun a ha k' hm => by
          obtain ⟨o, g1, g2, g3⟩ := hrest k' a hm
          rcases (st.own a ha).1 with q | q
          · exact g3 q
          · rw [g1] at q; cases q
        refine List.nodup_append.mpr ⟨List.nodup_append.mpr ⟨nd2.1, st.nd, fun a ha b hb e => ?_⟩, nd1.2.1, fun a ha b hb e => ?_⟩
        · subst e
          obtain ⟨q, hq, e⟩ := List.mem_map.mp ha
          obtain ⟨k', a'⟩ := q
          have e : a' = a := e
          subst e
          exact dis a' hb k' (List.mem_append_left _ hq)
        · subst e
          obtain ⟨q, hq, e⟩ := List.mem_map.mp hb
          obtain ⟨k', a'⟩ := q
          have e : a' = a := e
          subst e
          rcases List.mem_append.mp ha with ha | ha
          · exact nd1.2.2 a' (List.mem_append_left _ ha) a' hb rfl
          · exact dis a' ha k' (List.mem_append_right _ hq)
      · rcases cases_ k' a ha with q | ⟨_, q⟩
        · obtain ⟨o, g1, g2, _⟩ := hrest k' a q
          refine ⟨?_, o, g2⟩
          have g0 := (w.fr k' a (old k' a q)).1
          cases e : F' a with
          | none => rfl
          | some u =>
            rcases st.new a u e with z | z
            · rw [g0] at z; cases z
            · rw [g1] at z; cases z
        · exact (st.own a q).2
      · by_cases hf : a ∈ fp
        · exfalso
          cases k with
          | pa =>
            rcases w.own a (hin a hf) with z | z
            · exact hm z
            · rw [h] at z; cases z
          | lo =>
            rcases w.loc a (hin a hf) with z | z
            · exact hn z
            · rw [h] at z; cases z
          | co => exact hk rfl
        · exact st.keep a o (w.keep a o h hm hn) hf
      · obtain ⟨o', h'⟩ := w.there a o h
        exact st.there a o' h'
      · rcases st.new a o e with q | q
        · exact w.new a o q
        · right
          cases e2 : B.H a with
          | none => rfl
          | some u =>
            obtain ⟨o', h'⟩ := w.there a u e2
            rw [q] at h'; cases h'
      · rcases cases_ _ a ha with q | ⟨e, q⟩
        · exact w.own a (old _ a q)
        · subst e
          rcases (st.own a q).1 with z | z
          · exact w.own a (hin a z)
          · right
            cases e2 : B.H a with
            | none => rfl
            | some u =>
              obtain ⟨o', h'⟩ := w.there a u e2
              rw [z] at h'; cases h'
      · rcases cases_ _ a ha with q | ⟨e, q⟩
        · exact w.loc a (old _ a q)
        · subst e
          rcases (st.own a q).1 with z | z
          · exact w.loc a (hin a z)
          · right
            cases e2 : B.H a with
            | none => rfl
            | some u =>
              obtain ⟨o', h'⟩ := w.there a u e2
              rw [z] at h'; cases h'
      · rcases cases_ _ a ha with q | ⟨e, q⟩
        · exact w.con a (old _ a q)
        · exact absurd e.symm hk
end Pu
set_option Elab.async false
set_option linter.all false
set_option maxRecDepth 100000
set_option maxHeartbeats 4000000
namespace Pu
open PySem L2 Evl

theorem SRel.setD {F H : Hp} {c : DCod} {v : V} {x : c.α} (r : c.rel F v x) : ∀ {Γ Γ' : List Sl} {i : Nat} {s : Sl} (u : Up Γ i s (.da c) Γ') {τ σ : St} {L : Fps} {ρ : Env Γ}, SRel Γ τ σ F H L ρ → ∃ L', SRel Γ' τ (σ.set i (some v)) F H L' (u.set ρ x) ∧ L'.Sublist L
  | .no :: Γ, _, _, _, .z, τ, σ, L, ρ, ⟨w, σ', e, h⟩ => ⟨L, ⟨v, σ', by rw [e]; rfl, r, h⟩, List.Sublist.refl _⟩
  | .da c' :: Γ, _, _, _, .z, τ, σ, L, ρ, ⟨w, σ', e, _, h⟩ => ⟨L, ⟨v, σ', by rw [e]; rfl, r, h⟩, List.Sublist.refl _⟩
  | .m k c' :: Γ, _, _, _, .z, τ, σ, L, ρ, ⟨w, σ', fp, L', e, e2, e3, _, h⟩ => ⟨L', ⟨v, σ', by rw [e]; rfl, r, h⟩, by rw [e3]; exact List.sublist_append_right _ _⟩
  | .no :: Γ, _, _, _, .s q, τ, σ, L, ρ, ⟨w, σ', e, h⟩ => by
    obtain ⟨L', h1, h2⟩ := SRel.setD r q h
    exact ⟨L', ⟨w, σ'.set _ _, by rw [e]; rfl, h1⟩, h2⟩
  | .da c' :: Γ, _, _, _, .s q, τ, σ, L, ρ, ⟨w, σ', e, hr, h⟩ => by
    obtain ⟨L', h1, h2⟩ := SRel.setD r q h
    exact ⟨L', ⟨w, σ'.set _ _, by rw [e]; rfl, hr, h1⟩, h2⟩
  | .m k c' :: Γ, _, _, _, .s q, τ, σ, L, ρ, ⟨w, σ', fp, L0, e, e2, e3, hr, h⟩ => by
    obtain ⟨L', h1, h2⟩ := SRel.setD r q h
    exact ⟨tag k fp ++ L', ⟨w, σ'.set _ _, fp, L', by rw [e]; rfl, e2, rfl, hr, h1⟩, by rw [e3]; exact h2.append_left _⟩
theorem SRel.setM {F H : Hp} {c : Cod} {v : V} {x : c.α} {fp : List Addr} (r : c.rel F H fp v x) : ∀ {Γ Γ' : List Sl} {i : Nat} {s : Sl} (u : Up Γ i s (.m .lo c) Γ') {τ σ : St} {L : Fps} {ρ : Env Γ}, SRel Γ τ σ F H L ρ →
    ∃ L1 L2, SRel Γ' τ (σ.set i (some v)) F H (L1 ++ tag .lo fp ++ L2) (u.set ρ x) ∧ (L1 ++ L2).Sublist L
  | .no :: Γ, _, _, _, .z, τ, σ, L, ρ, ⟨w, σ', e, h⟩ => ⟨[], L, ⟨v, σ', fp, L, by rw [e]; rfl, .inl rfl, rfl, r, h⟩, List.Sublist.refl _⟩
  | .da c' :: Γ, _, _, _, .z, τ, σ, L, ρ, ⟨w, σ', e, _, h⟩ => ⟨[], L, ⟨v, σ', fp, L, by rw [e]; rfl, .inl rfl, rfl, r, h⟩, List.Sublist.refl _⟩
  | .m k c' :: Γ, _, _, _, .z, τ, σ, L, ρ, ⟨w, σ', fp0, L', e, e2, e3, _, h⟩ => ⟨[], L', ⟨v, σ', fp, L', by rw [e]; rfl, .inl rfl, rfl, r, h⟩, by rw [e3]; exact List.sublist_append_right _ _⟩
  | .no :: Γ, _, _, _, .s q, τ, σ, L, ρ, ⟨w, σ', e, h⟩ => by
    obtain ⟨L1, L2, h1, h2⟩ := SRel.setM r q h
    exact ⟨L1, L2, ⟨w, σ'.set _ _, by rw [e]; rfl, h1⟩, h2⟩
  | .da c' :: Γ, _, _, _, .s q, τ, σ, L, ρ, ⟨w, σ', e, hr, h⟩ => by
    obtain ⟨L1, L2, h1, h2⟩ := SRel.setM r q h
    exact ⟨L1, L2, ⟨w, σ'.set _ _, by rw [e]; rfl, hr, h1⟩, h2⟩
  | .m k c' :: Γ, _, _, _, .s q, τ, σ, L, ρ, ⟨w, σ', fp0, L0, e, e2, e3, hr, h⟩ => by
    obtain ⟨L1, L2, h1, h2⟩ := SRel.setM r q h
    exact ⟨tag k fp0 ++ L1, L2, ⟨w, σ'.set _ _, fp0, L1 ++ tag .lo fp ++ L2, by rw [e]; rfl, e2, by simp [List.append_assoc], hr, h1⟩, by rw [e3, List.append_assoc]; exact h2.append_left _⟩
theorem Wd.sub {B : Base} {F H : Hp} {L L' : Fps} (w : Wd B F H L) (h : L'.Sublist L) : Wd B F H L' :=
  ⟨w.nd.sublist (h.map _), fun k a ha => w.fr k a (h.subset ha), w.fh, w.bf, w.keep, w.there, w.new, fun a ha => w.own a (h.subset ha), fun a ha => w.loc a (h.subset ha), fun a ha => w.con a (h.subset ha)⟩
theorem SInv.setD {B : Base} {Γ Γ' : List Sl} {σ : St} {F H : Hp} {ρ : Env Γ} {c : DCod} {i : Nat} {s : Sl} {v : V} {x : c.α} (I : SInv B Γ σ F H ρ) (u : Up Γ i s (.da c) Γ') (r : c.rel F v x) : SInv B Γ' (σ.set i (some v)) F H (u.set ρ x) := by
  obtain ⟨L, h, w⟩ := I
  obtain ⟨L', h1, h2⟩ := h.setD r u
  exact ⟨L', h1, w.sub h2⟩
/-- what is newly made and owned -/
structure New (fp : List Addr) (H0 F H : Hp) : Prop where
  nd : fp.Nodup
  at_ : ∀ a, a ∈ fp → H0 a = none ∧ F a = none ∧ ∃ o, H a = some o
theorem SInv.setM {B : Base} {Γ Γ' : List Sl} {σ : St} {F0 H0 F H : Hp} {ρ : Env Γ} {c : Cod} {i : Nat} {s : Sl} {v : V} {x : c.α} {fp : List Addr} (I : SInv B Γ σ F0 H0 ρ) (p : Pext F0 F H0 H) (n : New fp H0 F H) (u : Up Γ i s (.m .lo c) Γ') (r : c.rel F H fp v x) :
    SInv B Γ' (σ.set i (some v)) F H (u.set ρ x) := by
  obtain ⟨L, h, w⟩ := I
  have h' : SRel Γ B.τ σ F H L ρ := h.ext p.ff fun k a ha => by
    obtain ⟨_, o, h2⟩ := w.fr k a ha
    rw [h2, p.hh a o h2]
  obtain ⟨L1, L2, h1, h2⟩ := h'.setM r u
  have w' := (w.pext p).sub h2
  have dis : ∀ k a, (k, a) ∈ L1 ++ L2 → a ∉ fp := fun k a ha hf => by
    obtain ⟨_, o, g⟩ := w.fr k a (h2.subset ha)
    rw [(n.at_ a hf).1] at g; cases g
  have nd := w'.nd
  rw [List.map_append] at nd
  have nd1 := List.nodup_append.mp nd
  have cases_ : ∀ k' a, (k', a) ∈ L1 ++ tag .lo fp ++ L2 → (k', a) ∈ L1 ++ L2 ∨ (k' = .lo ∧ a ∈ fp) := fun k' a ha => by
    simp only [List.mem_append] at ha ⊢
    rcases ha with (ha | ha) | ha
    · exact .inl (.inl ha)
    · exact .inr (mem_tag.mp ha)
    · exact .inl (.inr ha)
  refine ⟨_, h1, ⟨?_, fun k a ha => ?_, w'.fh, w'.bf, w'.keep, w'.there, w'.new, fun a ha => ?_, fun a ha => ?_, fun a ha => ?_⟩⟩
  · rw [List.map_append, List.map_append, tag_map]
    refine List.nodup_append.mpr ⟨List.nodup_append.mpr ⟨nd1.1, n.nd, fun a ha b hb e => ?_⟩, nd1.2.1, fun a ha b hb e => ?_⟩
    · subst e
      obtain ⟨q, hq, e⟩ := List.mem_map.mp ha
      obtain ⟨k', a'⟩ := q
      have e : a' = a := e
      subst e
      exact dis k' a' (List.mem_append_left _ hq) hb
    · subst e
      obtain ⟨q, hq, e⟩ := List.mem_map.mp hb
      obtain ⟨k', a'⟩ := q
      have e : a' = a := e
      subst e
      rcases List.mem_append.mp ha with ha | ha
      · exact nd1.2.2 a' ha a' hb rfl
      · exact dis k' a' (List.mem_append_right _ hq) ha
  · rcases cases_ k a ha with q | ⟨_, q⟩
    · exact w'.fr k a q
    · exact (n.at_ a q).2
  · rcases cases_ _ a ha with q | ⟨e, _⟩
    · exact w'.own a q
    · cases e
  · rcases cases_ _ a ha with q | ⟨_, q⟩
    · exact w'.loc a q
    · right
      cases e : B.H a with
      | none => rfl
      | some o =>
        obtain ⟨o', g⟩ := w.there a o e
        rw [(n.at_ a q).1] at g; cases g
  · rcases cases_ _ a ha with q | ⟨e, _⟩
    · exact w'.con a q
    · cases e

/-! ### codes -/
abbrev PV (c : DCod) (F : Hp) : List V → List c.α → Prop := Paired (c.rel F)
theorem PV.ext {c : DCod} {F F' : Hp} (e : Ex F F') : ∀ {vs : List V} {xs : List c.α}, PV c F vs xs → PV c F' vs xs
  | _, _, .nil => .nil
  | _, _, .cons r t => .cons (c.ext r e) (PV.ext e t)
theorem PV.length {c : DCod} {F : Hp} {vs : List V} {xs : List c.α} (h : PV c F vs xs) : vs.length = xs.length := Paired.length h
theorem PV.append {c : DCod} {F : Hp} : ∀ {vs ws : List V} {xs ys : List c.α}, PV c F vs xs → PV c F ws ys → PV c F (vs ++ ws) (xs ++ ys)
  | _, _, _, _, .nil, s => s
  | _, _, _, _, .cons r t, s => .cons r (PV.append t s)
theorem PV.get {c : DCod} {F : Hp} : ∀ {vs : List V} {xs : List c.α} {i : Nat} {x : c.α}, PV c F vs xs → xs[i]? = some x → ∃ v, vs[i]? = some v ∧ c.rel F v x
  | _, _, _, _, .nil, e => by simp at e
  | _, _, 0, _, .cons r _, e => by simp at e; subst e; exact ⟨_, rfl, r⟩
  | _, _, i + 1, x, .cons _ t, e => by
    obtain ⟨u, h1, h2⟩ := PV.get (i := i) (x := x) t (by simpa using e)
    exact ⟨u, by simpa using h1, h2⟩
theorem PV.get' {c : DCod} {F : Hp} : ∀ {vs : List V} {xs : List c.α} {i : Nat} {v : V}, PV c F vs xs → vs[i]? = some v → ∃ x, xs[i]? = some x ∧ c.rel F v x
  | _, _, _, _, .nil, e => by simp at e
  | _, _, 0, _, .cons r _, e => by simp at e; subst e; exact ⟨_, rfl, r⟩
  | _, _, i + 1, v, .cons _ t, e => by
    obtain ⟨u, h1, h2⟩ := PV.get' (i := i) (v := v) t (by simpa using e)
    exact ⟨u, by simpa using h1, h2⟩
theorem PV.set {c : DCod} {F : Hp} {v : V} {x : c.α} (r : c.rel F v x) : ∀ {vs : List V} {xs : List c.α} (i : Nat), PV c F vs xs → PV c F (vs.set i v) (xs.set i x)
  | _, _, _, .nil => .nil
  | _, _, 0, .cons _ t => .cons r t
  | _, _, i + 1, .cons q t => .cons q (PV.set r i t)
theorem PV.take {c : DCod} {F : Hp} : ∀ {vs : List V} {xs : List c.α} (n : Nat), PV c F vs xs → PV c F (vs.take n) (xs.take n)
  | _, _, 0, _ => .nil
  | _, _, _ + 1, .nil => .nil
  | _, _, n + 1, .cons r t => .cons r (PV.take n t)
theorem PV.drop {c : DCod} {F : Hp} : ∀ {vs : List V} {xs : List c.α} (n : Nat), PV c F vs xs → PV c F (vs.drop n) (xs.drop n)
  | _, _, 0, r => r
  | _, _, _ + 1, .nil => .nil
  | _, _, n + 1, .cons _ t => PV.drop n t
theorem Rd.ext {F F' : Hp} {a : Addr} {u : HO} (e : Ex F F') (h : Rd F a u) : Rd F' a u := h.elim (fun z => .inl (e a _ z)) fun ⟨o, z⟩ => .inr ⟨o, e a _ z⟩
theorem SqT.rd {K : PySem.W.Frag} {F H : Hp} {a : Addr} {vs : List V} (e : Ex F H) (h : Rd F a (.tup vs)) : SqT K H a vs := .inl (Rd.ext e h)
abbrev dInt : DCod := ⟨Int, fun _ v x => v = .int x, fun h _ => h⟩
abbrev dBl : DCod := ⟨Bool, fun _ v x => v = .bl x, fun h _ => h⟩
abbrev dStr : DCod := ⟨Str, fun _ v x => v = .str x, fun h _ => h⟩
abbrev dNon : DCod := ⟨Unit, fun _ v _ => v = .non, fun h _ => h⟩
abbrev dOpt (c : DCod) : DCod := ⟨Option c.α, fun F v x => match x with
  | none => v = .non
  | some y => c.rel F v y ∧ v ≠ .non, fun {F F' v x} h e => match x, h with
  | none, h => h
  | some y, h => ⟨c.ext h.1 e, h.2⟩⟩
abbrev dTup (c : DCod) : DCod := ⟨List c.α, fun F v xs => ∃ a vs, v = .ref a ∧ Rd F a (.tup vs) ∧ PV c F vs xs ∧ xs.length ≤ sizeLine,
  fun h e => let ⟨a, vs, h1, h2, h3, h4⟩ := h; ⟨a, vs, h1, Rd.ext e h2, h3.ext e, h4⟩⟩
abbrev dLst (c : DCod) : DCod := ⟨List c.α, fun F v xs => ∃ a vs, v = .ref a ∧ F a = some (.lst vs) ∧ PV c F vs xs ∧ xs.length ≤ sizeLine,
  fun h e => let ⟨a, vs, h1, h2, h3, h4⟩ := h; ⟨a, vs, h1, e a _ h2, h3.ext e, h4⟩⟩
/-- a list or a tuple -/
abbrev dSeq (c : DCod) : DCod := ⟨List c.α, fun F v xs => ∃ a vs, v = .ref a ∧ (F a = some (.lst vs) ∨ Rd F a (.tup vs)) ∧ PV c F vs xs ∧ xs.length ≤ sizeLine,
  fun h e => let ⟨a, vs, h1, h2, h3, h4⟩ := h; ⟨a, vs, h1, h2.imp (e a _) (Rd.ext e), h3.ext e, h4⟩⟩
abbrev dP2 (a b : DCod) : DCod := ⟨a.α × b.α, fun F v x => ∃ p u w, v = .ref p ∧ F p = some (.tup [u, w]) ∧ a.rel F u x.1 ∧ b.rel F w x.2,
  fun h e => let ⟨p, u, w, h1, h2, h3, h4⟩ := h; ⟨p, u, w, h1, e p _ h2, a.ext h3 e, b.ext h4 e⟩⟩
abbrev dP3 (a b c : DCod) : DCod := ⟨a.α × b.α × c.α, fun F v x => ∃ p u w z, v = .ref p ∧ F p = some (.tup [u, w, z]) ∧ a.rel F u x.1 ∧ b.rel F w x.2.1 ∧ c.rel F z x.2.2,
  fun h e => let ⟨p, u, w, z, h1, h2, h3, h4, h5⟩ := h; ⟨p, u, w, z, h1, e p _ h2, a.ext h3 e, b.ext h4 e, c.ext h5 e⟩⟩
/-- a dict with int keys -/
abbrev dDict (c : DCod) : DCod := ⟨List (Int × c.α), fun F v kvs => ∃ a ks, v = .ref a ∧ F a = some (.dK ks) ∧ Paired (fun (p : Key × V) (q : Int × c.α) => p.1 = .inl q.1 ∧ c.rel F p.2 q.2) ks kvs,
  fun {F F' v x} h e => let ⟨a, ks, h1, h2, h3⟩ := h; ⟨a, ks, h1, e a _ h2, Paired.mapP h3 fun _ _ q => ⟨q.1, c.ext q.2 e⟩⟩⟩
abbrev mLst (c : DCod) : Cod := ⟨List c.α, fun F H fp v xs => ∃ a vs, v = .ref a ∧ fp = [a] ∧ H a = some (.lst vs) ∧ PV c F vs xs ∧ xs.length ≤ sizeLine,
  fun {F F' H H' fp v x} h e k => let ⟨a, vs, h1, h0, h2, h3, h4⟩ := h; ⟨a, vs, h1, h0, by rw [k a (by rw [h0]; simp)]; exact h2, h3.ext e, h4⟩⟩

/-- data in a row: an instance's fields, a call's arguments -/
def DEnv : List DCod → Type
  | [] => Unit
  | c :: cs => c.α × DEnv cs
def DRel : (cs : List DCod) → Hp → List V → DEnv cs → Prop
  | [], _, vs, _ => vs = []
  | c :: cs, F, vs, x => ∃ v vs', vs = v :: vs' ∧ c.rel F v x.1 ∧ DRel cs F vs' x.2
theorem DRel.ext {F F' : Hp} (e : Ex F F') : ∀ {cs : List DCod} {vs : List V} {x : DEnv cs}, DRel cs F vs x → DRel cs F' vs x
  | [], _, _, h => h
  | c :: cs, _, _, ⟨v, vs', h1, h2, h3⟩ => ⟨v, vs', h1, c.ext h2 e, DRel.ext e h3⟩
theorem DRel.len {F : Hp} : ∀ {cs : List DCod} {vs : List V} {x : DEnv cs}, DRel cs F vs x → vs.length = cs.length
  | [], _, _, h => by rw [show _ = [] from h]; rfl
  | c :: cs, _, _, ⟨v, vs', h1, h2, h3⟩ => by rw [h1, List.length_cons, DRel.len h3]; rfl
/-- an instance that never changes: the class's address, its fields' names and codes -/
abbrev dIns (C : Addr) (names : List Str) (cs : List DCod) : DCod := ⟨DEnv cs, fun F v x => ∃ a dx vs, v = .ref a ∧ F a = some (.ins C dx (names.zip vs)) ∧ DRel cs F vs x,
  fun h e => let ⟨a, dx, vs, h1, h2, h3⟩ := h; ⟨a, dx, vs, h1, e a _ h2, h3.ext e⟩⟩

/-! ### judgements -/
/-- what a reading guarantees: F grows; a pure one (p): new things alone, the environment as it was -/
def Gt (p : Bool) {Γ : List Sl} (F F' H H' : Hp) (ρ ρ' : Env Γ) : Prop := Ex F F' ∧ (p = true → ρ' = ρ ∧ Pext F F' H H')
theorem Gt.refl {p : Bool} {Γ : List Sl} {F H : Hp} {ρ : Env Γ} (h : Ex F H) : Gt p F F H H ρ ρ := ⟨Ex.refl F, fun _ => ⟨rfl, Pext.refl h⟩⟩
theorem Gt.trans {p : Bool} {Γ : List Sl} {F F1 F2 H H1 H2 : Hp} {ρ ρ1 ρ2 : Env Γ} (a : Gt p F F1 H H1 ρ ρ1) (b : Gt p F1 F2 H1 H2 ρ1 ρ2) : Gt p F F2 H H2 ρ ρ2 :=
  ⟨a.1.trans b.1, fun e => ⟨(b.2 e).1.trans (a.2 e).1, (a.2 e).2.trans (b.2 e).2⟩⟩
theorem Gt.pext {p : Bool} {Γ : List Sl} {F F1 F2 H H1 H2 : Hp} {ρ ρ1 : Env Γ} (a : Gt p F F1 H H1 ρ ρ1) (b : Pext F1 F2 H1 H2) : Gt p F F2 H H2 ρ ρ1 :=
  ⟨a.1.trans b.ff, fun e => ⟨(a.2 e).1, (a.2 e).2.trans b⟩⟩
theorem Gt.weak {p : Bool} {Γ : List Sl} {F F' H H' : Hp} {ρ ρ' : Env Γ} (a : Gt true F F' H H' ρ ρ') : Gt p F F' H H' ρ ρ' := ⟨a.1, fun _ => a.2 rfl⟩

section
variable (p : Bool) (E : XK) (XC : Str → Value)
/-- what a wish G about results says of what is raised -/
def Rs {R : Type} (B : Base) (G : Res R → Prop) : Prop := ¬ G .bad ∧ ∀ n H', G (.exc n) → Frm B H' → E (XC n) none H'
def EvE (Γ : List Sl) (te : TE) (c : DCod) (T : (R : Type) → (c.α → Env Γ → Res R) → Env Γ → Res R) : Prop :=
  ∀ (B : Base) (σ : St) (F H : Hp) (ρ : Env Γ), SInv B Γ σ F H ρ → ∀ (R : Type) (G : Res R → Prop), Rs E XC B G → ∀ (k : c.α → Env Γ → Res R) (Q : VK), G (T R k ρ) →
    (∀ x ρ' v F' H', SInv B Γ σ F' H' ρ' → Gt p F F' H H' ρ ρ' → c.rel F' v x → G (k x ρ') → Q v H') → te σ H Q
def EvT (Γ : List Sl) (tt : TT) (T : (R : Type) → (Bool → Env Γ → Res R) → Env Γ → Res R) : Prop :=
  ∀ (B : Base) (σ : St) (F H : Hp) (ρ : Env Γ), SInv B Γ σ F H ρ → ∀ (R : Type) (G : Res R → Prop), Rs E XC B G → ∀ (k : Bool → Env Γ → Res R) (Q : Bool → Hp → Prop), G (T R k ρ) →
    (∀ b ρ' F' H', SInv B Γ σ F' H' ρ' → Gt p F F' H H' ρ ρ' → G (k b ρ') → Q b H') → tt σ H Q
def EvA (Γ : List Sl) (ta : TA) (cs : List DCod) (T : (R : Type) → (DEnv cs → Env Γ → Res R) → Env Γ → Res R) : Prop :=
  ∀ (B : Base) (σ : St) (F H : Hp) (ρ : Env Γ), SInv B Γ σ F H ρ → ∀ (R : Type) (G : Res R → Prop), Rs E XC B G → ∀ (k : DEnv cs → Env Γ → Res R) (Q : List V → Hp → Prop), G (T R k ρ) →
    (∀ x ρ' vs F' H', SInv B Γ σ F' H' ρ' → Gt p F F' H H' ρ ρ' → DRel cs F' vs x → G (k x ρ') → Q vs H') → ta σ H Q
/-- a new thing that may change -/
def EvN (Γ : List Sl) (te : TE) (c : Cod) (T : (R : Type) → (c.α → Env Γ → Res R) → Env Γ → Res R) : Prop :=
  ∀ (B : Base) (σ : St) (F H : Hp) (ρ : Env Γ), SInv B Γ σ F H ρ → ∀ (R : Type) (G : Res R → Prop), Rs E XC B G → ∀ (k : c.α → Env Γ → Res R) (Q : VK), G (T R k ρ) →
    (∀ x ρ' v fp F0 H0 F' H', SInv B Γ σ F0 H0 ρ' → Gt p F F0 H H0 ρ ρ' → Pext F0 F' H0 H' → New fp H0 F' H' → c.rel F' H' fp v x → G (k x ρ') → Q v H') → te σ H Q
end
section
variable {p : Bool} {E : XK} {XC : Str → Value} {Γ Γ' : List Sl} {te ta tb tc : TE} {tt tu : TT} {tA : TA} {a b c d : DCod} {m : Cod}
/-- a new list that nobody changes is data -/
theorem freeze {T : (R : Type) → (List c.α → Env Γ → Res R) → Env Γ → Res R} (h : EvN p E XC Γ te (mLst c) T) : EvE p E XC Γ te (dLst c) T := fun B σ F H ρ I R G hG k Q g q =>
  h B σ F H ρ I R G hG k Q g fun x ρ' v fp F0 H0 F' H' I0 e pp n r g' => by
    obtain ⟨l, vs, rfl, rfl, hl, pv, hz⟩ := r
    obtain ⟨n1, n2, _⟩ := n.at_ l (by simp)
    have p2 : Pext F0 (upd F' l (.lst vs)) H0 H' := ⟨pp.hh, pp.ff.trans (Ex.new n2), fun a u ea => by
      by_cases hb : a = l
      · subst hb; rw [upd_same] at ea; cases ea; exact hl
      · rw [upd_ne hb] at ea; exact pp.fh a u ea, fun a u ea => by
      by_cases hb : a = l
      · subst hb; exact .inr n1
      · rw [upd_ne hb] at ea; exact pp.new a u ea⟩
    exact q x ρ' (.ref l) _ H' (I0.pext p2) (e.pext p2) ⟨l, vs, rfl, upd_same, pv.ext (Ex.new n2), hz⟩ g'
theorem ev_var {i : Nat} (at_ : At Γ i (.da c)) : EvE p E XC Γ (tVar i) c (fun R k ρ => k (at_.get ρ) ρ) := fun B σ F H ρ I R G hG k Q g q => by
  obtain ⟨v, h1, h2⟩ := I.data at_
  exact ⟨v, h1, q _ ρ v F H I (Gt.refl I.fh) h2 g⟩
theorem ev_c {v : V} {x : c.α} (h : ∀ F, c.rel F v x) : EvE p E XC Γ (tC v) c (fun R k ρ => k x ρ) := fun B σ F H ρ I R G hG k Q g q => q x ρ v F H I (Gt.refl I.fh) (h F) g
/-- another code of the same -/
theorem ev_as {T : (R : Type) → (a.α → Env Γ → Res R) → Env Γ → Res R} (f : a.α → b.α) (hf : ∀ F v x, a.rel F v x → b.rel F v (f x)) (h : EvE p E XC Γ te a T) : EvE p E XC Γ te b (fun R k ρ => T R (fun x => k (f x)) ρ) :=
  fun B σ F H ρ I R G hG k Q g q => h B σ F H ρ I R G hG _ Q g fun x ρ' v F' H' I' e r g' => q (f x) ρ' v F' H' I' e (hf F' v x r) g'
/-- … which is partly so -/
theorem ev_asP {T : (R : Type) → (a.α → Env Γ → Res R) → Env Γ → Res R} (f : a.α → Option b.α) (hf : ∀ F v x y, a.rel F v x → f x = some y → b.rel F v y) (h : EvE p E XC Γ te a T) : EvE p E XC Γ te b (fun R k ρ => T R (fun x ρ => opt (f x) fun y => k y ρ) ρ) :=
  fun B σ F H ρ I R G hG k Q g q => h B σ F H ρ I R G hG _ Q g fun x ρ' v F' H' I' e r g' => by
    cases hx : f x with
    | none => rw [hx] at g'; exact absurd g' hG.1
    | some y => rw [hx] at g'; exact q y ρ' v F' H' I' e (hf F' v x y r hx) g'
/-! operations on data by values -/
def Op2 (r : R2) (a b c : DCod) (f : a.α → b.α → c.α) : Prop := ∀ (F H : Hp) (v w : V) (x : a.α) (y : b.α) (Q : VK), Ex F H → a.rel F v x → b.rel F w y → (∀ u F' H', Pext F F' H H' → c.rel F' u (f x y) → Q u H') → r v w H Q
def Op2P (r : R2) (a b c : DCod) (f : a.α → b.α → Option c.α) : Prop := ∀ (F H : Hp) (v w : V) (x : a.α) (y : b.α) (z : c.α) (Q : VK), Ex F H → a.rel F v x → b.rel F w y → f x y = some z → (∀ u F' H', Pext F F' H H' → c.rel F' u z → Q u H') → r v w H Q
def Op1 (r : V → Hp → VK → Prop) (a c : DCod) (f : a.α → c.α) : Prop := ∀ (F H : Hp) (v : V) (x : a.α) (Q : VK), Ex F H → a.rel F v x → (∀ u F' H', Pext F F' H H' → c.rel F' u (f x) → Q u H') → r v H Q
def Op1P (r : V → Hp → VK → Prop) (a c : DCod) (f : a.α → Option c.α) : Prop := ∀ (F H : Hp) (v : V) (x : a.α) (z : c.α) (Q : VK), Ex F H → a.rel F v x → f x = some z → (∀ u F' H', Pext F F' H H' → c.rel F' u z → Q u H') → r v H Q
theorem ev_op {r : R2} {f : a.α → b.α → c.α} {Ta : (R : Type) → (a.α → Env Γ → Res R) → Env Γ → Res R} {Tb : (R : Type) → (b.α → Env Γ → Res R) → Env Γ → Res R} (o : Op2 r a b c f) (ha : EvE p E XC Γ ta a Ta) (hb : EvE p E XC Γ tb b Tb) :
    EvE p E XC Γ (tOp r ta tb) c (fun R k ρ => Ta R (fun x ρ => Tb R (fun y ρ => k (f x y) ρ) ρ) ρ) := fun B σ F H ρ I R G hG k Q g q =>
  ha B σ F H ρ I R G hG _ _ g fun x ρ1 v F1 H1 I1 e1 r1 g1 => hb B σ F1 H1 ρ1 I1 R G hG _ _ g1 fun y ρ2 w F2 H2 I2 e2 r2 g2 =>
    o F2 H2 v w x y Q I2.fh (a.ext r1 e2.1) r2 fun u F3 H3 pp r3 => q _ ρ2 u F3 H3 (I2.pext pp) ((e1.trans e2).pext pp) r3 g2
theorem ev_opP {r : R2} {f : a.α → b.α → Option c.α} {Ta : (R : Type) → (a.α → Env Γ → Res R) → Env Γ → Res R} {Tb : (R : Type) → (b.α → Env Γ → Res R) → Env Γ → Res R} (o : Op2P r a b c f) (ha : EvE p E XC Γ ta a Ta) (hb : EvE p E XC Γ tb b Tb) :
    EvE p E XC Γ (tOp r ta tb) c (fun R k ρ => Ta R (fun x ρ => Tb R (fun y ρ => opt (f x y) fun z => k z ρ) ρ) ρ) := fun B σ F H ρ I R G hG k Q g q =>
  ha B σ F H ρ I R G hG _ _ g fun x ρ1 v F1 H1 I1 e1 r1 g1 => hb B σ F1 H1 ρ1 I1 R G hG _ _ g1 fun y ρ2 w F2 H2 I2 e2 r2 g2 => by
    cases hx : f x y with
    | none => rw [hx] at g2; exact absurd g2 hG.1
    | some z =>
      rw [hx] at g2
      exact o F2 H2 v w x y z Q I2.fh (a.ext r1 e2.1) r2 hx fun u F3 H3 pp r3 => q _ ρ2 u F3 H3 (I2.pext pp) ((e1.trans e2).pext pp) r3 g2
theorem ev_un {r : V → Hp → VK → Prop} {f : a.α → c.α} {Ta : (R : Type) → (a.α → Env Γ → Res R) → Env Γ → Res R} (o : Op1 r a c f) (ha : EvE p E XC Γ ta a Ta) : EvE p E XC Γ (tUn r ta) c (fun R k ρ => Ta R (fun x ρ => k (f x) ρ) ρ) := fun B σ F H ρ I R G hG k Q g q =>
  ha B σ F H ρ I R G hG _ _ g fun x ρ1 v F1 H1 I1 e1 r1 g1 => o F1 H1 v x Q I1.fh r1 fun u F3 H3 pp r3 => q _ ρ1 u F3 H3 (I1.pext pp) (e1.pext pp) r3 g1
/-- a reading that goes on from a value: a field, a built-in function of one argument -/
theorem ev_1 {r : V → Hp → VK → Prop} {f : a.α → c.α} {Ta : (R : Type) → (a.α → Env Γ → Res R) → Env Γ → Res R} (o : Op1 r a c f) (ha : EvE p E XC Γ ta a Ta) : EvE p E XC Γ (fun σ H Q => ta σ H fun x H1 => r x H1 Q) c (fun R k ρ => Ta R (fun x ρ => k (f x) ρ) ρ) := ev_un o ha
theorem ev_1P {r : V → Hp → VK → Prop} {f : a.α → Option c.α} {Ta : (R : Type) → (a.α → Env Γ → Res R) → Env Γ → Res R} (o : Op1P r a c f) (ha : EvE p E XC Γ ta a Ta) : EvE p E XC Γ (fun σ H Q => ta σ H fun x H1 => r x H1 Q) c (fun R k ρ => Ta R (fun x ρ => opt (f x) fun z => k z ρ) ρ) := fun B σ F H ρ I R G hG k Q g q =>
  ha B σ F H ρ I R G hG _ _ g fun x ρ1 v F1 H1 I1 e1 r1 g1 => by
    cases hx : f x with
    | none => rw [hx] at g1; exact absurd g1 hG.1
    | some z =>
      rw [hx] at g1
      exact o F1 H1 v x z Q I1.fh r1 hx fun u F3 H3 pp r3 => q _ ρ1 u F3 H3 (I1.pext pp) (e1.pext pp) r3 g1
/-! arguments -/
theorem ea_nil : EvA p E XC Γ tNil [] (fun R k ρ => k () ρ) := fun B σ F H ρ I R G hG k Q g q => q () ρ [] F H I (Gt.refl I.fh) rfl g
theorem ea_cons {tr : TA} {cs : List DCod} {Ta : (R : Type) → (a.α → Env Γ → Res R) → Env Γ → Res R} {Tr : (R : Type) → (DEnv cs → Env Γ → Res R) → Env Γ → Res R} (ha : EvE p E XC Γ ta a Ta) (hr : EvA p E XC Γ tr cs Tr) :
    EvA p E XC Γ (tCons ta tr) (a :: cs) (fun R k ρ => Ta R (fun x ρ => Tr R (fun xs ρ => k (x, xs) ρ) ρ) ρ) := fun B σ F H ρ I R G hG k Q g q =>
  ha B σ F H ρ I R G hG _ _ g fun x ρ1 v F1 H1 I1 e1 r1 g1 => hr B σ F1 H1 ρ1 I1 R G hG _ _ g1 fun xs ρ2 vs F2 H2 I2 e2 r2 g2 =>
    q (x, xs) ρ2 (v :: vs) F2 H2 I2 (e1.trans e2) ⟨v, vs, rfl, a.ext r1 e2.1, r2⟩ g2
/-- a built-in function of one, of two arguments -/
def Op1b (r : List V → Hp → VK → Prop) (a c : DCod) (f : a.α → c.α) : Prop := Op1 (fun v H Q => r [v] H Q) a c f
def Op1bP (r : List V → Hp → VK → Prop) (a c : DCod) (f : a.α → Option c.α) : Prop := Op1P (fun v H Q => r [v] H Q) a c f
theorem ev_b1 {r : List V → Hp → VK → Prop} {f : a.α → c.α} {Ta : (R : Type) → (a.α → Env Γ → Res R) → Env Γ → Res R} (o : Op1b r a c f) (ha : EvE p E XC Γ ta a Ta) : EvE p E XC Γ (tCB r (tCons ta tNil)) c (fun R k ρ => Ta R (fun x ρ => k (f x) ρ) ρ) := ev_1 (r := fun v H Q => r [v] H Q) o ha
theorem ev_b1P {r : List V → Hp → VK → Prop} {f : a.α → Option c.α} {Ta : (R : Type) → (a.α → Env Γ → Res R) → Env Γ → Res R} (o : Op1bP r a c f) (ha : EvE p E XC Γ ta a Ta) : EvE p E XC Γ (tCB r (tCons ta tNil)) c (fun R k ρ => Ta R (fun x ρ => opt (f x) fun z => k z ρ) ρ) := ev_1P (r := fun v H Q => r [v] H Q) o ha
/-! tests, and, or, not, a if c else b -/
theorem ev_and {Ta Tb : (R : Type) → (Bool → Env Γ → Res R) → Env Γ → Res R} (ha : EvE p E XC Γ ta dBl Ta) (hb : EvE p E XC Γ tb dBl Tb) : EvE p E XC Γ (tAndV ta tb) dBl (fun R k ρ => Ta R (fun x ρ => if x = true then Tb R k ρ else k false ρ) ρ) := fun B σ F H ρ I R G hG k Q g q =>
  ha B σ F H ρ I R G hG _ _ g fun x ρ1 v F1 H1 I1 e1 r1 g1 => ⟨x, r1, by
    cases x with
    | true =>
      rw [if_pos rfl] at g1 ⊢
      exact hb B σ F1 H1 ρ1 I1 R G hG k Q g1 fun y ρ2 w F2 H2 I2 e2 r2 g2 => q y ρ2 w F2 H2 I2 (e1.trans e2) r2 g2
    | false =>
      rw [if_neg (by decide)] at g1 ⊢
      exact q false ρ1 _ F1 H1 I1 e1 rfl g1⟩
theorem ev_or {Ta Tb : (R : Type) → (Bool → Env Γ → Res R) → Env Γ → Res R} (ha : EvE p E XC Γ ta dBl Ta) (hb : EvE p E XC Γ tb dBl Tb) : EvE p E XC Γ (tOrV ta tb) dBl (fun R k ρ => Ta R (fun x ρ => if x = true then k true ρ else Tb R k ρ) ρ) := fun B σ F H ρ I R G hG k Q g q =>
  ha B σ F H ρ I R G hG _ _ g fun x ρ1 v F1 H1 I1 e1 r1 g1 => ⟨x, r1, by
    cases x with
    | false =>
      rw [if_neg (by decide)] at g1 ⊢
      exact hb B σ F1 H1 ρ1 I1 R G hG k Q g1 fun y ρ2 w F2 H2 I2 e2 r2 g2 => q y ρ2 w F2 H2 I2 (e1.trans e2) r2 g2
    | true =>
      rw [if_pos rfl] at g1 ⊢
      exact q true ρ1 _ F1 H1 I1 e1 rfl g1⟩
theorem ev_not {Ta : (R : Type) → (Bool → Env Γ → Res R) → Env Γ → Res R} (ha : EvE p E XC Γ ta dBl Ta) : EvE p E XC Γ (tNotV ta) dBl (fun R k ρ => Ta R (fun x ρ => k (!x) ρ) ρ) := fun B σ F H ρ I R G hG k Q g q =>
  ha B σ F H ρ I R G hG _ _ g fun x ρ1 v F1 H1 I1 e1 r1 g1 => ⟨x, r1, q _ ρ1 _ F1 H1 I1 e1 rfl g1⟩
theorem et_test {Ta : (R : Type) → (Bool → Env Γ → Res R) → Env Γ → Res R} (ha : EvE p E XC Γ ta dBl Ta) : EvT p E XC Γ (tTest ta) Ta := fun B σ F H ρ I R G hG k Q g q =>
  ha B σ F H ρ I R G hG k _ g fun x ρ1 v F1 H1 I1 e1 r1 g1 => ⟨x, r1, q _ ρ1 F1 H1 I1 e1 g1⟩
theorem et_B {Ta : (R : Type) → (Bool → Env Γ → Res R) → Env Γ → Res R} (ha : EvE p E XC Γ ta dBl Ta) : EvT p E XC Γ (tB ta) Ta := fun B σ F H ρ I R G hG k Q g q =>
  ha B σ F H ρ I R G hG k _ g fun x ρ1 v F1 H1 I1 e1 r1 g1 => ⟨x, r1, q _ ρ1 F1 H1 I1 e1 g1⟩
theorem et_and {Ta Tb : (R : Type) → (Bool → Env Γ → Res R) → Env Γ → Res R} (ha : EvT p E XC Γ tt Ta) (hb : EvT p E XC Γ tu Tb) : EvT p E XC Γ (tAnd tt tu) (fun R k ρ => Ta R (fun x ρ => if x = true then Tb R k ρ else k false ρ) ρ) := fun B σ F H ρ I R G hG k Q g q =>
  ha B σ F H ρ I R G hG _ _ g fun x ρ1 F1 H1 I1 e1 g1 => by
    cases x with
    | true =>
      rw [if_pos rfl] at g1
      show tu σ H1 Q
      exact hb B σ F1 H1 ρ1 I1 R G hG k Q g1 fun y ρ2 F2 H2 I2 e2 g2 => q y ρ2 F2 H2 I2 (e1.trans e2) g2
    | false =>
      rw [if_neg (by decide)] at g1
      show Q false H1
      exact q false ρ1 F1 H1 I1 e1 g1
theorem et_or {Ta Tb : (R : Type) → (Bool → Env Γ → Res R) → Env Γ → Res R} (ha : EvT p E XC Γ tt Ta) (hb : EvT p E XC Γ tu Tb) : EvT p E XC Γ (tOr tt tu) (fun R k ρ => Ta R (fun x ρ => if x = true then k true ρ else Tb R k ρ) ρ) := fun B σ F H ρ I R G hG k Q g q =>
  ha B σ F H ρ I R G hG _ _ g fun x ρ1 F1 H1 I1 e1 g1 => by
    cases x with
    | false =>
      rw [if_neg (by decide)] at g1
      show tu σ H1 Q
      exact hb B σ F1 H1 ρ1 I1 R G hG k Q g1 fun y ρ2 F2 H2 I2 e2 g2 => q y ρ2 F2 H2 I2 (e1.trans e2) g2
    | true =>
      rw [if_pos rfl] at g1
      show Q true H1
      exact q true ρ1 F1 H1 I1 e1 g1
theorem et_not {Ta : (R : Type) → (Bool → Env Γ → Res R) → Env Γ → Res R} (ha : EvT p E XC Γ tt Ta) : EvT p E XC Γ (tNot tt) (fun R k ρ => Ta R (fun x ρ => k (!x) ρ) ρ) := fun B σ F H ρ I R G hG k Q g q =>
  ha B σ F H ρ I R G hG _ _ g fun x ρ1 F1 H1 I1 e1 g1 => q _ ρ1 F1 H1 I1 e1 g1
theorem ev_if {T0 : (R : Type) → (Bool → Env Γ → Res R) → Env Γ → Res R} {Ta Tb : (R : Type) → (c.α → Env Γ → Res R) → Env Γ → Res R} (h : EvT p E XC Γ tt T0) (ha : EvE p E XC Γ ta c Ta) (hb : EvE p E XC Γ tb c Tb) :
    EvE p E XC Γ (tIf tt ta tb) c (fun R k ρ => T0 R (fun x ρ => if x = true then Ta R k ρ else Tb R k ρ) ρ) := fun B σ F H ρ I R G hG k Q g q =>
  h B σ F H ρ I R G hG _ _ g fun x ρ1 F1 H1 I1 e1 g1 => by
    cases x with
    | true =>
      rw [if_pos rfl] at g1
      show ta σ H1 Q
      exact ha B σ F1 H1 ρ1 I1 R G hG k Q g1 fun y ρ2 w F2 H2 I2 e2 r2 g2 => q y ρ2 w F2 H2 I2 (e1.trans e2) r2 g2
    | false =>
      rw [if_neg (by decide)] at g1
      show tb σ H1 Q
      exact hb B σ F1 H1 ρ1 I1 R G hG k Q g1 fun y ρ2 w F2 H2 I2 e2 r2 g2 => q y ρ2 w F2 H2 I2 (e1.trans e2) r2 g2
end
end Pu
set_option Elab.async false
set_option linter.all false
set_option maxRecDepth 100000
set_option maxHeartbeats 4000000
namespace Pu
open PySem L2 Evl

/-! ### promises -/
/-- a def over data: what it hands back is data; nothing that stood changes -/
def spD (XC : Str → Value) (cs : List DCod) (c : DCod) (f : DEnv cs → Res c.α) : Sp := fun vs H Q E => ∃ F x, Ex F H ∧ DRel cs F vs x ∧ f x ≠ .bad ∧
  (∀ z, f x = .ok z → ∀ u F' H', Pext F F' H H' → c.rel F' u z → Q u H') ∧ ∀ n, f x = .exc n → ∀ H', Ex H H' → E (XC n) none H'
/-- a def whose first argument is a thing that it may change -/
def spM (XC : Str → Value) (m : Cod) (cs : List DCod) (c : DCod) (f : m.α → DEnv cs → Res (c.α × m.α)) : Sp := fun vs H Q E => ∃ F fp v vs' y x, vs = v :: vs' ∧ Ex F H ∧ m.rel F H fp v y ∧ fp.Nodup ∧ (∀ a, a ∈ fp → F a = none ∧ ∃ o, H a = some o) ∧ DRel cs F vs' x ∧ f y x ≠ .bad ∧
  (∀ z y', f y x = .ok (z, y') → ∀ u F' H' fp', Step F H fp F' H' fp' → m.rel F' H' fp' v y' → c.rel F' u z → Q u H') ∧ ∀ n, f y x = .exc n → ∀ H', (∀ a o, H a = some o → a ∉ fp → H' a = some o) → E (XC n) none H'
/-- a def whose first argument is a thing that may change, which it reads -/
def spC (XC : Str → Value) (m : Cod) (cs : List DCod) (c : DCod) (f : m.α → DEnv cs → Res c.α) : Sp := fun vs H Q E => ∃ F fp v vs' y x, vs = v :: vs' ∧ Ex F H ∧ m.rel F H fp v y ∧ fp.Nodup ∧ (∀ a, a ∈ fp → F a = none ∧ ∃ o, H a = some o) ∧ DRel cs F vs' x ∧ f y x ≠ .bad ∧
  (∀ z, f y x = .ok z → ∀ u F' H', Pext F F' H H' → c.rel F' u z → Q u H') ∧ ∀ n, f y x = .exc n → ∀ H', Ex H H' → E (XC n) none H'

section
variable {p : Bool} {E : XK} {XC : Str → Value} {Γ Γ' : List Sl} {te ta tb tc : TE} {tt tu : TT} {tA : TA} {a b c d : DCod} {m : Cod} {cs : List DCod}
theorem ev_w {T : (R : Type) → (c.α → Env Γ → Res R) → Env Γ → Res R} (h : EvE true E XC Γ te c T) : EvE p E XC Γ te c T := fun B σ F H ρ I R G hG k Q g q =>
  h B σ F H ρ I R G hG k Q g fun x ρ' v F' H' I' e r g' => q x ρ' v F' H' I' e.weak r g'
theorem et_w {T : (R : Type) → (Bool → Env Γ → Res R) → Env Γ → Res R} (h : EvT true E XC Γ tt T) : EvT p E XC Γ tt T := fun B σ F H ρ I R G hG k Q g q =>
  h B σ F H ρ I R G hG k Q g fun x ρ' F' H' I' e g' => q x ρ' F' H' I' e.weak g'
theorem ea_w {T : (R : Type) → (DEnv cs → Env Γ → Res R) → Env Γ → Res R} (h : EvA true E XC Γ tA cs T) : EvA p E XC Γ tA cs T := fun B σ F H ρ I R G hG k Q g q =>
  h B σ F H ρ I R G hG k Q g fun x ρ' v F' H' I' e r g' => q x ρ' v F' H' I' e.weak r g'
theorem en_w {T : (R : Type) → (m.α → Env Γ → Res R) → Env Γ → Res R} (h : EvN true E XC Γ te m T) : EvN p E XC Γ te m T := fun B σ F H ρ I R G hG k Q g q =>
  h B σ F H ρ I R G hG k Q g fun x ρ' v fp F0 H0 F' H' I' e pp n r g' => q x ρ' v fp F0 H0 F' H' I' e.weak pp n r g'
theorem DRel.app {F : Hp} : ∀ {cs : List DCod} {vs : List V} {x : DEnv cs}, DRel cs F vs x → DRel cs F (vs ++ []) x := fun h => by rw [List.append_nil]; exact h
/-- the value of a call, by what the def's mirror gives -/
theorem call_goes {B : Base} {σ : St} {F H : Hp} {ρ : Env Γ} {R : Type} {G : Res R → Prop} (hG : Rs E XC B G) {k : c.α → Env Γ → Res R} {f : Res c.α} {Q : VK} (I : SInv B Γ σ F H ρ) (g : G (f.bind fun z => k z ρ))
    (q : ∀ z u F' H', f = .ok z → Pext F F' H H' → c.rel F' u z → G (k z ρ) → Q u H') :
    f ≠ .bad ∧ (∀ z, f = .ok z → ∀ u F' H', Pext F F' H H' → c.rel F' u z → Q u H') ∧ ∀ n, f = .exc n → ∀ H', Ex H H' → E (XC n) none H' := by
  refine ⟨fun e => ?_, fun z e u F' H' pp r => ?_, fun n e H' eh => ?_⟩
  · rw [e] at g; exact hG.1 g
  · rw [e] at g; exact q z u F' H' e pp r g
  · rw [e] at g; exact hG.2 n H' g (I.frm.ex eh)
theorem ev_call {f : DEnv cs → Res c.α} {TA : (R : Type) → (DEnv cs → Env Γ → Res R) → Env Γ → Res R} (h : EvA p E XC Γ tA cs TA) : EvE p E XC Γ (tCall (spD XC cs c f) [] E tA) c (fun R k ρ => TA R (fun x ρ => (f x).bind fun z => k z ρ) ρ) := fun B σ F H ρ I R G hG k Q g q =>
  h B σ F H ρ I R G hG _ _ g fun x ρ1 vs F1 H1 I1 e1 r1 g1 => ⟨F1, x, I1.fh, r1.app, call_goes hG I1 g1 fun z u F' H' _ pp r g2 => q z ρ1 u F' H' (I1.pext pp) (e1.pext pp) r g2⟩
theorem ev_call0 {f : DEnv [] → Res c.α} : EvE p E XC Γ (tCall (spD XC [] c f) [] E tNil) c (fun R k ρ => (f ()).bind fun z => k z ρ) := ev_call ea_nil
/-- a method of an instance that never changes -/
theorem zip_no {names : List Str} {m : Str} (h : names.contains m = false) : ∀ (vs : List V), (names.zip vs).lookup m = none := by
  induction names with
  | nil => intro vs; rfl
  | cons n ns ih =>
    intro vs
    cases vs with
    | nil => rfl
    | cons v vs =>
      simp only [List.contains_cons, Bool.or_eq_false_iff] at h
      show (match m == n with | true => some v | false => (ns.zip vs).lookup m) = none
      rw [h.1]
      exact ih h.2 vs
theorem ev_meth {C : Addr} {nm : Str} {names : List Str} {fs : List DCod} {f : DEnv (dIns C names fs :: cs) → Res c.α} {To : (R : Type) → (DEnv fs → Env Γ → Res R) → Env Γ → Res R} {TA : (R : Type) → (DEnv cs → Env Γ → Res R) → Env Γ → Res R}
    (hn : names.contains nm = false) (ho : EvE p E XC Γ ta (dIns C names fs) To) (h : EvA p E XC Γ tA cs TA) :
    EvE p E XC Γ (tMeth C nm (spD XC (dIns C names fs :: cs) c f) [] E ta tA) c (fun R k ρ => To R (fun o ρ => TA R (fun x ρ => (f (o, x)).bind fun z => k z ρ) ρ) ρ) := fun B σ F H ρ I R G hG k Q g q =>
  ho B σ F H ρ I R G hG _ _ g fun o ρ0 v F0 H0 I0 e0 r0 g0 => by
    obtain ⟨x0, dx, vs0, rfl, h0, hr⟩ := id r0
    refine ⟨x0, dx, _, rfl, I0.fh x0 _ h0, zip_no hn _, h B σ F0 H0 ρ0 I0 R G hG _ _ g0 fun x ρ1 vs F1 H1 I1 e1 r1 g1 => ?_⟩
    exact ⟨F1, (o, x), I1.fh, ⟨.ref x0, vs ++ [], rfl, (dIns C names fs).ext r0 e1.1, r1.app⟩, call_goes hG I1 g1 fun z u F' H' _ pp r g2 => q z ρ1 u F' H' (I1.pext pp) ((e0.trans e1).pext pp) r g2⟩
/-- a field of an instance that never changes -/
def DAt : List DCod → Nat → DCod → Prop := fun cs j c => cs[j]? = some c
def DEnv.get : (cs : List DCod) → (j : Nat) → {c : DCod} → cs[j]? = some c → DEnv cs → c.α
  | c :: _, 0, _, h, x => (Option.some.inj h) ▸ x.1
  | _ :: cs, j + 1, _, h, x => DEnv.get cs j (by simpa using h) x.2
inductive Fd : List Str → List DCod → Str → DCod → Type 1 where
  | z {n : Str} {c : DCod} {ns : List Str} {cs : List DCod} : Fd (n :: ns) (c :: cs) n c
  | s {n m : Str} {c d : DCod} {ns : List Str} {cs : List DCod} (h : (m == n) = false) (r : Fd ns cs m d) : Fd (n :: ns) (c :: cs) m d
def Fd.get : {ns : List Str} → {cs : List DCod} → {n : Str} → {c : DCod} → Fd ns cs n c → DEnv cs → c.α
  | _, _, _, _, .z, x => x.1
  | _, _, _, _, .s _ r, x => r.get x.2
theorem Fd.at_ {F : Hp} : ∀ {ns : List Str} {cs : List DCod} {n : Str} {c : DCod} (fd : Fd ns cs n c) {vs : List V} {x : DEnv cs}, DRel cs F vs x → ∃ v, (ns.zip vs).lookup n = some v ∧ c.rel F v (fd.get x)
  | _, _, _, _, .z, vs, x, ⟨v, vs', e, r, h⟩ => ⟨v, by rw [e]; simp [List.zip_cons_cons, List.lookup], r⟩
  | _, _, _, _, .s hn q, vs, x, ⟨v, vs', e, r, h⟩ => by
    obtain ⟨u, h1, h2⟩ := q.at_ h
    refine ⟨u, ?_, h2⟩
    rw [e]
    simp only [List.zip_cons_cons, List.lookup, hn]
    exact h1
theorem ev_fld {K : PySem.W.Frag} {C : Addr} {names : List Str} {fs : List DCod} {n : Str} {To : (R : Type) → (DEnv fs → Env Γ → Res R) → Env Γ → Res R} (hc : Cls K C) (hn : NoAttr K C n) (fd : Fd names fs n c) (ho : EvE p E XC Γ ta (dIns C names fs) To) :
    EvE p E XC Γ (tFld K ta n) c (fun R k ρ => To R (fun o ρ => k (fd.get o) ρ) ρ) := fun B σ F H ρ I R G hG k Q g q =>
  ho B σ F H ρ I R G hG _ _ g fun o ρ0 v F0 H0 I0 e0 r0 g0 => by
    obtain ⟨x0, dx, vs0, rfl, h0, hr⟩ := r0
    obtain ⟨u, h1, h2⟩ := fd.at_ hr
    exact ⟨x0, C, dx, _, u, rfl, I0.fh x0 _ h0, hc, hn, h1, q _ ρ0 u F0 H0 I0 e0 h2 g0⟩

/-! ### a def's call with a thing that may change -/
theorem ev_callM {i : Nat} {k : Kd} (hk : k ≠ .co) (at_ : At Γ i (.m k m)) {f : m.α → DEnv cs → Res (c.α × m.α)} {TA : (R : Type) → (DEnv cs → Env Γ → Res R) → Env Γ → Res R} (h : EvA false E XC Γ tA cs TA) :
    EvE false E XC Γ (tCall (spM XC m cs c f) [] E (tCons (tVar i) tA)) c (fun R kk ρ => TA R (fun x ρ => (f (at_.get ρ) x).bind fun z => kk z.1 (at_.put ρ z.2)) ρ) := fun B σ F H ρ I R G hG kk Q g q => by
  obtain ⟨v, fp0, h1, _⟩ := I.mut at_
  refine ⟨v, h1, h B σ F H ρ I R G hG _ _ g fun x ρ1 vs F1 H1 I1 e1 r1 g1 => ?_⟩
  obtain ⟨v', fp, h2, _, hr, nd, hfp, hst⟩ := I1.mut at_
  rw [h1] at h2
  cases h2
  refine ⟨F1, fp, v, vs ++ [], at_.get ρ1, x, rfl, I1.fh, hr, nd, fun a ha => ⟨(hfp a ha).1, (hfp a ha).2.1⟩, r1.app, fun e => ?_, fun z y' e u F' H' fp' st r' ru => ?_, fun n e H' eh => ?_⟩
  · rw [e] at g1; exact hG.1 g1
  · rw [e] at g1
    exact q z _ u F' H' (hst hk F' H' fp' y' st r') ⟨e1.1.trans st.ff, fun z => nomatch z⟩ ru g1
  · rw [e] at g1
    refine hG.2 n H' g1 fun a o ha hm hn => ?_
    have ha1 := I1.frm a o ha hm hn
    by_cases hf : a ∈ fp
    · exfalso
      obtain ⟨_, _, q1, q2⟩ := hfp a hf
      cases k with
      | pa => rcases q1 rfl with z | z
              · exact hm z
              · rw [ha] at z; cases z
      | lo => rcases q2 rfl with z | z
              · exact hn z
              · rw [ha] at z; cases z
      | co => exact hk rfl
    · exact eh a o ha1 hf
theorem ev_callC {i : Nat} {k : Kd} (at_ : At Γ i (.m k m)) {f : m.α → DEnv cs → Res c.α} {TA : (R : Type) → (DEnv cs → Env Γ → Res R) → Env Γ → Res R} (h : EvA p E XC Γ tA cs TA) :
    EvE p E XC Γ (tCall (spC XC m cs c f) [] E (tCons (tVar i) tA)) c (fun R kk ρ => TA R (fun x ρ => (f (at_.get ρ) x).bind fun z => kk z ρ) ρ) := fun B σ F H ρ I R G hG kk Q g q => by
  obtain ⟨v, fp0, h1, _⟩ := I.mut at_
  refine ⟨v, h1, h B σ F H ρ I R G hG _ _ g fun x ρ1 vs F1 H1 I1 e1 r1 g1 => ?_⟩
  obtain ⟨v', fp, h2, _, hr, nd, hfp, hst⟩ := I1.mut at_
  rw [h1] at h2
  cases h2
  exact ⟨F1, fp, v, vs ++ [], at_.get ρ1, x, rfl, I1.fh, hr, nd, fun a ha => ⟨(hfp a ha).1, (hfp a ha).2.1⟩, r1.app, call_goes hG I1 g1 fun z u F' H' _ pp r g2 => q z ρ1 u F' H' (I1.pext pp) (e1.pext pp) r g2⟩
end

/-! ### statements -/
/-- what a def gives back: data and, of a thing that it may change, the last state -/
structure Ret where
  r : DCod
  P : Type
  ok : Base → Hp → Hp → V → P → Prop
abbrev retD (c : DCod) : Ret := ⟨c, Unit, fun B F H _ _ => B.M = [] → B.N = [] → Pext B.F F B.H H⟩
abbrev retM (c : DCod) (m : Cod) (i : Nat) : Ret := ⟨c, m.α, fun B F H _ y => ∃ v fp', B.N = [] → B.τ[i]? = some (some v) ∧ m.rel F H fp' v y ∧ Step B.F B.H B.M F H fp'⟩
section
variable (E : XK) (XC : Str → Value) (Rt : Ret)
/-- the continuations of a statement: behind it, a return, break, continue -/
def StE (Γ : List Sl) (ts : TS) (Γ' ΓL : List Sl) (T : (R : Type) → (Env Γ' → Res R) → (Rt.r.α → Rt.P → Res R) → (Env ΓL → Res R) → (Env ΓL → Res R) → Env Γ → Res R) : Prop :=
  ∀ (B : Base) (σ : St) (F H : Hp) (ρ : Env Γ), SInv B Γ σ F H ρ → ∀ (R : Type) (G : Res R → Prop), Rs E XC B G → ∀ (nx : Env Γ' → Res R) (rt : Rt.r.α → Rt.P → Res R) (bk ct : Env ΓL → Res R) (D : Ends), G (T R nx rt bk ct ρ) →
    (∀ ρ' σ' F' H', SInv B Γ' σ' F' H' ρ' → Ex F F' → G (nx ρ') → D.nx σ' H') → (∀ x y v F' H', Rt.ok B F' H' v y → Rt.r.rel F' v x → G (rt x y) → D.rt v H') →
    (∀ ρ' σ' F' H', SInv B ΓL σ' F' H' ρ' → Ex F F' → G (bk ρ') → D.bk σ' H') → (∀ ρ' σ' F' H', SInv B ΓL σ' F' H' ρ' → Ex F F' → G (ct ρ') → D.ct σ' H') → ts D σ H
end
section
variable {p : Bool} {E : XK} {XC : Str → Value} {Rt : Ret} {Γ Γ' Γ1 Γ2 ΓL : List Sl} {te ta tb tc : TE} {tt tu : TT} {tA : TA} {a b c d : DCod} {m : Cod} {cs : List DCod} {ts us : TS}
theorem st_next : StE E XC Rt Γ tNext Γ ΓL (fun R nx rt bk ct ρ => nx ρ) := fun B σ F H ρ I R G hG nx rt bk ct D g qn qr qb qc => qn ρ σ F H I (Ex.refl F) g
theorem st_seq {T : (R : Type) → (Env Γ1 → Res R) → (Rt.r.α → Rt.P → Res R) → (Env ΓL → Res R) → (Env ΓL → Res R) → Env Γ → Res R} {U : (R : Type) → (Env Γ' → Res R) → (Rt.r.α → Rt.P → Res R) → (Env ΓL → Res R) → (Env ΓL → Res R) → Env Γ1 → Res R}
    (h : StE E XC Rt Γ ts Γ1 ΓL T) (h2 : StE E XC Rt Γ1 us Γ' ΓL U) : StE E XC Rt Γ (tSeq ts us) Γ' ΓL (fun R nx rt bk ct ρ => T R (fun ρ => U R nx rt bk ct ρ) rt bk ct ρ) := fun B σ F H ρ I R G hG nx rt bk ct D g qn qr qb qc =>
  h B σ F H ρ I R G hG _ rt bk ct { D with nx := us D } g (fun ρ' σ' F' H' I' e' g' => h2 B σ' F' H' ρ' I' R G hG nx rt bk ct D g' (fun ρ2 σ2 F2 H2 I2 e2 g2 => qn ρ2 σ2 F2 H2 I2 (e'.trans e2) g2) qr (fun ρ2 σ2 F2 H2 I2 e2 g2 => qb ρ2 σ2 F2 H2 I2 (e'.trans e2) g2) (fun ρ2 σ2 F2 H2 I2 e2 g2 => qc ρ2 σ2 F2 H2 I2 (e'.trans e2) g2)) qr qb qc
theorem st_set {i : Nat} {s : Sl} (u : Up Γ i s (.da c) Γ') {T : (R : Type) → (c.α → Env Γ → Res R) → Env Γ → Res R} (h : EvE p E XC Γ te c T) : StE E XC Rt Γ (tAsg te (gName i)) Γ' ΓL (fun R nx rt bk ct ρ => T R (fun x ρ => nx (u.set ρ x)) ρ) := fun B σ F H ρ I R G hG nx rt bk ct D g qn qr qb qc =>
  h B σ F H ρ I R G hG _ _ g fun x ρ' v F' H' I' e r g' => qn _ _ F' H' (I'.setD u r) e.1 g'
theorem st_setN {i : Nat} {s : Sl} (u : Up Γ i s (.m .lo m) Γ') {T : (R : Type) → (m.α → Env Γ → Res R) → Env Γ → Res R} (h : EvN p E XC Γ te m T) : StE E XC Rt Γ (tAsg te (gName i)) Γ' ΓL (fun R nx rt bk ct ρ => T R (fun x ρ => nx (u.set ρ x)) ρ) := fun B σ F H ρ I R G hG nx rt bk ct D g qn qr qb qc =>
  h B σ F H ρ I R G hG _ _ g fun x ρ' v fp F0 H0 F' H' I' e pp n r g' => qn _ _ F' H' (I'.setM pp n u r) (e.1.trans pp.ff) g'
theorem st_if {T0 : (R : Type) → (Bool → Env Γ → Res R) → Env Γ → Res R} {T U : (R : Type) → (Env Γ' → Res R) → (Rt.r.α → Rt.P → Res R) → (Env ΓL → Res R) → (Env ΓL → Res R) → Env Γ → Res R} (h : EvT p E XC Γ tt T0) (h1 : StE E XC Rt Γ ts Γ' ΓL T) (h2 : StE E XC Rt Γ us Γ' ΓL U) :
    StE E XC Rt Γ (tIfS tt ts us) Γ' ΓL (fun R nx rt bk ct ρ => T0 R (fun x ρ => if x = true then T R nx rt bk ct ρ else U R nx rt bk ct ρ) ρ) := fun B σ F H ρ I R G hG nx rt bk ct D g qn qr qb qc =>
  h B σ F H ρ I R G hG _ _ g fun x ρ1 F1 H1 I1 e1 g1 => by
    cases x with
    | true =>
      rw [if_pos rfl] at g1
      show ts D σ H1
      exact h1 B σ F1 H1 ρ1 I1 R G hG nx rt bk ct D g1 (fun ρ2 σ2 F2 H2 I2 e2 g2 => qn ρ2 σ2 F2 H2 I2 (e1.1.trans e2) g2) qr (fun ρ2 σ2 F2 H2 I2 e2 g2 => qb ρ2 σ2 F2 H2 I2 (e1.1.trans e2) g2) (fun ρ2 σ2 F2 H2 I2 e2 g2 => qc ρ2 σ2 F2 H2 I2 (e1.1.trans e2) g2)
    | false =>
      rw [if_neg (by decide)] at g1
      show us D σ H1
      exact h2 B σ F1 H1 ρ1 I1 R G hG nx rt bk ct D g1 (fun ρ2 σ2 F2 H2 I2 e2 g2 => qn ρ2 σ2 F2 H2 I2 (e1.1.trans e2) g2) qr (fun ρ2 σ2 F2 H2 I2 e2 g2 => qb ρ2 σ2 F2 H2 I2 (e1.1.trans e2) g2) (fun ρ2 σ2 F2 H2 I2 e2 g2 => qc ρ2 σ2 F2 H2 I2 (e1.1.trans e2) g2)
/-- forgetting a slot -/
theorem SRel.drop {F H : Hp} : ∀ {Γ Γ' : List Sl} {i : Nat} {s : Sl} (u : Up Γ i s .no Γ') {τ σ : St} {L : Fps} {ρ : Env Γ}, SRel Γ τ σ F H L ρ → ∃ L', SRel Γ' τ σ F H L' (u.set ρ ()) ∧ L'.Sublist L
  | .no :: Γ, _, _, _, .z, τ, σ, L, ρ, ⟨w, σ', e, h⟩ => ⟨L, ⟨w, σ', e, h⟩, List.Sublist.refl _⟩
  | .da c' :: Γ, _, _, _, .z, τ, σ, L, ρ, ⟨w, σ', e, _, h⟩ => ⟨L, ⟨some w, σ', e, h⟩, List.Sublist.refl _⟩
  | .m k c' :: Γ, _, _, _, .z, τ, σ, L, ρ, ⟨w, σ', fp, L', e, e2, e3, _, h⟩ => ⟨L', ⟨some w, σ', e, h⟩, by rw [e3]; exact List.sublist_append_right _ _⟩
  | .no :: Γ, _, _, _, .s q, τ, σ, L, ρ, ⟨w, σ', e, h⟩ => by
    obtain ⟨L', h1, h2⟩ := SRel.drop q h
    exact ⟨L', ⟨w, σ', e, h1⟩, h2⟩
  | .da c' :: Γ, _, _, _, .s q, τ, σ, L, ρ, ⟨w, σ', e, hr, h⟩ => by
    obtain ⟨L', h1, h2⟩ := SRel.drop q h
    exact ⟨L', ⟨w, σ', e, hr, h1⟩, h2⟩
  | .m k c' :: Γ, _, _, _, .s q, τ, σ, L, ρ, ⟨w, σ', fp, L0, e, e2, e3, hr, h⟩ => by
    obtain ⟨L', h1, h2⟩ := SRel.drop q h
    exact ⟨tag k fp ++ L', ⟨w, σ', fp, L', e, e2, rfl, hr, h1⟩, by rw [e3]; exact h2.append_left _⟩
theorem SInv.drop {B : Base} {σ : St} {F H : Hp} {ρ : Env Γ} {i : Nat} {s : Sl} (I : SInv B Γ σ F H ρ) (u : Up Γ i s .no Γ') : SInv B Γ' σ F H (u.set ρ ()) := by
  obtain ⟨L, h, w⟩ := I
  obtain ⟨L', h1, h2⟩ := h.drop u
  exact ⟨L', h1, w.sub h2⟩
theorem st_drop {i : Nat} {s : Sl} (u : Up Γ1 i s .no Γ') {T : (R : Type) → (Env Γ1 → Res R) → (Rt.r.α → Rt.P → Res R) → (Env ΓL → Res R) → (Env ΓL → Res R) → Env Γ → Res R} (h : StE E XC Rt Γ ts Γ1 ΓL T) :
    StE E XC Rt Γ ts Γ' ΓL (fun R nx rt bk ct ρ => T R (fun ρ => nx (u.set ρ ())) rt bk ct ρ) := fun B σ F H ρ I R G hG nx rt bk ct D g qn qr qb qc =>
  h B σ F H ρ I R G hG _ rt bk ct D g (fun ρ' σ' F' H' I' e' g' => qn _ σ' F' H' (I'.drop u) e' g') qr qb qc
/-- how the slots at a return tell what a def gives back -/
structure Pr (Rt : Ret) (Γ : List Sl) where
  f : Env Γ → Rt.P
  ok : ∀ {B : Base} {σ : St} {F H : Hp} {ρ : Env Γ}, SInv B Γ σ F H ρ → ∀ v, Rt.ok B F H v (f ρ)
theorem SInv.pextB {B : Base} {σ : St} {F H : Hp} {ρ : Env Γ} (I : SInv B Γ σ F H ρ) (hM : B.M = []) (hN : B.N = []) : Pext B.F F B.H H := by
  obtain ⟨L, _, w⟩ := I
  exact ⟨fun a o h => w.keep a o h (by rw [hM]; simp) (by rw [hN]; simp), w.bf, w.fh, w.new⟩
def prD : Pr (retD c) Γ := ⟨fun _ => (), fun I _ hM hN => I.pextB hM hN⟩
theorem SInv.stepB {B : Base} {σ : St} {F H : Hp} {ρ : Env Γ} {i : Nat} (I : SInv B Γ σ F H ρ) (at_ : At Γ i (.m .pa m)) : ∃ v fp', B.N = [] → B.τ[i]? = some (some v) ∧ m.rel F H fp' v (at_.get ρ) ∧ Step B.F B.H B.M F H fp' := by
  obtain ⟨v, fp, h1, h2, hr, nd, hfp, _⟩ := I.mut at_
  obtain ⟨L, _, w⟩ := I
  refine ⟨v, fp, fun hN => ⟨h2.resolve_left (by decide), hr, w.bf, w.fh, fun a o h hm => w.keep a o h hm (by rw [hN]; simp), w.there, w.new, nd, fun a ha => ?_⟩⟩
  obtain ⟨q1, q2, q3, _⟩ := hfp a ha
  exact ⟨q3 rfl, q1, q2⟩
def prM {i : Nat} (at_ : At Γ i (.m .pa m)) : Pr (retM c m i) Γ := ⟨fun ρ => at_.get ρ, fun I _ => I.stepB at_⟩
theorem st_ret {T : (R : Type) → (Rt.r.α → Env Γ → Res R) → Env Γ → Res R} (pr : Pr Rt Γ) (h : EvE p E XC Γ te Rt.r T) : StE E XC Rt Γ (tRet te) Γ' ΓL (fun R nx rt bk ct ρ => T R (fun x ρ => rt x (pr.f ρ)) ρ) := fun B σ F H ρ I R G hG nx rt bk ct D g qn qr qb qc =>
  h B σ F H ρ I R G hG _ _ g fun x ρ' v F' H' I' e r g' => qr x _ v F' H' (pr.ok I' v) r g'
theorem st_retN (hr : Rt.r = dNon) (pr : Pr Rt Γ) : StE E XC Rt Γ tRetN Γ' ΓL (fun R nx rt bk ct ρ => rt (hr ▸ ()) (pr.f ρ)) := fun B σ F H ρ I R G hG nx rt bk ct D g qn qr qb qc =>
  qr _ _ .non F H (pr.ok I .non) (by
    obtain ⟨r, P, ok⟩ := Rt
    cases hr
    rfl) g
theorem st_break : StE E XC Rt Γ tBreak Γ' Γ (fun R nx rt bk ct ρ => bk ρ) := fun B σ F H ρ I R G hG nx rt bk ct D g qn qr qb qc => qb ρ σ F H I (Ex.refl F) g
theorem st_cont : StE E XC Rt Γ tCont Γ' Γ (fun R nx rt bk ct ρ => ct ρ) := fun B σ F H ρ I R G hG nx rt bk ct D g qn qr qb qc => qc ρ σ F H I (Ex.refl F) g
theorem st_expr {T : (R : Type) → (c.α → Env Γ → Res R) → Env Γ → Res R} (h : EvE p E XC Γ te c T) : StE E XC Rt Γ (tDrop te) Γ ΓL (fun R nx rt bk ct ρ => T R (fun x ρ => nx ρ) ρ) := fun B σ F H ρ I R G hG nx rt bk ct D g qn qr qb qc =>
  h B σ F H ρ I R G hG _ _ g fun x ρ' v F' H' I' e r g' => qn _ _ F' H' I' e.1 g'
/-- raise -/
def tRaise (C : Value) : TS := fun D σ H => True
end

/-! ### what is walked -/
/-- J walks the data xs -/
structure Walks (J : It) (c : DCod) (xs : List c.α) (F : Hp) : Prop where
  ex : ∃ Y, Walk J xs.length (fun H => Ex F H) Y ∧ ∀ i H v H' F1, Y i H v H' → Ex F F1 → Ex F1 H → ∃ F2 x, xs[i]? = some x ∧ Pext F1 F2 H H' ∧ c.rel F2 v x
section
variable (p : Bool) (E : XK) (XC : Str → Value)
def EvI (Γ : List Sl) (ti : TI) (c : DCod) (T : (R : Type) → (List c.α → Env Γ → Res R) → Env Γ → Res R) : Prop :=
  ∀ (B : Base) (σ : St) (F H : Hp) (ρ : Env Γ), SInv B Γ σ F H ρ → ∀ (R : Type) (G : Res R → Prop), Rs E XC B G → ∀ (k : List c.α → Env Γ → Res R) (Q : It → Hp → Prop), G (T R k ρ) →
    (∀ xs ρ' J F' H', SInv B Γ σ F' H' ρ' → Gt p F F' H H' ρ ρ' → Walks J c xs F' → G (k xs ρ') → xs.length ≤ sizeLine → Q J H') → ti σ H Q
end
/-- a target: what it does to the slots -/
def TgE (Γ : List Sl) (tg : TG) (c : DCod) (Γ' : List Sl) (f : Env Γ → c.α → Env Γ') (is : List Nat) : Prop :=
  ∀ (B : Base) (σ : St) (F H : Hp) (ρ : Env Γ) (v : V) (x : c.α), SInv B Γ σ F H ρ → c.rel F v x → ∀ (Q : St → Hp → Prop), (∀ σ', SInv B Γ' σ' F H (f ρ x) → (∀ i, i ∉ is → σ'[i]? = σ[i]?) → σ'.length = σ.length → Q σ' H) → tg v σ H Q
section
variable {p : Bool} {E : XK} {XC : Str → Value} {Rt : Ret} {Γ Γ' Γ1 Γ2 ΓL : List Sl} {te ta tb tc : TE} {tt tu : TT} {tA : TA} {ti : TI} {tg : TG} {a b c d : DCod} {m : Cod} {cs : List DCod} {ts us : TS}
theorem tg_name {i : Nat} {s : Sl} (u : Up Γ i s (.da c) Γ') : TgE Γ (gName i) c Γ' (fun ρ x => u.set ρ x) [i] := fun B σ F H ρ v x I r Q q =>
  q _ (I.setD u r) (fun j hj => by rw [List.getElem?_set_ne (fun e => hj (by simp [e]))]) (by rw [List.length_set])
theorem tg_p2 {K : PySem.W.Frag} {t1 t2 : TG} {f : Env Γ → a.α → Env Γ1} {g : Env Γ1 → b.α → Env Γ'} {is js : List Nat} (h1 : TgE Γ t1 a Γ1 f is) (h2 : TgE Γ1 t2 b Γ' g js) : TgE Γ (gTup K 2 (gCons t1 (gCons t2 gNil))) (dP2 a b) Γ' (fun ρ x => g (f ρ x.1) x.2) (is ++ js) := fun B σ F H ρ v x I r Q q => by
  obtain ⟨p, u, w, rfl, hp, r1, r2⟩ := r
  refine ⟨p, [u, w], rfl, .inl (.inl (I.fh p _ hp)), rfl, u, [w], rfl, h1 B σ F H ρ u x.1 I r1 _ fun σ1 I1 e1 l1 => ⟨w, [], rfl, h2 B σ1 F H _ w x.2 I1 r2 _ fun σ2 I2 e2 l2 => ⟨rfl, q σ2 I2 (fun i hi => ?_) (l2.trans l1)⟩⟩⟩
  rw [e2 i fun z => hi (List.mem_append_right _ z), e1 i fun z => hi (List.mem_append_left _ z)]
theorem tg_p3 {K : PySem.W.Frag} {t1 t2 t3 : TG} {f : Env Γ → a.α → Env Γ1} {g : Env Γ1 → b.α → Env Γ2} {h : Env Γ2 → c.α → Env Γ'} {is js ks : List Nat} (h1 : TgE Γ t1 a Γ1 f is) (h2 : TgE Γ1 t2 b Γ2 g js) (h3 : TgE Γ2 t3 c Γ' h ks) :
    TgE Γ (gTup K 3 (gCons t1 (gCons t2 (gCons t3 gNil)))) (dP3 a b c) Γ' (fun ρ x => h (g (f ρ x.1) x.2.1) x.2.2) (is ++ js ++ ks) := fun B σ F H ρ v x I r Q q => by
  obtain ⟨p, u, w, y, rfl, hp, r1, r2, r3⟩ := r
  refine ⟨p, [u, w, y], rfl, .inl (.inl (I.fh p _ hp)), rfl, u, [w, y], rfl, h1 B σ F H ρ u x.1 I r1 _ fun σ1 I1 e1 l1 => ⟨w, [y], rfl, h2 B σ1 F H _ w x.2.1 I1 r2 _ fun σ2 I2 e2 l2 => ⟨y, [], rfl, h3 B σ2 F H _ y x.2.2 I2 r3 _ fun σ3 I3 e3 l3 => ⟨rfl, q σ3 I3 (fun i hi => ?_) ((l3.trans l2).trans l1)⟩⟩⟩⟩
  rw [e3 i fun z => hi (List.mem_append_right _ z), e2 i fun z => hi (List.mem_append_left _ (List.mem_append_right _ z)), e1 i fun z => hi (List.mem_append_left _ (List.mem_append_left _ z))]
/-- an assignment to a target of several -/
theorem st_asg {T : (R : Type) → (c.α → Env Γ → Res R) → Env Γ → Res R} {f : Env Γ → c.α → Env Γ'} {is : List Nat} (h : EvE p E XC Γ te c T) (ht : TgE Γ tg c Γ' f is) : StE E XC Rt Γ (tAsg te tg) Γ' ΓL (fun R nx rt bk ct ρ => T R (fun x ρ => nx (f ρ x)) ρ) := fun B σ F H ρ I R G hG nx rt bk ct D g qn qr qb qc =>
  h B σ F H ρ I R G hG _ _ g fun x ρ' v F' H' I' e r g' => ht B σ F' H' ρ' v x I' r _ fun σ' I2 _ _ => qn _ σ' F' H' I2 e.1 g'
/-- for: Γ' behind the target, back to Γ behind the body -/
theorem st_for {T0 : (R : Type) → (List c.α → Env Γ → Res R) → Env Γ → Res R} {f : Env Γ → c.α → Env Γ'} {is : List Nat} {T : (R : Type) → (Env Γ → Res R) → (Rt.r.α → Rt.P → Res R) → (Env Γ → Res R) → (Env Γ → Res R) → Env Γ' → Res R} (h : EvI p E XC Γ ti c T0) (ht : TgE Γ tg c Γ' f is) (hb : StE E XC Rt Γ' ts Γ Γ T) :
    StE E XC Rt Γ (tFor ti tg ts) Γ ΓL (fun R nx rt bk ct ρ => T0 R (fun xs ρ => xs.foldr (fun x k ρ => T R k rt nx k (f ρ x)) nx ρ) ρ) := fun B σ F H ρ I R G hG nx rt bk ct D g qn qr qb qc => by
  refine h B σ F H ρ I R G hG _ _ g fun xs ρ1 J F1 H1 I1 e1 w g1 hz => ?_
  obtain ⟨Y, w, hy⟩ := w.ex
  refine for_it w (fun i σ' H' => i ≤ xs.length ∧ ∃ F' ρ', SInv B Γ σ' F' H' ρ' ∧ Ex F1 F' ∧ G ((xs.drop i).foldr (fun x k ρ => T R k rt nx k (f ρ x)) nx ρ')) ⟨Nat.zero_le _, F1, ρ1, I1, Ex.refl _, g1⟩ (fun i σ' H' _ ⟨_, F', ρ', I', e', _⟩ => e'.trans I'.fh) ?_ ?_
  · rintro i v σ' H' H2 hi ⟨_, F', ρ', I', e', g'⟩ y
    obtain ⟨F2, x, hx, pp, r⟩ := hy i H' v H2 F' y e' I'.fh
    have I2 := I'.pext pp
    obtain ⟨hlt, hxe⟩ := List.getElem?_eq_some_iff.mp hx
    have ed : xs.drop i = x :: xs.drop (i + 1) := by rw [← hxe]; exact (List.drop_eq_getElem_cons hlt)
    rw [ed, List.foldr_cons] at g'
    refine ht B σ' F2 H2 ρ' v x I2 r _ fun σ3 I3 _ _ => ?_
    refine hb B σ3 F2 H2 _ I3 R G hG _ rt nx _ _ g' (fun ρ4 σ4 F4 H4 I4 e4 g4 => ⟨hlt, F4, ρ4, I4, (e'.trans pp.ff).trans e4, g4⟩) qr (fun ρ4 σ4 F4 H4 I4 e4 g4 => qn ρ4 σ4 F4 H4 I4 (((e1.1.trans e').trans pp.ff).trans e4) g4) (fun ρ4 σ4 F4 H4 I4 e4 g4 => ⟨hlt, F4, ρ4, I4, (e'.trans pp.ff).trans e4, g4⟩)
  · rintro σ' H' ⟨_, F', ρ', I', e', g'⟩
    rw [List.drop_length] at g'
    exact qn ρ' σ' F' H' I' (e1.1.trans e') g'
end
end Pu
set_option Elab.async false
set_option linter.all false
set_option maxRecDepth 100000
set_option maxHeartbeats 4000000
namespace Pu
open PySem L2 Evl

/-! ### a thing apart from the slots -/
def paOf (L : Fps) : List Addr := (L.filter fun q => q.1 = .pa).map (·.2)
def loOf (L : Fps) : List Addr := (L.filter fun q => q.1 = .lo).map (·.2)
theorem mem_paOf {L : Fps} {a : Addr} : a ∈ paOf L ↔ (Kd.pa, a) ∈ L := by
  unfold paOf
  simp only [List.mem_map, List.mem_filter, decide_eq_true_eq]
  constructor
  · rintro ⟨⟨k, b⟩, ⟨h1, h2⟩, h3⟩
    have h2 : k = .pa := h2
    have h3 : b = a := h3
    subst h2 h3; exact h1
  · intro h; exact ⟨_, ⟨h, rfl⟩, rfl⟩
def coOf (L : Fps) : List Addr := (L.filter fun q => q.1 = .co).map (·.2)
theorem mem_coOf {L : Fps} {a : Addr} : a ∈ coOf L ↔ (Kd.co, a) ∈ L := by
  unfold coOf
  simp only [List.mem_map, List.mem_filter, decide_eq_true_eq]
  constructor
  · rintro ⟨⟨k, b⟩, ⟨h1, h2⟩, h3⟩
    have h2 : k = .co := h2
    have h3 : b = a := h3
    subst h2 h3; exact h1
  · intro h; exact ⟨_, ⟨h, rfl⟩, rfl⟩
theorem mem_loOf {L : Fps} {a : Addr} : a ∈ loOf L ↔ (Kd.lo, a) ∈ L := by
  unfold loOf
  simp only [List.mem_map, List.mem_filter, decide_eq_true_eq]
  constructor
  · rintro ⟨⟨k, b⟩, ⟨h1, h2⟩, h3⟩
    have h2 : k = .lo := h2
    have h3 : b = a := h3
    subst h2 h3; exact h1
  · intro h; exact ⟨_, ⟨h, rfl⟩, rfl⟩
/-- from here on as an entry -/
def Base.re (B : Base) (F H : Hp) (L : Fps) : Base := ⟨F, H, paOf L, loOf L, coOf L, B.τ⟩
theorem Wd.re {B : Base} {F H : Hp} {L : Fps} (w : Wd B F H L) : Wd (B.re F H L) F H L :=
  ⟨w.nd, w.fr, w.fh, Ex.refl F, fun a o h _ _ => h, fun a o h => ⟨o, h⟩, fun a o h => .inl h, fun a ha => .inl (mem_paOf.mpr ha), fun a ha => .inl (mem_loOf.mpr ha), fun a ha => .inl (mem_coOf.mpr ha)⟩
theorem Wd.un {B : Base} {F H F' H' : Hp} {L L' : Fps} (w : Wd B F H L) (w' : Wd (B.re F H L) F' H' L') : Wd B F' H' L' := by
  refine ⟨w'.nd, w'.fr, w'.fh, w.bf.trans w'.bf, fun a o h hm hn => ?_, fun a o h => ?_, fun a o e => ?_, fun a ha => ?_, fun a ha => ?_, fun a ha => ?_⟩
  · refine w'.keep a o (w.keep a o h hm hn) (fun hp => ?_) fun hp => ?_
    · rcases w.own a (mem_paOf.mp hp) with z | z
      · exact hm z
      · rw [h] at z; cases z
    · rcases w.loc a (mem_loOf.mp hp) with z | z
      · exact hn z
      · rw [h] at z; cases z
  · obtain ⟨o', h'⟩ := w.there a o h
    exact w'.there a o' h'
  · rcases w'.new a o e with q | q
    · exact w.new a o q
    · right
      cases e2 : B.H a with
      | none => rfl
      | some u =>
        obtain ⟨o', h'⟩ := w.there a u e2
        have q : H a = none := q
        rw [q] at h'; cases h'
  · rcases w'.own a ha with q | q
    · exact w.own a (mem_paOf.mp q)
    · right
      cases e2 : B.H a with
      | none => rfl
      | some u =>
        obtain ⟨o', h'⟩ := w.there a u e2
        have q : H a = none := q
        rw [q] at h'; cases h'
  · rcases w'.loc a ha with q | q
    · exact w.loc a (mem_loOf.mp q)
    · right
      cases e2 : B.H a with
      | none => rfl
      | some u =>
        obtain ⟨o', h'⟩ := w.there a u e2
        have q : H a = none := q
        rw [q] at h'; cases h'
  · rcases w'.con a ha with q | q
    · exact w.con a (mem_coOf.mp q)
    · right
      cases e2 : B.H a with
      | none => rfl
      | some u =>
        obtain ⟨o', h'⟩ := w.there a u e2
        have q : H a = none := q
        rw [q] at h'; cases h'
/-- D is a thing apart -/
def SApart (B : Base) (Γ : List Sl) (σ : St) (F H : Hp) (ρ : Env Γ) (D : Addr) : Prop := ∃ L, SRel Γ B.τ σ F H L ρ ∧ Wd B F H L ∧ (∀ k, (k, D) ∉ L) ∧ F D = none ∧ B.H D = none
theorem SApart.inv {B : Base} {Γ : List Sl} {σ : St} {F H : Hp} {ρ : Env Γ} {D : Addr} (S : SApart B Γ σ F H ρ D) : SInv B Γ σ F H ρ := let ⟨L, r, w, _⟩ := S; ⟨L, r, w⟩
/-- D newly laid -/
theorem SInv.apart {B : Base} {Γ : List Sl} {σ : St} {F H : Hp} {ρ : Env Γ} {D : Addr} {o : HO} (I : SInv B Γ σ F H ρ) (hD : H D = none) : SApart B Γ σ F (upd H D o) ρ D := by
  obtain ⟨L, r, w⟩ := I
  have hn : ∀ k, (k, D) ∉ L := fun k hk => by
    obtain ⟨_, o, ho⟩ := w.fr k D hk
    rw [hD] at ho; cases ho
  refine ⟨L, r.ext (Ex.refl F) fun k a ha => upd_ne fun e => hn k (e ▸ ha), w.pext (Pext.own w.fh hD), hn, none_of w.fh hD, ?_⟩
  cases e : B.H D with
  | none => rfl
  | some u =>
    obtain ⟨o', h'⟩ := w.there D u e
    rw [hD] at h'; cases h'
/-- D changed -/
theorem SApart.upd {B : Base} {Γ : List Sl} {σ : St} {F H : Hp} {ρ : Env Γ} {D : Addr} {o : HO} (S : SApart B Γ σ F H ρ D) : SApart B Γ σ F (upd H D o) ρ D := by
  obtain ⟨L, r, w, hn, hF, hB⟩ := S
  refine ⟨L, r.ext (Ex.refl F) fun k a ha => upd_ne fun e => hn k (e ▸ ha), ⟨w.nd, fun k a ha => ?_, fun a u e => ?_, w.bf, fun a u h h1 h2 => ?_, fun a u h => ?_, w.new, w.own, w.loc, w.con⟩, hn, hF, hB⟩
  · obtain ⟨h1, o', h2⟩ := w.fr k a ha
    exact ⟨h1, o', by
      have hne : a ≠ D := fun e => hn k (e ▸ ha)
      rw [upd_ne hne]; exact h2⟩
  · rw [upd_ne (ne_of_none e hF)]; exact w.fh a u e
  · rw [upd_ne (ne_of_none h hB)]; exact w.keep a u h h1 h2
  · rw [upd_ne (ne_of_none h hB)]; exact w.there a u h
/-- a reading from a new entry on: D stays -/
theorem SApart.go {B : Base} {Γ : List Sl} {σ : St} {F H : Hp} {ρ : Env Γ} {D : Addr} {o : HO} (S : SApart B Γ σ F H ρ D) (hD : H D = some o) :
    ∃ B2 : Base, SInv B2 Γ σ F H ρ ∧ (∀ H', Frm B2 H' → Frm B H') ∧ ∀ (Γ' : List Sl) (σ' : St) (F' H' : Hp) (ρ' : Env Γ'), SInv B2 Γ' σ' F' H' ρ' → SApart B Γ' σ' F' H' ρ' D ∧ H' D = some o := by
  obtain ⟨L, r, w, hn, hF, hB⟩ := S
  refine ⟨B.re F H L, ⟨L, r, w.re⟩, fun H' f a u h h1 h2 => f a u (w.keep a u h h1 h2) (fun hp => ?_) fun hp => ?_, fun Γ' σ' F' H' ρ' ⟨L', r', w'⟩ => ?_⟩
  · rcases w.own a (mem_paOf.mp hp) with z | z
    · exact h1 z
    · rw [h] at z; cases z
  · rcases w.loc a (mem_loOf.mp hp) with z | z
    · exact h2 z
    · rw [h] at z; cases z
  · have k1 : H' D = some o := w'.keep D o hD (fun hp => hn _ (mem_paOf.mp hp)) fun hp => hn _ (mem_loOf.mp hp)
    have k2 : F' D = none := by
      cases e : F' D with
      | none => rfl
      | some u =>
        rcases w'.new D u e with z | z
        · have z : F D = some u := z
          rw [hF] at z; cases z
        · have z : H D = none := z
          rw [hD] at z; cases z
    refine ⟨⟨L', r', w.un w', fun k hk => ?_, k2, hB⟩, k1⟩
    cases k with
    | pa => rcases w'.own D hk with z | z
            · exact hn _ (mem_paOf.mp z)
            · have z : H D = none := z
              rw [hD] at z; cases z
    | lo => rcases w'.loc D hk with z | z
            · exact hn _ (mem_loOf.mp z)
            · have z : H D = none := z
              rw [hD] at z; cases z
    | co => rcases w'.con D hk with z | z
            · exact hn _ (mem_coOf.mp z)
            · have z : H D = none := z
              rw [hD] at z; cases z
end Pu
set_option Elab.async false
set_option linter.all false
set_option maxRecDepth 100000
set_option maxHeartbeats 4000000
namespace Pu
open PySem L2 Evl

/-! ### slots that nothing is known of -/
theorem SRel.agree {F H : Hp} : ∀ {Γ : List Sl} {τ σ σ2 : St} {L : Fps} {ρ : Env Γ}, SRel Γ τ σ F H L ρ → σ2.length = σ.length → (∀ (i : Nat) (s : Sl), Γ[i]? = some s → s ≠ Sl.no → σ2[i]? = σ[i]?) → SRel Γ τ σ2 F H L ρ
  | [], τ, σ, σ2, L, ρ, ⟨h1, h2⟩, hl, _ => ⟨by rw [h1] at hl; exact List.eq_nil_of_length_eq_zero hl, h2⟩
  | .no :: Γ, τ, σ, σ2, L, ρ, ⟨w, σ', e, h⟩, hl, k => by
    subst e
    cases σ2 with
    | nil => simp at hl
    | cons w2 σ3 => exact ⟨w2, σ3, rfl, SRel.agree h (by simpa using hl) fun i s hi hs => by simpa using k (i + 1) s (by simpa using hi) hs⟩
  | .da c :: Γ, τ, σ, σ2, L, ρ, ⟨w, σ', e, r, h⟩, hl, k => by
    subst e
    cases σ2 with
    | nil => simp at hl
    | cons w2 σ3 =>
      have e0 := k 0 (.da c) rfl (fun z => nomatch z)
      simp at e0
      subst e0
      exact ⟨w, σ3, rfl, r, SRel.agree h (by simpa using hl) fun i s hi hs => by simpa using k (i + 1) s (by simpa using hi) hs⟩
  | .m kd c :: Γ, τ, σ, σ2, L, ρ, ⟨w, σ', fp, L', e, e2, e3, r, h⟩, hl, k => by
    subst e
    cases σ2 with
    | nil => simp at hl
    | cons w2 σ3 =>
      have e0 := k 0 (.m kd c) rfl (fun z => nomatch z)
      simp at e0
      subst e0
      exact ⟨w, σ3, fp, L', rfl, e2, e3, r, SRel.agree h (by simpa using hl) fun i s hi hs => by simpa using k (i + 1) s (by simpa using hi) hs⟩
theorem SRel.lenEq {F H : Hp} : ∀ {Γ : List Sl} {τ σ : St} {L : Fps} {ρ : Env Γ}, SRel Γ τ σ F H L ρ → σ.length = Γ.length
  | [], τ, σ, L, ρ, ⟨h1, h2⟩ => by rw [h1]; rfl
  | .no :: Γ, τ, σ, L, ρ, ⟨w, σ', e, h⟩ => by rw [e, List.length_cons, SRel.lenEq h]; rfl
  | .da c :: Γ, τ, σ, L, ρ, ⟨w, σ', e, r, h⟩ => by rw [e, List.length_cons, SRel.lenEq h]; rfl
  | .m kd c :: Γ, τ, σ, L, ρ, ⟨w, σ', fp, L', e, e2, e3, r, h⟩ => by rw [e, List.length_cons, SRel.lenEq h]; rfl
def Sl.isNo : Sl → Bool
  | .no => true
  | _ => false
/-- the slots vs are such that nothing is known of them -/
def allNo (Γ : List Sl) (vs : List Nat) : Bool := vs.all fun i => match Γ[i]? with
  | some s => s.isNo
  | none => true
theorem wipe_get (σ : St) (i : Nat) : ∀ vs : List Nat, i ∉ vs → (wipe σ vs)[i]? = σ[i]?
  | [], _ => rfl
  | v :: vs, h => by
    have h1 : i ≠ v := fun e => h (by simp [e])
    have h2 : i ∉ vs := fun e => h (by simp [e])
    show ((wipe σ vs).set v none)[i]? = _
    rw [List.getElem?_set_ne (fun e => h1 e.symm), wipe_get σ i vs h2]
theorem wipe_in (σ : St) (i : Nat) : ∀ vs : List Nat, i ∈ vs → (wipe σ vs)[i]? = if i < σ.length then some none else none
  | v :: vs, h => by
    show ((wipe σ vs).set v none)[i]? = _
    by_cases e : v = i
    · subst e
      by_cases hl : v < σ.length
      · rw [if_pos hl, List.getElem?_set_self (by rw [wipe_length]; exact hl)]
      · rw [if_neg hl, List.getElem?_eq_none_iff.mpr (by rw [List.length_set, wipe_length]; omega)]
    · rw [List.getElem?_set_ne e]
      refine wipe_in σ i vs ?_
      rcases List.mem_cons.mp h with q | q
      · exact absurd q.symm e
      · exact q
theorem wipe_eq {σ σ2 : St} {vs : List Nat} (hl : σ2.length = σ.length) (h : ∀ i, i ∉ vs → σ2[i]? = σ[i]?) : wipe σ2 vs = wipe σ vs := by
  apply List.ext_getElem?
  intro i
  by_cases hi : i ∈ vs
  · rw [wipe_in _ _ _ hi, wipe_in _ _ _ hi, hl]
  · rw [wipe_get _ _ _ hi, wipe_get _ _ _ hi, h i hi]
theorem SRel.wiped {F H : Hp} {Γ : List Sl} {τ σ : St} {L : Fps} {ρ : Env Γ} {vs : List Nat} (hv : allNo Γ vs = true) (h : SRel Γ τ σ F H L ρ) : SRel Γ τ (wipe σ vs) F H L ρ :=
  h.agree (wipe_length _ _) fun i s hi hs => wipe_get _ _ _ fun hm => by
    have q := List.all_eq_true.mp hv i hm
    rw [hi] at q
    cases s with
    | no => exact hs rfl
    | da c => cases q
    | m k c => cases q
theorem SRel.unwiped {F H : Hp} {Γ : List Sl} {τ σ : St} {L : Fps} {ρ : Env Γ} {vs : List Nat} (hv : allNo Γ vs = true) (h : SRel Γ τ (wipe σ vs) F H L ρ) : SRel Γ τ σ F H L ρ :=
  h.agree (wipe_length _ _).symm fun i s hi hs => (wipe_get _ _ _ fun hm => by
    have q := List.all_eq_true.mp hv i hm
    rw [hi] at q
    cases s with
    | no => exact hs rfl
    | da c => cases q
    | m k c => cases q).symm
theorem SApart.wiped {B : Base} {F H : Hp} {Γ : List Sl} {σ : St} {ρ : Env Γ} {vs : List Nat} {D : Addr} (hv : allNo Γ vs = true) (h : SApart B Γ σ F H ρ D) : SApart B Γ (wipe σ vs) F H ρ D := let ⟨L, r, w, x⟩ := h; ⟨L, r.wiped hv, w, x⟩
theorem SApart.unwiped {B : Base} {F H : Hp} {Γ : List Sl} {σ : St} {ρ : Env Γ} {vs : List Nat} {D : Addr} (hv : allNo Γ vs = true) (h : SApart B Γ (wipe σ vs) F H ρ D) : SApart B Γ σ F H ρ D := let ⟨L, r, w, x⟩ := h; ⟨L, r.unwiped hv, w, x⟩
/-- from the slots Γ1 back to Γ0: some forgotten -/
structure Bk (Γ1 Γ0 : List Sl) where
  f : Env Γ1 → Env Γ0
  ok : ∀ {τ σ : St} {F H : Hp} {L : Fps} {ρ : Env Γ1}, SRel Γ1 τ σ F H L ρ → ∃ L', SRel Γ0 τ σ F H L' (f ρ) ∧ L'.Sublist L
def Bk.id {Γ : List Sl} : Bk Γ Γ := ⟨fun ρ => ρ, fun h => ⟨_, h, List.Sublist.refl _⟩⟩
def Bk.drop {Γ Γ1 Γ0 : List Sl} {i : Nat} {s : Sl} (b : Bk Γ1 Γ0) (u : Up Γ i s .no Γ1) : Bk Γ Γ0 := ⟨fun ρ => b.f (u.set ρ ()), fun h => by
  obtain ⟨L1, h1, s1⟩ := h.drop u
  obtain ⟨L2, h2, s2⟩ := b.ok h1
  exact ⟨L2, h2, s2.trans s1⟩⟩
theorem Bk.inv {B : Base} {Γ Γ0 : List Sl} {σ : St} {F H : Hp} {ρ : Env Γ} (b : Bk Γ Γ0) (I : SInv B Γ σ F H ρ) : SInv B Γ0 σ F H (b.f ρ) := by
  obtain ⟨L, r, w⟩ := I
  obtain ⟨L', r', s⟩ := b.ok r
  exact ⟨L', r', w.sub s⟩
theorem Bk.apart {B : Base} {Γ Γ0 : List Sl} {σ : St} {F H : Hp} {ρ : Env Γ} {D : Addr} (b : Bk Γ Γ0) (I : SApart B Γ σ F H ρ D) : SApart B Γ0 σ F H (b.f ρ) D := by
  obtain ⟨L, r, w, hn, x⟩ := I
  obtain ⟨L', r', s⟩ := b.ok r
  exact ⟨L', r', w.sub s, fun k hk => hn k (s.subset hk), x⟩
/-- slots hidden for a while (a comprehension's own names), then told again -/
structure Hd (Γ Γ0 : List Sl) where
  h : Env Γ → Env Γ0
  sh : Env Γ0 → Env Γ → Env Γ
  ok : ∀ {τ σ : St} {F H : Hp} {L : Fps} {ρ : Env Γ}, SRel Γ τ σ F H L ρ → SRel Γ0 τ σ F H L (h ρ)
  re : ∀ {τ σ : St} {F H F' H' : Hp} {L L' : Fps} {ρ : Env Γ} {ρ0 : Env Γ0}, SRel Γ τ σ F H L ρ → Ex F F' → SRel Γ0 τ σ F' H' L' ρ0 → SRel Γ τ σ F' H' L' (sh ρ0 ρ)
def Hd.id {Γ : List Sl} : Hd Γ Γ := ⟨fun ρ => ρ, fun ρ0 _ => ρ0, fun h => h, fun _ _ h => h⟩
theorem SRel.hide {F H : Hp} {c : DCod} : ∀ {Γ Γ' : List Sl} {i : Nat} (u : Up Γ i (.da c) .no Γ') {τ σ : St} {L : Fps} {ρ : Env Γ}, SRel Γ τ σ F H L ρ → SRel Γ' τ σ F H L (u.set ρ ())
  | _, _, _, .z, τ, σ, L, ρ, ⟨w, σ', e, _, h⟩ => ⟨some w, σ', e, h⟩
  | .no :: Γ, _, _, .s q, τ, σ, L, ρ, ⟨w, σ', e, h⟩ => ⟨w, σ', e, SRel.hide q h⟩
  | .da c' :: Γ, _, _, .s q, τ, σ, L, ρ, ⟨w, σ', e, hr, h⟩ => ⟨w, σ', e, hr, SRel.hide q h⟩
  | .m k c' :: Γ, _, _, .s q, τ, σ, L, ρ, ⟨w, σ', fp, L0, e, e2, e3, hr, h⟩ => ⟨w, σ', fp, L0, e, e2, e3, hr, SRel.hide q h⟩
theorem SRel.unhide {F H F' H' : Hp} {c : DCod} (eF : Ex F F') : ∀ {Γ Γ' : List Sl} {i : Nat} (u : Up Γ i (.da c) .no Γ') {τ σ : St} {L L' : Fps} {ρ : Env Γ} {ρ0 : Env Γ'}, SRel Γ τ σ F H L ρ → SRel Γ' τ σ F' H' L' ρ0 → SRel Γ τ σ F' H' L' (u.inv.set ρ0 (u.old ρ))
  | _, _, _, .z, τ, σ, L, L', ρ, ρ0, ⟨w, σ', e, r, h⟩, ⟨w2, σ2, e2, h2⟩ => ⟨w, σ', e, c.ext r eF, by rw [e] at e2; cases e2; exact h2⟩
  | .no :: Γ, _, _, .s q, τ, σ, L, L', ρ, ρ0, ⟨w, σ', e, h⟩, ⟨w2, σ2, e2, h2⟩ => ⟨w2, σ2, e2, SRel.unhide eF q (by rw [e] at e2; cases e2; exact h) h2⟩
  | .da c' :: Γ, _, _, .s q, τ, σ, L, L', ρ, ρ0, ⟨w, σ', e, hr, h⟩, ⟨w2, σ2, e2, hr2, h2⟩ => ⟨w2, σ2, e2, hr2, SRel.unhide eF q (by rw [e] at e2; cases e2; exact h) h2⟩
  | .m k c' :: Γ, _, _, .s q, τ, σ, L, L', ρ, ρ0, ⟨w, σ', fp, L0, e, _, _, hr, h⟩, ⟨w2, σ2, fp2, L2, e2, g2, g3, hr2, h2⟩ => ⟨w2, σ2, fp2, L2, e2, g2, g3, hr2, SRel.unhide eF q (by rw [e] at e2; cases e2; exact h) h2⟩
def Hd.one {Γ Γ1 Γ0 : List Sl} {i : Nat} {c : DCod} (b : Hd Γ1 Γ0) (u : Up Γ i (.da c) .no Γ1) : Hd Γ Γ0 := ⟨fun ρ => b.h (u.set ρ ()), fun ρ0 ρ => u.inv.set (b.sh ρ0 (u.set ρ ())) (u.old ρ), fun h => b.ok (h.hide u),
  fun h e h0 => SRel.unhide e u h (b.re (h.hide u) e h0)⟩

/-! ### comprehensions -/
def compL {α β S : Type} (body : α → S → Res (Option β × S)) : List α → S → Option (List β × S)
  | [], s => some ([], s)
  | x :: xs, s => match body x s with
    | .ok (o, s1) => (match compL body xs s1 with
      | some (ys, s2) => some (o.toList ++ ys, s2)
      | none => none)
    | _ => none
theorem compL_cons {α β S : Type} {body : α → S → Res (Option β × S)} {x : α} {xs : List α} {s s2 : S} {ys : List β} (h : compL body (x :: xs) s = some (ys, s2)) : ∃ o s1 ys', body x s = .ok (o, s1) ∧ compL body xs s1 = some (ys', s2) ∧ ys = o.toList ++ ys' := by
  unfold compL at h
  split at h
  · rename_i o s1 e
    split at h
    · rename_i ys' s2' e2
      cases h
      exact ⟨o, s1, ys', e, e2, rfl⟩
    · cases h
  · cases h
section
variable {p : Bool} {E : XK} {XC : Str → Value} {Rt : Ret} {Γ Γ' Γ0 Γ1 Γ2 ΓL : List Sl} {te ta tb tc : TE} {tt tu : TT} {tA : TA} {ti : TI} {tg : TG} {a b c d : DCod} {m : Cod} {cs : List DCod} {ts us : TS}
def noTest : TT := fun σ H Q => Q true H
theorem pts_et : EvT p E XC Γ (fun σ H Q => Q true H) (fun R k ρ => k true ρ) := fun B σ F H ρ I R G hG k Q g q => q true ρ F H I (Gt.refl I.fh) g
theorem rs0 {R : Type} {B : Base} {G : Res R → Prop} (h1 : ¬ G .bad) (h2 : ∀ n, ¬ G (.exc n)) : Rs E0 XC B G := ⟨h1, fun n _ g _ => (h2 n g).elim⟩
/-- [e for x in xs if t]: Γ0 with the own names hidden, Γ1 with the target's -/
theorem en_lc {vs is : List Nat} {q : Bool} {f : Env Γ0 → a.α → Env Γ1} {T0 : (R : Type) → (List a.α → Env Γ → Res R) → Env Γ → Res R} {Tt : (R : Type) → (Bool → Env Γ1 → Res R) → Env Γ1 → Res R} {Te : (R : Type) → (c.α → Env Γ1 → Res R) → Env Γ1 → Res R}
    (hd : Hd Γ Γ0) (hv : allNo Γ0 vs = true) (his : ∀ i, i ∈ is → i ∈ vs) (bk : Bk Γ1 Γ0) (h : EvI false E XC Γ ti a T0) (ht : TgE Γ0 tg a Γ1 f is) (hc : EvT q E0 XC Γ1 tt Tt) (he : EvE q E0 XC Γ1 te c Te) :
    EvN false E XC Γ (tLc ti tg tt te vs) (mLst c) (fun R k ρ => T0 R (fun xs ρ => opt (compL (fun x ρ0 => Tt _ (fun b ρ1 => if b = true then Te _ (fun y ρ2 => .ok (some y, bk.f ρ2)) ρ1 else .ok (none, bk.f ρ1)) (f ρ0 x)) xs (hd.h ρ)) fun ys => k ys.1 (hd.sh ys.2 ρ)) ρ) := fun B σ F H ρ I R G hG k Q g qq => by
  refine h B σ F H ρ I R G hG _ _ g fun xs ρ1 J F1 H1 I1 e1 w g1 hz D hD => ?_
  obtain ⟨Y, w, hy⟩ := w.ex
  generalize hcl : compL (fun x ρ0 => Tt _ (fun b ρ1 => if b = true then Te _ (fun y ρ2 => Res.ok (some y, bk.f ρ2)) ρ1 else Res.ok (none, bk.f ρ1)) (f ρ0 x)) xs (hd.h ρ1) = cl at g1
  cases cl with
  | none => exact absurd g1 hG.1
  | some ys =>
  obtain ⟨ys, ρe⟩ := ys
  have g1 : G (k ys (hd.sh ρe ρ1)) := g1
  have S1 : SApart B Γ σ F1 (upd H1 D (.lst [])) ρ1 D := I1.apart hD
  obtain ⟨L1, r1, w1, hn1, hF1, hB1⟩ := S1
  have S0 : SApart B Γ0 σ F1 (upd H1 D (.lst [])) (hd.h ρ1) D := ⟨L1, hd.ok r1, w1, hn1, hF1, hB1⟩
  refine lc_it w (fun i H' => i ≤ xs.length ∧ ∃ F' ρ0 acc vs' rest, SApart B Γ0 (wipe σ vs) F' H' ρ0 D ∧ Ex F1 F' ∧ H' D = some (.lst vs') ∧ PV c F' vs' acc ∧ acc.length ≤ i ∧ compL (fun x ρ0 => Tt _ (fun b ρ1 => if b = true then Te _ (fun y ρ2 => Res.ok (some y, bk.f ρ2)) ρ1 else Res.ok (none, bk.f ρ1)) (f ρ0 x)) (xs.drop i) ρ0 = some (rest, ρe) ∧ ys = acc ++ rest)
    ⟨Nat.zero_le _, F1, hd.h ρ1, [], [], ys, S0.wiped hv, Ex.refl _, upd_same, .nil, Nat.le_refl _, hcl, rfl⟩ (fun i H' _ ⟨_, F', _, _, _, _, S, e', _⟩ => e'.trans S.inv.fh) ?_ ?_
  · rintro i v H' H2 hi ⟨_, F', ρ0, acc, vs', rest, S, e', hDl, pv, hacc, hcl', hys⟩ y
    obtain ⟨F2, x, hx, pp, r⟩ := hy i H' v H2 F' y e' S.inv.fh
    obtain ⟨hlt, hxe⟩ := List.getElem?_eq_some_iff.mp hx
    have ed : xs.drop i = x :: xs.drop (i + 1) := by rw [← hxe]; exact (List.drop_eq_getElem_cons hlt)
    rw [ed] at hcl'
    obtain ⟨o, ρ3, ys', hbody, hrest, hrr⟩ := compL_cons hcl'
    obtain ⟨B2, I2, hfr, back⟩ := S.go hDl
    have I2' := I2.pext pp
    refine ht B2 _ F2 H2 ρ0 v x I2' r _ fun σ3 I3 hag hln => ⟨?_, ?_⟩
    · have ew : wipe σ3 vs = wipe (wipe σ vs) vs := wipe_eq hln fun j hj => hag j fun z => hj (his j z)
      rw [ew]
      exact wipe_eq (wipe_length _ _) fun j hj => wipe_get _ _ _ hj
    · refine hc B2 σ3 F2 H2 _ I3 _ (fun r => r = Res.ok (o, ρ3)) (rs0 (fun z => nomatch z) fun n z => nomatch z) _ _ hbody fun bb ρ4 F4 H4 I4 e4 g4 => ?_
      have hup : ∀ {Fz Hz : Hp} {ρz : Env Γ1}, SInv B2 Γ1 σ3 Fz Hz ρz → SApart B Γ0 (wipe σ vs) Fz Hz (bk.f ρz) D ∧ Hz D = some (.lst vs') := fun {Fz Hz ρz} Iz => by
        obtain ⟨Sz, hz⟩ := back _ _ _ _ _ (bk.inv Iz)
        have e3 : wipe σ3 vs = wipe σ vs := by
          have ew : wipe σ3 vs = wipe (wipe σ vs) vs := wipe_eq hln fun j hj => hag j fun z => hj (his j z)
          rw [ew]
          exact wipe_eq (wipe_length _ _) fun j hj => wipe_get _ _ _ hj
        have S2 := Sz.wiped hv
        rw [e3] at S2
        exact ⟨S2, hz⟩
      have hsl := sizeLine_eq
      cases bb with
      | true =>
        rw [if_pos rfl] at g4 ⊢
        refine he B2 σ3 F4 H4 ρ4 I4 _ (fun r => r = Res.ok (o, ρ3)) (rs0 (fun z => nomatch z) fun n z => nomatch z) _ _ g4 fun y ρ5 u F5 H5 I5 e5 r5 g5 => ?_
        cases g5
        obtain ⟨S5, h5⟩ := hup I5
        refine ⟨vs', h5, ?_, hlt, F5, _, acc ++ [y], vs' ++ [u], ys', S5.upd, ((e'.trans pp.ff).trans e4.1).trans e5.1, upd_same, (pv.ext ((pp.ff.trans e4.1).trans e5.1)).append (.cons r5 .nil), ?_, hrest, ?_⟩
        · rw [pv.length]; omega
        · rw [List.length_append]; show _ + 1 ≤ _; omega
        · rw [hys, hrr]; simp
      | false =>
        rw [if_neg (by decide)] at g4 ⊢
        cases g4
        obtain ⟨S5, h5⟩ := hup I4
        exact ⟨hlt, F4, _, acc, vs', ys', S5, (e'.trans pp.ff).trans e4.1, h5, pv.ext (pp.ff.trans e4.1), by omega, hrest, by rw [hys, hrr]; simp⟩
  · rintro H' ⟨_, F', ρ0, acc, vs', rest, S, e', hDl, pv, hacc, hcl', hys⟩
    rw [List.drop_length] at hcl'
    cases hcl'
    rw [List.append_nil] at hys
    subst hys
    have S2 := S.unwiped hv
    obtain ⟨L2, r2, w2, hn2, hF2, hB2⟩ := S2
    have r3 : SRel Γ B.τ σ F' H' L2 (hd.sh ρe ρ1) := hd.re r1 e' r2
    -- the heap without the new list
    have hne : ∀ a, a ≠ D → (fun b => if b = D then none else H' b : Hp) a = H' a := fun a ha => if_neg ha
    have hDn : (fun b => if b = D then none else H' b : Hp) D = none := if_pos rfl
    have w3 : Wd B F' (fun b => if b = D then none else H' b) L2 := ⟨w2.nd, fun k a ha => by
        obtain ⟨q1, o, q2⟩ := w2.fr k a ha
        exact ⟨q1, o, (hne a fun z => hn2 k (z ▸ ha)).trans q2⟩, fun a u hu => (hne a (ne_of_none hu hF2)).trans (w2.fh a u hu), w2.bf, fun a u hu h1 h2 => (hne a (ne_of_none hu hB2)).trans (w2.keep a u hu h1 h2),
        fun a u hu => by
          obtain ⟨o, ho⟩ := w2.there a u hu
          exact ⟨o, (hne a (ne_of_none hu hB2)).trans ho⟩, w2.new, w2.own, w2.loc, w2.con⟩
    have r4 : SRel Γ B.τ σ F' (fun b => if b = D then none else H' b) L2 (hd.sh ρe ρ1) := r3.ext (Ex.refl _) fun k a ha => hne a fun z => hn2 k (z ▸ ha)
    refine qq ys _ (.ref D) [D] F' _ F' H' ⟨L2, r4, w3⟩ ⟨e1.1.trans e', fun z => nomatch z⟩ ⟨fun a o ho => ?_, Ex.refl _, w2.fh, fun a o ho => .inl ho⟩ ⟨by simp, fun a ha => ?_⟩ ⟨D, vs', rfl, rfl, hDl, pv, ?_⟩ g1
    · by_cases ha : a = D
      · subst ha
        have ho : (none : Option HO) = some o := hDn.symm.trans ho
        cases ho
      · exact (hne a ha).symm.trans ho
    · have ha : a = D := by simpa using ha
      subst ha
      exact ⟨hDn, hF2, _, hDl⟩
    · have := hacc; omega
end
end Pu
set_option Elab.async false
set_option linter.all false
set_option maxRecDepth 100000
set_option maxHeartbeats 4000000
namespace Pu
open PySem L2 Evl

/-! ### == of data -/
structure Dq (K : PySem.W.Frag) (n : Nat) (c : DCod) where
  toD : c.α → PyData
  dec : DecidableEq c.α
  dp : ∀ {F H : Hp} {v : V} {x : c.α}, Ex F H → c.rel F v x → Dp K H v (toD x)
  lay : ∀ x, (toD x).canLay0 = true
  dep : ∀ x, (toD x).depth ≤ n
  eqv : ∀ x y, PyData.eqv (toD x) (toD y) = decide (x = y)
section
variable {K : PySem.W.Frag}
def dqInt : Dq K 0 dInt := ⟨fun i => .int i, inferInstance, fun _ h => by have h : _ = V.int _ := h; rw [h]; exact .int _, fun _ => by simp [PyData.canLay0], fun _ => by simp [PyData.depth], fun x y => by
  show ((x : Int) == y) = decide ((x : Int) = y)
  by_cases h : (x : Int) = y
  · rw [h]; simp
  · rw [decide_eq_false h]; exact beq_eq_false_iff_ne.mpr h⟩
def dqBl : Dq K 0 dBl := ⟨fun b => .bool b, inferInstance, fun _ h => by have h : _ = V.bl _ := h; rw [h]; exact .bl _, fun _ => by simp [PyData.canLay0], fun _ => by simp [PyData.depth], fun x y => by
  show ((x : Bool) == y) = decide ((x : Bool) = y)
  cases x <;> cases y <;> rfl⟩
def dqNon : Dq K 0 dNon := ⟨fun _ => .none, inferInstance, fun _ h => by have h : _ = V.non := h; rw [h]; exact .non, fun _ => by simp [PyData.canLay0], fun _ => by simp [PyData.depth], fun x y => rfl⟩
def optDec {α : Type} (d : DecidableEq α) : DecidableEq (Option α) := inferInstance
def optD {c : DCod} {n : Nat} (q : Dq K n c) : Option c.α → PyData
  | none => .none
  | some y => q.toD y
/-- nothing of c is None -/
def dqOpt {c : DCod} {n : Nat} (q : Dq K n c) (h1 : ∀ y, PyData.eqv .none (q.toD y) = false) (h2 : ∀ y, PyData.eqv (q.toD y) .none = false) : Dq K n (dOpt c) := ⟨optD q, optDec q.dec, fun {F H v x} e h => by
    cases x with
    | none => have h : v = V.non := h; rw [h]; exact .non
    | some y => exact q.dp e h.1, fun x => by
    cases x with
    | none => simp [optD, PyData.canLay0]
    | some y => exact q.lay y, fun x => by
    cases x with
    | none => simp [optD, PyData.depth]
    | some y => exact q.dep y, fun x y => by
    have d := q.dec
    cases x with
    | none => cases y with
      | none => rfl
      | some y => show PyData.eqv .none (q.toD y) = _; rw [h1]; rfl
    | some x => cases y with
      | none => show PyData.eqv (q.toD x) .none = _; rw [h2]; rfl
      | some y =>
        show PyData.eqv (q.toD x) (q.toD y) = _
        rw [q.eqv]
        by_cases e : x = y
        · rw [e]; simp
        · exact (@decide_eq_false (x = y) (q.dec x y) e).trans (@decide_eq_false _ (optDec q.dec (some x) (some y)) (fun z => e (Option.some.inj z))).symm⟩
def dqOI : Dq K 0 (dOpt dInt) := dqOpt dqInt (fun _ => rfl) (fun _ => rfl)
theorem dpAll {c : DCod} {n : Nat} (q : Dq K n c) {F H : Hp} (e : Ex F H) : ∀ {vs : List V} {xs : List c.α}, PV c F vs xs → DpAll K H vs (xs.map q.toD)
  | _, _, .nil => .nil
  | _, _, .cons r t => .cons (q.dp e r) (dpAll q e t)
theorem layAll {c : DCod} {n : Nat} (q : Dq K n c) : ∀ xs : List c.α, PyData.canLayAll0 (xs.map q.toD) = true
  | [] => by simp [PyData.canLayAll0]
  | x :: xs => by simp [PyData.canLayAll0, q.lay x, layAll q xs]
theorem depAll {c : DCod} {n : Nat} (q : Dq K n c) : ∀ xs : List c.α, PyData.depthAll (xs.map q.toD) ≤ n
  | [] => by simp [PyData.depthAll]
  | x :: xs => by
    have h1 := depAll q xs
    have h2 := q.dep x
    simp only [List.map_cons, PyData.depthAll]
    omega
theorem eqvAll_dec {c : DCod} {n : Nat} (q : Dq K n c) : ∀ xs ys : List c.α, PyData.eqvAll (xs.map q.toD) (ys.map q.toD) = (@decide (xs = ys) (@instDecidableEqList _ q.dec xs ys))
  | [], [] => rfl
  | [], y :: ys => rfl
  | x :: xs, [] => rfl
  | x :: xs, y :: ys => by
    have d := q.dec
    show (PyData.eqv (q.toD x) (q.toD y) && PyData.eqvAll (xs.map q.toD) (ys.map q.toD)) = _
    rw [q.eqv, eqvAll_dec q xs ys]
    by_cases h1 : x = y
    · by_cases h2 : xs = ys
      · subst h1 h2; simp
      · subst h1; simp [h2]
    · simp [h1]
def dqTup {c : DCod} {n : Nat} (q : Dq K n c) : Dq K (n + 1) (dTup c) := ⟨fun xs => .tuple (xs.map q.toD), @instDecidableEqList _ q.dec, fun e h => by
    obtain ⟨a, vs, h1, h2, h3, h4⟩ := h
    rw [h1]
    exact .tup (SqT.rd e h2) (dpAll q e h3), fun xs => by simp only [PyData.canLay0]; exact layAll q xs, fun xs => by simp only [PyData.depth]; have := depAll q xs; omega, fun x y => eqvAll_dec q x y⟩
def dqLst {c : DCod} {n : Nat} (q : Dq K n c) : Dq K (n + 1) (dLst c) := ⟨fun xs => .list (xs.map q.toD), @instDecidableEqList _ q.dec, fun e h => by
    obtain ⟨a, vs, h1, h2, h3, h4⟩ := h
    rw [h1]
    exact .lst (SqL.of (e a _ h2)) (dpAll q e h3), fun xs => by simp only [PyData.canLay0]; exact layAll q xs, fun xs => by simp only [PyData.depth]; have := depAll q xs; omega, fun x y => eqvAll_dec q x y⟩
def dqP2 {a b : DCod} {n : Nat} (q : Dq K n a) (r : Dq K n b) : Dq K (n + 1) (dP2 a b) := ⟨fun x => .tuple [q.toD x.1, r.toD x.2], @instDecidableEqProd _ _ q.dec r.dec, fun e h => by
    obtain ⟨p, u, w, h1, h2, h3, h4⟩ := h
    rw [h1]
    exact .tup (SqT.of (e p _ h2)) (.cons (q.dp e h3) (.cons (r.dp e h4) .nil)), fun x => by simp [PyData.canLay0, PyData.canLayAll0, q.lay, r.lay], fun x => by
    have h1 := q.dep x.1
    have h2 := r.dep x.2
    simp only [PyData.depth, PyData.depthAll]
    omega, fun x y => by
    have d1 := q.dec
    have d2 := r.dec
    show (PyData.eqv (q.toD x.1) (q.toD y.1) && (PyData.eqv (r.toD x.2) (r.toD y.2) && true)) = _
    rw [q.eqv, r.eqv]
    obtain ⟨x1, x2⟩ := x
    obtain ⟨y1, y2⟩ := y
    by_cases h1 : x1 = y1
    · by_cases h2 : x2 = y2
      · subst h1 h2; simp
      · subst h1; simp [h2]
    · simp [h1]⟩
def dqP3 {a b c : DCod} {n : Nat} (q : Dq K n a) (r : Dq K n b) (s : Dq K n c) : Dq K (n + 1) (dP3 a b c) := ⟨fun x => .tuple [q.toD x.1, r.toD x.2.1, s.toD x.2.2], @instDecidableEqProd _ _ q.dec (@instDecidableEqProd _ _ r.dec s.dec), fun e h => by
    obtain ⟨p, u, w, z, h1, h2, h3, h4, h5⟩ := h
    rw [h1]
    exact .tup (SqT.of (e p _ h2)) (.cons (q.dp e h3) (.cons (r.dp e h4) (.cons (s.dp e h5) .nil))), fun x => by simp [PyData.canLay0, PyData.canLayAll0, q.lay, r.lay, s.lay], fun x => by
    have h1 := q.dep x.1
    have h2 := r.dep x.2.1
    have h3 := s.dep x.2.2
    simp only [PyData.depth, PyData.depthAll]
    omega, fun x y => by
    have d1 := q.dec
    have d2 := r.dec
    have d3 := s.dec
    show (PyData.eqv (q.toD x.1) (q.toD y.1) && (PyData.eqv (r.toD x.2.1) (r.toD y.2.1) && (PyData.eqv (s.toD x.2.2) (s.toD y.2.2) && true))) = _
    rw [q.eqv, r.eqv, s.eqv]
    obtain ⟨x1, x2, x3⟩ := x
    obtain ⟨y1, y2, y3⟩ := y
    by_cases h1 : x1 = y1
    · by_cases h2 : x2 = y2
      · by_cases h3 : x3 = y3
        · subst h1 h2 h3; simp
        · subst h1 h2; simp [h3]
      · subst h1; simp [h2]
    · simp [h1]⟩
theorem Dq.shaped {c : DCod} {n : Nat} (q : Dq K n c) (hn : n ≤ 64) (x : c.α) : SeqAt.shaped (q.toD x) = true := by
  show ((q.toD x).canLay0 && decide ((q.toD x).depth ≤ 64)) = true
  rw [Bool.and_eq_true]
  exact ⟨q.lay x, decide_eq_true (by have := q.dep x; omega)⟩
theorem o_eq {c : DCod} {n : Nat} (q : Dq K n c) (hn : n ≤ 64) : Op2 (rEqD K) c c dBl (fun x y => @decide (x = y) (q.dec x y)) := fun F H v w x y Q e h1 h2 k =>
  ⟨q.toD x, q.toD y, q.dp e h1, q.dp e h2, q.shaped hn x, q.shaped hn y, by rw [q.eqv]; exact k _ F H (Pext.refl e) rfl⟩
theorem o_ne {c : DCod} {n : Nat} (q : Dq K n c) (hn : n ≤ 64) : Op2 (rNeD K) c c dBl (fun x y => !@decide (x = y) (q.dec x y)) := fun F H v w x y Q e h1 h2 k =>
  ⟨q.toD x, q.toD y, q.dp e h1, q.dp e h2, q.shaped hn x, q.shaped hn y, by rw [q.eqv]; exact k _ F H (Pext.refl e) rfl⟩
/-! ### numbers -/
theorem o_int {g : Int → Int → Int} : Op2 (rI0 fun i j => .int (g i j)) dInt dInt dInt g := fun F H v w x y Q e h1 h2 k => ⟨x, y, h1, h2, k _ F H (Pext.refl e) rfl⟩
theorem o_cmp {g : Int → Int → Bool} : Op2 (rI0 fun i j => .bl (g i j)) dInt dInt dBl g := fun F H v w x y Q e h1 h2 k => ⟨x, y, h1, h2, k _ F H (Pext.refl e) rfl⟩
theorem o_intC {C : Int → Int → Prop} [∀ i j, Decidable (C i j)] {g : Int → Int → Int} : Op2P (rI C fun i j => .int (g i j)) dInt dInt dInt (fun x y => if C x y then some (g x y) else none) := fun F H v w x y z Q e h1 h2 hz k => by
  have hz : (if C x y then some (g x y) else none) = some z := hz
  by_cases hc : C x y
  · rw [if_pos hc] at hz
    cases hz
    exact ⟨x, y, h1, h2, hc, k _ F H (Pext.refl e) rfl⟩
  · rw [if_neg hc] at hz; cases hz
instance : ∀ i j, Decidable (CMul i j) := fun i j => by unfold CMul; exact inferInstance
instance : ∀ i j, Decidable (CDiv i j) := fun i j => by unfold CDiv; exact inferInstance
instance : ∀ i j, Decidable (CPow i j) := fun i j => by unfold CPow; exact inferInstance
theorem o_mod : Op2P (rI (fun _ j => 0 < j) fun i j => .int (i % j)) dInt dInt dInt (fun x y => if 0 < y then some (x % y) else none) := o_intC
theorem o_fdiv : Op2P (rI CDiv fun i j => .int (i / j)) dInt dInt dInt (fun x y => if CDiv x y then some (x / y) else none) := o_intC
theorem o_mul : Op2P (rI CMul fun i j => .int (i * j)) dInt dInt dInt (fun x y => if CMul x y then some (x * y) else none) := o_intC
theorem o_pow : Op2P (rI CPow fun i j => .int (i ^ j.toNat)) dInt dInt dInt (fun x y => if CPow x y then some (x ^ y.toNat) else none) := o_intC
theorem o_isN {c : DCod} : Op2 (fun x y H Q => y = .non ∧ Q (.bl (decide (x = .non))) H) (dOpt c) dNon dBl (fun x _ => x.isNone) := fun F H v w x y Q e h1 h2 k => by
  refine ⟨h2, ?_⟩
  cases x with
  | none => have h1 : v = V.non := h1; subst h1; exact k _ F H (Pext.refl e) rfl
  | some y => rw [decide_eq_false h1.2]; exact k _ F H (Pext.refl e) rfl
theorem o_notN {c : DCod} : Op2 (fun x y H Q => y = .non ∧ Q (.bl (!decide (x = .non))) H) (dOpt c) dNon dBl (fun x _ => x.isSome) := fun F H v w x y Q e h1 h2 k => by
  refine ⟨h2, ?_⟩
  cases x with
  | none => have h1 : v = V.non := h1; subst h1; exact k _ F H (Pext.refl e) rfl
  | some y => rw [decide_eq_false h1.2]; exact k _ F H (Pext.refl e) rfl
def absI (i : Int) : Int := if i < 0 then -i else i
theorem o_abs : Op1b (fun v H Q => ∃ i, v = [V.int i] ∧ Q (.int (if i < 0 then -i else i)) H) dInt dInt absI := fun F H v x Q e h k => ⟨x, by rw [show v = V.int x from h], k _ F H (Pext.refl e) rfl⟩
theorem o_intI : Op1b (fun v H Q => (∃ i, v = [V.int i] ∧ Q (.int i) H) ∨ ∃ b, v = [V.bl b] ∧ Q (.int (if b then 1 else 0)) H) dInt dInt (fun x => x) := fun F H v x Q e h k => .inl ⟨x, by rw [show v = V.int x from h], k _ F H (Pext.refl e) rfl⟩
theorem o_intB : Op1b (fun v H Q => (∃ i, v = [V.int i] ∧ Q (.int i) H) ∨ ∃ b, v = [V.bl b] ∧ Q (.int (if b then 1 else 0)) H) dBl dInt (fun x => if x then 1 else 0) := fun F H v x Q e h k => .inr ⟨x, by rw [show v = V.bl x from h], k _ F H (Pext.refl e) rfl⟩
/-! ### lists and tuples that are read -/
/-- what is read: data that stands, in what way -/
def Rdb (K : PySem.W.Frag) (F H : Hp) (c : DCod) (v : V) (xs : List c.α) : Prop := ∃ a vs, v = .ref a ∧ (SqL K H a vs ∨ SqT K H a vs) ∧ PV c F vs xs ∧ xs.length ≤ sizeLine
def rLen (K : PySem.W.Frag) : List V → Hp → VK → Prop := fun xs H Q => ∃ x n, xs = [x] ∧ LenV K x H n ∧ Q (.int n) H
theorem o_lenL {c : DCod} : Op1b (fun v H Q => ∃ x n, v = [x] ∧ LenV K x H n ∧ Q (.int n) H) (dLst c) dInt (fun xs => (xs.length : Int)) := fun F H v x Q e h k => by
  obtain ⟨a, vs, rfl, h2, h3, h4⟩ := h
  exact ⟨_, vs.length, rfl, .inl ⟨vs, SqL.of (e a _ h2), rfl⟩, by rw [h3.length]; exact k _ F H (Pext.refl e) rfl⟩
theorem o_lenT {c : DCod} : Op1b (fun v H Q => ∃ x n, v = [x] ∧ LenV K x H n ∧ Q (.int n) H) (dTup c) dInt (fun xs => (xs.length : Int)) := fun F H v x Q e h k => by
  obtain ⟨a, vs, rfl, h2, h3, h4⟩ := h
  exact ⟨_, vs.length, rfl, .inr ⟨vs, SqT.rd e h2, rfl⟩, by rw [h3.length]; exact k _ F H (Pext.refl e) rfl⟩
theorem o_lenS {c : DCod} : Op1b (fun v H Q => ∃ x n, v = [x] ∧ LenV K x H n ∧ Q (.int n) H) (dSeq c) dInt (fun xs => (xs.length : Int)) := fun F H v x Q e h k => by
  obtain ⟨a, vs, rfl, h2, h3, h4⟩ := h
  refine ⟨_, vs.length, rfl, ?_, by rw [h3.length]; exact k _ F H (Pext.refl e) rfl⟩
  rcases h2 with h2 | h2
  · exact .inl ⟨vs, SqL.of (e a _ h2), rfl⟩
  · exact .inr ⟨vs, SqT.rd e h2, rfl⟩
theorem PV.atI {c : DCod} {F : Hp} {vs : List V} {xs : List c.α} {i : Int} {x : c.α} (h : PV c F vs xs) (hx : L2.atI xs i = some x) : ∃ v, L2.atI vs i = some v ∧ c.rel F v x := by
  unfold L2.atI at hx ⊢
  rw [h.length]
  cases e : ixN xs.length i with
  | none => rw [e] at hx; cases hx
  | some j => rw [e] at hx; exact h.get hx
theorem o_ixL {c : DCod} : Op2P (rIxL K) (dLst c) dInt c (fun xs i => L2.atI xs i) := fun F H v w x y z Q e h1 h2 hz k => by
  obtain ⟨a, vs, rfl, g2, g3, g4⟩ := h1
  obtain ⟨u, q1, q2⟩ := g3.atI hz
  exact ⟨a, vs, y, u, rfl, h2, SqL.of (e a _ g2), q1, k u F H (Pext.refl e) q2⟩
theorem o_ixT {c : DCod} : Op2P (rIxT K) (dTup c) dInt c (fun xs i => L2.atI xs i) := fun F H v w x y z Q e h1 h2 hz k => by
  obtain ⟨a, vs, rfl, g2, g3, g4⟩ := h1
  obtain ⟨u, q1, q2⟩ := g3.atI hz
  exact ⟨a, vs, y, u, rfl, h2, SqT.rd e g2, q1, k u F H (Pext.refl e) q2⟩
/-- a place of a pair, of three -/
theorem o_p20 {a b : DCod} : Op2P (rIxT K) (dP2 a b) dInt a (fun x i => if i = 0 then some x.1 else none) := fun F H v w x y z Q e h1 h2 hz k => by
  obtain ⟨p, u, t, rfl, g2, g3, g4⟩ := h1
  have hz : (if (y : Int) = 0 then some x.1 else none) = some z := hz
  by_cases hy : (y : Int) = 0
  · rw [if_pos hy] at hz; cases hz
    exact ⟨p, [u, t], y, u, rfl, h2, SqT.of (e p _ g2), by rw [hy]; rfl, k u F H (Pext.refl e) g3⟩
  · rw [if_neg hy] at hz; cases hz
theorem o_p21 {a b : DCod} : Op2P (rIxT K) (dP2 a b) dInt b (fun x i => if i = 1 then some x.2 else none) := fun F H v w x y z Q e h1 h2 hz k => by
  obtain ⟨p, u, t, rfl, g2, g3, g4⟩ := h1
  have hz : (if (y : Int) = 1 then some x.2 else none) = some z := hz
  by_cases hy : (y : Int) = 1
  · rw [if_pos hy] at hz; cases hz
    exact ⟨p, [u, t], y, t, rfl, h2, SqT.of (e p _ g2), by rw [hy]; rfl, k t F H (Pext.refl e) g4⟩
  · rw [if_neg hy] at hz; cases hz
/-- x in xs, flat things -/
structure Fl (c : DCod) where
  dec : DecidableEq c.α
  flat : ∀ {F : Hp} {v : V} {x : c.α}, c.rel F v x → flatV v = true
  eq : ∀ {F : Hp} {v w : V} {x y : c.α}, c.rel F v x → c.rel F w y → eqV v w = decide (x = y)
def flInt : Fl dInt := ⟨inferInstance, fun h => by rw [show _ = V.int _ from h]; rfl, fun {F v w x y} h1 h2 => by
  rw [show v = V.int x from h1, show w = V.int y from h2]
  show ((x : Int) == y) = decide ((x : Int) = y)
  by_cases h : (x : Int) = y
  · rw [h]; simp
  · rw [decide_eq_false h]; exact beq_eq_false_iff_ne.mpr h⟩
def flOI : Fl (dOpt dInt) := ⟨inferInstance, fun {F v x} h => by
  cases x with
  | none => rw [show v = V.non from h]; rfl
  | some y => rw [show v = V.int y from h.1]; rfl, fun {F v w x y} h1 h2 => by
  cases x with
  | none =>
    rw [show v = V.non from h1]
    cases y with
    | none => rw [show w = V.non from h2]; rfl
    | some y => rw [show w = V.int y from h2.1]; rfl
  | some x =>
    rw [show v = V.int x from h1.1]
    cases y with
    | none => rw [show w = V.non from h2]; rfl
    | some y =>
      rw [show w = V.int y from h2.1]
      show ((x : Int) == y) = decide (some (x : Int) = some y)
      by_cases h : (x : Int) = y
      · rw [h]; simp
      · rw [decide_eq_false (fun z => h (Option.some.inj z))]; exact beq_eq_false_iff_ne.mpr h⟩
theorem fl_all {c : DCod} (q : Fl c) {F : Hp} : ∀ {vs : List V} {xs : List c.α}, PV c F vs xs → vs.all flatV = true
  | _, _, .nil => rfl
  | _, _, .cons r t => by rw [List.all_cons, q.flat r, fl_all q t]; rfl
theorem fl_in {c : DCod} (q : Fl c) {F : Hp} {v : V} {x : c.α} (r : c.rel F v x) : ∀ {vs : List V} {xs : List c.α}, PV c F vs xs → inV v vs = xs.any (fun y => @decide (y = x) (q.dec y x))
  | _, _, .nil => rfl
  | _, _, .cons r' t => by
    show (eqV _ v || inV v _) = _
    rw [fl_in q r t, q.eq r' r]
    rfl
def isIn {α : Type} (d : DecidableEq α) (x : α) (xs : List α) : Bool := xs.any fun y => @decide (y = x) (d y x)
theorem o_inL {c : DCod} (q : Fl c) (neg : Bool) : Op2 (rIn K neg) c (dLst c) dBl (fun x xs => if neg then !isIn q.dec x xs else isIn q.dec x xs) := fun F H v w x y Q e h1 h2 k => by
  obtain ⟨a, vs, rfl, g2, g3, g4⟩ := h2
  exact ⟨a, vs, rfl, .inl (SqL.of (e a _ g2)), q.flat h1, fl_all q g3, by rw [fl_in q h1 g3]; exact k _ F H (Pext.refl e) rfl⟩
theorem o_inT {c : DCod} (q : Fl c) (neg : Bool) : Op2 (rIn K neg) c (dTup c) dBl (fun x xs => if neg then !isIn q.dec x xs else isIn q.dec x xs) := fun F H v w x y Q e h1 h2 k => by
  obtain ⟨a, vs, rfl, g2, g3, g4⟩ := h2
  exact ⟨a, vs, rfl, .inr (SqT.rd e g2), q.flat h1, fl_all q g3, by rw [fl_in q h1 g3]; exact k _ F H (Pext.refl e) rfl⟩
theorem o_inS {c : DCod} (q : Fl c) (neg : Bool) : Op2 (rIn K neg) c (dSeq c) dBl (fun x xs => if neg then !isIn q.dec x xs else isIn q.dec x xs) := fun F H v w x y Q e h1 h2 k => by
  obtain ⟨a, vs, rfl, g2, g3, g4⟩ := h2
  exact ⟨a, vs, rfl, g2.imp (fun z => SqL.of (e a _ z)) (fun z => SqT.rd e z), q.flat h1, fl_all q g3, by rw [fl_in q h1 g3]; exact k _ F H (Pext.refl e) rfl⟩
theorem o_tupS {c : DCod} : Op1 (kTup K) (dSeq c) (dTup c) (fun xs => xs) := fun F H v x Q e h k => by
  obtain ⟨a, vs, rfl, g2, g3, g4⟩ := h
  rcases g2 with g2 | g2
  · exact .inl ⟨a, vs, rfl, SqL.of (e a _ g2), fun q hq => k _ _ _ (Pext.one e hq) ⟨q, vs, rfl, .inl upd_same, g3.ext (Ex.new (none_of e hq)), g4⟩⟩
  · exact .inr ⟨a, vs, rfl, SqT.rd e g2, k _ F H (Pext.refl e) ⟨a, vs, rfl, g2, g3, g4⟩⟩
theorem o_tupL {c : DCod} : Op1 (kTup K) (dLst c) (dTup c) (fun xs => xs) := fun F H v x Q e h k => by
  obtain ⟨a, vs, rfl, g2, g3, g4⟩ := h
  exact .inl ⟨a, vs, rfl, SqL.of (e a _ g2), fun q hq => k _ _ _ (Pext.one e hq) ⟨q, vs, rfl, .inl upd_same, g3.ext (Ex.new (none_of e hq)), g4⟩⟩
theorem o_tupT {c : DCod} : Op1 (kTup K) (dTup c) (dTup c) (fun xs => xs) := fun F H v x Q e h k => by
  obtain ⟨a, vs, rfl, g2, g3, g4⟩ := h
  exact .inr ⟨a, vs, rfl, SqT.rd e g2, k _ F H (Pext.refl e) ⟨a, vs, rfl, g2, g3, g4⟩⟩
/-- lists and tuples as either -/
theorem seqL {c : DCod} : ∀ (F : Hp) (v : V) (xs : List c.α), (dLst c).rel F v xs → (dSeq c).rel F v xs := fun F v xs ⟨a, vs, h1, h2, h3, h4⟩ => ⟨a, vs, h1, .inl h2, h3, h4⟩
theorem seqT {c : DCod} : ∀ (F : Hp) (v : V) (xs : List c.α), (dTup c).rel F v xs → (dSeq c).rel F v xs := fun F v xs ⟨a, vs, h1, h2, h3, h4⟩ => ⟨a, vs, h1, .inr h2, h3, h4⟩
theorem someI : ∀ (F : Hp) (v : V) (x : Int), dInt.rel F v x → (dOpt dInt).rel F v (some x) := fun F v x h => ⟨h, by rw [show v = V.int x from h]; exact fun z => nomatch z⟩
theorem noneI {c : DCod} : ∀ (F : Hp) (v : V) (x : Unit), dNon.rel F v x → (dOpt c).rel F v none := fun F v x h => h
theorem o_someI : ∀ (F : Hp) (v : V) (x : Option Int) (y : Int), (dOpt dInt).rel F v x → x = some y → dInt.rel F v y := fun F v x y h e => by subst e; exact h.1
/-- max, min of a list of ints -/
def maxL (xs : List Int) : Option Int := xs.foldl (fun o x => match o with
  | none => some x
  | some m => some (if m < x then x else m)) none
theorem ints_of {F : Hp} : ∀ {vs : List V} {xs : List Int}, PV dInt F vs xs → vs = xs.map V.int
  | _, _, .nil => rfl
  | _, _, .cons r t => by rw [show _ = V.int _ from r, ints_of t]; rfl
theorem ints_to {F : Hp} : ∀ xs : List Int, PV dInt F (xs.map V.int) xs
  | [] => .nil
  | x :: xs => .cons rfl (ints_to xs)
theorem bls_of {F : Hp} : ∀ {vs : List V} {xs : List Bool}, PV dBl F vs xs → vs = xs.map V.bl
  | _, _, .nil => rfl
  | _, _, .cons r t => by rw [show _ = V.bl _ from r, bls_of t]; rfl
/-- the greatest of ints -/
def maxI : List Int → Option Int
  | [] => none
  | x :: xs => some (xs.foldl (fun m y => if m < y then y else m) x)
theorem foldl_max (xs : List Int) : ∀ x : Int, (xs.foldl (fun m y => if m < y then y else m) x ∈ x :: xs) ∧ ∀ y ∈ x :: xs, y ≤ xs.foldl (fun m y => if m < y then y else m) x := by
  induction xs with
  | nil => intro x; simp
  | cons z zs ih =>
    intro x
    simp only [List.foldl_cons]
    obtain ⟨h1, h2⟩ := ih (if x < z then z else x)
    constructor
    · rcases List.mem_cons.mp h1 with h | h
      · rw [h]
        by_cases hz : x < z
        · rw [if_pos hz]; simp
        · rw [if_neg hz]; simp
      · simp [h]
    · intro y hy
      have hm := h2 _ List.mem_cons_self
      rcases List.mem_cons.mp hy with h | h
      · subst h
        refine Int.le_trans ?_ hm
        by_cases hz : y < z
        · rw [if_pos hz]; omega
        · rw [if_neg hz]; omega
      · rcases List.mem_cons.mp h with h | h
        · subst h
          refine Int.le_trans ?_ hm
          by_cases hz : x < y
          · rw [if_pos hz]; omega
          · rw [if_neg hz]; omega
        · exact h2 y (List.mem_cons_of_mem _ h)
theorem o_max : Op1bP (rMax K) (dLst dInt) dInt maxI := fun F H v x z Q e h hz k => by
  obtain ⟨a, vs, rfl, g2, g3, g4⟩ := h
  rw [ints_of g3] at g2
  cases x with
  | nil => cases hz
  | cons y ys =>
    have hz : some (ys.foldl (fun m y => if m < y then y else m) y) = some z := hz
    cases hz
    obtain ⟨f1, f2⟩ := foldl_max ys y
    refine ⟨a, y :: ys, rfl, SqL.of (e a _ g2), by simp, fun m hm hle => ?_⟩
    have hmm : m = ys.foldl (fun m y => if m < y then y else m) y := Int.le_antisymm (f2 m hm) (hle _ f1)
    rw [hmm]
    exact k _ F H (Pext.refl e) rfl
theorem o_any : Op1b (rAny K) (dLst dBl) dBl (fun xs => xs.any id) := fun F H v x Q e h k => by
  obtain ⟨a, vs, rfl, g2, g3, g4⟩ := h
  rw [bls_of g3] at g2
  exact ⟨a, x, rfl, SqL.of (e a _ g2), k _ F H (Pext.refl e) rfl⟩
theorem o_all : Op1b (rAll K) (dLst dBl) dBl (fun xs => xs.all id) := fun F H v x Q e h k => by
  obtain ⟨a, vs, rfl, g2, g3, g4⟩ := h
  rw [bls_of g3] at g2
  exact ⟨a, x, rfl, SqL.of (e a _ g2), k _ F H (Pext.refl e) rfl⟩
/-- sorted ints -/
def sortI (xs : List Int) : List Int := xs.mergeSort (fun a b => decide (a ≤ b))
theorem sortI_perm (xs : List Int) : (sortI xs).Perm xs := List.mergeSort_perm _ _
theorem sortI_pw (xs : List Int) : (sortI xs).Pairwise (· ≤ ·) := by
  have h := List.pairwise_mergeSort (le := fun a b : Int => decide (a ≤ b)) (fun a b c h1 h2 => by simp at *; omega) (fun a b => by simp; omega) xs
  exact h.imp fun h => by simpa using h
theorem sorted_eq {xs ys : List Int} (p : xs.Perm ys) (h1 : xs.Pairwise (· ≤ ·)) (h2 : ys.Pairwise (· ≤ ·)) : xs = ys := List.Perm.eq_of_pairwise (fun a b _ _ h1 h2 => Int.le_antisymm h1 h2) h1 h2 p
theorem o_sortS : Op1b (rSortedI K) (dLst dInt) (dLst dInt) sortI := fun F H v x Q e h k => by
  obtain ⟨a, vs, rfl, g2, g3, g4⟩ := h
  rw [ints_of g3] at g2
  refine ⟨a, x, rfl, SqL.of (e a _ g2), fun ns' p hp hs hn => ?_⟩
  have en : ns' = sortI x := sorted_eq (hp.trans (sortI_perm x).symm) hs (sortI_pw x)
  subst en
  exact k _ _ _ (Pext.one e hn) ⟨p, _, rfl, upd_same, ints_to _, by rw [(sortI_perm x).length_eq]; exact g4⟩
end
end Pu
set_option Elab.async false
set_option linter.all false
set_option maxRecDepth 100000
set_option maxHeartbeats 4000000
namespace Pu
open PySem L2 Evl
section
variable {p q : Bool} {E : XK} {XC : Str → Value} {Rt : Ret} {K : PySem.W.Frag} {Γ Γ' Γ0 Γ1 Γ2 ΓL : List Sl} {te ta tb tc : TE} {tt tu : TT} {tA : TA} {ti : TI} {tg : TG} {a b c d : DCod} {m : Cod} {cs : List DCod} {ts us : TS}
/-! ### what is walked -/
theorem walks_of {J : It} {vs : List V} {xs : List c.α} {F : Hp} {G : Hp → Prop} (w : Walk J vs.length G (YAt vs)) (hG : ∀ H, Ex F H → G H) (pv : PV c F vs xs) : Walks J c xs F := by
  refine ⟨YAt vs, by rw [← pv.length]; exact w.mono hG fun i H x H' _ _ y => y, fun i H v H' F1 y e1 e2 => ?_⟩
  obtain ⟨rfl, hv⟩ := y
  obtain ⟨x, hx, r⟩ := pv.get' hv
  exact ⟨F1, x, hx, Pext.refl e2, c.ext r e1⟩
theorem ei_list {T : (R : Type) → (List c.α → Env Γ → Res R) → Env Γ → Res R} (h : EvE p E XC Γ te (dLst c) T) : EvI p E XC Γ (iList K te) c T := fun B σ F H ρ I R G hG k Q g qq =>
  h B σ F H ρ I R G hG k _ g fun xs ρ' v F' H' I' e r g' => by
    obtain ⟨a, vs, rfl, g2, g3, g4⟩ := r
    exact ⟨a, rfl, ⟨vs, SqL.of (I'.fh a _ g2)⟩, qq xs ρ' _ F' H' I' e (walks_of walk_list (fun H2 e2 => SqL.of (e2 a _ g2)) g3) g' g4⟩
theorem ei_tup {T : (R : Type) → (List c.α → Env Γ → Res R) → Env Γ → Res R} (h : EvE p E XC Γ te (dTup c) T) : EvI p E XC Γ (iTup K te) c T := fun B σ F H ρ I R G hG k Q g qq =>
  h B σ F H ρ I R G hG k _ g fun xs ρ' v F' H' I' e r g' => by
    obtain ⟨a, vs, rfl, g2, g3, g4⟩ := r
    exact ⟨a, rfl, ⟨vs, SqT.rd I'.fh g2⟩, qq xs ρ' _ F' H' I' e (walks_of walk_tup (fun H2 e2 => SqT.rd e2 g2) g3) g' g4⟩
/-- a name that holds a list or a tuple -/
def iEith (t u : TI) : TI := fun σ H R => t σ H R ∨ u σ H R
theorem ei_seqV {i : Nat} (at_ : At Γ i (.da (dSeq c))) : EvI p E XC Γ (iEith (iList K (tVar i)) (iTup K (tVar i))) c (fun R k ρ => k (at_.get ρ) ρ) := fun B σ F H ρ I R G hG k Q g qq => by
  obtain ⟨v, h1, h2⟩ := I.data at_
  obtain ⟨a, vs, rfl, g2, g3, g4⟩ := h2
  rcases g2 with g2 | g2
  · exact .inl ⟨_, h1, a, rfl, ⟨vs, SqL.of (I.fh a _ g2)⟩, qq _ ρ _ F H I (Gt.refl I.fh) (walks_of walk_list (fun H2 e2 => SqL.of (e2 a _ g2)) g3) g g4⟩
  · exact .inr ⟨_, h1, a, rfl, ⟨vs, SqT.rd I.fh g2⟩, qq _ ρ _ F H I (Gt.refl I.fh) (walks_of walk_tup (fun H2 e2 => SqT.rd e2 g2) g3) g g4⟩
def rngL (n : Int) : List Int := (List.range n.toNat).map Int.ofNat
def rng (n : Int) : Option (List Int) := if -(2 ^ 62) ≤ n ∧ n ≤ 16777216 then some (rngL n) else none
theorem walks_range {n : Int} {F : Hp} (h0 : n ≤ 16777216) : Walks (Itr 0 n.toNat) dInt (rngL n) F := by
  have hl : (rngL n).length = n.toNat := by unfold rngL; rw [List.length_map, List.length_range]
  refine ⟨fun i H v H' => i < n.toNat ∧ H' = H ∧ v = .int (0 + (i : Int)), by rw [hl]; exact walk_range.mono (fun _ _ => trivial) fun i H x H' hi _ y => ⟨hi, y⟩, fun i H v H' F1 y e1 e2 => ?_⟩
  obtain ⟨hi, rfl, rfl⟩ := y
  refine ⟨F1, (i : Int), ?_, Pext.refl e2, by show V.int (0 + (i : Int)) = V.int (i : Int); rw [Int.zero_add]⟩
  unfold rngL
  rw [List.getElem?_map, List.getElem?_range hi]
  rfl
theorem rngL_len {n : Int} (h : n ≤ 16777216) : (rngL n).length ≤ sizeLine := by
  have := sizeLine_eq
  unfold rngL
  rw [List.length_map, List.length_range]
  omega
theorem ei_rng1 {T : (R : Type) → (DEnv [dInt] → Env Γ → Res R) → Env Γ → Res R} (h : EvA p E XC Γ tA [dInt] T) : EvI p E XC Γ (iRng1 tA) dInt (fun R k ρ => T R (fun x ρ => opt (rng x.1) fun xs => k xs ρ) ρ) := fun B σ F H ρ I R G hG k Q g qq =>
  h B σ F H ρ I R G hG _ _ g fun x ρ' vs F' H' I' e r g' => by
    obtain ⟨v, vs', rfl, r1, r2⟩ := r
    have r2 : vs' = [] := r2
    obtain ⟨n, u⟩ := x
    have r1 : v = V.int n := r1
    subst r1 r2
    by_cases hx : -(2 ^ 62) ≤ (n : Int) ∧ (n : Int) ≤ 16777216
    · have hr : rng n = some (rngL n) := if_pos hx
      have g' : G (opt (rng n) fun xs => k xs ρ') := g'
      rw [hr] at g'
      have h1 : -(2 ^ 62) ≤ (n : Int) := hx.1
      have h2 : (n : Int) ≤ 16777216 := hx.2
      have h3 : (n : Int) < 2 ^ 62 := Int.lt_of_le_of_lt h2 (by decide)
      exact ⟨n, rfl, h1, h3, qq _ ρ' _ F' H' I' e (walks_range h2) g' (rngL_len h2)⟩
    · have hr : rng n = none := if_neg hx
      have g' : G (opt (rng n) fun xs => k xs ρ') := g'
      rw [hr] at g'
      exact absurd g' hG.1
/-- enumerate -/
def enumL {α : Type} (xs : List α) : List (Int × α) := xs.zipIdx.map fun x => ((x.2 : Int), x.1)
theorem enumL_len {α : Type} (xs : List α) : (enumL xs).length = xs.length := by unfold enumL; rw [List.length_map, List.length_zipIdx]
theorem enumL_get {α : Type} {xs : List α} {i : Nat} {x : α} (h : xs[i]? = some x) : (enumL xs)[i]? = some ((i : Int), x) := by
  unfold enumL
  rw [List.getElem?_map, List.getElem?_zipIdx, h]
  simp
theorem walks_enum {a : Addr} {vs : List V} {xs : List c.α} {F : Hp} {J : It} {G : Hp → Prop} (w : Walk J vs.length G (YPair (fun i => some (.int (i : Nat))) (fun i => vs[i]?))) (hG : ∀ H, Ex F H → G H) (pv : PV c F vs xs) : Walks J (dP2 dInt c) (enumL xs) F := by
  refine ⟨YPair (fun i => some (.int (i : Nat))) (fun i => vs[i]?), by rw [enumL_len, ← pv.length]; exact w.mono hG fun i H x H' _ _ y => y, fun i H v H' F1 y e1 e2 => ?_⟩
  obtain ⟨T, x, y, rfl, hT, rfl, hx, hy⟩ := y
  cases hx
  obtain ⟨z, hz, r⟩ := pv.get' hy
  exact ⟨_, ((i : Int), z), enumL_get hz, Pext.one e2 hT, T, .int (i : Int), y, rfl, upd_same, rfl, c.ext r (e1.trans (Ex.new (none_of e2 hT)))⟩
theorem ei_enumL {T : (R : Type) → (DEnv [dLst c] → Env Γ → Res R) → Env Γ → Res R} (h : EvA p E XC Γ tA [dLst c] T) : EvI p E XC Γ (iEnum K tA) (dP2 dInt c) (fun R k ρ => T R (fun x ρ => k (enumL x.1) ρ) ρ) := fun B σ F H ρ I R G hG k Q g qq =>
  h B σ F H ρ I R G hG _ _ g fun x ρ' vs F' H' I' e r g' => by
    obtain ⟨v, vs', rfl, r1, r2⟩ := r
    have r2 : vs' = [] := r2
    obtain ⟨xs, u⟩ := x
    obtain ⟨a, ws, rfl, g2, g3, g4⟩ := r1
    subst r2
    exact ⟨a, ws, rfl, SqL.of (I'.fh a _ g2), qq _ ρ' _ F' H' I' e (walks_enum (a := a) walk_enum (fun H2 e2 => SqL.of (e2 a _ g2)) g3) g' (by rw [enumL_len]; exact g4)⟩
/-! ### new lists, tuples -/
theorem en_nil : EvN p E XC Γ (tLst tNil) (mLst c) (fun R k ρ => k [] ρ) := fun B σ F H ρ I R G hG k Q g qq => by
  refine ⟨by show 0 ≤ sizeLine; decide, fun l hl => qq [] ρ (.ref l) [l] F H F _ I (Gt.refl I.fh) (Pext.own I.fh hl) ⟨by simp, fun a ha => ?_⟩ ⟨l, [], rfl, rfl, upd_same, .nil, by show 0 ≤ sizeLine; decide⟩ g⟩
  have ha : a = l := by simpa using ha
  subst ha
  exact ⟨hl, none_of I.fh hl, _, upd_same⟩
/-- a list by its items -/
def lstOf {c : DCod} : (n : Nat) → DEnv (List.replicate n c) → List c.α
  | 0, _ => []
  | n + 1, x => x.1 :: lstOf n x.2
theorem lstOf_len : (n : Nat) → (x : DEnv (List.replicate n c)) → (lstOf n x).length = n
  | 0, _ => rfl
  | n + 1, x => by show (lstOf n x.2).length + 1 = _; rw [lstOf_len n x.2]
theorem lstOf_rel {F : Hp} : (n : Nat) → (x : DEnv (List.replicate n c)) → (vs : List V) → DRel (List.replicate n c) F vs x → PV c F vs (lstOf n x)
  | 0, _, vs, h => by rw [show vs = [] from h]; exact .nil
  | n + 1, x, vs, h => by
    obtain ⟨v, vs', e, r, t⟩ := h
    rw [e]
    exact .cons r (lstOf_rel n x.2 vs' t)
theorem en_lst (n : Nat) (hn : n ≤ 1000) {T : (R : Type) → (DEnv (List.replicate n c) → Env Γ → Res R) → Env Γ → Res R} (h : EvA p E XC Γ tA (List.replicate n c) T) : EvN p E XC Γ (tLst tA) (mLst c) (fun R k ρ => T R (fun x ρ => k (lstOf n x) ρ) ρ) := fun B σ F H ρ I R G hG k Q g qq =>
  h B σ F H ρ I R G hG _ _ g fun x ρ' vs F' H' I' e r g' => by
    have hl2 := r.len
    rw [List.length_replicate] at hl2
    have hsz := sizeLine_eq
    refine ⟨by omega, fun l hl => qq _ ρ' (.ref l) [l] F' H' F' _ I' e (Pext.own I'.fh hl) ⟨by simp, fun a ha => ?_⟩ ⟨l, vs, rfl, rfl, upd_same, lstOf_rel n x vs r, by rw [lstOf_len]; omega⟩ g'⟩
    have ha : a = l := by simpa using ha
    subst ha
    exact ⟨hl, none_of I'.fh hl, _, upd_same⟩
theorem ev_tup (n : Nat) (hn : n ≤ 1000) {T : (R : Type) → (DEnv (List.replicate n c) → Env Γ → Res R) → Env Γ → Res R} (h : EvA p E XC Γ tA (List.replicate n c) T) : EvE p E XC Γ (tTup tA) (dTup c) (fun R k ρ => T R (fun x ρ => k (lstOf n x) ρ) ρ) := fun B σ F H ρ I R G hG k Q g qq =>
  h B σ F H ρ I R G hG _ _ g fun x ρ' vs F' H' I' e r g' => by
    have hl2 := r.len
    rw [List.length_replicate] at hl2
    have hsz := sizeLine_eq
    exact ⟨by omega, fun l hl => qq _ ρ' (.ref l) _ _ (I'.pext (Pext.one I'.fh hl)) (e.pext (Pext.one I'.fh hl)) ⟨l, vs, rfl, .inl upd_same, (lstOf_rel n x vs r).ext (Ex.new (none_of I'.fh hl)), by rw [lstOf_len]; omega⟩ g'⟩
theorem ev_p2 {T : (R : Type) → (DEnv [a, b] → Env Γ → Res R) → Env Γ → Res R} (h : EvA p E XC Γ tA [a, b] T) : EvE p E XC Γ (tTup tA) (dP2 a b) (fun R k ρ => T R (fun x ρ => k (x.1, x.2.1) ρ) ρ) := fun B σ F H ρ I R G hG k Q g qq =>
  h B σ F H ρ I R G hG _ _ g fun x ρ' vs F' H' I' e r g' => by
    obtain ⟨v, vs', rfl, r1, w, vs2, rfl, r2, r3⟩ := r
    have r3 : vs2 = [] := r3
    subst r3
    exact ⟨by show 2 ≤ sizeLine; decide, fun l hl => qq _ ρ' (.ref l) _ _ (I'.pext (Pext.one I'.fh hl)) (e.pext (Pext.one I'.fh hl)) ⟨l, v, w, rfl, upd_same, a.ext r1 (Ex.new (none_of I'.fh hl)), b.ext r2 (Ex.new (none_of I'.fh hl))⟩ g'⟩
theorem ev_p3 {T : (R : Type) → (DEnv [a, b, c] → Env Γ → Res R) → Env Γ → Res R} (h : EvA p E XC Γ tA [a, b, c] T) : EvE p E XC Γ (tTup tA) (dP3 a b c) (fun R k ρ => T R (fun x ρ => k (x.1, x.2.1, x.2.2.1) ρ) ρ) := fun B σ F H ρ I R G hG k Q g qq =>
  h B σ F H ρ I R G hG _ _ g fun x ρ' vs F' H' I' e r g' => by
    obtain ⟨v, vs', rfl, r1, w, vs2, rfl, r2, z, vs3, rfl, r3, r4⟩ := r
    have r4 : vs3 = [] := r4
    subst r4
    exact ⟨by show 3 ≤ sizeLine; decide, fun l hl => qq _ ρ' (.ref l) _ _ (I'.pext (Pext.one I'.fh hl)) (e.pext (Pext.one I'.fh hl)) ⟨l, v, w, z, rfl, upd_same, a.ext r1 (Ex.new (none_of I'.fh hl)), b.ext r2 (Ex.new (none_of I'.fh hl)), c.ext r3 (Ex.new (none_of I'.fh hl))⟩ g'⟩
/-- a new list by a reading's last step -/
theorem new_list {B : Base} {σ : St} {F H F0 H0 : Hp} {ρ ρ' : Env Γ} {R : Type} {G : Res R → Prop} {k : List c.α → Env Γ → Res R} {Q : VK} {l : Addr} {vs : List V} {xs : List c.α} (I : SInv B Γ σ F H ρ) (hl : H l = none) (pv : PV c F vs xs) (hz : xs.length ≤ sizeLine) (e : Gt p F0 F H0 H ρ' ρ) (g : G (k xs ρ))
    (qq : ∀ x ρ2 v fp F1 H1 F' H', SInv B Γ σ F1 H1 ρ2 → Gt p F0 F1 H0 H1 ρ' ρ2 → Pext F1 F' H1 H' → New fp H1 F' H' → (mLst c).rel F' H' fp v x → G (k x ρ2) → Q v H') : Q (.ref l) (upd H l (.lst vs)) := by
  refine qq xs ρ (.ref l) [l] F H F _ I e (Pext.own I.fh hl) ⟨by simp, fun a ha => ?_⟩ ⟨l, vs, rfl, rfl, upd_same, pv, hz⟩ g
  have ha : a = l := by simpa using ha
  subst ha
  exact ⟨hl, none_of I.fh hl, _, upd_same⟩
theorem rg_ok {n : Int} (h1 : -(2 ^ 62) ≤ n) (h2 : n ≤ 16777216) : RgOk 0 n := ⟨by decide, by decide, h1, Int.lt_of_le_of_lt h2 (by decide), by omega⟩
theorem rgV_rngL (n : Int) : rgV 0 n = (rngL n).map V.int := by
  unfold rgV rngL
  rw [List.map_map, Int.sub_zero]
  exact List.map_congr_left fun i _ => by show V.int (0 + (i : Int)) = V.int (i : Int); rw [Int.zero_add]
theorem en_listRg {Ta : (R : Type) → (Int → Env Γ → Res R) → Env Γ → Res R} (h : EvE p E XC Γ ta dInt Ta) : EvN p E XC Γ (tLstRg (tRg1 ta)) (mLst dInt) (fun R k ρ => Ta R (fun n ρ => opt (rng n) fun xs => k xs ρ) ρ) := fun B σ F H ρ I R G hG k Q g qq =>
  h B σ F H ρ I R G hG _ _ g fun n ρ' v F' H' I' e r g' => by
    by_cases hx : -(2 ^ 62) ≤ (n : Int) ∧ (n : Int) ≤ 16777216
    · have hr : rng n = some (rngL n) := if_pos hx
      rw [hr] at g'
      have h1 : -(2 ^ 62) ≤ (n : Int) := hx.1
      have h2 : (n : Int) ≤ 16777216 := hx.2
      have hsz := sizeLine_eq
      refine ⟨n, r, rg_ok h1 h2, fun l hl => ?_⟩
      have e2 : rgV 0 n = (rngL n).map V.int := rgV_rngL n
      rw [e2]
      exact new_list I' hl (ints_to _) (rngL_len h2) e g' qq
    · have hr : rng n = none := if_neg hx
      rw [hr] at g'
      exact absurd g' hG.1
/-- list(x) -/
theorem en_listS {r : List V → Hp → VK → Prop} (hr : r = fun xs H Q => ∃ p ys, xs = [V.ref p] ∧ (SqL K H p ys ∨ SqT K H p ys) ∧ ∀ l, H l = none → Q (.ref l) (upd H l (.lst ys))) {Ta : (R : Type) → (List c.α → Env Γ → Res R) → Env Γ → Res R} (h : EvE p E XC Γ ta (dSeq c) Ta) : EvN p E XC Γ (tCB r (tCons ta tNil)) (mLst c) Ta := fun B σ F H ρ I R G hG k Q g qq =>
  h B σ F H ρ I R G hG _ _ g fun xs ρ' v F' H' I' e r' g' => by
    obtain ⟨a, vs, rfl, g2, g3, g4⟩ := r'
    rw [hr]
    exact ⟨a, vs, rfl, g2.imp (fun z => SqL.of (I'.fh a _ z)) (fun z => SqT.rd I'.fh z), fun l hl => new_list I' hl g3 g4 e g' qq⟩
/-- xs * n -/
def repL {α : Type} (xs : List α) (n : Int) : Option (List α) := if -(2 ^ 63) ≤ n ∧ n < 2 ^ 63 ∧ xs.length * n.toNat ≤ 16777216 then some (List.replicate n.toNat xs).flatten else none
theorem PV.flat {F : Hp} {vs : List V} {xs : List c.α} (h : PV c F vs xs) : ∀ n : Nat, PV c F (List.replicate n vs).flatten (List.replicate n xs).flatten
  | 0 => .nil
  | n + 1 => by
    rw [List.replicate_succ, List.replicate_succ, List.flatten_cons, List.flatten_cons]
    exact h.append (PV.flat h n)
theorem en_rep {Ta : (R : Type) → (List c.α → Env Γ → Res R) → Env Γ → Res R} {Tb : (R : Type) → (Int → Env Γ → Res R) → Env Γ → Res R} (ha : EvE p E XC Γ ta (dLst c) Ta) (hb : EvE p E XC Γ tb dInt Tb) :
    EvN p E XC Γ (tOp rRep ta tb) (mLst c) (fun R k ρ => Ta R (fun xs ρ => Tb R (fun n ρ => opt (repL xs n) fun ys => k ys ρ) ρ) ρ) := fun B σ F H ρ I R G hG k Q g qq =>
  ha B σ F H ρ I R G hG _ _ g fun xs ρ1 v F1 H1 I1 e1 r1 g1 => hb B σ F1 H1 ρ1 I1 R G hG _ _ g1 fun n ρ2 w F2 H2 I2 e2 r2 g2 => by
    obtain ⟨a, vs, rfl, q2, q3, q4⟩ := (dLst c).ext r1 e2.1
    by_cases hx : -(2 ^ 63) ≤ (n : Int) ∧ (n : Int) < 2 ^ 63 ∧ xs.length * (n : Int).toNat ≤ 16777216
    · have hr : repL xs n = some (List.replicate (n : Int).toNat xs).flatten := if_pos hx
      rw [hr] at g2
      have hsz := sizeLine_eq
      have hlen : ((List.replicate (n : Int).toNat xs).flatten).length = (n : Int).toNat * xs.length := by rw [List.length_flatten, List.map_replicate, List.sum_replicate_nat]
      have hle := hx.2.2
      refine ⟨a, n, vs, rfl, r2, I2.fh a _ q2, hx.1, hx.2.1, by rw [q3.length]; omega, fun l hl => new_list I2 hl (q3.flat _) (by rw [hlen, Nat.mul_comm]; omega) (e1.trans e2) g2 qq⟩
    · have hr : repL xs n = none := if_neg hx
      rw [hr] at g2
      exact absurd g2 hG.1
/-- xs + ys, lists -/
def catL {α : Type} (xs ys : List α) : Option (List α) := if xs.length + ys.length ≤ 16777216 then some (xs ++ ys) else none
theorem en_cat {Ta Tb : (R : Type) → (List c.α → Env Γ → Res R) → Env Γ → Res R} (ha : EvE p E XC Γ ta (dLst c) Ta) (hb : EvE p E XC Γ tb (dLst c) Tb) :
    EvN p E XC Γ (tOp rCat ta tb) (mLst c) (fun R k ρ => Ta R (fun xs ρ => Tb R (fun ys ρ => opt (catL xs ys) fun zs => k zs ρ) ρ) ρ) := fun B σ F H ρ I R G hG k Q g qq =>
  ha B σ F H ρ I R G hG _ _ g fun xs ρ1 v F1 H1 I1 e1 r1 g1 => hb B σ F1 H1 ρ1 I1 R G hG _ _ g1 fun ys ρ2 w F2 H2 I2 e2 r2 g2 => by
    obtain ⟨a, vs, rfl, q2, q3, q4⟩ := (dLst c).ext r1 e2.1
    obtain ⟨b, ws, rfl, s2, s3, s4⟩ := r2
    by_cases hx : xs.length + ys.length ≤ 16777216
    · have hr : catL xs ys = some (xs ++ ys) := if_pos hx
      rw [hr] at g2
      have hsz := sizeLine_eq
      exact ⟨a, b, vs, ws, rfl, rfl, I2.fh a _ q2, I2.fh b _ s2, by rw [q3.length, s3.length]; omega, fun l hl => new_list I2 hl (q3.append s3) (by rw [List.length_append]; omega) (e1.trans e2) g2 qq⟩
    · have hr : catL xs ys = none := if_neg hx
      rw [hr] at g2
      exact absurd g2 hG.1
/-- tuples -/
theorem o_catT : Op2P (rCatA K) (dTup c) (dTup c) (dTup c) catL := fun F H v w x y z Q e h1 h2 hz k => by
  obtain ⟨a, vs, rfl, q2, q3, q4⟩ := h1
  obtain ⟨b, ws, rfl, s2, s3, s4⟩ := h2
  have hsz := sizeLine_eq
  by_cases hx : x.length + y.length ≤ 16777216
  · have hr : catL x y = some (x ++ y) := if_pos hx
    rw [hr] at hz
    cases hz
    refine ⟨a, b, vs, ws, rfl, rfl, SqT.rd e q2, SqT.rd e s2, by rw [q3.length, s3.length]; omega, fun hv => ?_, fun hv hw => ?_, fun hv hw p hp => ?_⟩
    · subst hv
      cases q3
      exact k _ F H (Pext.refl e) ⟨b, ws, rfl, s2, s3, s4⟩
    · subst hw
      cases s3
      have e9 : x ++ ([] : List c.α) = x := List.append_nil x
      exact k _ F H (Pext.refl e) ⟨a, vs, rfl, q2, by rw [e9]; exact q3, by rw [e9]; exact q4⟩
    · exact k _ _ _ (Pext.one e hp) ⟨p, _, rfl, .inl upd_same, (q3.append s3).ext (Ex.new (none_of e hp)), by rw [List.length_append]; omega⟩
  · have hr : catL x y = none := if_neg hx
    rw [hr] at hz; cases hz
/-! ### slices -/
section
variable (p : Bool) (E : XK) (XC : Str → Value)
def EvO (Γ : List Sl) (to : TO) (T : (R : Type) → (Option Int → Env Γ → Res R) → Env Γ → Res R) : Prop :=
  ∀ (B : Base) (σ : St) (F H : Hp) (ρ : Env Γ), SInv B Γ σ F H ρ → ∀ (R : Type) (G : Res R → Prop), Rs E XC B G → ∀ (k : Option Int → Env Γ → Res R) (Q : Option Int → Hp → Prop), G (T R k ρ) →
    (∀ x ρ' F' H', SInv B Γ σ F' H' ρ' → Gt p F F' H H' ρ ρ' → G (k x ρ') → Q x H') → to σ H Q
end
theorem eo_no : EvO p E XC Γ tNoPart (fun R k ρ => k none ρ) := fun B σ F H ρ I R G hG k Q g qq => qq none ρ F H I (Gt.refl I.fh) g
theorem eo_some {T : (R : Type) → (Int → Env Γ → Res R) → Env Γ → Res R} (h : EvE p E XC Γ te dInt T) : EvO p E XC Γ (tPart te) (fun R k ρ => T R (fun x ρ => k (some x) ρ) ρ) := fun B σ F H ρ I R G hG k Q g qq =>
  h B σ F H ρ I R G hG _ _ g fun x ρ' v F' H' I' e r g' => ⟨x, r, qq _ ρ' F' H' I' e g'⟩
def cutL {α : Type} (xs : List α) (lo hi : Option Int) : List α := (xs.drop (HT.sIx xs.length 0 lo)).take (HT.sIx xs.length xs.length hi - HT.sIx xs.length 0 lo)
theorem cutL_len {α : Type} (xs : List α) (lo hi : Option Int) : (cutL xs lo hi).length ≤ xs.length := by
  unfold cutL
  rw [List.length_take, List.length_drop]
  omega
theorem PV.cut {F : Hp} {vs : List V} {xs : List c.α} (h : PV c F vs xs) (lo hi : Option Int) : PV c F (cutV vs lo hi) (cutL xs lo hi) := by
  unfold cutV cutL
  rw [h.length]
  exact (h.drop _).take _
theorem en_slL {to tu : TO} {T : (R : Type) → (List c.α → Env Γ → Res R) → Env Γ → Res R} {T1 T2 : (R : Type) → (Option Int → Env Γ → Res R) → Env Γ → Res R} (h : EvE p E XC Γ te (dLst c) T) (h1 : EvO p E XC Γ to T1) (h2 : EvO p E XC Γ tu T2) :
    EvN p E XC Γ (L2.tSl (rSlL K) te to tu) (mLst c) (fun R k ρ => T R (fun xs ρ => T1 R (fun lo ρ => T2 R (fun hi ρ => k (cutL xs lo hi) ρ) ρ) ρ) ρ) := fun B σ F H ρ I R G hG k Q g qq =>
  h B σ F H ρ I R G hG _ _ g fun xs ρ1 v F1 H1 I1 e1 r1 g1 => h1 B σ F1 H1 ρ1 I1 R G hG _ _ g1 fun lo ρ2 F2 H2 I2 e2 g2 => h2 B σ F2 H2 ρ2 I2 R G hG _ _ g2 fun hi ρ3 F3 H3 I3 e3 g3 => by
    obtain ⟨a, vs, rfl, q2, q3, q4⟩ := (dLst c).ext r1 (e2.1.trans e3.1)
    exact ⟨a, vs, rfl, SqL.of (I3.fh a _ q2), fun l hl => new_list I3 hl (q3.cut lo hi) (Nat.le_trans (cutL_len _ _ _) q4) ((e1.trans e2).trans e3) g3 qq⟩
theorem ev_slT {to tu : TO} {T : (R : Type) → (List c.α → Env Γ → Res R) → Env Γ → Res R} {T1 T2 : (R : Type) → (Option Int → Env Γ → Res R) → Env Γ → Res R} (h : EvE p E XC Γ te (dTup c) T) (h1 : EvO p E XC Γ to T1) (h2 : EvO p E XC Γ tu T2) :
    EvE p E XC Γ (L2.tSl (rSlA K) te to tu) (dTup c) (fun R k ρ => T R (fun xs ρ => T1 R (fun lo ρ => T2 R (fun hi ρ => k (cutL xs lo hi) ρ) ρ) ρ) ρ) := fun B σ F H ρ I R G hG k Q g qq =>
  h B σ F H ρ I R G hG _ _ g fun xs ρ1 v F1 H1 I1 e1 r1 g1 => h1 B σ F1 H1 ρ1 I1 R G hG _ _ g1 fun lo ρ2 F2 H2 I2 e2 g2 => h2 B σ F2 H2 ρ2 I2 R G hG _ _ g2 fun hi ρ3 F3 H3 I3 e3 g3 => by
    obtain ⟨a, vs, rfl, q2, q3, q4⟩ := (dTup c).ext r1 (e2.1.trans e3.1)
    refine ⟨a, vs, rfl, SqT.rd I3.fh q2, fun hw => ?_, fun hw l hl => qq _ ρ3 (.ref l) _ _ (I3.pext (Pext.one I3.fh hl)) (((e1.trans e2).trans e3).pext (Pext.one I3.fh hl)) ⟨l, _, rfl, .inl upd_same, (q3.cut lo hi).ext (Ex.new (none_of I3.fh hl)), Nat.le_trans (cutL_len _ _ _) q4⟩ g3⟩
    refine qq _ ρ3 (.ref a) F3 H3 I3 ((e1.trans e2).trans e3) ⟨a, vs, rfl, q2, ?_, Nat.le_trans (cutL_len _ _ _) q4⟩ g3
    have w := q3.cut lo hi
    have ew : cutV vs lo hi = vs := by
      unfold cutV
      rw [hw.1, hw.2]
      simp
    rw [ew] at w
    exact w
/-! ### a list that changes, in a slot -/
/-- one thing in one list changed -/
theorem lst_step {B : Base} {σ : St} {F H : Hp} {ρ : Env Γ} {i : Nat} {k : Kd} (hk : k ≠ .co) (I : SInv B Γ σ F H ρ) (at_ : At Γ i (.m k (mLst c))) : ∃ l vs, σ[i]? = some (some (.ref l)) ∧ H l = some (.lst vs) ∧ PV c F vs (at_.get ρ) ∧ List.length (α := c.α) (at_.get ρ) ≤ sizeLine ∧
    ∀ vs' xs', PV c F vs' xs' → xs'.length ≤ sizeLine → SInv B Γ σ F (upd H l (.lst vs')) (at_.put ρ xs') := by
  obtain ⟨v, fp, h1, _, hr, nd, hfp, hst⟩ := I.mut at_
  obtain ⟨l, vs, rfl, rfl, hl, pv, hz⟩ := hr
  refine ⟨l, vs, h1, hl, pv, hz, fun vs' xs' pv' hz' => hst hk F _ [l] xs' ⟨Ex.refl _, fun a o ha => ?_, fun a o ha hm => ?_, fun a o ha => ?_, fun a o ha => .inl ha, by simp, fun a ha => ?_⟩ ⟨l, vs', rfl, rfl, upd_same, pv', hz'⟩⟩
  · have hne : a ≠ l := ne_of_none ha (hfp l (by simp)).1
    rw [upd_ne hne]; exact I.fh a o ha
  · rw [upd_ne (by simpa using hm)]; exact ha
  · by_cases he : a = l
    · subst he; exact ⟨_, upd_same⟩
    · exact ⟨o, by rw [upd_ne he]; exact ha⟩
  · have ha : a = l := by simpa using ha
    subst ha
    exact ⟨.inl (by simp), (hfp a (by simp)).1, _, upd_same⟩
def app1 {α : Type} (xs : List α) (x : α) : List α := xs ++ [x]
theorem app1_len {α : Type} (xs : List α) (x : α) : (app1 xs x).length = xs.length + 1 := by unfold app1; rw [List.length_append]; rfl
theorem st_app {i : Nat} {k : Kd} (hk : k ≠ .co) (at_ : At Γ i (.m k (mLst c))) {T : (R : Type) → (c.α → Env Γ → Res R) → Env Γ → Res R} (h : EvE p E XC Γ te c T) :
    StE E XC Rt Γ (tDrop (tBM K "list" rAppend (tVar i) (tCons te tNil))) Γ ΓL (fun R nx rt bk ct ρ => T R (fun x ρ => chk (decide (List.length (α := c.α) (at_.get ρ) < 16777216)) (nx (at_.put ρ (app1 (α := c.α) (at_.get ρ) x)))) ρ) := fun B σ F H ρ I R G hG nx rt bk ct D g qn qr qb qc => by
  obtain ⟨l0, vs0, h1, hl0, _⟩ := lst_step hk I at_
  refine ⟨.ref l0, h1, .inl ⟨rfl, vs0, SqL.of hl0⟩, h B σ F H ρ I R G hG _ _ g fun x ρ1 u F1 H1 I1 e1 r1 g1 => ?_⟩
  obtain ⟨l, vs, h2, hl, pv, hz, hs⟩ := lst_step hk I1 at_
  rw [h1] at h2
  cases h2
  by_cases hx : List.length (α := c.α) (at_.get ρ1) < 16777216
  · rw [decide_eq_true hx] at g1
    have hsz := sizeLine_eq
    have hpl := pv.length
    exact ⟨l0, vs, u, rfl, rfl, hl, by omega, qn _ σ F1 _ (hs (vs ++ [u]) (app1 (α := c.α) (at_.get ρ1) x) (pv.append (.cons r1 .nil)) (Nat.le_trans (Nat.le_of_eq (app1_len (α := c.α) (at_.get ρ1) x)) (by omega))) e1.1 g1⟩
  · rw [decide_eq_false hx] at g1
    exact absurd g1 hG.1
def setL {α : Type} (xs : List α) (i : Int) (x : α) : Option (List α) := match ixN xs.length i with
  | some j => some (xs.set j x)
  | none => none
/-- xs[i] = e -/
theorem st_setIx {i : Nat} {k : Kd} (hk : k ≠ .co) (at_ : At Γ i (.m k (mLst c))) {T : (R : Type) → (c.α → Env Γ → Res R) → Env Γ → Res R} {Ti : (R : Type) → (Int → Env Γ → Res R) → Env Γ → Res R} (h : EvE p E XC Γ te c T) (hi : EvE p E XC Γ tb dInt Ti) :
    StE E XC Rt Γ (tAsg te (gSub (tVar i) tb rSetL)) Γ ΓL (fun R nx rt bk ct ρ => T R (fun x ρ => Ti R (fun j ρ => opt (setL (at_.get ρ) j x) fun xs => nx (at_.put ρ xs)) ρ) ρ) := fun B σ F H ρ I R G hG nx rt bk ct D g qn qr qb qc =>
  h B σ F H ρ I R G hG _ _ g fun x ρ1 u F1 H1 I1 e1 r1 g1 => by
    obtain ⟨l0, vs0, h1, _⟩ := lst_step hk I1 at_
    refine ⟨.ref l0, h1, hi B σ F1 H1 ρ1 I1 R G hG _ _ g1 fun j ρ2 w F2 H2 I2 e2 r2 g2 => ?_⟩
    obtain ⟨l, vs, h2, hl, pv, hz, hs⟩ := lst_step hk I2 at_
    rw [h1] at h2
    cases h2
    have g2 : G (opt (match ixN (List.length (α := c.α) (at_.get ρ2)) j with
      | some j => some (List.set (at_.get ρ2) j x)
      | none => none) fun xs => nx (at_.put ρ2 xs)) := g2
    rw [← pv.length] at g2
    cases hj : ixN vs.length j with
    | none => rw [hj] at g2; exact absurd g2 hG.1
    | some n =>
      rw [hj] at g2
      exact ⟨l0, vs, j, n, rfl, r2, hl, hj, qn _ σ F2 _ (hs _ _ (pv.set (c.ext r1 e2.1) n) (Nat.le_trans (Nat.le_of_eq (List.length_set (α := c.α))) hz)) (e1.1.trans e2.1) g2⟩
theorem rem_go {F H : Hp} {xs : List Int} {x : Int} {l : Addr} {u : V} {Q : VK} (hm : List.contains (α := Int) xs x = true) (r : dInt.rel F u x) (hl : H l = some (.lst (xs.map V.int))) (k : ∀ H', H' = upd H l (.lst ((List.erase (α := Int) xs x).map V.int)) → Q .non H') : rRemI (.ref l) [u] H Q := by
  have hmem : x ∈ xs := List.elem_iff.mp hm
  obtain ⟨j, j1, j2, j3, j4⟩ := first_at hmem
  exact ⟨l, xs, x, j, rfl, by rw [show u = V.int x from r], hl, j2, j3, k _ (by rw [j4])⟩
/-- xs.remove(x), ints -/
theorem st_rem {i : Nat} {k : Kd} (hk : k ≠ .co) (at_ : At Γ i (.m k (mLst dInt))) {T : (R : Type) → (Int → Env Γ → Res R) → Env Γ → Res R} (h : EvE p E XC Γ te dInt T) :
    StE E XC Rt Γ (tDrop (tBM K "list" rRemI (tVar i) (tCons te tNil))) Γ ΓL (fun R nx rt bk ct ρ => T R (fun x ρ => chk (List.contains (α := Int) (at_.get ρ) x) (nx (at_.put ρ (List.erase (α := Int) (at_.get ρ) x)))) ρ) := fun B σ F H ρ I R G hG nx rt bk ct D g qn qr qb qc => by
  obtain ⟨l0, vs0, h1, hl0, _⟩ := lst_step hk I at_
  refine ⟨.ref l0, h1, .inl ⟨rfl, vs0, SqL.of hl0⟩, h B σ F H ρ I R G hG _ _ g fun x ρ1 u F1 H1 I1 e1 r1 g1 => ?_⟩
  obtain ⟨l, vs, h2, hl, pv, hz, hs⟩ := lst_step hk I1 at_
  rw [h1] at h2
  cases h2
  generalize hxs : at_.get ρ1 = xs at g1 pv hz
  have xs' : List Int := xs
  have evs := ints_of pv
  cases hm : List.contains (α := Int) xs x with
  | false => rw [hm] at g1; exact absurd g1 hG.1
  | true =>
    rw [hm] at g1
    refine rem_go (Q := fun _ H' => D.nx σ H') hm r1 (by rw [← evs]; exact hl) fun H' hH' => ?_
    · rw [hH']
      exact qn _ σ F1 _ (hs _ _ (ints_to _) (Nat.le_trans (List.length_erase_le (α := Int)) hz)) e1.1 g1
/-- reading it -/
theorem ev_ixM {i : Nat} {k : Kd} (at_ : At Γ i (.m k (mLst c))) {T : (R : Type) → (Int → Env Γ → Res R) → Env Γ → Res R} (h : EvE p E XC Γ tb dInt T) : EvE p E XC Γ (tOp (rIxL K) (tVar i) tb) c (fun R kk ρ => T R (fun j ρ => opt (L2.atI (at_.get ρ) j) fun x => kk x ρ) ρ) := fun B σ F H ρ I R G hG kk Q g qq => by
  obtain ⟨v, fp, h1, _, hr, _⟩ := I.mut at_
  refine ⟨v, h1, h B σ F H ρ I R G hG _ _ g fun j ρ1 w F1 H1 I1 e1 r1 g1 => ?_⟩
  obtain ⟨v', fp', h2, _, hr2, _⟩ := I1.mut at_
  rw [h1] at h2
  cases h2
  obtain ⟨l, vs, rfl, rfl, hl, pv, hz⟩ := hr2
  cases hj : L2.atI (α := c.α) (at_.get ρ1) j with
  | none =>
    have g1 : G (opt (L2.atI (α := c.α) (at_.get ρ1) j) fun x => kk x ρ1) := g1
    rw [hj] at g1
    exact absurd g1 hG.1
  | some x =>
    have g1 : G (opt (L2.atI (α := c.α) (at_.get ρ1) j) fun x => kk x ρ1) := g1
    rw [hj] at g1
    obtain ⟨u, q1, q2⟩ := pv.atI hj
    exact ⟨l, vs, j, u, rfl, r1, SqL.of hl, q1, qq x ρ1 u F1 H1 I1 e1 q2 g1⟩
theorem ev_lenM {i : Nat} {k : Kd} (at_ : At Γ i (.m k (mLst c))) : EvE p E XC Γ (tCB (fun xs H Q => ∃ x n, xs = [x] ∧ LenV K x H n ∧ Q (.int n) H) (tCons (tVar i) tNil)) dInt (fun R kk ρ => kk (List.length (α := c.α) (at_.get ρ) : Int) ρ) := fun B σ F H ρ I R G hG kk Q g qq => by
  obtain ⟨v, fp, h1, _, hr, _⟩ := I.mut at_
  obtain ⟨l, vs, rfl, rfl, hl, pv, hz⟩ := hr
  exact ⟨_, h1, _, vs.length, rfl, .inl ⟨vs, SqL.of hl, rfl⟩, qq _ ρ _ F H I (Gt.refl I.fh) (by rw [pv.length]) g⟩
/-- tuple(xs), list(xs) -/
theorem ev_tupM {i : Nat} {k : Kd} (at_ : At Γ i (.m k (mLst c))) : EvE p E XC Γ (tThen (tVar i) (kTup K)) (dTup c) (fun R kk ρ => kk (at_.get ρ) ρ) := fun B σ F H ρ I R G hG kk Q g qq => by
  obtain ⟨v, fp, h1, _, hr, _⟩ := I.mut at_
  obtain ⟨l, vs, rfl, rfl, hl, pv, hz⟩ := hr
  exact ⟨_, h1, .inl ⟨l, vs, rfl, SqL.of hl, fun q hq => qq _ ρ _ _ _ (I.pext (Pext.one I.fh hq)) ((Gt.refl I.fh).pext (Pext.one I.fh hq)) ⟨q, vs, rfl, .inl upd_same, pv.ext (Ex.new (none_of I.fh hq)), hz⟩ g⟩⟩
/-- return xs: a local list is handed out -/
theorem st_retL {i : Nat} (at_ : At Γ i (.m .lo (mLst c))) : StE E XC (retD (dLst c)) Γ (tRet (tVar i)) Γ' ΓL (fun R nx rt bk ct ρ => rt (at_.get ρ) ()) := fun B σ F H ρ I R G hG nx rt bk ct D g qn qr qb qc => by
  obtain ⟨v, fp, h1, _, hr, nd, hfp, _⟩ := I.mut at_
  obtain ⟨l, vs, rfl, rfl, hl, pv, hz⟩ := hr
  obtain ⟨f1, _, _, f4⟩ := hfp l (by simp)
  refine ⟨_, h1, qr _ () _ (upd F l (.lst vs)) H (fun hM hN => ?_) ⟨l, vs, rfl, upd_same, pv.ext (Ex.new f1), hz⟩ g⟩
  have pp := I.pextB hM hN
  refine ⟨pp.hh, pp.ff.trans (Ex.new f1), fun a o ha => ?_, fun a o ha => ?_⟩
  · by_cases he : a = l
    · subst he; rw [upd_same] at ha; cases ha; exact hl
    · rw [upd_ne he] at ha; exact I.fh a o ha
  · by_cases he : a = l
    · subst he
      rcases f4 rfl with z | z
      · rw [hN] at z; cases z
      · exact .inr z
    · rw [upd_ne he] at ha; exact pp.new a o ha
end
end Pu
set_option Elab.async false
set_option linter.all false
set_option maxRecDepth 100000
set_option maxHeartbeats 4000000
namespace Pu
open PySem L2 Evl
/-! ### a thing that becomes another -/
theorem SRel.mutU {F H : Hp} {k : Kd} {c c' : Cod} : ∀ {Γ Γ' : List Sl} {i : Nat} (u : Up Γ i (.m k c) (.m k c') Γ') {τ σ : St} {L : Fps} {ρ : Env Γ}, SRel Γ τ σ F H L ρ → ∃ v fp L1 L2, σ[i]? = some (some v) ∧ L = L1 ++ tag k fp ++ L2 ∧ c.rel F H fp v (u.old ρ) ∧
    ∀ F' H' fp' x', Ex F F' → (∀ k a, (k, a) ∈ L1 ++ L2 → H' a = H a) → c'.rel F' H' fp' v x' → SRel Γ' τ σ F' H' (L1 ++ tag k fp' ++ L2) (u.set ρ x')
  | _, _, _, .z, τ, σ, L, ρ, ⟨v, σ', fp, L', e, e2, e3, r, h⟩ => ⟨v, fp, [], L', by rw [e]; rfl, e3, r, fun F' H' fp' x' eF kk r' => ⟨v, σ', fp', L', e, e2, rfl, r', h.ext eF kk⟩⟩
  | .no :: Γ, _, _, .s r, τ, σ, L, ρ, ⟨w, σ', e, h⟩ => by
    obtain ⟨v, fp, L1, L2, h1, h3, h4, h5⟩ := SRel.mutU r h
    exact ⟨v, fp, L1, L2, by rw [e]; simpa using h1, h3, h4, fun F' H' fp' x' eF kk r' => ⟨w, σ', e, h5 F' H' fp' x' eF kk r'⟩⟩
  | .da c0 :: Γ, _, _, .s r, τ, σ, L, ρ, ⟨w, σ', e, hr, h⟩ => by
    obtain ⟨v, fp, L1, L2, h1, h3, h4, h5⟩ := SRel.mutU r h
    exact ⟨v, fp, L1, L2, by rw [e]; simpa using h1, h3, h4, fun F' H' fp' x' eF kk r' => ⟨w, σ', e, c0.ext hr eF, h5 F' H' fp' x' eF kk r'⟩⟩
  | .m k' c0 :: Γ, _, _, .s r, τ, σ, L, ρ, ⟨w, σ', fp0, L', e, e2, e3, hr, h⟩ => by
    obtain ⟨v, fp, L1, L2, h1, h3, h4, h5⟩ := SRel.mutU r h
    refine ⟨v, fp, tag k' fp0 ++ L1, L2, by rw [e]; simpa using h1, by rw [e3, h3]; simp [List.append_assoc], h4, fun F' H' fp' x' eF kk r' => ⟨w, σ', fp0, L1 ++ tag k fp' ++ L2, e, e2, by simp [List.append_assoc], c0.ext hr eF fun a ha => kk k' a ?_, h5 F' H' fp' x' eF (fun q a ha => kk q a ?_) r'⟩⟩
    · simp only [List.append_assoc]
      exact List.mem_append_left _ (List.mem_map.mpr ⟨a, ha, rfl⟩)
    · simp only [List.append_assoc]
      exact List.mem_append_right _ ha
theorem SInv.mutU {B : Base} {Γ Γ' : List Sl} {σ : St} {F H : Hp} {ρ : Env Γ} {k : Kd} {c c' : Cod} {i : Nat} (I : SInv B Γ σ F H ρ) (u : Up Γ i (.m k c) (.m k c') Γ') (hk : k ≠ .co) :
    ∃ v fp, σ[i]? = some (some v) ∧ c.rel F H fp v (u.old ρ) ∧ fp.Nodup ∧ (∀ a, a ∈ fp → F a = none ∧ (∃ o, H a = some o)) ∧
      (∀ F' H' fp' x', Step F H fp F' H' fp' → c'.rel F' H' fp' v x' → SInv B Γ' σ F' H' (u.set ρ x')) := by
  obtain ⟨L, r, w⟩ := I
  obtain ⟨v, fp, L1, L2, h1, h3, h4, h5⟩ := r.mutU u
  subst h3
  have hin : ∀ a, a ∈ fp → (k, a) ∈ L1 ++ tag k fp ++ L2 := fun a ha => by
    simp only [List.mem_append]
    exact .inl (.inr (mem_tag.mpr ⟨rfl, ha⟩))
  have nd := w.nd
  rw [List.map_append, List.map_append, tag_map] at nd
  have nd1 := List.nodup_append.mp nd
  have nd2 := List.nodup_append.mp nd1.1
  refine ⟨v, fp, h1, h4, nd2.2.1, fun a ha => w.fr k a (hin a ha), fun F' H' fp' x' st r' => ?_⟩
  have hrest : ∀ k' a, (k', a) ∈ L1 ++ L2 → ∃ o, H a = some o ∧ H' a = some o ∧ a ∉ fp := fun k' a ha => by
    have hm : (k', a) ∈ L1 ++ tag k fp ++ L2 := by
      simp only [List.mem_append] at ha ⊢
      rcases ha with ha | ha
      · exact .inl (.inl ha)
      · exact .inr ha
    obtain ⟨_, o, ho⟩ := w.fr k' a hm
    have hnot : a ∉ fp := fun hf => by
      simp only [List.mem_append] at ha
      rcases ha with ha | ha
      · exact nd2.2.2 a (List.mem_map.mpr ⟨_, ha, rfl⟩) a hf rfl
      · exact nd1.2.2 a (List.mem_append_right _ hf) a (List.mem_map.mpr ⟨_, ha, rfl⟩) rfl
    exact ⟨o, ho, st.keep a o ho hnot, hnot⟩
  refine ⟨L1 ++ tag k fp' ++ L2, h5 F' H' fp' x' st.ff (fun k' a ha => ?_) r', ?_⟩
  · obtain ⟨o, g1, g2, _⟩ := hrest k' a ha
    rw [g1, g2]
  · have cases_ : ∀ k' a, (k', a) ∈ L1 ++ tag k fp' ++ L2 → (k', a) ∈ L1 ++ L2 ∨ (k' = k ∧ a ∈ fp') := fun k' a ha => by
      simp only [List.mem_append] at ha ⊢
      rcases ha with (ha | ha) | ha
      · exact .inl (.inl ha)
      · exact .inr (mem_tag.mp ha)
      · exact .inl (.inr ha)
    have old : ∀ k' a, (k', a) ∈ L1 ++ L2 → (k', a) ∈ L1 ++ tag k fp ++ L2 := fun k' a ha => by
      simp only [List.mem_append] at ha ⊢
      rcases ha with ha | ha
      · exact .inl (.inl ha)
      · exact .inr ha
    have back : ∀ a, H a = none → B.H a = none := fun a z => by
      cases e2 : B.H a with
      | none => rfl
      | some u =>
        obtain ⟨o', h'⟩ := w.there a u e2
        rw [z] at h'; cases h'
    refine ⟨?_, fun k' a ha => ?_, st.fh, w.bf.trans st.ff, fun a o h hm hn => ?_, fun a o h => ?_, fun a o e => ?_, fun a ha => ?_, fun a ha => ?_, fun a ha => ?_⟩
    · rw [List.map_append, List.map_append, tag_map]
      have dis : ∀ a, a ∈ fp' → ∀ k' , (k', a) ∈ L1 ++ L2 → False := fun a ha k' hm => by
        obtain ⟨o, g1, g2, g3⟩ := hrest k' a hm
        rcases (st.own a ha).1 with q | q
        · exact g3 q
        · rw [g1] at q; cases q
      refine List.nodup_append.mpr ⟨List.nodup_append.mpr ⟨nd2.1, st.nd, fun a ha b hb e => ?_⟩, nd1.2.1, fun a ha b hb e => ?_⟩
      · subst e
        obtain ⟨q, hq, e⟩ := List.mem_map.mp ha
        obtain ⟨k', a'⟩ := q
        have e : a' = a := e
        subst e
        exact dis a' hb k' (List.mem_append_left _ hq)
      · subst e
        obtain ⟨q, hq, e⟩ := List.mem_map.mp hb
        obtain ⟨k', a'⟩ := q
        have e : a' = a := e
        subst e
        rcases List.mem_append.mp ha with ha | ha
        · exact nd1.2.2 a' (List.mem_append_left _ ha) a' hb rfl
        · exact dis a' ha k' (List.mem_append_right _ hq)
    · rcases cases_ k' a ha with q | ⟨_, q⟩
      · obtain ⟨o, g1, g2, _⟩ := hrest k' a q
        refine ⟨?_, o, g2⟩
        have g0 := (w.fr k' a (old k' a q)).1
        cases e : F' a with
        | none => rfl
        | some u =>
          rcases st.new a u e with z | z
          · rw [g0] at z; cases z
          · rw [g1] at z; cases z
      · exact (st.own a q).2
    · by_cases hf : a ∈ fp
      · exfalso
        cases k with
        | pa =>
          rcases w.own a (hin a hf) with z | z
          · exact hm z
          · rw [h] at z; cases z
        | lo =>
          rcases w.loc a (hin a hf) with z | z
          · exact hn z
          · rw [h] at z; cases z
        | co => exact hk rfl
      · exact st.keep a o (w.keep a o h hm hn) hf
    · obtain ⟨o', h'⟩ := w.there a o h
      exact st.there a o' h'
    · rcases st.new a o e with q | q
      · exact w.new a o q
      · exact .inr (back a q)
    · rcases cases_ _ a ha with q | ⟨e, q⟩
      · exact w.own a (old _ a q)
      · subst e
        rcases (st.own a q).1 with z | z
        · exact w.own a (hin a z)
        · exact .inr (back a z)
    · rcases cases_ _ a ha with q | ⟨e, q⟩
      · exact w.loc a (old _ a q)
      · subst e
        rcases (st.own a q).1 with z | z
        · exact w.loc a (hin a z)
        · exact .inr (back a z)
    · rcases cases_ _ a ha with q | ⟨e, q⟩
      · exact w.con a (old _ a q)
      · exact absurd e.symm hk
/-! ### instances -/
abbrev mObj (C : Addr) (names : List Str) (Γf : List Sl) : Cod := ⟨Env Γf, fun F H fp v x => ∃ p dx vs fp', v = .ref p ∧ H p = some (.ins C dx (names.zip vs)) ∧ fp = p :: fp' ∧ vs.length = names.length ∧ SRel Γf [] (vs.map some) F H (tag .lo fp') x,
  fun {F F' H H' fp v x} h e k => let ⟨p, dx, vs, fp', h1, h2, h3, h4, h5⟩ := h; ⟨p, dx, vs, fp', h1, by rw [k p (by rw [h3]; simp)]; exact h2, h3, h4, h5.ext e fun k' a ha => k a (by rw [h3]; exact List.mem_cons_of_mem _ (mem_tag.mp ha).2)⟩⟩
def Env.snoc {s : Sl} : (Γf : List Sl) → Env Γf → s.α → Env (Γf ++ [s])
  | [], _, x => (x, ())
  | _ :: Γf, ρ, x => (ρ.1, Env.snoc Γf ρ.2 x)
theorem SRel.snocD {F H : Hp} {c : DCod} {v : V} {x : c.α} (r : c.rel F v x) : ∀ {Γf : List Sl} {τ σ : St} {L : Fps} {ρ : Env Γf}, SRel Γf τ σ F H L ρ → SRel (Γf ++ [Sl.da c]) τ (σ ++ [some v]) F H L (Env.snoc (s := Sl.da c) Γf ρ x)
  | [], τ, σ, L, ρ, ⟨h1, h2⟩ => ⟨v, [], by rw [h1]; rfl, r, rfl, h2⟩
  | .no :: Γ, τ, σ, L, ρ, ⟨w, σ', e, h⟩ => ⟨w, σ' ++ [some v], by rw [e]; rfl, h.snocD r⟩
  | .da c0 :: Γ, τ, σ, L, ρ, ⟨w, σ', e, hr, h⟩ => ⟨w, σ' ++ [some v], by rw [e]; rfl, hr, h.snocD r⟩
  | .m k' c0 :: Γ, τ, σ, L, ρ, ⟨w, σ', fp0, L', e, e2, e3, hr, h⟩ => ⟨w, σ' ++ [some v], fp0, L', by rw [e]; rfl, e2, e3, hr, h.snocD r⟩
theorem SRel.snocM {F H : Hp} {c : Cod} {v : V} {x : c.α} {fp : List Addr} (r : c.rel F H fp v x) : ∀ {Γf : List Sl} {τ σ : St} {L : Fps} {ρ : Env Γf}, SRel Γf τ σ F H L ρ → SRel (Γf ++ [Sl.m .lo c]) τ (σ ++ [some v]) F H (L ++ tag .lo fp) (Env.snoc (s := Sl.m .lo c) Γf ρ x)
  | [], τ, σ, L, ρ, ⟨h1, h2⟩ => ⟨v, [], fp, [], by rw [h1]; rfl, .inl rfl, by rw [h2]; simp, r, rfl, rfl⟩
  | .no :: Γ, τ, σ, L, ρ, ⟨w, σ', e, h⟩ => ⟨w, σ' ++ [some v], by rw [e]; rfl, h.snocM r⟩
  | .da c0 :: Γ, τ, σ, L, ρ, ⟨w, σ', e, hr, h⟩ => ⟨w, σ' ++ [some v], by rw [e]; rfl, hr, h.snocM r⟩
  | .m k' c0 :: Γ, τ, σ, L, ρ, ⟨w, σ', fp0, L', e, e2, e3, hr, h⟩ => ⟨w, σ' ++ [some v], fp0, L' ++ tag .lo fp, by rw [e]; rfl, e2, by rw [e3, List.append_assoc], hr, h.snocM r⟩
theorem putF_new {f : Str} {y : V} : ∀ {names : List Str} (vs : List V), names.contains f = false → vs.length = names.length → putF f y (names.zip vs) = (names ++ [f]).zip (vs ++ [y])
  | [], vs, _, hl => by
    have : vs = [] := List.eq_nil_of_length_eq_zero hl
    subst this; rfl
  | n :: ns, [], _, hl => by simp at hl
  | n :: ns, v :: vs, hn, hl => by
    simp only [List.contains_cons, Bool.or_eq_false_iff] at hn
    have hne : ¬ n = f := fun e => by
      rw [e] at hn
      simp at hn
    show (if n = f then (n, y) :: ns.zip vs else (n, v) :: putF f y (ns.zip vs)) = (n, v) :: (ns ++ [f]).zip (vs ++ [y])
    rw [if_neg hne, putF_new vs hn.2 (by simpa using hl)]
section
variable {p : Bool} {E : XK} {XC : Str → Value} {Rt : Ret} {K : PySem.W.Frag} {Γ Γ' Γ0 Γ1 Γ2 ΓL Γf : List Sl} {te ta tb tc : TE} {tt tu : TT} {tA : TA} {ti : TI} {tg : TG} {a b c d : DCod} {m : Cod} {cs : List DCod} {ts us : TS} {C : Addr} {names : List Str}
theorem tag_app {k : Kd} {a b : List Addr} : tag k (a ++ b) = tag k a ++ tag k b := by unfold tag; rw [List.map_append]
/-- self.f = e: a new field of data -/
theorem st_fldD {i : Nat} {k : Kd} {f : Str} (hk : k ≠ .co) (u : Up Γ i (.m k (mObj C names Γf)) (.m k (mObj C (names ++ [f]) (Γf ++ [Sl.da c]))) Γ') (hc : Cls K C) (hn : NoAttr K C f) (hf : names.contains f = false) (hl : names.length < 900) {T : (R : Type) → (c.α → Env Γ → Res R) → Env Γ → Res R} (h : EvE p E XC Γ te c T) :
    StE E XC Rt Γ (sFld K (tVar i) te f) Γ' ΓL (fun R nx rt bk ct ρ => T R (fun x ρ => nx (u.set ρ (Env.snoc (s := Sl.da c) Γf (u.old ρ) x))) ρ) := fun B σ F H ρ I R G hG nx rt bk ct D g qn qr qb qc =>
  h B σ F H ρ I R G hG _ _ g fun x ρ1 y F1 H1 I1 e1 r1 g1 => by
    obtain ⟨v, fp, h1, hr, nd, hfp, hst⟩ := I1.mutU u hk
    obtain ⟨q, dx, vs, fp', rfl, hq, rfl, hvl, hs⟩ := hr
    refine ⟨_, h1, q, C, dx, _, rfl, hq, hc, hn, by rw [List.length_zip]; omega, ?_⟩
    rw [putF_new vs hf hvl]
    refine qn _ σ F1 _ (hst F1 _ (q :: fp') _ ⟨Ex.refl _, fun a o ha => ?_, fun a o ha hm => ?_, fun a o ha => ?_, fun a o ha => .inl ha, nd, fun a ha => ?_⟩ ⟨q, dx, vs ++ [y], fp', rfl, upd_same, rfl, by simp [hvl], ?_⟩) e1.1 g1
    · rw [upd_ne (ne_of_none ha (hfp q (by simp)).1)]; exact I1.fh a o ha
    · rw [upd_ne (fun e => hm (by simp [e]))]; exact ha
    · by_cases he : a = q
      · subst he; exact ⟨_, upd_same⟩
      · exact ⟨o, by rw [upd_ne he]; exact ha⟩
    · obtain ⟨z1, o, z2⟩ := hfp a ha
      refine ⟨.inl ha, z1, ?_⟩
      by_cases he : a = q
      · subst he; exact ⟨_, upd_same⟩
      · exact ⟨o, by rw [upd_ne he]; exact z2⟩
    · have w := (hs.ext (Ex.refl F1) (H' := upd H1 q (.ins C dx ((names ++ [f]).zip (vs ++ [y])))) fun k' a ha => upd_ne fun e => by
        subst e
        exact (List.nodup_cons.mp nd).1 (mem_tag.mp ha).2).snocD r1
      rw [List.map_append]
      exact w
/-- self.f = e: a new field that may change -/
theorem st_fldM {i : Nat} {k : Kd} {f : Str} (hk : k ≠ .co) (u : Up Γ i (.m k (mObj C names Γf)) (.m k (mObj C (names ++ [f]) (Γf ++ [Sl.m Kd.lo m]))) Γ') (hc : Cls K C) (hn : NoAttr K C f) (hf : names.contains f = false) (hl : names.length < 900) {T : (R : Type) → (m.α → Env Γ → Res R) → Env Γ → Res R} (h : EvN p E XC Γ te m T) :
    StE E XC Rt Γ (sFld K (tVar i) te f) Γ' ΓL (fun R nx rt bk ct ρ => T R (fun x ρ => nx (u.set ρ (Env.snoc (s := Sl.m Kd.lo m) Γf (u.old ρ) x))) ρ) := fun B σ F H ρ I R G hG nx rt bk ct D g qn qr qb qc =>
  h B σ F H ρ I R G hG _ _ g fun x ρ1 y fpn F0 H0 F1 H1 I1 e1 pp nw r1 g1 => by
    obtain ⟨v, fp, h1, hr, nd, hfp, hst⟩ := I1.mutU u hk
    obtain ⟨q, dx, vs, fp', rfl, hq, rfl, hvl, hs⟩ := hr
    have hqn : ∀ a, a ∈ fpn → a ≠ q := fun a ha e => by
      subst e
      rw [(nw.at_ a ha).1] at hq; cases hq
    refine ⟨_, h1, q, C, dx, _, rfl, pp.hh q _ hq, hc, hn, by rw [List.length_zip]; omega, ?_⟩
    rw [putF_new vs hf hvl]
    have hfq : F1 q = none := by
      cases e : F1 q with
      | none => rfl
      | some u =>
        rcases pp.new q u e with z | z
        · rw [(hfp q (by simp)).1] at z; cases z
        · rw [hq] at z; cases z
    refine qn _ σ F1 _ (hst F1 _ (q :: (fp' ++ fpn)) _ ⟨pp.ff, fun a o ha => ?_, fun a o ha hm => ?_, fun a o ha => ?_, pp.new, ?_, fun a ha => ?_⟩ ⟨q, dx, vs ++ [y], fp' ++ fpn, rfl, upd_same, rfl, by simp [hvl], ?_⟩) (e1.1.trans pp.ff) g1
    · rw [upd_ne (ne_of_none ha hfq)]; exact pp.fh a o ha
    · rw [upd_ne (fun e => hm (by simp [e]))]; exact pp.hh a o ha
    · by_cases he : a = q
      · subst he; exact ⟨_, upd_same⟩
      · exact ⟨o, by rw [upd_ne he]; exact pp.hh a o ha⟩
    · have n1 := List.nodup_cons.mp nd
      refine List.nodup_cons.mpr ⟨fun hm => ?_, List.nodup_append.mpr ⟨n1.2, nw.nd, fun a ha b hb e => ?_⟩⟩
      · rcases List.mem_append.mp hm with z | z
        · exact n1.1 z
        · exact hqn q z rfl
      · subst e
        obtain ⟨_, o, z⟩ := hfp a (List.mem_cons_of_mem _ ha)
        rw [(nw.at_ a hb).1] at z; cases z
    · rcases List.mem_cons.mp ha with he | ha
      · subst he
        exact ⟨.inl (by simp), hfq, _, upd_same⟩
      · rcases List.mem_append.mp ha with z | z
        · obtain ⟨z1, o, z2⟩ := hfp a (List.mem_cons_of_mem _ z)
          have hne : a ≠ q := fun e => (List.nodup_cons.mp nd).1 (e ▸ z)
          refine ⟨.inl (List.mem_cons_of_mem _ z), ?_, o, by rw [upd_ne hne]; exact pp.hh a o z2⟩
          cases e : F1 a with
          | none => rfl
          | some u =>
            rcases pp.new a u e with w | w
            · rw [z1] at w; cases w
            · rw [z2] at w; cases w
        · obtain ⟨z1, z2, o, z3⟩ := nw.at_ a z
          exact ⟨.inr z1, z2, o, by rw [upd_ne (hqn a z)]; exact z3⟩
    · have w0 := hs.ext pp.ff (H' := upd H1 q (.ins C dx ((names ++ [f]).zip (vs ++ [y])))) fun k' a ha => by
        have hm := (mem_tag.mp ha).2
        obtain ⟨_, o, z2⟩ := hfp a (List.mem_cons_of_mem _ hm)
        have hne : a ≠ q := fun e => (List.nodup_cons.mp nd).1 (e ▸ hm)
        rw [upd_ne hne, z2, pp.hh a o z2]
      have r2 : m.rel F1 (upd H1 q (.ins C dx ((names ++ [f]).zip (vs ++ [y])))) fpn y x := m.ext r1 (Ex.refl _) fun a ha => upd_ne (hqn a ha)
      have w := w0.snocM r2
      rw [List.map_append, tag_app]
      exact w
end
end Pu
set_option Elab.async false
set_option linter.all false
set_option maxRecDepth 100000
set_option maxHeartbeats 4000000
namespace Pu
open PySem L2 Evl
/-- __init__: from a bare instance to its fields -/
def spI (XC : Str → Value) (C : Addr) (names : List Str) (Γf : List Sl) (cs : List DCod) (f : DEnv cs → Res (Env Γf)) : Sp := fun vs H Q E => ∃ F p dx vs' x, vs = .ref p :: vs' ∧ Ex F H ∧ F p = none ∧ H p = some (.ins C dx []) ∧ DRel cs F vs' x ∧ f x ≠ .bad ∧
  (∀ y, f x = .ok y → ∀ F' H' fp', Step F H [p] F' H' fp' → (mObj C names Γf).rel F' H' fp' (.ref p) y → Q .non H') ∧ ∀ n, f x = .exc n → ∀ H', (∀ a o, H a = some o → a ≠ p → H' a = some o) → E (XC n) none H'
section
variable {p : Bool} {E : XK} {XC : Str → Value} {Rt : Ret} {K : PySem.W.Frag} {Γ Γ' Γ0 Γ1 Γ2 ΓL Γf : List Sl} {te ta tb tc : TE} {tt tu : TT} {tA : TA} {ti : TI} {tg : TG} {a b c d : DCod} {m : Cod} {cs : List DCod} {ts us : TS} {C : Addr} {names : List Str}
/-- C(..) -/
theorem en_make {f : DEnv cs → Res (Env Γf)} {TA : (R : Type) → (DEnv cs → Env Γ → Res R) → Env Γ → Res R} (h : EvA p E XC Γ tA cs TA) : EvN p E XC Γ (tMake C (spI XC C names Γf cs f) [] E tA) (mObj C names Γf) (fun R k ρ => TA R (fun x ρ => (f x).bind fun y => k y ρ) ρ) := fun B σ F H ρ I R G hG k Q g q =>
  h B σ F H ρ I R G hG _ _ g fun x ρ1 vs F1 H1 I1 e1 r1 g1 x0 dx h0 hd hne => by
    have f0 : F1 x0 = none := none_of I1.fh h0
    have fd : F1 dx = none := none_of I1.fh hd
    refine ⟨F1, x0, dx, vs ++ [], x, rfl, fun a o ha => ?_, f0, upd_same, r1.app, fun e => ?_, fun y e F' H' fp' st r => ⟨rfl, ?_⟩, fun n e H' k' => ?_⟩
    · rw [upd_ne (ne_of_none ha f0), upd_ne (ne_of_none ha fd)]; exact I1.fh a o ha
    · rw [e] at g1; exact hG.1 g1
    · rw [e] at g1
      have back : ∀ a o, H1 a = some o → (upd (upd H1 dx (.own x0)) x0 (.ins C dx [])) a = some o ∧ a ∉ [x0] := fun a o ha => by
        refine ⟨by rw [upd_ne (ne_of_none ha h0), upd_ne (ne_of_none ha hd)]; exact ha, fun hm => ?_⟩
        have hm : a = x0 := by simpa using hm
        subst hm
        rw [h0] at ha; cases ha
      have back2 : ∀ a, (upd (upd H1 dx (.own x0)) x0 (.ins C dx [])) a = none → H1 a = none := fun a z => by
        cases e2 : H1 a with
        | none => rfl
        | some u => rw [(back a u e2).1] at z; cases z
      refine q y ρ1 (.ref x0) fp' F1 H1 F' H' I1 e1 ⟨fun a o ha => st.keep a o (back a o ha).1 (back a o ha).2, st.ff, st.fh, fun a o ha => ?_⟩ ⟨st.nd, fun a ha => ?_⟩ r g1
      · rcases st.new a o ha with z | z
        · exact .inl z
        · exact .inr (back2 a z)
      · obtain ⟨z1, z2, z3⟩ := st.own a ha
        refine ⟨?_, z2, z3⟩
        rcases z1 with z | z
        · have z : a = x0 := by simpa using z
          rw [z]; exact h0
        · exact back2 a z
    · rw [e] at g1
      refine hG.2 n H' g1 (I1.frm.ex fun a o ha => k' a o ?_ (ne_of_none ha h0))
      rw [upd_ne (ne_of_none ha h0), upd_ne (ne_of_none ha hd)]; exact ha
/-- an instance all of whose fields are data -/
def envD : (cs : List DCod) → Env (cs.map Sl.da) → DEnv cs
  | [], _ => ()
  | _ :: cs, x => (x.1, envD cs x.2)
theorem envD_rel {F H : Hp} : ∀ (cs : List DCod) {τ : St} {vs : List V} {L : Fps} {x : Env (cs.map Sl.da)}, SRel (cs.map Sl.da) τ (vs.map some) F H L x → DRel cs F vs (envD cs x) ∧ L = []
  | [], τ, vs, L, x, ⟨h1, h2⟩ => ⟨show vs = [] by simpa using h1, h2⟩
  | c :: cs, τ, vs, L, x, ⟨v, σ', e, r, h⟩ => by
    cases vs with
    | nil => simp at e
    | cons w ws =>
      simp only [List.map_cons, List.cons.injEq, Option.some.injEq] at e
      obtain ⟨e1, e2⟩ := e
      subst e1 e2
      obtain ⟨h1, h2⟩ := envD_rel cs h
      exact ⟨⟨w, ws, rfl, r, h1⟩, h2⟩
theorem freezeO {fs : List DCod} {T : (R : Type) → (Env (fs.map Sl.da) → Env Γ → Res R) → Env Γ → Res R} (h : EvN p E XC Γ te (mObj C names (fs.map Sl.da)) T) : EvE p E XC Γ te (dIns C names fs) (fun R k ρ => T R (fun x ρ => k (envD fs x) ρ) ρ) := fun B σ F H ρ I R G hG k Q g q =>
  h B σ F H ρ I R G hG _ Q g fun x ρ' v fp F0 H0 F' H' I0 e pp n r g' => by
    obtain ⟨l, dx, vs, fp', rfl, hl, rfl, hv, hs⟩ := r
    obtain ⟨hr, hfp⟩ := envD_rel fs hs
    obtain ⟨n1, n2, _⟩ := n.at_ l (by simp)
    have p2 : Pext F0 (upd F' l (.ins C dx (names.zip vs))) H0 H' := ⟨pp.hh, pp.ff.trans (Ex.new n2), fun a u ea => by
      by_cases hb : a = l
      · subst hb; rw [upd_same] at ea; cases ea; exact hl
      · rw [upd_ne hb] at ea; exact pp.fh a u ea, fun a u ea => by
      by_cases hb : a = l
      · subst hb; exact .inr n1
      · rw [upd_ne hb] at ea; exact pp.new a u ea⟩
    exact q _ ρ' (.ref l) _ H' (I0.pext p2) (e.pext p2) ⟨l, dx, vs, rfl, upd_same, hr.ext (Ex.new n2)⟩ g'
/-! ### raise, while, slots forgotten ahead -/
theorem st_raise {n : Str} : StE E XC Rt Γ (fun D σ H => E (XC n) none H) Γ' ΓL (fun R nx rt bk ct ρ => .exc n) := fun B σ F H ρ I R G hG nx rt bk ct D g qn qr qb qc => hG.2 n H g I.frm
theorem st_pre {T : (R : Type) → (Env Γ' → Res R) → (Rt.r.α → Rt.P → Res R) → (Env ΓL → Res R) → (Env ΓL → Res R) → Env Γ1 → Res R} (b : Bk Γ Γ1) (h : StE E XC Rt Γ1 ts Γ' ΓL T) : StE E XC Rt Γ ts Γ' ΓL (fun R nx rt bk ct ρ => T R nx rt bk ct (b.f ρ)) := fun B σ F H ρ I R G hG nx rt bk ct D g qn qr qb qc =>
  h B σ F H _ (b.inv I) R G hG nx rt bk ct D g qn qr qb qc
theorem st_post {T : (R : Type) → (Env Γ1 → Res R) → (Rt.r.α → Rt.P → Res R) → (Env ΓL → Res R) → (Env ΓL → Res R) → Env Γ → Res R} (b : Bk Γ1 Γ') (h : StE E XC Rt Γ ts Γ1 ΓL T) : StE E XC Rt Γ ts Γ' ΓL (fun R nx rt bk ct ρ => T R (fun ρ => nx (b.f ρ)) rt bk ct ρ) := fun B σ F H ρ I R G hG nx rt bk ct D g qn qr qb qc =>
  h B σ F H ρ I R G hG _ rt bk ct D g (fun ρ' σ' F' H' I' e' g' => qn _ σ' F' H' (b.inv I') e' g') qr qb qc
/-- so many turns at most -/
def whl {S R : Type} (step : (S → Res R) → S → Res R) : Nat → S → Res R
  | 0, _ => .bad
  | n + 1, ρ => step (whl step n) ρ
theorem st_while (fuel : Nat) {T0 : (R : Type) → (Bool → Env Γ → Res R) → Env Γ → Res R} {T : (R : Type) → (Env Γ → Res R) → (Rt.r.α → Rt.P → Res R) → (Env Γ → Res R) → (Env Γ → Res R) → Env Γ → Res R} (h : EvT p E XC Γ tt T0) (hb : StE E XC Rt Γ ts Γ Γ T) :
    StE E XC Rt Γ (tWhile tt ts) Γ ΓL (fun R nx rt bk ct ρ => whl (fun k ρ => T0 R (fun b ρ => if b = true then T R k rt nx k ρ else nx ρ) ρ) fuel ρ) := fun B σ F H ρ I R G hG nx rt bk ct D g qn qr qb qc => by
  refine ⟨fun n σ' H' => ∃ F' ρ', SInv B Γ σ' F' H' ρ' ∧ Ex F F' ∧ G (whl (fun k ρ => T0 R (fun b ρ => if b = true then T R k rt nx k ρ else nx ρ) ρ) n ρ'), ⟨fuel, F, ρ, I, Ex.refl F, g⟩, ?_⟩
  rintro n σ' H' ⟨F', ρ', I', e', g'⟩
  cases n with
  | zero => exact absurd g' hG.1
  | succ n =>
    have g' : G (T0 R (fun b ρ => if b = true then T R (whl (fun k ρ => T0 R (fun b ρ => if b = true then T R k rt nx k ρ else nx ρ) ρ) n) rt nx (whl (fun k ρ => T0 R (fun b ρ => if b = true then T R k rt nx k ρ else nx ρ) ρ) n) ρ else nx ρ) ρ') := g'
    refine h B σ' F' H' ρ' I' R G hG _ _ g' fun b ρ2 F2 H2 I2 e2 g2 => ?_
    cases b with
    | false =>
      rw [if_neg (by decide)] at g2 ⊢
      exact qn ρ2 σ' F2 H2 I2 (e'.trans e2.1) g2
    | true =>
      rw [if_pos rfl] at g2 ⊢
      refine ⟨fun σ2 H2' => ∃ F3 ρ3, SInv B Γ σ2 F3 H2' ρ3 ∧ Ex F F3 ∧ G (whl (fun k ρ => T0 R (fun b ρ => if b = true then T R k rt nx k ρ else nx ρ) ρ) n ρ3), fun σ2 H2' w => ⟨n, Nat.lt_succ_self n, w⟩, ?_⟩
      exact hb B σ' F2 H2 ρ2 I2 R G hG _ rt nx _ _ g2 (fun ρ3 σ3 F3 H3 I3 e3 g3 => ⟨F3, ρ3, I3, (e'.trans e2.1).trans e3, g3⟩) qr (fun ρ3 σ3 F3 H3 I3 e3 g3 => qn ρ3 σ3 F3 H3 I3 ((e'.trans e2.1).trans e3) g3) fun ρ3 σ3 F3 H3 I3 e3 g3 => ⟨F3, ρ3, I3, (e'.trans e2.1).trans e3, g3⟩
/-! ### defs -/
def slots0 : List DCod → Nat → List Sl
  | [], n => List.replicate n .no
  | c :: cs, n => .da c :: slots0 cs n
def noEnv : (n : Nat) → Env (List.replicate n Sl.no)
  | 0 => ()
  | n + 1 => ((), noEnv n)
def env0 : (cs : List DCod) → (n : Nat) → DEnv cs → Env (slots0 cs n)
  | [], n, _ => noEnv n
  | _ :: cs, n, x => (x.1, env0 cs n x.2)
theorem noRel {F H : Hp} : ∀ (n : Nat) (τ : St), SRel (List.replicate n Sl.no) τ (List.replicate n none) F H [] (noEnv n)
  | 0, _ => ⟨rfl, rfl⟩
  | n + 1, τ => ⟨none, List.replicate n none, rfl, noRel n τ.tail⟩
theorem rel0 {F H : Hp} : ∀ (cs : List DCod) (n : Nat) (τ : St) {vs : List V} {x : DEnv cs}, DRel cs F vs x → SRel (slots0 cs n) τ (vs.map some ++ List.replicate n none) F H [] (env0 cs n x)
  | [], n, τ, vs, x, h => by rw [show vs = [] from h]; exact noRel n τ
  | c :: cs, n, τ, vs, x, ⟨v, vs', e, r, h⟩ => by
    rw [e]
    exact ⟨v, _, rfl, r, rel0 cs n τ.tail h⟩
theorem wd0 {F H : Hp} {τ : St} {M O : List Addr} {L : Fps} (h : Ex F H) (nd : (L.map (·.2)).Nodup) (fr : ∀ k a, (k, a) ∈ L → F a = none ∧ ∃ o, H a = some o) (h1 : ∀ a, (Kd.pa, a) ∈ L → a ∈ M) (h2 : ∀ a, (Kd.lo, a) ∉ L) (h3 : ∀ a, (Kd.co, a) ∈ L → a ∈ O) : Wd ⟨F, H, M, [], O, τ⟩ F H L :=
  ⟨nd, fr, h, Ex.refl F, fun a o h _ _ => h, fun a o h => ⟨o, h⟩, fun a o h => .inl h, fun a ha => .inl (h1 a ha), fun a ha => absurd ha (h2 a), fun a ha => .inl (h3 a ha)⟩
theorem start_eq {N : List Str} {vs : List V} {n : Nat} (h : N.length = vs.length + n) : L2.start N vs = vs.map some ++ List.replicate n none := by
  unfold L2.start
  rw [h, Nat.add_sub_cancel_left]
/-- what falls off the end gives None -/
def endD (c : DCod) : Prop := c = dNon
theorem run_D {N : List Str} {n : Nat} (hN : N.length = cs.length + n) {f : DEnv cs → Res c.α} {Γe : List Sl} {T : (R : Type) → (Env Γe → Res R) → (c.α → Unit → Res R) → (Env [] → Res R) → (Env [] → Res R) → Env (slots0 cs n) → Res R} (h : StE E XC (retD c) (slots0 cs n) ts Γe [] T)
    (hf : ∀ x, T c.α (fun _ => .bad) (fun z _ => .ok z) (fun _ => .bad) (fun _ => .bad) (env0 cs n x) = f x) (vs : List V) (H : Hp) (Q : VK) (hsp : spD XC cs c f vs H Q E) : ts { nx := fun _ H' => Q .non H', rt := Q } (L2.start N vs) H := by
  obtain ⟨F, x, e, r, hb, hq, hx⟩ := hsp
  have hl := r.len
  rw [start_eq (n := n) (by rw [hl]; exact hN)]
  refine h ⟨F, H, [], [], [], vs.map some ++ List.replicate n none⟩ _ F H (env0 cs n x) ⟨[], rel0 cs n _ r, wd0 e (by simp) (by simp) (by simp) (by simp) (by simp)⟩ c.α (fun z => z = f x) ⟨fun z => hb z.symm, fun nm H' z fr => hx nm z.symm H' fun a o ha => fr a o ha (by simp) (by simp)⟩ _ _ _ _ _ (hf x) ?_ ?_ ?_ ?_
  · intro ρ' σ' F' H' _ _ z; exact absurd z.symm hb
  · intro z y v F' H' ho rv z2
    exact hq z z2.symm v F' H' (ho rfl rfl) rv
  · intro ρ' σ' F' H' _ _ z; exact absurd z.symm hb
  · intro ρ' σ' F' H' _ _ z; exact absurd z.symm hb
/-- … that hands back None at its end -/
theorem run_DN {N : List Str} {n : Nat} (hN : N.length = cs.length + n) {f : DEnv cs → Res Unit} {Γe : List Sl} {T : (R : Type) → (Env Γe → Res R) → (Unit → Unit → Res R) → (Env [] → Res R) → (Env [] → Res R) → Env (slots0 cs n) → Res R} (h : StE E XC (retD dNon) (slots0 cs n) ts Γe [] T)
    (hf : ∀ x, T Unit (fun _ => .ok ()) (fun z _ => .ok z) (fun _ => .bad) (fun _ => .bad) (env0 cs n x) = f x) (vs : List V) (H : Hp) (Q : VK) (hsp : spD XC cs dNon f vs H Q E) : ts { nx := fun _ H' => Q .non H', rt := Q } (L2.start N vs) H := by
  obtain ⟨F, x, e, r, hb, hq, hx⟩ := hsp
  have hl := r.len
  rw [start_eq (n := n) (by rw [hl]; exact hN)]
  refine h ⟨F, H, [], [], [], vs.map some ++ List.replicate n none⟩ _ F H (env0 cs n x) ⟨[], rel0 cs n _ r, wd0 e (by simp) (by simp) (by simp) (by simp) (by simp)⟩ Unit (fun z => z = f x) ⟨fun z => hb z.symm, fun nm H' z fr => hx nm z.symm H' fun a o ha => fr a o ha (by simp) (by simp)⟩ _ _ _ _ _ (hf x) ?_ ?_ ?_ ?_
  · intro ρ' σ' F' H' I' _ z
    exact hq () z.symm .non F' H' (I'.pextB rfl rfl) rfl
  · intro z y v F' H' ho rv z2
    exact hq z z2.symm v F' H' (ho rfl rfl) rv
  · intro ρ' σ' F' H' _ _ z; exact absurd z.symm hb
  · intro ρ' σ' F' H' _ _ z; exact absurd z.symm hb
/-- a def that changes its first argument -/
theorem run_M {N : List Str} {n : Nat} (hN : N.length = cs.length + 1 + n) {f : m.α → DEnv cs → Res (c.α × m.α)} {Γe : List Sl} {T : (R : Type) → (Env Γe → Res R) → (c.α → m.α → Res R) → (Env [] → Res R) → (Env [] → Res R) → Env (.m .pa m :: slots0 cs n) → Res R} (h : StE E XC (retM c m 0) (.m .pa m :: slots0 cs n) ts Γe [] T)
    (hf : ∀ y x, T (c.α × m.α) (fun _ => .bad) (fun z y => .ok (z, y)) (fun _ => .bad) (fun _ => .bad) (y, env0 cs n x) = f y x) (vs : List V) (H : Hp) (Q : VK) (hsp : spM XC m cs c f vs H Q E) : ts { nx := fun _ H' => Q .non H', rt := Q } (L2.start N vs) H := by
  obtain ⟨F, fp, v, vs', y, x, rfl, e, mr, nd, hfp, r, hb, hq, hx⟩ := hsp
  have hl := r.len
  rw [start_eq (n := n) (by rw [List.length_cons, hl]; exact hN)]
  refine h ⟨F, H, fp, [], [], (v :: vs').map some ++ List.replicate n none⟩ _ F H (y, env0 cs n x) ⟨tag .pa fp ++ [], ⟨v, _, fp, [], rfl, .inr rfl, rfl, mr, rel0 cs n _ r⟩, wd0 e (by rw [List.append_nil, tag_map]; exact nd) (fun k a ha => hfp a (mem_tag.mp (by simpa using ha)).2) (fun a ha => (mem_tag.mp (by simpa using ha)).2) (fun a ha => nomatch (mem_tag.mp (show (Kd.lo, a) ∈ tag .pa fp by simpa using ha)).1) (fun a ha => nomatch (mem_tag.mp (show (Kd.co, a) ∈ tag .pa fp by simpa using ha)).1)⟩
    (c.α × m.α) (fun z => z = f y x) ⟨fun z => hb z.symm, fun nm H' z fr => hx nm z.symm H' fun a o ha hm => fr a o ha hm (by simp)⟩ _ _ _ _ _ (hf y x) ?_ ?_ ?_ ?_
  · intro ρ' σ' F' H' _ _ z; exact absurd z.symm hb
  · intro z y' u F' H' ho rv z2
    obtain ⟨v2, fp', ho⟩ := ho
    obtain ⟨h1, h2, h3⟩ := ho rfl
    have ev : v2 = v := by
      have h1 : some (some v) = some (some v2) := h1
      cases h1; rfl
    subst ev
    exact hq z y' z2.symm u F' H' fp' h3 h2 rv
  · intro ρ' σ' F' H' _ _ z; exact absurd z.symm hb
  · intro ρ' σ' F' H' _ _ z; exact absurd z.symm hb
theorem run_MN {N : List Str} {n : Nat} (hN : N.length = cs.length + 1 + n) {f : m.α → DEnv cs → Res (Unit × m.α)} {Γe : List Sl} (at_ : At Γe 0 (.m .pa m)) {T : (R : Type) → (Env Γe → Res R) → (Unit → m.α → Res R) → (Env [] → Res R) → (Env [] → Res R) → Env (.m .pa m :: slots0 cs n) → Res R} (h : StE E XC (retM dNon m 0) (.m .pa m :: slots0 cs n) ts Γe [] T)
    (hf : ∀ y x, T (Unit × m.α) (fun ρ => .ok ((), at_.get ρ)) (fun z y => .ok (z, y)) (fun _ => .bad) (fun _ => .bad) (y, env0 cs n x) = f y x) (vs : List V) (H : Hp) (Q : VK) (hsp : spM XC m cs dNon f vs H Q E) : ts { nx := fun _ H' => Q .non H', rt := Q } (L2.start N vs) H := by
  obtain ⟨F, fp, v, vs', y, x, rfl, e, mr, nd, hfp, r, hb, hq, hx⟩ := hsp
  have hl := r.len
  rw [start_eq (n := n) (by rw [List.length_cons, hl]; exact hN)]
  have fin : ∀ z y' u F' H', (retM dNon m 0).ok ⟨F, H, fp, [], [], (v :: vs').map some ++ List.replicate n none⟩ F' H' u y' → dNon.rel F' u z → Res.ok (z, y') = f y x → Q u H' := fun z y' u F' H' ho rv z2 => by
    obtain ⟨v2, fp', ho⟩ := ho
    obtain ⟨h1, h2, h3⟩ := ho rfl
    have ev : v2 = v := by
      have h1 : some (some v) = some (some v2) := h1
      cases h1; rfl
    subst ev
    exact hq z y' z2.symm u F' H' fp' h3 h2 rv
  refine h ⟨F, H, fp, [], [], (v :: vs').map some ++ List.replicate n none⟩ _ F H (y, env0 cs n x) ⟨tag .pa fp ++ [], ⟨v, _, fp, [], rfl, .inr rfl, rfl, mr, rel0 cs n _ r⟩, wd0 e (by rw [List.append_nil, tag_map]; exact nd) (fun k a ha => hfp a (mem_tag.mp (by simpa using ha)).2) (fun a ha => (mem_tag.mp (by simpa using ha)).2) (fun a ha => nomatch (mem_tag.mp (show (Kd.lo, a) ∈ tag .pa fp by simpa using ha)).1) (fun a ha => nomatch (mem_tag.mp (show (Kd.co, a) ∈ tag .pa fp by simpa using ha)).1)⟩
    (Unit × m.α) (fun z => z = f y x) ⟨fun z => hb z.symm, fun nm H' z fr => hx nm z.symm H' fun a o ha hm => fr a o ha hm (by simp)⟩ _ _ _ _ _ (hf y x) ?_ ?_ ?_ ?_
  · intro ρ' σ' F' H' I' _ z; exact fin () _ .non F' H' (I'.stepB at_) rfl z
  · intro z y' u F' H' ho rv z2; exact fin z y' u F' H' ho rv z2
  · intro ρ' σ' F' H' _ _ z; exact absurd z.symm hb
  · intro ρ' σ' F' H' _ _ z; exact absurd z.symm hb
theorem run_C {N : List Str} {n : Nat} (hN : N.length = cs.length + 1 + n) {f : m.α → DEnv cs → Res c.α} {Γe : List Sl} {T : (R : Type) → (Env Γe → Res R) → (c.α → Unit → Res R) → (Env [] → Res R) → (Env [] → Res R) → Env (.m .co m :: slots0 cs n) → Res R} (h : StE E XC (retD c) (.m .co m :: slots0 cs n) ts Γe [] T)
    (hf : ∀ y x, T c.α (fun _ => .bad) (fun z _ => .ok z) (fun _ => .bad) (fun _ => .bad) (y, env0 cs n x) = f y x) (vs : List V) (H : Hp) (Q : VK) (hsp : spC XC m cs c f vs H Q E) : ts { nx := fun _ H' => Q .non H', rt := Q } (L2.start N vs) H := by
  obtain ⟨F, fp, v, vs', y, x, rfl, e, mr, nd, hfp, r, hb, hq, hx⟩ := hsp
  have hl := r.len
  rw [start_eq (n := n) (by rw [List.length_cons, hl]; exact hN)]
  refine h ⟨F, H, [], [], fp, (v :: vs').map some ++ List.replicate n none⟩ _ F H (y, env0 cs n x) ⟨tag .co fp ++ [], ⟨v, _, fp, [], rfl, .inr rfl, rfl, mr, rel0 cs n _ r⟩, wd0 e (by rw [List.append_nil, tag_map]; exact nd) (fun k a ha => hfp a (mem_tag.mp (by simpa using ha)).2) (fun a ha => nomatch (mem_tag.mp (show (Kd.pa, a) ∈ tag .co fp by simpa using ha)).1) (fun a ha => nomatch (mem_tag.mp (show (Kd.lo, a) ∈ tag .co fp by simpa using ha)).1) (fun a ha => (mem_tag.mp (by simpa using ha)).2)⟩
    c.α (fun z => z = f y x) ⟨fun z => hb z.symm, fun nm H' z fr => hx nm z.symm H' fun a o ha => fr a o ha (by simp) (by simp)⟩ _ _ _ _ _ (hf y x) ?_ ?_ ?_ ?_
  · intro ρ' σ' F' H' _ _ z; exact absurd z.symm hb
  · intro z y' u F' H' ho rv z2
    exact hq z z2.symm u F' H' (ho rfl rfl) rv
  · intro ρ' σ' F' H' _ _ z; exact absurd z.symm hb
  · intro ρ' σ' F' H' _ _ z; exact absurd z.symm hb
/-- __init__: the slot of self ends with its fields -/
theorem run_I {N : List Str} {n : Nat} (hN : N.length = cs.length + 1 + n) {f : DEnv cs → Res (Env Γf)} {Γe : List Sl} (at_ : At Γe 0 (.m .pa (mObj C names Γf))) {T : (R : Type) → (Env Γe → Res R) → (Unit → Unit → Res R) → (Env [] → Res R) → (Env [] → Res R) → Env (.m .pa (mObj C [] []) :: slots0 cs n) → Res R}
    (h : StE E XC ⟨dNon, Unit, fun _ _ _ _ _ => False⟩ (.m .pa (mObj C [] []) :: slots0 cs n) ts Γe [] T) (hf : ∀ x, T (Env Γf) (fun ρ => .ok (at_.get ρ)) (fun _ _ => .bad) (fun _ => .bad) (fun _ => .bad) ((), env0 cs n x) = f x) (vs : List V) (H : Hp) (Q : VK) (hsp : spI XC C names Γf cs f vs H Q E) : ts { nx := fun _ H' => Q .non H', rt := Q } (L2.start N vs) H := by
  obtain ⟨F, q, dx, vs', x, rfl, e, hF, hH, r, hb, hq, hx⟩ := hsp
  have hl := r.len
  rw [start_eq (n := n) (by rw [List.length_cons, hl]; exact hN)]
  refine h ⟨F, H, [q], [], [], (V.ref q :: vs').map some ++ List.replicate n none⟩ _ F H ((), env0 cs n x) ⟨tag .pa [q] ++ [], ⟨.ref q, _, [q], [], rfl, .inr rfl, rfl, ⟨q, dx, [], [], rfl, hH, rfl, rfl, rfl, rfl⟩, rel0 cs n _ r⟩, wd0 e (by simp [tag]) (fun k a ha => ?_) (fun a ha => (mem_tag.mp (by simpa using ha)).2) (fun a ha => nomatch (mem_tag.mp (show (Kd.lo, a) ∈ tag .pa [q] by simpa using ha)).1) (fun a ha => nomatch (mem_tag.mp (show (Kd.co, a) ∈ tag .pa [q] by simpa using ha)).1)⟩
    (Env Γf) (fun z => z = f x) ⟨fun z => hb z.symm, fun nm H' z fr => hx nm z.symm H' fun a o ha hm => fr a o ha (by simpa using hm) (by simp)⟩ _ _ _ _ _ (hf x) ?_ ?_ ?_ ?_
  · have ha : a = q := by simpa using (mem_tag.mp (show (k, a) ∈ tag .pa [q] by simpa using ha)).2
    subst ha
    exact ⟨hF, _, hH⟩
  · intro ρ' σ' F' H' I' _ z
    obtain ⟨v2, fp', ho⟩ := I'.stepB at_
    obtain ⟨h1, h2, h3⟩ := ho rfl
    have ev : v2 = .ref q := by
      have h1 : some (some (V.ref q)) = some (some v2) := h1
      cases h1; rfl
    subst ev
    exact hq _ z.symm F' H' fp' h3 h2
  · intro z y' u F' H' ho rv z2; exact ho.elim
  · intro ρ' σ' F' H' _ _ z; exact absurd z.symm hb
  · intro ρ' σ' F' H' _ _ z; exact absurd z.symm hb
end
end Pu
set_option Elab.async false
set_option linter.all false
set_option maxRecDepth 100000
set_option maxHeartbeats 4000000
namespace Pu
open PySem PySem.Spec PyProof.Rows L2 Evl
/-- a def of the text keeps a promise, is called by its parameters -/
def OkF (P : Program) (w : World) (K : PySem.W.Frag) (mg : Str → Option Value) (base : Heap) (k : Nat) (f : Addr) (ps : List Str) (sp : Sp) : Prop :=
  ∃ fd : FuncData, FnOk P w K mg base (L2.CX P w) k f fd ps sp ∧ Binds K fd ps [] ∧ PySem.W.keepIn K (.ref f) = true
section
variable {X : Cx} {j k : Nat} {f C : Addr} {ps : List Str} {sp : Sp} {E : XK} {x m : Str} {p pos apos : Pos} {e o : Expr} {es : List Expr} {t : TA} {ta : TE}
theorem pcall (F : OkF X.prog X.w X.K X.mg X.base k f ps sp) (hr : Room j X.A) (hk : k ≤ j) (hm : X.mg x = some (.ref f)) (hx : Passes (L2.CX X.prog X.w) X E) (ha : PA X (e :: es) t) (hg : Gl X x := by rfl)
    (hdb : (x == ("__debug__" : Str)) = false := by decide) (he : starEach (e :: es) X.env = (false, eval e X.env) :: starEach es X.env := by rfl) (hpl : (backTo pos (starEach es X.env)).any (·.1) = false := by rfl) :
    PE X (.Call (.Name x p) (e :: es) [] pos) (tCall sp [] E t) := by
  obtain ⟨fd, F1, b, kp⟩ := F
  exact pe_call F1 (hr.mono hk) hg hm kp b .nil hx ha hdb he hpl
theorem pcall0 (F : OkF X.prog X.w X.K X.mg X.base k f ps sp) (hr : Room j X.A) (hk : k ≤ j) (hm : X.mg x = some (.ref f)) (hx : Passes (L2.CX X.prog X.w) X E) (hg : Gl X x := by rfl)
    (hdb : (x == ("__debug__" : Str)) = false := by decide) : PE X (.Call (.Name x p) [] [] pos) (tCall sp [] E tNil) := by
  obtain ⟨fd, F1, b, kp⟩ := F
  exact pe_call0 F1 (hr.mono hk) hg hm kp b .nil hx hdb
theorem pmeth (F : OkF X.prog X.w X.K X.mg X.base k f ps sp) (hr : Room j X.A) (hk : k ≤ j) (c : Cls X.K C) (hm : Meth X.K C m f) (hx : Passes (L2.CX X.prog X.w) X E) (ho : PE X o ta) (ha : PA X (e :: es) t) {pl : Sem Bool}
    (hst : starEach (e :: es) X.env = (false, eval e X.env) :: starEach es X.env := by rfl) (hpl : (backTo pos (starEach es X.env)).any (·.1) = false := by rfl)
    (ht : eval (.Call (.Attribute o m apos) (e :: es) [] pos) X.env = (do
      let ov ← eval o X.env
      standAt apos.atName
      let (f, first) ← holding [ov] (getMethod ov m pl)
      callWith pos f first (backTo pos (starEach (e :: es) X.env)) (backToKw pos (keywordEach [] X.env))) := by rfl) :
    PE X (.Call (.Attribute o m apos) (e :: es) [] pos) (tMeth C m sp [] E ta t) := by
  obtain ⟨fd, F1, b, kp⟩ := F
  exact pe_meth ho c hm F1 (hr.mono hk) b .nil hx ha hst hpl ht
theorem pmeth0 (F : OkF X.prog X.w X.K X.mg X.base k f ps sp) (hr : Room j X.A) (hk : k ≤ j) (c : Cls X.K C) (hm : Meth X.K C m f) (hx : Passes (L2.CX X.prog X.w) X E) (ho : PE X o ta) {pl : Sem Bool}
    (ht : eval (.Call (.Attribute o m apos) [] [] pos) X.env = (do
      let ov ← eval o X.env
      standAt apos.atName
      let (f, first) ← holding [ov] (getMethod ov m pl)
      callWith pos f first (backTo pos (starEach [] X.env)) (backToKw pos (keywordEach [] X.env))) := by rfl) :
    PE X (.Call (.Attribute o m apos) [] [] pos) (tMeth C m sp [] E ta tNil) := by
  obtain ⟨fd, F1, b, kp⟩ := F
  exact pe_meth0 ho c hm F1 (hr.mono hk) b .nil hx ht
theorem pmake (F : OkF X.prog X.w X.K X.mg X.base k f ps sp) (hr : Room j X.A) (hk : k + 1 ≤ j) (M : Mk X.K C f) (hm : X.mg x = some (.ref C)) (hx : Passes (L2.CX X.prog X.w) X E) (ha : PA X (e :: es) t) (hg : Gl X x := by rfl)
    (hdb : (x == ("__debug__" : Str)) = false := by decide) (he : starEach (e :: es) X.env = (false, eval e X.env) :: starEach es X.env := by rfl) (hpl : (backTo pos (starEach es X.env)).any (·.1) = false := by rfl) :
    PE X (.Call (.Name x p) (e :: es) [] pos) (tMake C sp [] E t) := by
  obtain ⟨fd, F1, b, kp⟩ := F
  exact pe_make M F1 (hr.mono hk) hg hm b .nil hx ha hdb he hpl
end
/-- what a body lets out goes on to its caller -/
theorem pxB {P : Program} {w : World} {K : PySem.W.Frag} {mg : Str → Option Value} {base : Heap} {N : List Str} {qual : Str} {scope : Scope} {f : Addr} {cd : Value} {A : Around} {outer : List PySem.Env} {s : Shared} {H : Hp} {E : XK} :
    Passes (L2.CX P w) (cxOf (L2.CX P w) P w K mg base N qual scope f cd A outer s H E) E := passes_call (takes_of rfl rfl rfl rfl) fun _ _ _ _ h => h
theorem poB {P : Program} {w : World} {K : PySem.W.Frag} {mg : Str → Option Value} {base : Heap} {N : List Str} {qual : Str} {scope : Scope} {f : Addr} {cd : Value} {A : Around} {outer : List PySem.Env} {s : Shared} {H : Hp} {E : XK} :
    PassesOwn (model P w) (A.deeper (envOfC qual scope s.heap.objs.size f cd)) (envOfC qual scope s.heap.objs.size f cd) (cxOf (L2.CX P w) P w K mg base N qual scope f cd A outer s H E).xe := passes_of rfl
/-- the text's facts -/
structure Tx (fa : List He.Fa) (fn : List He.DefD) (K : PySem.W.Frag) (mg : Str → Option Value) : Prop where
  c : He.SaysD fa fn K
  h : ∃ h : Heap, K.In h ∧ h.Ns mainGlobals mg
section
variable {fa : List He.Fa} {fn : List He.DefD} {K : PySem.W.Frag} {mg : Str → Option Value}
theorem Tx.glo (T : Tx fa fn K mg) (i : Nat) {x : Str} (h : fa[i]? = some (.glo x) := by rfl) : mg x = some (.ref (He.ga K x)) := let ⟨_, X, G⟩ := T.h; He.glo_ok X G (T.c.fact i h)
theorem Tx.free (T : Tx fa fn K mg) (i : Nat) {x : Str} (h : fa[i]? = some (.free x) := by rfl) : mg x = none := let ⟨_, X, G⟩ := T.h; He.free_ok X G (T.c.fact i h)
theorem Tx.cls (T : Tx fa fn K mg) (i : Nat) {x : Str} (h : fa[i]? = some (.cls x) := by rfl) : Cls K (He.ga K x) := He.cls_ok (T.c.fact i h)
theorem Tx.noat (T : Tx fa fn K mg) (i : Nat) {x f : Str} (h : fa[i]? = some (.noat x f) := by rfl) : NoAttr K (He.ga K x) f := He.noat_ok (T.c.fact i h)
theorem Tx.meth (T : Tx fa fn K mg) (i : Nat) {x m : Str} (h : fa[i]? = some (.meth x m) := by rfl) : Meth K (He.ga K x) m (He.ma K (He.ga K x) m) := He.meth_ok (T.c.fact i h)
theorem Tx.mkr (T : Tx fa fn K mg) (i : Nat) {x : Str} (h : fa[i]? = some (.mkr x) := by rfl) : Mk K (He.ga K x) (He.ma K (He.ga K x) "__init__") := He.mkr_ok (T.c.fact i h)
end
/-- the names of exceptions stand for their classes -/
def xcK (K : PySem.W.Frag) : Str → Value := fun n => .ref (He.ga K n)
section
variable {P : Program} {w : World} {K : PySem.W.Frag} {mg : Str → Option Value} {base : Heap} {x qual : Str} {params : Arguments} {body : List Stmt} {scope : Scope} {f : Addr} {N ps : List Str} {k : Nat}
/-- the rule for a def by its body -/
theorem okF {sp : Sp} (F : ∃ fd, FunD K x qual params body scope [] [] f fd) (S : FnScope N ps scope) (len : ∀ vs H Q E, sp vs H Q E → vs.length = ps.length)
    (bnd : ∀ (kV doc pm : Value) (an : Option Addr) (cdv ct : Value) (us : List Value), us.length = ps.length → bindArgs (PySem.W.fnOf x qual params body scope .none kV doc pm an cdv ct) ⟨us, []⟩ = pure (ps.zip us))
    (hbody : ∀ (cdv : Value) (A : Around) (outer : List PySem.Env) (s : Shared) (H : Hp) (E : XK), Room k (A.deeper (envOfC qual scope s.heap.objs.size f cdv)) →
      ∃ t, PSs (cxOf (L2.CX P w) P w K mg base N qual scope f cdv A outer s H E) body t ∧ ∀ (vs : List V) (Q : VK), sp vs H Q E → t { nx := fun _ H' => Q .non H', rt := Q } (L2.start N vs) H) : OkF P w K mg base (k + 1) f ps sp := by
  obtain ⟨fd, F⟩ := F
  refine ⟨fd, F.ok S len fun cdv A outer s H vs Q E hr h => ?_, F.bindsN bnd, F.kp⟩
  obtain ⟨t, h1, h2⟩ := hbody cdv A outer s H E hr
  exact ⟨t, h1, h2 vs Q h⟩
theorem lenD {XC : Str → Value} {cs : List DCod} {c : DCod} {f : DEnv cs → Res c.α} {n : Nat} (h : cs.length = n) : ∀ vs H Q E, spD XC cs c f vs H Q E → vs.length = n := fun vs H Q E ⟨F, x, e, r, _⟩ => r.len.trans h
theorem lenM {XC : Str → Value} {m : Cod} {cs : List DCod} {c : DCod} {f : m.α → DEnv cs → Res (c.α × m.α)} {n : Nat} (h : cs.length + 1 = n) : ∀ vs H Q E, spM XC m cs c f vs H Q E → vs.length = n := fun vs H Q E ⟨F, fp, v, vs', y, x, e, _, _, _, _, r, _⟩ => by rw [e, List.length_cons, r.len]; exact h
theorem lenC {XC : Str → Value} {m : Cod} {cs : List DCod} {c : DCod} {f : m.α → DEnv cs → Res c.α} {n : Nat} (h : cs.length + 1 = n) : ∀ vs H Q E, spC XC m cs c f vs H Q E → vs.length = n := fun vs H Q E ⟨F, fp, v, vs', y, x, e, _, _, _, _, r, _⟩ => by rw [e, List.length_cons, r.len]; exact h
theorem lenI {XC : Str → Value} {C : Addr} {names : List Str} {Γf : List Sl} {cs : List DCod} {f : DEnv cs → Res (Env Γf)} {n : Nat} (h : cs.length + 1 = n) : ∀ vs H Q E, spI XC C names Γf cs f vs H Q E → vs.length = n := fun vs H Q E ⟨F, p, dx, vs', x, e, _, _, _, r, _⟩ => by rw [e, List.length_cons, r.len]; exact h
end
end Pu
set_option Elab.async false
set_option linter.all false
set_option maxRecDepth 100000
set_option maxHeartbeats 4000000
namespace PySem
open Sem (wp)
open AutoSeq1 (wpAny_loadPart')
theorem pu_meets_enum (l : Addr) (items : Array Value) :
    Meets (Builtin.«enumerate.__new__» ⟨[.type "enumerate", .ref l], []⟩) (fun _ R s => s.heap.IsTuple l items ∧
      R (.ok (.ret (.ref (s.heap.push { cls := .type "tuple_iterator", data := .fields #[.ref l, .int 0 0] }).objs.size)))
        { s with heap := (s.heap.push { cls := .type "tuple_iterator", data := .fields #[.ref l, .int 0 0] }).push { cls := .type "enumerate", data := .fields #[.none, .bool false, .ref s.heap.objs.size, rawInt 0, .none, .none] } }) :=
  .of_wp fun prog w A R s h => by
    obtain ⟨hp, g, d, tk, os⟩ := s; obtain ⟨hL, h⟩ := h
    have hsub := sub_enumerate
    wp_walk
    refine wpAny_stack_any fun st => wpAny_pure ?_
    split
    · rename_i c _ _ _ _ _
      cases (c == Value.type "enumerate")
      · wp_walk using wpAny_pyIter_tuple hL
        exact ⟨_, rfl, h⟩
      · wp_walk using wpAny_pyIter_tuple hL
        exact ⟨_, rfl, h⟩
    · wp_walk using wpAny_pyIter_tuple hL
      exact ⟨_, rfl, h⟩
section
variable {prog : Program} {w : World} {A : Around} {E : Value → Shared → Prop} {s : Shared}
theorem pu_call_enum {l : Addr} {items : Array Value} {Q : Value → Shared → Prop} (hL : s.heap.IsTuple l items)
    (h : ∀ h', IsEnum h' (s.heap.objs.size + 1) s.heap.objs.size 0 .none → h'.IsTupleIter s.heap.objs.size l 0 → h'.objs.size = s.heap.objs.size + 2 →
      (∀ b o, s.heap.get? b = some o → h'.get? b = some o) → Q (.ref (s.heap.objs.size + 1)) { s with heap := h' }) :
    wpAny (model prog w) A (call (.type "enumerate") [.ref l]) Q E s := by
  refine callType_new F.called_enumerate (by decide) (F.typeCall_enumerate_1 _) (F.newCall_enumerate_1 _) (fun obj => F.args_object_init_2 obj _) F.entry_enumerate_new
    (pu_meets_enum l items) ⟨hL, ?_⟩
  have hz : (s.heap.push { cls := .type "tuple_iterator", data := .fields #[.ref l, .int 0 0] }).objs.size = s.heap.objs.size + 1 := Heap.size_push ..
  show _ ∧ _
  rw [hz]
  have he : IsEnum ((s.heap.push { cls := .type "tuple_iterator", data := .fields #[.ref l, .int 0 0] }).push
      { cls := .type "enumerate", data := .fields #[.none, .bool false, .ref s.heap.objs.size, rawInt 0, .none, .none] }) (s.heap.objs.size + 1) s.heap.objs.size 0 .none := by
    have := Heap.get?_push_size (s.heap.push { cls := .type "tuple_iterator", data := .fields #[.ref l, .int 0 0] })
      (o := { cls := .type "enumerate", data := .fields #[.none, .bool false, .ref s.heap.objs.size, rawInt 0, .none, .none] }) rfl
    rw [hz] at this; exact this
  refine ⟨⟨_, he, rfl⟩, h _ he ⟨_, Heap.get?_push_of_some _ (Heap.get?_push_size _ rfl), rfl, rfl⟩ (by rw [Heap.size_push, hz]) fun b o x => Heap.get?_push_of_some _ (Heap.get?_push_of_some _ x)⟩
end
end PySem
namespace Pu
open PySem PySem.Spec PyProof.Rows L2 Evl
def IteT (K : PySem.W.Frag) (a : Addr) : It :=
  ⟨fun i H => ∃ (xs : List V) (x : V), SqT K H a xs ∧ xs[i]? = some x, fun i H v H' => ∃ T x, v = .ref T ∧ H T = none ∧ H' = upd H T (.tup [.int (i : Nat), x]) ∧ ∀ xs, SqT K H a xs → xs[i]? = some x, fun i H => ∃ xs : List V, SqT K H a xs ∧ xs.length ≤ i⟩
theorem turn_enumT {P : Program} {w : World} {K : PySem.W.Frag} {elts : List Expr} {kk : Nat} {tpos : Pos} (a e it : Addr) (hea : e ≠ a) (hia : it ≠ a) :
    Turn P w K (.Tuple elts kk tpos) (IteT K a) [e, it] e (fun i h => (∃ old, IsEnum h e it ((i : Nat) : Int) old) ∧ h.IsTupleIter it a i ∧ e ≠ it) where
  mem := by simp
  obj := fun i h st b hb => by
    obtain ⟨⟨old, he⟩, ⟨o, ho, hc, hd⟩, _⟩ := st
    have e' : b = e ∨ b = it := by simpa using hb
    rcases e' with z | z
    · rw [z]; exact ⟨_, he, fun v q => nomatch q⟩
    · rw [z]; exact ⟨o, ho, fun v q => by rw [hd] at q; cases q⟩
  keep := fun i h h' st k => let ⟨⟨old, he⟩, hi, hne⟩ := st; ⟨⟨old, k e (by simp) _ he⟩, hi.at fun o q => k it (by simp) o q, hne⟩
  item := by
    intro X hP hw hK hc i pins s σ H E I hf st hg
    subst hP hw hK
    obtain ⟨⟨old, he⟩, hit, hne⟩ := st
    obtain ⟨xs, x, hq, hx⟩ := hg
    obtain ⟨its, rv, p, hz⟩ := I.tuple hq
    obtain ⟨u, hu, ru⟩ := rv.get hx
    have hel : e < s.heap.objs.size := Heap.lt_size he
    have hil : it < s.heap.objs.size := by obtain ⟨_, q, _⟩ := hit; exact Heap.lt_size q
    have hlt : i < its.toArray.size := by
      have := (List.getElem?_eq_some_iff.mp hu).1
      simpa using this
    refine wpAny_pyNext_enum_itemD (Draws.tuple (prog := X.prog) (w := X.w) (A := X.A.in1) (I.ok.hd hc) it a (Ne.symm hia) its.toArray) he ⟨hit, p⟩ hlt hne (by simp [hne, hea]) fun x' h' tk hPx ho hst' hT hsz hk => ?_
    have hux : x' = u := by
      have h1 : its.toArray[i]? = some u := by simpa using hu
      rw [h1] at hPx
      exact (Option.some.inj hPx).symm
    subst hux
    refine ⟨_, rfl, wpAny_letOwnedTupleGo_enum (s := { s with heap := h', toks := tk + 1 }) ho fun h'' he' sb => ?_⟩
    have hT2 : h''.get? s.heap.objs.size = some { cls := .type "tuple", data := .seq #[.int i tk, x'] } := (sb.2 _ (Nat.ne_of_gt hel)).trans hT
    have new : ObjOk X.prog X.w (upd H s.heap.objs.size (.tup [.int (i : Nat), x])) h'' s.heap.objs.size (.tup [.int (i : Nat), x]) :=
      ⟨by show 2 ≤ sizeLine; decide, [.int i tk, x'], .cons ⟨_, rfl⟩ (.cons ru .nil), ⟨_, hT2, rfl, _, rfl⟩⟩
    have I1 : Inv X pins σ (upd H s.heap.objs.size (.tup [.int (i : Nat), x])) { s with heap := h'', toks := tk + 1 } :=
      I.turnedNew (ch := [e, it]) (fun b ob hb q => (sb.2 b (fun z => hb (by simp [z]))).trans (hk b ob (fun z => hb (by simp [z])) (fun z => hb (by simp [z])) q)) hf (Nat.le_refl _) new
    refine ⟨.ref s.heap.objs.size, _, I1, rfl, ⟨_, x, rfl, I.hok.fresh (Nat.le_refl _), rfl, fun ys hy => by rw [I.tuple_inj hy hq]; exact hx⟩, ⟨⟨x', ?_⟩, hst'.1.at fun o q => (sb.2 it (Ne.symm hne)).trans q, hne⟩, fun b hb => ?_⟩
    · have e1 : ((i + 1 : Nat) : Int) = (i : Int) + 1 := by omega
      rw [e1]; exact he'
    · have hb' : b < s.heap.objs.size := by
        have e' : b = e ∨ b = it := by simpa using hb
        rcases e' with z | z
        · rw [z]; exact hel
        · rw [z]; exact hil
      rw [upd_ne (Nat.ne_of_lt hb')]
      exact (hf b hb).1
  done := by
    intro X hP hw hK hc i pins s σ H E I hf st hg
    subst hP hw hK
    obtain ⟨⟨old, he⟩, hit, hne⟩ := st
    obtain ⟨xs, hq, hx⟩ := hg
    obtain ⟨its, rv, p, hz⟩ := I.tuple hq
    obtain ⟨f0, f1, f2, f3, f4, f5⟩ := hf it (by simp)
    have hl := rv.length
    have hT : s.TypeIs (.ref e) "enumerate" := ⟨_, he, rfl⟩
    unfold pyNext
    refine wpAny_bind (wpAny_attempt (wpAny_callSpecial?_slot (name := Str.ofString "__next__") hT F.slot_enumerate_next
      (wpAny_call_entry F.slot_enumerate_next hT F.entry_enumerate_next ?_ (F.args_enumerate_next_1 _))))
    show wpAny _ _ (field (.ref e) 2 >>= _) _ _ _
    refine wpAny_bind (wpAny_field he rfl (x := .ref it) rfl ?_)
    refine wpAny_bind (wpAny_nextOf_tuple_end (I.ok.hd hc) hit p (by simp; omega) fun h' x he' hx' => ?_)
    obtain ⟨o, ho, hc⟩ := hx'
    refine wpAny_bind (wpAny_isInstance (T := "StopIteration") (b := true) ⟨o, ho, hc⟩ isSubtype_stop ?_)
    exact wpAny_pure ⟨rfl, I.turned (t' := s.toks) (fun b o hb q => he' b o hb q) f0 f1 f3 f4 f5⟩
  self := fun A i s Q E st h => let ⟨⟨_, he⟩, _⟩ := st; wpAny_pyIter_enum he h
def iEnumT (K : PySem.W.Frag) (ta : TA) : TI := fun σ H R => ta σ H fun vs H1 => ∃ a xs, vs = [.ref a] ∧ SqT K H1 a xs ∧ R (IteT K a) H1
theorem pi_enumT {X : Cx} {e : Expr} {ta : TA} {p pos tpos : Pos} {elts : List Expr} {kk : Nat} (hg : Gl X "enumerate") (hm : X.mg "enumerate" = none) (ha : PA X [e] ta) (hs : starEach [e] X.env = [(false, eval e X.env)] := by rfl) :
    PI X (.Tuple elts kk tpos) (.Call (.Name "enumerate" p) [e] [] pos) (iEnumT X.K ta) := by
  refine ⟨fun pins s σ H R I h => ?_⟩
  refine Call_ (ld_blt I hg hm boot_enumerate (PyProof.Rows.callWith_type1 (thn (ha.run pos pins s σ H _ I h) fun us s1 ⟨vs, H1, I1, r1, q1⟩ => ?_) hs rfl))
  obtain ⟨a, xs, ex, hq, q⟩ := q1
  subst ex
  cases r1 with
  | cons r rr =>
    cases rr
    cases r
    obtain ⟨its, rv, p', hz⟩ := I1.tuple hq
    have hlt : a < s1.heap.objs.size := by obtain ⟨_, q, _⟩ := p'; exact Heap.lt_size q
    refine pu_call_enum p' fun h' he hit hsz hk => wpAny_pyIter_enum he ?_
    have I2 : Inv X pins σ H1 { s1 with heap := h' } := I1.kept (t' := s1.toks) hk
    refine ⟨s1.heap.objs.size + 1, [s1.heap.objs.size + 1, s1.heap.objs.size], _, _, H1, rfl, I2, turn_enumT a (s1.heap.objs.size + 1) s1.heap.objs.size (Nat.ne_of_gt (Nat.lt_succ_of_lt hlt)) (Nat.ne_of_gt hlt), ⟨⟨.none, he⟩, hit, Nat.succ_ne_self _⟩, fun b hb => ?_, q⟩
    have e' : b = s1.heap.objs.size + 1 ∨ b = s1.heap.objs.size := by simpa using hb
    have hle : s1.heap.objs.size ≤ b := by
      rcases e' with z | z
      · rw [z]; exact Nat.le_add_right _ _
      · rw [z]; exact Nat.le_refl _
    exact I1.fpOk hle (I1.hok.fresh hle)
end Pu
set_option Elab.async false
set_option linter.all false
set_option maxRecDepth 100000
set_option maxHeartbeats 4000000
namespace Pu
open PySem L2 Evl
/-! ### things that may change, read as data for a while -/
def frz (F H : Hp) (fp : List Addr) : Hp := fun a => if a ∈ fp then H a else F a
def thaw (F : Hp) (fp : List Addr) : Hp := fun a => if a ∈ fp then none else F a
def Mu : HO → Prop
  | .tup _ => False
  | .frz _ _ => False
  | _ => True
structure Fz (m : Cod) (d : DCod) where
  conv : m.α → d.α
  ok : ∀ {F H Fz : Hp} {fp : List Addr} {v : V} {x : m.α}, m.rel F H fp v x → Ex F Fz → (∀ a, a ∈ fp → Fz a = H a) → d.rel Fz v (conv x)
  mu : ∀ {F H : Hp} {fp : List Addr} {v : V} {x : m.α}, m.rel F H fp v x → ∀ a, a ∈ fp → ∀ o, H a = some o → Mu o
def fzL {c : DCod} : Fz (mLst c) (dLst c) := ⟨fun x => x, fun {F H Fz fp v x} h e k => let ⟨a, vs, h1, h0, h2, h3, h4⟩ := h; ⟨a, vs, h1, by rw [k a (by rw [h0]; simp)]; exact h2, h3.ext e, h4⟩,
  fun {F H fp v x} h a ha o ho => by
    obtain ⟨b, vs, rfl, rfl, h2, h3, h4⟩ := h
    have ha : a = b := by simpa using ha
    subst ha
    rw [h2] at ho; cases ho; exact True.intro⟩
inductive FzG : List Sl → List Sl → Type 1 where
  | nil : FzG [] []
  | no {Γ Γ' : List Sl} (r : FzG Γ Γ') : FzG (.no :: Γ) (.no :: Γ')
  | da {c : DCod} {Γ Γ' : List Sl} (r : FzG Γ Γ') : FzG (.da c :: Γ) (.da c :: Γ')
  | m {k : Kd} {m : Cod} {d : DCod} {Γ Γ' : List Sl} (z : Fz m d) (r : FzG Γ Γ') : FzG (.m k m :: Γ) (.da d :: Γ')
def FzG.conv : {Γ Γ' : List Sl} → FzG Γ Γ' → Env Γ → Env Γ'
  | _, _, .nil, ρ => ρ
  | _, _, .no r, ρ => (ρ.1, r.conv ρ.2)
  | _, _, .da r, ρ => (ρ.1, r.conv ρ.2)
  | _, _, .m z r, ρ => (z.conv ρ.1, r.conv ρ.2)
theorem FzG.mu {F H : Hp} : ∀ {Γ Γ' : List Sl} (r : FzG Γ Γ') {τ σ : St} {L : Fps} {ρ : Env Γ}, SRel Γ τ σ F H L ρ → ∀ k a, (k, a) ∈ L → ∀ o, H a = some o → Mu o
  | _, _, .nil, τ, σ, L, ρ, ⟨h1, h2⟩ => fun k a ha => by rw [h2] at ha; cases ha
  | _, _, .no r, τ, σ, L, ρ, ⟨w, σ', e, h⟩ => FzG.mu r h
  | _, _, .da r, τ, σ, L, ρ, ⟨w, σ', e, hr, h⟩ => FzG.mu r h
  | _, _, .m (k := kk) z r, τ, σ, L, ρ, ⟨w, σ', fp, L', e, e2, e3, hr, h⟩ => fun q a ha o ho => by
    rw [e3] at ha
    rcases List.mem_append.mp ha with g | g
    · exact z.mu hr a (mem_tag.mp g).2 o ho
    · exact FzG.mu r h q a g o ho
theorem FzG.rel {F H Fz : Hp} (eF : Ex F Fz) : ∀ {Γ Γ' : List Sl} (r : FzG Γ Γ') {τ σ : St} {L : Fps} {ρ : Env Γ}, SRel Γ τ σ F H L ρ → (∀ k a, (k, a) ∈ L → Fz a = H a) → SRel Γ' τ σ Fz H [] (r.conv ρ)
  | _, _, .nil, τ, σ, L, ρ, ⟨h1, h2⟩, k => ⟨h1, rfl⟩
  | _, _, .no r, τ, σ, L, ρ, ⟨w, σ', e, h⟩, k => ⟨w, σ', e, FzG.rel eF r h k⟩
  | _, _, .da r, τ, σ, L, ρ, ⟨w, σ', e, hr, h⟩, k => ⟨w, σ', e, DCod.ext _ hr eF, FzG.rel eF r h k⟩
  | _, _, .m (k := kk) z r, τ, σ, L, ρ, ⟨w, σ', fp, L', e, e2, e3, hr, h⟩, k =>
    ⟨w, σ', e, z.ok hr eF fun a ha => k kk a (by rw [e3]; exact List.mem_append_left _ (mem_tag.mpr ⟨rfl, ha⟩)), FzG.rel eF r h fun q a ha => k q a (by rw [e3]; exact List.mem_append_right _ ha)⟩
/-- an instance read as data -/
def fzO {C : Addr} {names : List Str} {Γf : List Sl} {fs : List DCod} (r : FzG Γf (fs.map Sl.da)) : Fz (mObj C names Γf) (dIns C names fs) := ⟨fun x => envD fs (r.conv x),
  fun {F H Fz fp v x} h e k => by
    obtain ⟨p, dx, vs, fp', rfl, h2, rfl, hv, hs⟩ := h
    have g1 := FzG.rel (Fz := Fz) e r hs fun q a ha => k a (List.mem_cons_of_mem _ (mem_tag.mp ha).2)
    obtain ⟨g2, _⟩ := envD_rel fs g1
    exact ⟨p, dx, vs, rfl, by rw [k p (by simp)]; exact h2, g2⟩,
  fun {F H fp v x} h a ha o ho => by
    obtain ⟨p, dx, vs, fp', rfl, h2, rfl, hv, hs⟩ := h
    rcases List.mem_cons.mp ha with e | ha
    · subst e
      rw [h2] at ho; cases ho; exact True.intro
    · exact FzG.mu r hs .lo a (mem_tag.mpr ⟨rfl, ha⟩) o ho⟩
def Und (c : DCod) : Prop := ∀ (F : Hp) (fp : List Addr) (v : V) (x : c.α), (∀ a, a ∈ fp → ∀ o, F a = some o → Mu o) → c.rel F v x → c.rel (thaw F fp) v x
theorem und_int : Und dInt := fun _ _ _ _ _ h => h
theorem und_bl : Und dBl := fun _ _ _ _ _ h => h
theorem und_str : Und dStr := fun _ _ _ _ _ h => h
theorem und_non : Und dNon := fun _ _ _ _ _ h => h
theorem und_opt {c : DCod} (u : Und c) : Und (dOpt c) := fun F fp v x k h => by
  cases x with
  | none => exact h
  | some y => exact ⟨u F fp v y k h.1, h.2⟩
theorem thaw_tup {F : Hp} {fp : List Addr} (k : ∀ a, a ∈ fp → ∀ o, F a = some o → Mu o) {a : Addr} {vs : List V} (h : F a = some (.tup vs)) : thaw F fp a = some (.tup vs) := by
  unfold thaw
  rw [if_neg fun ha => k a ha _ h]; exact h
theorem thaw_rd {F : Hp} {fp : List Addr} (k : ∀ a, a ∈ fp → ∀ o, F a = some o → Mu o) {a : Addr} {vs : List V} (h : Rd F a (.tup vs)) : Rd (thaw F fp) a (.tup vs) := by
  rcases h with h | ⟨o, h⟩
  · exact .inl (thaw_tup k h)
  · refine .inr ⟨o, ?_⟩
    unfold thaw
    rw [if_neg fun ha => k a ha _ h]; exact h
theorem PV.mono {c : DCod} {F F' : Hp} (q : ∀ v x, c.rel F v x → c.rel F' v x) : ∀ {vs : List V} {xs : List c.α}, PV c F vs xs → PV c F' vs xs
  | _, _, .nil => .nil
  | _, _, .cons r t => .cons (q _ _ r) (PV.mono q t)
theorem und_tup {c : DCod} (u : Und c) : Und (dTup c) := fun F fp v x k h => by
  obtain ⟨a, vs, h1, h2, h3, h4⟩ := h
  exact ⟨a, vs, h1, thaw_rd k h2, h3.mono fun v x r => u F fp v x k r, h4⟩
theorem und_p2 {a b : DCod} (u : Und a) (u2 : Und b) : Und (dP2 a b) := fun F fp v x k h => by
  obtain ⟨p, y, w, h1, h2, h3, h4⟩ := h
  exact ⟨p, y, w, h1, thaw_tup k h2, u F fp _ _ k h3, u2 F fp _ _ k h4⟩
theorem und_p3 {a b c : DCod} (u : Und a) (u2 : Und b) (u3 : Und c) : Und (dP3 a b c) := fun F fp v x k h => by
  obtain ⟨p, y, w, z, h1, h2, h3, h4, h5⟩ := h
  exact ⟨p, y, w, z, h1, thaw_tup k h2, u F fp _ _ k h3, u2 F fp _ _ k h4, u3 F fp _ _ k h5⟩
section
variable {p : Bool} {E : XK} {XC : Str → Value} {Γ Γ' : List Sl} {te : TE} {c : DCod}
theorem ev_frz {T : (R : Type) → (c.α → Env Γ' → Res R) → Env Γ' → Res R} (fz : FzG Γ Γ') (und : Und c) (h : EvE true E XC Γ' te c T) : EvE p E XC Γ te c (fun R k ρ => T R (fun x _ => k x ρ) (fz.conv ρ)) := fun B σ F H ρ I R G hG k Q g q => by
  obtain ⟨L, r, w⟩ := id I
  have hno : ∀ a, a ∈ L.map (·.2) → F a = none := fun a ha => by
    obtain ⟨⟨kk, b⟩, hb, e⟩ := List.mem_map.mp ha
    have e : b = a := e
    subst e
    exact (w.fr kk b hb).1
  have hin : ∀ k a, (k, a) ∈ L → a ∈ L.map (·.2) := fun k a ha => List.mem_map.mpr ⟨_, ha, rfl⟩
  have eF : Ex F (frz F H (L.map (·.2))) := fun a o ha => by
    unfold frz
    rw [if_neg fun hm => by rw [hno a hm] at ha; cases ha]; exact ha
  have hfz : ∀ a, a ∈ L.map (·.2) → frz F H (L.map (·.2)) a = H a := fun a ha => by unfold frz; rw [if_pos ha]
  have r' := fz.rel eF r fun k a ha => hfz a (hin k a ha)
  have hmu := fz.mu r
  have eFH : Ex (frz F H (L.map (·.2))) H := fun a o ha => by
    unfold frz at ha
    by_cases hm : a ∈ L.map (·.2)
    · rw [if_pos hm] at ha; exact ha
    · rw [if_neg hm] at ha; exact w.fh a o ha
  have I' : SInv ⟨frz F H (L.map (·.2)), H, [], [], [], B.τ⟩ Γ' σ (frz F H (L.map (·.2))) H (fz.conv ρ) :=
    ⟨[], r', ⟨by simp, fun k a ha => (nomatch ha), eFH, Ex.refl _, fun a o h _ _ => h, fun a o h => ⟨o, h⟩, fun a o h => .inl h, fun a ha => (nomatch ha), fun a ha => (nomatch ha), fun a ha => (nomatch ha)⟩⟩
  refine h _ σ _ H _ I' R G ⟨hG.1, fun n H' gn f => hG.2 n H' gn fun a o h1 h2 h3 => f a o (w.keep a o h1 h2 h3) (by simp) (by simp)⟩ _ Q g fun x ρ' v F' H' I1 e1 r1 g1 => ?_
  obtain ⟨_, pe⟩ := e1.2 rfl
  have pp : Pext F (thaw F' (L.map (·.2))) H H' := by
    refine ⟨pe.hh, fun a o ha => ?_, fun a o ha => ?_, fun a o ha => ?_⟩
    · unfold thaw
      rw [if_neg fun hm => by rw [hno a hm] at ha; cases ha]
      exact pe.ff a o (eF a o ha)
    · unfold thaw at ha
      by_cases hm : a ∈ L.map (·.2)
      · rw [if_pos hm] at ha; cases ha
      · rw [if_neg hm] at ha; exact pe.fh a o ha
    · unfold thaw at ha
      by_cases hm : a ∈ L.map (·.2)
      · rw [if_pos hm] at ha; cases ha
      · rw [if_neg hm] at ha
        rcases pe.new a o ha with z | z
        · unfold frz at z
          rw [if_neg hm] at z; exact .inl z
        · exact .inr z
  refine q x ρ v _ H' (I.pext pp) ⟨pp.ff, fun _ => ⟨rfl, pp⟩⟩ (und F' _ v x (fun a ha o ho => ?_) r1) g1
  obtain ⟨⟨kk, b⟩, hb, e⟩ := List.mem_map.mp ha
  have e : b = a := e
  subst e
  obtain ⟨_, o', ho'⟩ := w.fr kk b hb
  have h1 : F' b = some o' := pe.ff b o' ((hfz b ha).trans ho')
  rw [h1] at ho; cases ho
  exact hmu kk b hb _ ho'
end
end Pu
set_option Elab.async false
set_option linter.all false
set_option maxRecDepth 100000
set_option maxHeartbeats 4000000
namespace Pu
open PySem PySem.Spec PyProof.Rows L2 Evl
/-! ### tuples of which it is known that they hold no fields -/
abbrev dTuN (c : DCod) : DCod := ⟨List c.α, fun F v xs => ∃ a vs ob, v = .ref a ∧ F a = some (.frz ob (.tup vs)) ∧ ob.dict = none ∧ ob.cls = .type "tuple" ∧ PV c F vs xs ∧ xs.length ≤ sizeLine,
  fun h e => let ⟨a, vs, ob, h1, h2, h3, h4, h5, h6⟩ := h; ⟨a, vs, ob, h1, e a _ h2, h3, h4, h5.ext e, h6⟩⟩
def Sb (a b : DCod) (f : a.α → b.α) : Prop := ∀ F v x, a.rel F v x → b.rel F v (f x)
theorem sb_tun {c : DCod} : Sb (dTuN c) (dTup c) (fun x => x) := fun F v x h => by
  obtain ⟨a, vs, ob, h1, h2, h3, h4, h5, h6⟩ := h
  exact ⟨a, vs, h1, .inr ⟨ob, h2⟩, h5, h6⟩
theorem sb_tunS {c : DCod} : Sb (dTuN c) (dSeq c) (fun x => x) := fun F v x h => by
  obtain ⟨a, vs, ob, h1, h2, h3, h4, h5, h6⟩ := h
  exact ⟨a, vs, h1, .inr (.inr ⟨ob, h2⟩), h5, h6⟩
theorem sb_tupS {c : DCod} : Sb (dTup c) (dSeq c) (fun x => x) := fun F v x h => by
  obtain ⟨a, vs, h1, h2, h3, h4⟩ := h
  exact ⟨a, vs, h1, .inr h2, h3, h4⟩
theorem sb_lstS {c : DCod} : Sb (dLst c) (dSeq c) (fun x => x) := fun F v x h => by
  obtain ⟨a, vs, h1, h2, h3, h4⟩ := h
  exact ⟨a, vs, h1, .inl h2, h3, h4⟩
theorem sb_id {c : DCod} : Sb c c (fun x => x) := fun _ _ _ h => h
theorem PV.sb {a b : DCod} {f : a.α → b.α} {F : Hp} (s : Sb a b f) : ∀ {vs : List V} {xs : List a.α}, PV a F vs xs → PV b F vs (xs.map f)
  | _, _, .nil => .nil
  | _, _, .cons r t => .cons (s F _ _ r) (PV.sb s t)
theorem PV.sbId {α : Type} {r1 r2 : Hp → V → α → Prop} {e1 e2} {F : Hp} (s : Sb ⟨α, r1, e1⟩ ⟨α, r2, e2⟩ (fun x => x)) : ∀ {vs : List V} {xs : List α}, PV ⟨α, r1, e1⟩ F vs xs → PV ⟨α, r2, e2⟩ F vs xs
  | _, _, .nil => .nil
  | _, _, .cons r t => .cons (s F _ _ r) (PV.sbId s t)
theorem sb_lst {α : Type} {r1 r2 : Hp → V → α → Prop} {e1 e2} (s : Sb ⟨α, r1, e1⟩ ⟨α, r2, e2⟩ (fun x => x)) : Sb (dLst ⟨α, r1, e1⟩) (dLst ⟨α, r2, e2⟩) (fun x => x) := fun F v x h => by
  obtain ⟨a, vs, h1, h2, h3, h4⟩ := h
  exact ⟨a, vs, h1, h2, h3.sbId s, h4⟩
theorem sb_tup {α : Type} {r1 r2 : Hp → V → α → Prop} {e1 e2} (s : Sb ⟨α, r1, e1⟩ ⟨α, r2, e2⟩ (fun x => x)) : Sb (dTup ⟨α, r1, e1⟩) (dTup ⟨α, r2, e2⟩) (fun x => x) := fun F v x h => by
  obtain ⟨a, vs, h1, h2, h3, h4⟩ := h
  exact ⟨a, vs, h1, h2, h3.sbId s, h4⟩
theorem sb_seq {α : Type} {r1 r2 : Hp → V → α → Prop} {e1 e2} (s : Sb ⟨α, r1, e1⟩ ⟨α, r2, e2⟩ (fun x => x)) : Sb (dSeq ⟨α, r1, e1⟩) (dSeq ⟨α, r2, e2⟩) (fun x => x) := fun F v x h => by
  obtain ⟨a, vs, h1, h2, h3, h4⟩ := h
  exact ⟨a, vs, h1, h2, h3.sbId s, h4⟩
theorem Sb.t {a b c : DCod} {f : a.α → b.α} {g : b.α → c.α} (s : Sb a b f) (t : Sb b c g) : Sb a c (fun x => g (f x)) := fun F v x h => t F v _ (s F v x h)
theorem ev_sb {p : Bool} {E : XK} {XC : Str → Value} {Γ : List Sl} {te : TE} {a b : DCod} {f : a.α → b.α} (s : Sb a b f) {T : (R : Type) → (a.α → Env Γ → Res R) → Env Γ → Res R} (h : EvE p E XC Γ te a T) : EvE p E XC Γ te b (fun R k ρ => T R (fun x => k (f x)) ρ) := Pu.ev_as f s h
/-- tuple(x) -/
def kTupN (K : PySem.W.Frag) (x : V) (H : Hp) (Q : VK) : Prop :=
  (∃ p xs, x = .ref p ∧ SqL K H p xs ∧ ∀ q ob, ob.dict = none → ob.cls = .type "tuple" → H q = none → Q (.ref q) (upd H q (.frz ob (.tup xs)))) ∨ (∃ p xs, x = .ref p ∧ SqT K H p xs ∧ Q (.ref p) H)
section
variable {X : Cx} {a e : Expr} {es : List Expr} {ta : TE}
theorem rl_tupleN (pins : List (Addr × Obj)) (s : Shared) (σ : L2.St) (H : Hp) (x : V) (v : Value) (Q : VK) (I : Inv X pins σ H s) (r : RelV x v) (h : kTupN X.K x H Q) :
    wpAny (model X.prog X.w) X.A (call (.type "tuple") [v]) (EP X pins σ Q) X.xe s := by
  rcases h with ⟨p, xs, rfl, hs, q⟩ | ⟨p, xs, rfl, hs, q⟩
  · obtain rfl : v = .ref p := r
    obtain ⟨its, rv, pl, hz⟩ := I.list hs
    refine call_tuple_list pl.isList (fun h' hk => ?_) (by rw [List.size_toArray, ← rv.length]; exact hz)
    have I1 : Inv X pins σ H { s with heap := h' } := I.kept (t' := s.toks) hk
    have I2 : Inv X pins σ (upd H h'.objs.size (.frz { cls := .type "tuple", data := .seq its.toArray } (.tup xs))) { s with heap := h'.push { cls := .type "tuple", data := .seq its.toArray } } :=
      I1.laid (t' := s.toks) (fun b o e => Heap.get?_push_of_some _ e) (Nat.le_refl _) (show ObjOk X.prog X.w _ _ _ (.frz _ (.tup xs)) from ⟨Heap.get?_push_size _ rfl, hz, its, rv, IsTup.new _ _⟩)
    exact ⟨.ref h'.objs.size, _, I2, rfl, q _ { cls := .type "tuple", data := .seq its.toArray } rfl rfl (I1.hok.fresh (Nat.le_refl _))⟩
  · obtain rfl : v = .ref p := r
    obtain ⟨its, rv, pl, hz⟩ := I.tuple hs
    exact call_tuple_tup pl ⟨.ref p, H, I, rfl, q⟩
theorem pe_tupleN {p pos : Pos} (hg : Gl X "tuple") (hm : X.mg "tuple" = none) (ha : PE X a ta) (na : starEach [a] X.env = (false, eval a X.env) :: starEach [] X.env := by rfl) :
    PE X (.Call (.Name "tuple" p) [a] [] pos) (tThen ta (kTupN X.K)) := by
  refine ⟨fun pins s σ H Q I h => ?_⟩
  exact Call_ (ld_blt I hg hm boot_tuple (PyProof.Rows.callWith_type1 (one_arg ha I h (fun v s2 x H2 I2 r q => rl_tupleN pins s2 σ H2 x v Q I2 r q) na) na))
/-- a method of a tuple that holds no fields -/
def tBT (r : V → List V → Hp → VK → Prop) (to : TE) (t : TA) : TE := fun σ H Q => to σ H fun x H1 => (∃ p ob vs, x = .ref p ∧ H1 p = some (.frz ob (.tup vs)) ∧ ob.dict = none ∧ ob.cls = .type "tuple") ∧ t σ H1 fun xs H2 => r x xs H2 Q
theorem pe_bmT {o : Expr} {to : TE} {t : TA} {name : Str} {apos cpos : Pos} {id : String} {r : V → List V → Hp → VK → Prop} (slot : Slot "tuple" name id) (hty : typeOf (.builtin id) = pure (.type "method_descriptor")) (hm : MtR X id r) (ho : PE X o to) (ha : PA X (e :: es) t)
    (hbase : attributeBase o name X.env (eval o X.env) = eval o X.env := by rfl)
    (hfew : ((backTo cpos (starEach (e :: es) X.env)).all (fun x => !x.1) && (backToKw cpos (keywordEach [] X.env)).all (fun x => x.1.isSome)
      && decide ((e :: es).length + ([] : List Keyword).length + (if ([] : List Keyword).isEmpty then 0 else 1) < 30)) = true := by rfl)
    (hline : (apos.endLine == cpos.line) = true := by rfl) (hs : starEach (e :: es) X.env = (false, eval e X.env) :: starEach es X.env := by rfl) (hplain : (backTo cpos (starEach es X.env)).any (·.1) = false := by rfl) :
    PE X (.Call (.Attribute o name apos) (e :: es) [] cpos) (tBT r to t) := by
  refine ⟨fun pins s σ H Q I h => ?_⟩
  refine wpAny_Call_method_late hbase hfew hline rfl (thn (ho.run pins s σ H _ I h) fun v s1 ⟨x, H1, I1, r1, ty, q1⟩ => ?_)
  obtain ⟨p, ob, vs, rfl, hp, hd, hc⟩ := ty
  obtain rfl : v = .ref p := r1
  obtain ⟨hob, _⟩ := I1.hok p _ hp
  refine ⟨"tuple", id, PySem.F.plainAttrs_tuple, slot, hty, ⟨ob, hob, hc⟩, fun a e => ?_, ?_⟩
  · cases e
    exact ⟨ob, hob, hd⟩
  have hA := ha.run cpos pins s1 σ H1 _ I1 q1
  rw [hs] at hA ⊢
  refine Calls.callWith_builtin (by show (false || (backTo cpos (starEach es X.env)).any (·.1)) = false; rw [hplain] <;> rfl) (Calls.evalArgs_plain ?_)
  exact thn hA fun us s2 ⟨vs, H2, I2, r2, q2⟩ => hm pins s2 σ H2 (.ref p) vs (.ref p) us Q I2 rfl r2 q2
def rIndexT (K : PySem.W.Frag) : V → List V → Hp → VK → Prop := fun x xs H Q => ∃ (a : Addr) (ys : List V) (y : V) (j : Nat) (z : V), x = V.ref a ∧ xs = [y] ∧ SqT K H a ys ∧ flatV y = true ∧ ys.all flatV = true ∧ ys[j]? = some z ∧ eqV z y = true ∧
  (∀ (m : Nat) (z' : V), m < j → ys[m]? = some z' → eqV z' y = false) ∧ Q (.int (j : Nat)) H
theorem mt_indexT : MtR X "tuple.index" (rIndexT X.K) := by
  intro pins s σ H x xs v us Q I rx rxs h
  obtain ⟨a, ys, y, j, z, rfl, rfl, hs, fy, fys, hz, hzj, hno, q⟩ := h
  cases rx
  cases rxs with
  | cons ry rt =>
    rename_i uy ut
    cases rt
    obtain ⟨its, rv, ⟨⟨cls, dd, data, sl⟩, ho, hc, n, hd⟩, hlen⟩ := I.tuple hs
    simp only at hc hd
    subst hc hd
    obtain ⟨u, hu, ru⟩ := rv.get hz
    obtain ⟨hjl, hje⟩ := List.getElem?_eq_some_iff.mp hu
    have hvl := rv.length
    have hj : j < its.toArray.size := by simpa using hjl
    refine call_meets PySem.F.slot_tuple_index ⟨_, ho, rfl⟩ PySem.F.entry_tuple_index (PySem.F.args_tuple_index_2 _ _)
      (TI.tuple_indexAt a its.toArray n dd sl uy (eqU y) j hj ?_ ?_) ⟨ho, fun u' hu' => mem_eqAt ry fy rv fys u' (by simpa using hu'), ?_⟩
    · have e1 : its.toArray[j] = u := by simpa using hje
      rw [e1, eqU_of ru (flat_at fys hz)]
      exact hzj
    · intro m hm hmj
      have hml : m < its.length := by simpa using hm
      have hmy : m < ys.length := by omega
      have hy' : ys[m]? = some ys[m] := List.getElem?_eq_getElem hmy
      obtain ⟨u2, hu2, ru2⟩ := rv.get hy'
      obtain ⟨_, hme⟩ := List.getElem?_eq_some_iff.mp hu2
      have e1 : its.toArray[m] = u2 := by simpa using hme
      rw [e1, eqU_of ru2 (flat_at fys hy')]
      exact hno m _ hmj hy'
    · exact ⟨.int (j : Nat), H, I.tok _, ⟨_, rfl⟩, q⟩
theorem countP_eqU {x : V} : ∀ {xs : List V} {us : List Value}, Vals xs us → xs.all flatV = true → us.countP (eqU x) = xs.countP fun y => eqV y x
  | _, _, .nil, _ => rfl
  | _, _, .cons r t, f => by
    rw [List.all_cons, Bool.and_eq_true] at f
    rw [List.countP_cons, List.countP_cons, eqU_of r f.1, countP_eqU t f.2]
def rCountT (K : PySem.W.Frag) : V → List V → Hp → VK → Prop := fun x xs H Q => ∃ (a : Addr) (ys : List V) (y : V), x = V.ref a ∧ xs = [y] ∧ SqT K H a ys ∧ flatV y = true ∧ ys.all flatV = true ∧ Q (.int ((ys.countP fun z => eqV z y : Nat) : Int)) H
theorem mt_countT : MtR X "tuple.count" (rCountT X.K) := by
  intro pins s σ H x xs v us Q I rx rxs h
  obtain ⟨a, ys, y, rfl, rfl, hs, fy, fys, q⟩ := h
  cases rx
  cases rxs with
  | cons ry rt =>
    rename_i uy ut
    cases rt
    obtain ⟨its, rv, ⟨⟨cls, dd, data, sl⟩, ho, hc, n, hd⟩, hlen⟩ := I.tuple hs
    simp only at hc hd
    subst hc hd
    refine call_meets PySem.F.slot_tuple_count ⟨_, ho, rfl⟩ PySem.F.entry_tuple_count (PySem.F.args_tuple_count_2 _ _)
      (SeqAt.tuple_countAt a its.toArray n dd sl uy (eqU y)) ⟨ho, fun u' hu' => mem_eqAt ry fy rv fys u' (by simpa using hu'), ?_⟩
    refine ⟨.int ((ys.countP fun z => eqV z y : Nat) : Int), H, I.tok _, ⟨s.toks, ?_⟩, q⟩
    rw [List.toList_toArray, countP_eqU rv fys]
end
end Pu
set_option Elab.async false
set_option linter.all false
set_option maxRecDepth 100000
set_option maxHeartbeats 4000000
namespace Pu
open PySem L2 Evl
/-! ### dicts of whole numbers -/
def KVR (c : DCod) (F : Hp) (ks : List (Key × V)) (kvs : List (Int × c.α)) : Prop := Paired (fun (p : Key × V) (q : Int × c.α) => p.1 = .inl q.1 ∧ c.rel F p.2 q.2) ks kvs
def dget {α : Type} : List (Int × α) → Int → Option α
  | [], _ => none
  | p :: r, k => if p.1 = k then some p.2 else dget r k
def dput {α : Type} (kvs : List (Int × α)) (k : Int) (v : α) : List (Int × α) :=
  if (kvs.any fun q => decide (q.1 = k)) = true then kvs.map (fun q => if q.1 = k then (q.1, v) else q) else kvs ++ [(k, v)]
def dmerge {α : Type} (kvs xs : List (Int × α)) : List (Int × α) := xs.foldl (fun acc q => dput acc q.1 q.2) kvs
theorem dmerge_snoc {α : Type} (kvs xs : List (Int × α)) (q : Int × α) : dmerge kvs (xs ++ [q]) = dput (dmerge kvs xs) q.1 q.2 := by
  unfold dmerge; rw [List.foldl_append]; rfl
section
variable {c : DCod}
theorem KVR.ext {F F' : Hp} (e : Ex F F') {ks : List (Key × V)} {kvs : List (Int × c.α)} (h : KVR c F ks kvs) : KVR c F' ks kvs := Paired.mapP h fun _ _ q => ⟨q.1, c.ext q.2 e⟩
theorem KVR.get {F : Hp} {i : Int} : ∀ {ks : List (Key × V)} {kvs : List (Int × c.α)}, KVR c F ks kvs → (∀ z, dget kvs i = some z → ∃ v, valV ks (.inl i) = some v ∧ c.rel F v z) ∧ (dget kvs i = none → valV ks (.inl i) = none)
  | _, _, .nil => ⟨fun z h => (nomatch h), fun _ => rfl⟩
  | _, _, .cons (a := p) (b := q) r t => by
    obtain ⟨h1, h2⟩ := KVR.get (i := i) t
    unfold dget
    by_cases e : q.1 = i
    · rw [if_pos e]
      have e2 : p.1 = .inl i := by rw [r.1, e]
      exact ⟨fun z hz => by cases hz; exact ⟨p.2, valV_pos e2, r.2⟩, fun z => (nomatch z)⟩
    · rw [if_neg e]
      have e2 : ¬ p.1 = .inl i := fun z => by
        rw [r.1] at z
        exact e (by cases z; rfl)
      rw [valV_neg e2]
      exact ⟨h1, h2⟩
theorem KVR.any {F : Hp} {i : Int} : ∀ {ks : List (Key × V)} {kvs : List (Int × c.α)}, KVR c F ks kvs → (ks.any fun p => decide (p.1 = (.inl i : Key))) = kvs.any fun q => decide (q.1 = i)
  | _, _, .nil => rfl
  | _, _, .cons (a := p) (b := q) r t => by
    rw [List.any_cons, List.any_cons, KVR.any t, r.1]
    congr 1
    by_cases e : q.1 = i
    · simp [e]
    · have : ¬ (Sum.inl q.1 : Key) = Sum.inl i := fun z => e (by cases z; rfl)
      rw [decide_eq_false this, decide_eq_false e]
theorem KVR.map {F : Hp} {i : Int} {v : V} {x : c.α} (hx : c.rel F v x) : ∀ {ks : List (Key × V)} {kvs : List (Int × c.α)}, KVR c F ks kvs → KVR c F (ks.map fun p => if p.1 = (.inl i : Key) then (p.1, v) else p) (kvs.map fun q => if q.1 = i then (q.1, x) else q)
  | _, _, .nil => .nil
  | _, _, .cons (a := p) (b := q) r t => by
    refine .cons ?_ (KVR.map hx t)
    by_cases e : q.1 = i
    · have e2 : p.1 = (.inl i : Key) := by rw [r.1, e]
      dsimp only
      rw [if_pos e, if_pos e2]
      exact ⟨r.1, hx⟩
    · have e2 : ¬ p.1 = (.inl i : Key) := fun z => by
        rw [r.1] at z
        exact e (by cases z; rfl)
      dsimp only
      rw [if_neg e, if_neg e2]
      exact r
theorem KVR.app {F : Hp} : ∀ {ks ls : List (Key × V)} {kvs lvs : List (Int × c.α)}, KVR c F ks kvs → KVR c F ls lvs → KVR c F (ks ++ ls) (kvs ++ lvs)
  | _, _, _, _, .nil, s => s
  | _, _, _, _, .cons r t, s => .cons r (KVR.app t s)
theorem KVR.put {F : Hp} {i : Int} {v : V} {x : c.α} (hx : c.rel F v x) {ks : List (Key × V)} {kvs : List (Int × c.α)} (h : KVR c F ks kvs) : KVR c F (putK ks (.inl i) v) (dput kvs i x) := by
  unfold putK dput
  rw [h.any (i := i)]
  by_cases e : (kvs.any fun q => decide (q.1 = i)) = true
  · rw [if_pos e, if_pos e]; exact h.map hx
  · rw [if_neg e, if_neg e]; exact h.app (.cons ⟨rfl, hx⟩ .nil)
theorem KVR.merge {F : Hp} : ∀ {ls : List (Key × V)} {lvs : List (Int × c.α)}, KVR c F ls lvs → ∀ {ks : List (Key × V)} {kvs : List (Int × c.α)}, KVR c F ks kvs → KVR c F (mergeK ks ls) (dmerge kvs lvs)
  | _, _, .nil, _, _, h => h
  | _, _, .cons (a := p) (b := q) r t, ks, kvs, h => by
    show KVR c F (mergeK (putK ks p.1 p.2) _) (dmerge (dput kvs q.1 q.2) _)
    rw [r.1]
    exact KVR.merge t (h.put r.2)
end
theorem dput_len {α : Type} (kvs : List (Int × α)) (k : Int) (v : α) : (dput kvs k v).length ≤ kvs.length + 1 := by
  unfold dput
  split
  · rw [List.length_map]; omega
  · rw [List.length_append]; exact Nat.le_refl _
theorem dmerge_len {α : Type} : ∀ (xs kvs : List (Int × α)), (dmerge kvs xs).length ≤ kvs.length + xs.length
  | [], kvs => Nat.le_refl _
  | q :: xs, kvs => by
    show (dmerge (dput kvs q.1 q.2) xs).length ≤ _
    have h1 := dmerge_len xs (dput kvs q.1 q.2)
    have h2 := dput_len kvs q.1 q.2
    rw [List.length_cons]; omega
section
variable {p : Bool} {E : XK} {XC : Str → Value} {Rt : Ret} {K : PySem.W.Frag} {Γ Γ' Γ0 Γ1 Γ2 ΓL Γf : List Sl} {te ta tb tc : TE} {tt tu : TT} {tA : TA} {ti : TI} {tg : TG} {a b c d : DCod} {m : Cod} {cs : List DCod} {ts us : TS} {C : Addr} {names : List Str}
theorem ev_dget {Ta : (R : Type) → (List (Int × c.α) → Env Γ → Res R) → Env Γ → Res R} {Tb : (R : Type) → (Int → Env Γ → Res R) → Env Γ → Res R} (ha : EvE p E XC Γ ta (dDict c) Ta) (hb : EvE p E XC Γ tb dInt Tb) :
    EvE p E XC Γ (tDGet ta tb) c (fun R k ρ => Ta R (fun x ρ => Tb R (fun y ρ => opt (dget x y) fun z => k z ρ) ρ) ρ) := fun B σ F H ρ I R G hG k Q g q =>
  ha B σ F H ρ I R G hG _ _ g fun x ρ1 v F1 H1 I1 e1 r1 g1 => hb B σ F1 H1 ρ1 I1 R G hG _ _ g1 fun y ρ2 w F2 H2 I2 e2 r2 g2 => by
    obtain ⟨l, ks, rfl, hl, hk⟩ := (dDict c).ext r1 e2.1
    obtain ⟨h1, h2⟩ := KVR.get (i := y) hk
    cases hz : dget x y with
    | none => rw [hz] at g2; exact absurd g2 hG.1
    | some z =>
      rw [hz] at g2
      obtain ⟨u, hu, ru⟩ := h1 z hz
      rw [show w = V.int y from r2]
      exact ⟨l, u, rfl, hu ▸ DGet.k (k := .inl y) (I2.fh l _ hl), q z ρ2 u F2 H2 I2 (e1.trans e2) ru g2⟩
theorem ev_din {Ta : (R : Type) → (Int → Env Γ → Res R) → Env Γ → Res R} {Tb : (R : Type) → (List (Int × c.α) → Env Γ → Res R) → Env Γ → Res R} (ha : EvE p E XC Γ ta dInt Ta) (hb : EvE p E XC Γ tb (dDict c) Tb) :
    EvE p E XC Γ (tDIn ta tb) dBl (fun R k ρ => Ta R (fun x ρ => Tb R (fun y ρ => k (dget y x).isSome ρ) ρ) ρ) := fun B σ F H ρ I R G hG k Q g q =>
  ha B σ F H ρ I R G hG _ _ g fun x ρ1 v F1 H1 I1 e1 r1 g1 => hb B σ F1 H1 ρ1 I1 R G hG _ _ g1 fun y ρ2 w F2 H2 I2 e2 r2 g2 => by
    obtain ⟨l, ks, rfl, hl, hk⟩ := r2
    obtain ⟨h1, h2⟩ := KVR.get (i := x) hk
    rw [show v = V.int x from r1]
    refine ⟨l, valV ks (.inl x), rfl, DGet.k (k := .inl x) (I2.fh l _ hl), q _ ρ2 _ F2 H2 I2 (e1.trans e2) ?_ g2⟩
    show V.bl _ = V.bl _
    congr 1
    cases hz : dget y x with
    | none => rw [h2 hz]; rfl
    | some z =>
      obtain ⟨u, hu, _⟩ := h1 z hz
      rw [hu]; rfl
theorem ev_dnotin {Ta : (R : Type) → (Int → Env Γ → Res R) → Env Γ → Res R} {Tb : (R : Type) → (List (Int × c.α) → Env Γ → Res R) → Env Γ → Res R} (ha : EvE p E XC Γ ta dInt Ta) (hb : EvE p E XC Γ tb (dDict c) Tb) :
    EvE p E XC Γ (tDNotIn ta tb) dBl (fun R k ρ => Ta R (fun x ρ => Tb R (fun y ρ => k (!(dget y x).isSome) ρ) ρ) ρ) := fun B σ F H ρ I R G hG k Q g q =>
  ha B σ F H ρ I R G hG _ _ g fun x ρ1 v F1 H1 I1 e1 r1 g1 => hb B σ F1 H1 ρ1 I1 R G hG _ _ g1 fun y ρ2 w F2 H2 I2 e2 r2 g2 => by
    obtain ⟨l, ks, rfl, hl, hk⟩ := r2
    obtain ⟨h1, h2⟩ := KVR.get (i := x) hk
    rw [show v = V.int x from r1]
    refine ⟨l, valV ks (.inl x), rfl, DGet.k (k := .inl x) (I2.fh l _ hl), q _ ρ2 _ F2 H2 I2 (e1.trans e2) ?_ g2⟩
    show V.bl _ = V.bl _
    congr 1
    cases hz : dget y x with
    | none => rw [h2 hz]; rfl
    | some z =>
      obtain ⟨u, hu, _⟩ := h1 z hz
      rw [hu]; rfl
theorem o_lenD {c : DCod} : Op1b (fun xs H Q => ∃ a kvs, xs = [V.ref a] ∧ H a = some (.dK kvs) ∧ Q (.int kvs.length) H) (dDict c) dInt (fun xs => (xs.length : Int)) := fun F H v x Q e h k => by
  obtain ⟨l, ks, rfl, hl, hk⟩ := h
  exact ⟨l, ks, rfl, e l _ hl, by rw [Paired.length hk]; exact k _ F H (Pext.refl e) rfl⟩
theorem pairs_of {F H : Hp} (e : Ex F H) : ∀ {vs : List V} {xs : List (Int × c.α)}, PV (dP2 dInt c) F vs xs → ∃ (ps : List Addr) (kvs : List (Key × V)), vs = ps.map V.ref ∧ Paired (fun p kv => SqT K H p [kV kv.1, kv.2]) ps kvs ∧ KVR c F kvs xs
  | _, _, .nil => ⟨[], [], rfl, .nil, .nil⟩
  | _, _, .cons r t => by
    obtain ⟨ps, kvs, h1, h2, h3⟩ := pairs_of e t
    obtain ⟨l, u, w, rfl, hl, r1, r2⟩ := r
    have r1 : u = V.int _ := r1
    subst r1
    exact ⟨l :: ps, (.inl _, w) :: kvs, by rw [h1]; rfl, .cons (SqT.of (e l _ hl)) h2, .cons ⟨rfl, r2⟩ h3⟩
theorem o_dict {c : DCod} : Op1b (fun xs H Q => ∃ (a : Addr) (ps : List Addr) (kvs : List (Key × V)), xs = [.ref a] ∧ SqL K H a (ps.map V.ref) ∧ Paired (fun p kv => SqT K H p [kV kv.1, kv.2]) ps kvs ∧
    ∀ p, H p = none → Q (.ref p) (upd H p (.dK (mergeK [] kvs)))) (dLst (dP2 dInt c)) (dDict c) (fun xs => dmerge [] xs) := fun F H v x Q e h k => by
  obtain ⟨l, vs, rfl, hl, pv, hz⟩ := h
  obtain ⟨ps, kvs, h1, h2, h3⟩ := pairs_of (K := K) e pv
  exact ⟨l, ps, kvs, rfl, h1 ▸ SqL.of (e l _ hl), h2, fun q hq => k _ _ _ (Pext.one e hq) ⟨q, _, rfl, upd_same, (KVR.merge h3 .nil).ext (Ex.new (none_of e hq))⟩⟩
/-! ### tests, chains -/
theorem et_truL {T : (R : Type) → (List c.α → Env Γ → Res R) → Env Γ → Res R} (h : EvE p E XC Γ te (dLst c) T) : EvT p E XC Γ (fun σ H Q => te σ H fun x H' => ∃ k, TruV K x H' k ∧ Q k H') (fun R k ρ => T R (fun x ρ => k (!x.isEmpty) ρ) ρ) := fun B σ F H ρ I R G hG k Q g q =>
  h B σ F H ρ I R G hG _ _ g fun x ρ1 v F1 H1 I1 e1 r1 g1 => by
    obtain ⟨l, vs, rfl, hl, pv, hz⟩ := r1
    refine ⟨_, .inl ⟨vs, SqL.of (I1.fh l _ hl), rfl⟩, ?_⟩
    have : (!vs.isEmpty) = !x.isEmpty := by cases pv <;> rfl
    rw [this]
    exact q _ ρ1 F1 H1 I1 e1 g1
theorem ev_chain {r r' : R2} {f : a.α → b.α → Bool} {g' : b.α → c.α → Bool} {Ta : (R : Type) → (a.α → Env Γ → Res R) → Env Γ → Res R} {Tb : (R : Type) → (b.α → Env Γ → Res R) → Env Γ → Res R} {Tc : (R : Type) → (c.α → Env Γ → Res R) → Env Γ → Res R}
    (o : Op2 r a b dBl f) (o' : Op2 r' b c dBl g') (ha : EvE p E XC Γ ta a Ta) (hb : EvE p E XC Γ tb b Tb) (hc : EvE p E XC Γ tc c Tc) :
    EvE p E XC Γ (tChain r r' ta tb tc) dBl (fun R k ρ => Ta R (fun x ρ => Tb R (fun y ρ => if f x y = true then Tc R (fun z ρ => k (g' y z) ρ) ρ else k false ρ) ρ) ρ) := fun B σ F H ρ I R G hG k Q g q =>
  ha B σ F H ρ I R G hG _ _ g fun x ρ1 v F1 H1 I1 e1 r1 g1 => hb B σ F1 H1 ρ1 I1 R G hG _ _ g1 fun y ρ2 w F2 H2 I2 e2 r2 g2 =>
    o F2 H2 v w x y _ I2.fh (a.ext r1 e2.1) r2 fun u F3 H3 pp r3 => by
      refine ⟨f x y, r3, ?_⟩
      cases hf : f x y with
      | false =>
        rw [if_neg (by decide)]
        rw [hf, if_neg (by decide)] at g2
        exact q _ ρ2 _ F3 H3 (I2.pext pp) ((e1.trans e2).pext pp) rfl g2
      | true =>
        rw [if_pos rfl]
        rw [hf, if_pos rfl] at g2
        exact hc B σ F3 H3 ρ2 (I2.pext pp) R G hG _ _ g2 fun z ρ4 u4 F4 H4 I4 e4 r4 g4 =>
          o' F4 H4 w u4 y z Q I4.fh (b.ext r2 (pp.ff.trans e4.1)) r4 fun u5 F5 H5 p5 r5 => q _ ρ4 u5 F5 H5 (I4.pext p5) (((((e1.trans e2).pext pp)).trans e4).pext p5) r5 g4
/-! ### iteration -/
theorem pi_eith {X : Cx} {tgt l : Expr} {t u : TI} (h1 : PI X tgt l t) (h2 : PI X tgt l u) : PI X tgt l (iEith t u) := ⟨fun pins s σ H R I h => h.elim (h1.run pins s σ H R I) (h2.run pins s σ H R I)⟩
theorem walk_enumT {a : Addr} {xs : List V} : Walk (IteT K a) xs.length (fun H => SqT K H a xs) (YPair (fun i => some (.int (i : Nat))) (fun i => xs[i]?)) := by
  refine ⟨fun i _ hi q => ⟨xs, xs[i], q, by simp [hi]⟩, fun _ q => ⟨xs, q, Nat.le_refl _⟩, fun i H v H' _ q y => ?_⟩
  obtain ⟨T, x, h1, h2, h3, h4⟩ := y
  exact ⟨T, .int (i : Nat), x, h1, h2, h3, rfl, h4 xs q⟩
theorem ei_enumT {T : (R : Type) → (DEnv [dTup c] → Env Γ → Res R) → Env Γ → Res R} (h : EvA p E XC Γ tA [dTup c] T) : EvI p E XC Γ (iEnumT K tA) (dP2 dInt c) (fun R k ρ => T R (fun x ρ => k (enumL x.1) ρ) ρ) := fun B σ F H ρ I R G hG k Q g qq =>
  h B σ F H ρ I R G hG _ _ g fun x ρ' vs F' H' I' e r g' => by
    obtain ⟨v, vs', rfl, r1, r2⟩ := r
    have r2 : vs' = [] := r2
    obtain ⟨xs, u⟩ := x
    obtain ⟨a, ws, rfl, g2, g3, g4⟩ := r1
    subst r2
    exact ⟨a, ws, rfl, SqT.rd I'.fh g2, qq _ ρ' _ F' H' I' e (walks_enum (a := a) walk_enumT (fun H2 e2 => SqT.rd e2 g2) g3) g' (by rw [enumL_len]; exact g4)⟩
end
end Pu
set_option Elab.async false
set_option linter.all false
set_option maxRecDepth 100000
set_option maxHeartbeats 4000000
namespace Pu
open PySem PySem.Spec PyProof.Rows L2 Evl
section
variable {X : Cx}
/-- a list's item by values -/
theorem pget_list : PGet X (rIxL X.K) := by
  intro pins s σ H x y v u Q I rx ry h
  obtain ⟨p, xs, i, z, rfl, rfl, hq, he, q⟩ := h
  cases rx
  obtain ⟨t, rfl⟩ := ry
  obtain ⟨its, r, pl, hz⟩ := I.list hq
  obtain ⟨j, h1, h2, h3, h4, h5⟩ := atI_get he
  obtain ⟨w, ew, rw'⟩ := r.get h2
  have hl := r.length
  have hn := line63
  have fin : EP X pins σ Q w s := ⟨z, H, I, rw', q⟩
  by_cases h0 : 0 ≤ i
  · have hj : i.toNat = j := by
      rw [seqIndex_of h0 h5] at h1
      exact Option.some.inj h1
    exact wpAny_getItem_list pl.isList h0 (by omega) (by rw [hj]; simpa using ew) fin
  · have hj : (i + (its.toArray.size : Int)).toNat = j := by
      rw [seqIndex_neg (by omega) h4] at h1
      rw [List.size_toArray, ← hl]
      exact Option.some.inj h1
    exact wpAny_getItem_list_neg pl.isList (by omega) (by rw [List.size_toArray] <;> omega) (by omega) (by rw [hj]; simpa using ew) fin
end
/-! ### fields of things that may change -/
def fIx : List Str → Str → Option Nat
  | [], _ => none
  | n :: ns, f => if (f == n) = true then some 0 else (fIx ns f).map (· + 1)
theorem fIx_look {f : Str} {v : V} : ∀ {names : List Str} {vs : List V} {j : Nat}, fIx names f = some j → vs[j]? = some v → (names.zip vs).lookup f = some v
  | [], _, _, h, _ => nomatch h
  | n :: ns, [], _, _, hv => by simp at hv
  | n :: ns, w :: ws, j, h, hv => by
    unfold fIx at h
    rw [List.zip_cons_cons, List.lookup]
    by_cases e : (f == n) = true
    · rw [if_pos e] at h
      cases h
      rw [e]
      simpa using hv
    · rw [if_neg e] at h
      have e2 : (f == n) = false := by simpa using e
      rw [e2]
      cases h2 : fIx ns f with
      | none => rw [h2] at h; cases h
      | some i =>
        rw [h2] at h
        cases h
        exact fIx_look h2 (by simpa using hv)
section
variable {p : Bool} {E : XK} {XC : Str → Value} {Rt : Ret} {K : PySem.W.Frag} {Γ Γ' Γ0 Γ1 Γ2 ΓL Γf : List Sl} {te ta tb tc : TE} {tt tu : TT} {tA : TA} {ti : TI} {tg : TG} {a b c d : DCod} {m : Cod} {cs : List DCod} {ts us : TS} {C : Addr} {names : List Str} {i j : Nat} {k : Kd} {f : Str}
theorem map_some_get {vs : List V} {j : Nat} {v : V} (h : (vs.map some)[j]? = some (some v)) : vs[j]? = some v := by
  rw [List.getElem?_map] at h
  cases e : vs[j]? with
  | none => rw [e] at h; cases h
  | some w => rw [e] at h; cases h; rfl
theorem ev_fldM (at_ : At Γ i (.m k (mObj C names Γf))) (atf : At Γf j (.da c)) (hn : fIx names f = some j) (hc : Cls K C) (hna : NoAttr K C f) : EvE p E XC Γ (tFld K (tVar i) f) c (fun R kk ρ => kk (atf.get (at_.get ρ)) ρ) := fun B σ F H ρ I R G hG kk Q g q => by
  obtain ⟨v, fp, h1, _, hr, _⟩ := I.mut at_
  obtain ⟨l, dx, vs, fp', rfl, hl, rfl, hv, hs⟩ := hr
  obtain ⟨u, hu, ru⟩ := hs.data atf
  exact ⟨_, h1, l, C, dx, _, u, rfl, hl, hc, hna, fIx_look hn (map_some_get hu), q _ ρ u F H I (Gt.refl I.fh) ru g⟩
/-- a field that is a list, one thing in it changed -/
theorem fld_step {B : Base} {σ : L2.St} {F H : Hp} {ρ : Env Γ} (hk : k ≠ .co) (I : SInv B Γ σ F H ρ) (at_ : At Γ i (.m k (mObj C names Γf))) (atf : At Γf j (.m .lo (mLst c))) (hn : fIx names f = some j) :
    ∃ q dx fs l vs, σ[i]? = some (some (.ref q)) ∧ H q = some (.ins C dx fs) ∧ fs.lookup f = some (.ref l) ∧ H l = some (.lst vs) ∧ PV c F vs (atf.get (at_.get ρ)) ∧ List.length (α := c.α) (atf.get (at_.get ρ)) ≤ sizeLine ∧
      ∀ vs' xs', PV c F vs' xs' → xs'.length ≤ sizeLine → SInv B Γ σ F (upd H l (.lst vs')) (at_.put ρ (atf.put (at_.get ρ) xs')) := by
  obtain ⟨v, fp, h1, _, hr, nd, hfp, hst⟩ := I.mut at_
  obtain ⟨q, dx, vs0, fp', rfl, hq, rfl, hv, hs⟩ := hr
  obtain ⟨u, fpl, L1, L2, g1, _, g3, g4, g5⟩ := hs.mut atf
  obtain ⟨l, vs, rfl, rfl, hl, pv, hz⟩ := g4
  have efp : fp' = L1.map (·.2) ++ [l] ++ L2.map (·.2) := by
    have := congrArg (List.map (·.2)) g3
    rw [tag_map] at this
    rw [this, List.map_append, List.map_append, tag_map]
  have hlm : l ∈ fp' := by rw [efp]; simp
  have hlq : l ≠ q := fun e => (List.nodup_cons.mp nd).1 (e ▸ hlm)
  have kinds : ∀ x, x ∈ L1 ++ [(Kd.lo, l)] ++ L2 → x.1 = .lo := fun x hx => by
    have : x ∈ tag .lo fp' := by rw [g3]; exact hx
    obtain ⟨kk, aa⟩ := x
    exact (mem_tag.mp this).1
  refine ⟨q, dx, _, l, vs, h1, hq, fIx_look hn (map_some_get g1), hl, pv, hz, fun vs' xs' pv' hz' => hst hk F _ (q :: fp') _ ⟨Ex.refl _, fun a o ha => ?_, fun a o ha hm => ?_, fun a o ha => ?_, fun a o ha => .inl ha, nd, fun a ha => ?_⟩ ⟨q, dx, vs0, fp', rfl, by rw [upd_ne (Ne.symm hlq)]; exact hq, rfl, hv, ?_⟩⟩
  · rw [upd_ne (ne_of_none ha (hfp l (List.mem_cons_of_mem _ hlm)).1)]; exact I.fh a o ha
  · rw [upd_ne (fun e => hm (by rw [e]; exact List.mem_cons_of_mem _ hlm))]; exact ha
  · by_cases he : a = l
    · subst he; exact ⟨_, upd_same⟩
    · exact ⟨o, by rw [upd_ne he]; exact ha⟩
  · obtain ⟨z1, ⟨o, z2⟩, _⟩ := hfp a ha
    refine ⟨.inl ha, z1, ?_⟩
    by_cases he : a = l
    · subst he; exact ⟨_, upd_same⟩
    · exact ⟨o, by rw [upd_ne he]; exact z2⟩
  · have w := g5 F (upd H l (.lst vs')) [l] xs' (Ex.refl _) (fun kk a ha => upd_ne fun e => ?_) ⟨l, vs', rfl, rfl, upd_same, pv', hz'⟩
    · rw [← g3] at w; exact w
    · subst e
      have nd2 := (List.nodup_cons.mp nd).2
      rw [efp] at nd2
      have n1 := List.nodup_append.mp nd2
      rcases List.mem_append.mp ha with z | z
      · exact (List.nodup_append.mp n1.1).2.2 a (List.mem_map.mpr ⟨_, z, rfl⟩) a (by simp) rfl
      · exact n1.2.2 a (by simp) a (List.mem_map.mpr ⟨_, z, rfl⟩) rfl
theorem fld_again {B : Base} {σ : L2.St} {F H : Hp} {ρ : Env Γ} (hk : k ≠ .co) (I : SInv B Γ σ F H ρ) (at_ : At Γ i (.m k (mObj C names Γf))) (atf : At Γf j (.m .lo (mLst c))) (hn : fIx names f = some j) {q dx l : Addr} {fs : List (Str × V)}
    (h1 : σ[i]? = some (some (.ref q))) (hq : H q = some (.ins C dx fs)) (hf : fs.lookup f = some (.ref l)) : ∃ vs, H l = some (.lst vs) ∧ PV c F vs (atf.get (at_.get ρ)) ∧ List.length (α := c.α) (atf.get (at_.get ρ)) ≤ sizeLine ∧
      ∀ vs' xs', PV c F vs' xs' → xs'.length ≤ sizeLine → SInv B Γ σ F (upd H l (.lst vs')) (at_.put ρ (atf.put (at_.get ρ) xs')) := by
  obtain ⟨q2, dx2, fs2, l2, vs, g1, g2, g3, g4⟩ := fld_step hk I at_ atf hn
  rw [h1] at g1
  cases g1
  rw [hq] at g2
  cases g2
  rw [hf] at g3
  cases g3
  exact ⟨vs, g4⟩
/-- self.f[i] = e -/
theorem st_setIxF (hk : k ≠ .co) (at_ : At Γ i (.m k (mObj C names Γf))) (atf : At Γf j (.m .lo (mLst c))) (hn : fIx names f = some j) (hc : Cls K C) (hna : NoAttr K C f) {T : (R : Type) → (c.α → Env Γ → Res R) → Env Γ → Res R} {Ti : (R : Type) → (Int → Env Γ → Res R) → Env Γ → Res R} (h : EvE p E XC Γ te c T) (hi : EvE true E XC Γ tb dInt Ti) :
    StE E XC Rt Γ (tAsg te (gSub (tFld K (tVar i) f) tb rSetL)) Γ ΓL (fun R nx rt bk ct ρ => T R (fun x ρ => Ti R (fun n ρ => opt (setL (atf.get (at_.get ρ)) n x) fun xs => nx (at_.put ρ (atf.put (at_.get ρ) xs))) ρ) ρ) := fun B σ F H ρ I R G hG nx rt bk ct D g qn qr qb qc =>
  h B σ F H ρ I R G hG _ _ g fun x ρ1 u F1 H1 I1 e1 r1 g1 => by
    obtain ⟨q0, dx0, fs0, l0, vs0, h1, hq, hf, _⟩ := fld_step hk I1 at_ atf hn
    refine ⟨.ref q0, h1, q0, C, dx0, fs0, .ref l0, rfl, hq, hc, hna, hf, hi B σ F1 H1 ρ1 I1 R G hG _ _ g1 fun n ρ2 w F2 H2 I2 e2 r2 g2 => ?_⟩
    obtain ⟨_, pe⟩ := e2.2 rfl
    obtain ⟨vs, hl, pv, hz, hs⟩ := fld_again hk I2 at_ atf hn h1 (pe.hh q0 _ hq) hf
    have g2 : G (opt (match ixN (List.length (α := c.α) (atf.get (at_.get ρ2))) n with
      | some j => some (List.set (atf.get (at_.get ρ2)) j x)
      | none => none) fun xs => nx (at_.put ρ2 (atf.put (at_.get ρ2) xs))) := g2
    rw [← pv.length] at g2
    cases hj : ixN vs.length n with
    | none => rw [hj] at g2; exact absurd g2 hG.1
    | some y =>
      rw [hj] at g2
      exact ⟨l0, vs, n, y, rfl, r2, hl, hj, qn _ σ F2 _ (hs _ _ (pv.set (c.ext r1 e2.1) y) (Nat.le_trans (Nat.le_of_eq (List.length_set (α := c.α))) hz)) (e1.1.trans e2.1) g2⟩
/-- self.f.append(e) -/
theorem st_appF (hk : k ≠ .co) (at_ : At Γ i (.m k (mObj C names Γf))) (atf : At Γf j (.m .lo (mLst c))) (hn : fIx names f = some j) (hc : Cls K C) (hna : NoAttr K C f) {T : (R : Type) → (c.α → Env Γ → Res R) → Env Γ → Res R} (h : EvE true E XC Γ te c T) :
    StE E XC Rt Γ (tDrop (tBM K "list" rAppend (tFld K (tVar i) f) (tCons te tNil))) Γ ΓL (fun R nx rt bk ct ρ => T R (fun x ρ => chk (decide (List.length (α := c.α) (atf.get (at_.get ρ)) < 16777216)) (nx (at_.put ρ (atf.put (at_.get ρ) (app1 (α := c.α) (atf.get (at_.get ρ)) x))))) ρ) := fun B σ F H ρ I R G hG nx rt bk ct D g qn qr qb qc => by
  obtain ⟨q0, dx0, fs0, l0, vs0, h1, hq, hf, hl0, _⟩ := fld_step hk I at_ atf hn
  refine ⟨.ref q0, h1, q0, C, dx0, fs0, .ref l0, rfl, hq, hc, hna, hf, .inl ⟨rfl, vs0, SqL.of hl0⟩, h B σ F H ρ I R G hG _ _ g fun x ρ1 u F1 H1 I1 e1 r1 g1 => ?_⟩
  obtain ⟨_, pe⟩ := e1.2 rfl
  obtain ⟨vs, hl, pv, hz, hs⟩ := fld_again hk I1 at_ atf hn h1 (pe.hh q0 _ hq) hf
  by_cases hx : List.length (α := c.α) (atf.get (at_.get ρ1)) < 16777216
  · rw [decide_eq_true hx] at g1
    have hsz := sizeLine_eq
    have hpl := pv.length
    exact ⟨l0, vs, u, rfl, rfl, hl, by omega, qn _ σ F1 _ (hs (vs ++ [u]) (app1 (α := c.α) (atf.get (at_.get ρ1)) x) (pv.append (.cons r1 .nil)) (Nat.le_trans (Nat.le_of_eq (app1_len (α := c.α) (atf.get (at_.get ρ1)) x)) (by omega))) e1.1 g1⟩
  · rw [decide_eq_false hx] at g1
    exact absurd g1 hG.1
/-- self.f[i] += e, whole numbers -/
theorem st_augIxF {o : Int → Int → Int} (hk : k ≠ .co) (at_ : At Γ i (.m k (mObj C names Γf))) (atf : At Γf j (.m .lo (mLst dInt))) (hn : fIx names f = some j) (hc : Cls K C) (hna : NoAttr K C f) {Ti T : (R : Type) → (Int → Env Γ → Res R) → Env Γ → Res R} (hi : EvE true E XC Γ tb dInt Ti) (h : EvE true E XC Γ te dInt T) :
    StE E XC Rt Γ (tAugS (tFld K (tVar i) f) tb te (rIxL K) (ipI o) rSetL) Γ ΓL (fun R nx rt bk ct ρ => Ti R (fun n ρ => opt (L2.atI (α := Int) (atf.get (at_.get ρ)) n) fun y => T R (fun x ρ => opt (setL (α := Int) (atf.get (at_.get ρ)) n (o y x)) fun xs => nx (at_.put ρ (atf.put (at_.get ρ) xs))) ρ) ρ) := fun B σ F H ρ I R G hG nx rt bk ct D g qn qr qb qc => by
  obtain ⟨q0, dx0, fs0, l0, vs0, h1, hq, hf, _⟩ := fld_step hk I at_ atf hn
  refine ⟨.ref q0, h1, q0, C, dx0, fs0, .ref l0, rfl, hq, hc, hna, hf, hi B σ F H ρ I R G hG _ _ g fun n ρ1 w F1 H1 I1 e1 r1 g1 => ?_⟩
  obtain ⟨_, pe⟩ := e1.2 rfl
  obtain ⟨vs, hl, pv, hz, hs⟩ := fld_again hk I1 at_ atf hn h1 (pe.hh q0 _ hq) hf
  have g1 : G (opt (L2.atI (α := Int) (atf.get (at_.get ρ1)) n) fun y => T R (fun x ρ => opt (setL (α := Int) (atf.get (at_.get ρ)) n (o y x)) fun xs => nx (at_.put ρ (atf.put (at_.get ρ) xs))) ρ1) := g1
  cases hy : L2.atI (α := Int) (atf.get (at_.get ρ1)) n with
  | none => rw [hy] at g1; exact absurd g1 hG.1
  | some y =>
    rw [hy] at g1
    obtain ⟨vy, hvy, ry⟩ := pv.atI hy
    refine ⟨l0, vs, n, vy, rfl, r1, SqL.of hl, hvy, h B σ F1 H1 ρ1 I1 R G hG _ _ g1 fun x ρ2 u F2 H2 I2 e2 r2 g2 => ?_⟩
    obtain ⟨_, pe2⟩ := e2.2 rfl
    obtain ⟨vs2, hl2, pv2, hz2, hs2⟩ := fld_again hk I2 at_ atf hn h1 (pe2.hh q0 _ (pe.hh q0 _ hq)) hf
    refine ⟨y, x, ry, r2, ?_⟩
    have g2 : G (opt (match ixN (List.length (α := Int) (atf.get (at_.get ρ2))) n with
      | some j => some (List.set (α := Int) (atf.get (at_.get ρ2)) j (o y x))
      | none => none) fun xs => nx (at_.put ρ2 (atf.put (at_.get ρ2) xs))) := g2
    rw [← pv2.length] at g2
    cases hj : ixN vs2.length n with
    | none => rw [hj] at g2; exact absurd g2 hG.1
    | some m =>
      rw [hj] at g2
      exact ⟨l0, vs2, n, m, rfl, r1, hl2, hj, qn _ σ F2 _ (hs2 _ _ (PV.set (c := dInt) (x := o y x) (v := V.int (o y x)) rfl m pv2) (Nat.le_trans (Nat.le_of_eq (List.length_set (α := Int))) hz2)) (e1.1.trans e2.1) g2⟩
/-- a method that changes the thing in a slot -/
theorem ev_methM {nm : Str} {fn : Env Γf → DEnv cs → Res (c.α × Env Γf)} (hk : k ≠ .co) (hn : names.contains nm = false) (at_ : At Γ i (.m k (mObj C names Γf))) {TA : (R : Type) → (DEnv cs → Env Γ → Res R) → Env Γ → Res R} (h : EvA true E XC Γ tA cs TA) :
    EvE false E XC Γ (tMeth C nm (spM XC (mObj C names Γf) cs c fn) [] E (tVar i) tA) c (fun R kk ρ => TA R (fun x ρ => (fn (at_.get ρ) x).bind fun z => kk z.1 (at_.put ρ z.2)) ρ) := fun B σ F H ρ I R G hG kk Q g q => by
  obtain ⟨v, fp0, h1, _, hr0, _⟩ := I.mut at_
  obtain ⟨q0, dx0, vs0, fp0', rfl, hq0, _⟩ := hr0
  refine ⟨_, h1, q0, dx0, _, rfl, hq0, zip_no hn _, h B σ F H ρ I R G hG _ _ g fun x ρ1 vs F1 H1 I1 e1 r1 g1 => ?_⟩
  obtain ⟨v', fp, h2, _, hr, nd, hfp, hst⟩ := I1.mut at_
  rw [h1] at h2
  cases h2
  refine ⟨F1, fp, .ref q0, vs ++ [], at_.get ρ1, x, rfl, I1.fh, hr, nd, fun a ha => ⟨(hfp a ha).1, (hfp a ha).2.1⟩, r1.app, fun e => ?_, fun z y' e u F' H' fp' st r' ru => ?_, fun n e H' eh => ?_⟩
  · rw [e] at g1; exact hG.1 g1
  · rw [e] at g1
    exact q z _ u F' H' (hst hk F' H' fp' y' st r') ⟨e1.1.trans st.ff, fun z => nomatch z⟩ ru g1
  · rw [e] at g1
    refine hG.2 n H' g1 fun a o ha hm hn2 => ?_
    have hk1 : H1 a = some o := I1.frm a o ha hm hn2
    refine eh a o hk1 fun hf => ?_
    obtain ⟨_, _, hp, hl⟩ := hfp a hf
    cases k with
    | pa => rcases hp rfl with z | z
            · exact hm z
            · rw [ha] at z; cases z
    | lo => rcases hl rfl with z | z
            · exact hn2 z
            · rw [ha] at z; cases z
    | co => exact hk rfl
/-- a method of a thing just made, that is handed on to nobody -/
theorem ev_methN {nm : Str} {fn : Env Γf → DEnv [] → Res (c.α × Env Γf)} (hn : names.contains nm = false) {To : (R : Type) → (Env Γf → Env Γ → Res R) → Env Γ → Res R} (h : EvN false E XC Γ te (mObj C names Γf) To) :
    EvE false E XC Γ (tMeth C nm (spM XC (mObj C names Γf) [] c fn) [] E te tNil) c (fun R kk ρ => To R (fun o ρ => (fn o ()).bind fun z => kk z.1 ρ) ρ) := fun B σ F H ρ I R G hG kk Q g q =>
  h B σ F H ρ I R G hG _ _ g fun o ρ1 v fp F0 H0 F1 H1 I0 e1 pp nw r1 g1 => by
    obtain ⟨q0, dx0, vs0, fp', rfl, hq0, hfp, hv, hs⟩ := id r1
    refine ⟨q0, dx0, _, rfl, hq0, zip_no hn _, F1, fp, .ref q0, [], o, (), rfl, pp.fh, r1, nw.nd, fun a ha => (nw.at_ a ha).2, rfl, fun e => ?_, fun z y' e u F' H' fp2 st r' ru => ?_, fun n e H' eh => ?_⟩
    · rw [e] at g1; exact hG.1 g1
    · rw [e] at g1
      have p2 : Pext F0 F' H0 H' := ⟨fun a o ha => st.keep a o (pp.hh a o ha) fun hm => (by rw [(nw.at_ a hm).1] at ha; cases ha), pp.ff.trans st.ff, st.fh, fun a o ha => by
        rcases st.new a o ha with z | z
        · exact pp.new a o z
        · exact .inr (none_of pp.hh z)⟩
      exact q z ρ1 u F' H' (I0.pext p2) ⟨e1.1.trans p2.ff, fun z => nomatch z⟩ ru g1
    · rw [e] at g1
      refine hG.2 n H' g1 (I0.frm.ex fun a o ha => eh a o (pp.hh a o ha) fun hm => ?_)
      rw [(nw.at_ a hm).1] at ha; cases ha
end
end Pu
set_option Elab.async false
set_option linter.all false
set_option maxRecDepth 100000
set_option maxHeartbeats 4000000
namespace Pu
open PySem L2 Evl
section
variable {p : Bool} {E : XK} {XC : Str → Value} {Rt : Ret} {K : PySem.W.Frag} {Γ Γ' Γ0 Γ1 Γ2 ΓL Γf : List Sl} {te ta tb tc : TE} {tt tu : TT} {tA : TA} {ti : TI} {tg : TG} {a b c d : DCod} {m m2 : Cod} {cs : List DCod} {ts us : TS} {C : Addr} {names : List Str} {i j : Nat} {k : Kd} {f : Str}
/-! ### tuple(x) -/
theorem und_tun {c : DCod} (u : Und c) : Und (dTuN c) := fun F fp v x k h => by
  obtain ⟨a, vs, ob, h1, h2, h3, h4, h5, h6⟩ := h
  refine ⟨a, vs, ob, h1, ?_, h3, h4, h5.mono fun v x r => u F fp v x k r, h6⟩
  unfold thaw
  rw [if_neg fun ha => k a ha _ h2]; exact h2
theorem o_tupNL {c : DCod} : Op1 (kTupN K) (dLst c) (dTuN c) (fun xs => xs) := fun F H v x Q e h k => by
  obtain ⟨a, vs, rfl, g2, g3, g4⟩ := h
  exact .inl ⟨a, vs, rfl, SqL.of (e a _ g2), fun q ob hd hc hq => k _ _ _ (Pext.one e hq) ⟨q, vs, ob, rfl, upd_same, hd, hc, g3.ext (Ex.new (none_of e hq)), g4⟩⟩
theorem o_tupNN {c : DCod} : Op1 (kTupN K) (dTuN c) (dTuN c) (fun xs => xs) := fun F H v x Q e h k => by
  obtain ⟨a, vs, ob, rfl, g2, g3, g4, g5, g6⟩ := id h
  exact .inr ⟨a, vs, rfl, SqT.rd e (.inr ⟨ob, g2⟩), k _ F H (Pext.refl e) h⟩
theorem o_tupNT {c : DCod} : Op1 (kTupN K) (dTup c) (dTup c) (fun xs => xs) := fun F H v x Q e h k => by
  obtain ⟨a, vs, rfl, g2, g3, g4⟩ := id h
  exact .inr ⟨a, vs, rfl, SqT.rd e g2, k _ F H (Pext.refl e) h⟩
theorem o_tupNS {c : DCod} : Op1 (kTupN K) (dSeq c) (dTup c) (fun xs => xs) := fun F H v x Q e h k => by
  obtain ⟨a, vs, rfl, g2, g3, g4⟩ := h
  rcases g2 with g2 | g2
  · exact .inl ⟨a, vs, rfl, SqL.of (e a _ g2), fun q ob hd hc hq => k _ _ _ (Pext.one e hq) ⟨q, vs, rfl, .inr ⟨ob, upd_same⟩, g3.ext (Ex.new (none_of e hq)), g4⟩⟩
  · exact .inr ⟨a, vs, rfl, SqT.rd e g2, k _ F H (Pext.refl e) ⟨a, vs, rfl, g2, g3, g4⟩⟩
theorem ev_tupNM (at_ : At Γ i (.m k (mLst c))) : EvE p E XC Γ (tThen (tVar i) (kTupN K)) (dTuN c) (fun R kk ρ => kk (at_.get ρ) ρ) := fun B σ F H ρ I R G hG kk Q g qq => by
  obtain ⟨v, fp, h1, _, hr, _⟩ := I.mut at_
  obtain ⟨l, vs, rfl, rfl, hl, pv, hz⟩ := hr
  exact ⟨_, h1, .inl ⟨l, vs, rfl, SqL.of hl, fun q ob hd hc hq => qq _ ρ _ _ _ (I.pext (Pext.one I.fh hq)) ((Gt.refl I.fh).pext (Pext.one I.fh hq)) ⟨q, vs, ob, rfl, upd_same, hd, hc, pv.ext (Ex.new (none_of I.fh hq)), hz⟩ g⟩⟩
/-! ### t.index(x), t.count(x) -/
def indexL {α : Type} (d : DecidableEq α) : List α → α → Option Int
  | [], _ => none
  | y :: ys, x => if (@decide (y = x) (d y x)) = true then some 0 else (indexL d ys x).map (· + 1)
theorem indexL_get {F : Hp} (q : Fl c) {w : V} {x : c.α} (rw_ : c.rel F w x) : ∀ {vs : List V} {xs : List c.α} {n : Int}, PV c F vs xs → indexL q.dec xs x = some n → ∃ (j : Nat) (z : V), n = (j : Int) ∧ vs[j]? = some z ∧ eqV z w = true ∧ ∀ (m : Nat) (z' : V), m < j → vs[m]? = some z' → eqV z' w = false
  | _, _, _, .nil, h => nomatch h
  | _, _, n, .cons (a := v) (b := y) r t, h => by
    unfold indexL at h
    by_cases e : (@decide (y = x) (q.dec y x)) = true
    · rw [if_pos e] at h
      cases h
      exact ⟨0, v, rfl, rfl, by rw [q.eq r rw_]; exact e, fun m z' hm => absurd hm (Nat.not_lt_zero m)⟩
    · rw [if_neg e] at h
      cases h2 : indexL q.dec _ x with
      | none => rw [h2] at h; cases h
      | some n' =>
        rw [h2] at h
        cases h
        obtain ⟨j, z, h3, h4, h5, h6⟩ := indexL_get q rw_ t h2
        refine ⟨j + 1, z, by rw [h3]; rfl, by simpa using h4, h5, fun m z' hm hz => ?_⟩
        cases m with
        | zero =>
          have : v = z' := by simpa using hz
          rw [← this, q.eq r rw_]
          exact Bool.eq_false_iff.mpr e
        | succ m => exact h6 m z' (by omega) (by simpa using hz)
theorem ev_indexT (q : Fl c) {Ta : (R : Type) → (List c.α → Env Γ → Res R) → Env Γ → Res R} {Tb : (R : Type) → (c.α → Env Γ → Res R) → Env Γ → Res R} (ha : EvE p E XC Γ ta (dTuN c) Ta) (hb : EvE p E XC Γ tb c Tb) :
    EvE p E XC Γ (tBT (rIndexT K) ta (tCons tb tNil)) dInt (fun R k ρ => Ta R (fun x ρ => Tb R (fun y ρ => opt (indexL q.dec x y) fun z => k z ρ) ρ) ρ) := fun B σ F H ρ I R G hG k Q g qq =>
  ha B σ F H ρ I R G hG _ _ g fun x ρ1 v F1 H1 I1 e1 r1 g1 => by
    obtain ⟨l, vs, ob, rfl, h2, h3, h4, h5, h6⟩ := r1
    refine ⟨⟨l, ob, vs, rfl, I1.fh l _ h2, h3, h4⟩, hb B σ F1 H1 ρ1 I1 R G hG _ _ g1 fun y ρ2 w F2 H2 I2 e2 r2 g2 => ?_⟩
    cases hn : indexL q.dec x y with
    | none => rw [hn] at g2; exact absurd g2 hG.1
    | some n =>
      rw [hn] at g2
      have pv := h5.ext e2.1
      obtain ⟨j, z, rfl, g3, g4, g5⟩ := indexL_get q r2 pv hn
      exact ⟨l, vs, w, j, z, rfl, rfl, SqT.rd I2.fh (.inr ⟨ob, e2.1 l _ h2⟩), q.flat r2, fl_all q pv, g3, g4, g5, qq _ ρ2 _ F2 H2 I2 (e1.trans e2) rfl g2⟩
def countL {α : Type} (d : DecidableEq α) (xs : List α) (x : α) : Int := ((xs.countP fun y => @decide (y = x) (d y x) : Nat) : Int)
theorem countL_eq {F : Hp} (q : Fl c) {w : V} {x : c.α} (rw_ : c.rel F w x) : ∀ {vs : List V} {xs : List c.α}, PV c F vs xs → (vs.countP fun z => eqV z w) = xs.countP fun y => @decide (y = x) (q.dec y x)
  | _, _, .nil => rfl
  | _, _, .cons r t => by rw [List.countP_cons, List.countP_cons, countL_eq q rw_ t, q.eq r rw_]
theorem ev_countT (q : Fl c) {Ta : (R : Type) → (List c.α → Env Γ → Res R) → Env Γ → Res R} {Tb : (R : Type) → (c.α → Env Γ → Res R) → Env Γ → Res R} (ha : EvE p E XC Γ ta (dTuN c) Ta) (hb : EvE p E XC Γ tb c Tb) :
    EvE p E XC Γ (tBT (rCountT K) ta (tCons tb tNil)) dInt (fun R k ρ => Ta R (fun x ρ => Tb R (fun y ρ => k (countL q.dec x y) ρ) ρ) ρ) := fun B σ F H ρ I R G hG k Q g qq =>
  ha B σ F H ρ I R G hG _ _ g fun x ρ1 v F1 H1 I1 e1 r1 g1 => by
    obtain ⟨l, vs, ob, rfl, h2, h3, h4, h5, h6⟩ := r1
    refine ⟨⟨l, ob, vs, rfl, I1.fh l _ h2, h3, h4⟩, hb B σ F1 H1 ρ1 I1 R G hG _ _ g1 fun y ρ2 w F2 H2 I2 e2 r2 g2 => ?_⟩
    have pv := h5.ext e2.1
    exact ⟨l, vs, w, rfl, rfl, SqT.rd I2.fh (.inr ⟨ob, e2.1 l _ h2⟩), q.flat r2, fl_all q pv, qq _ ρ2 _ F2 H2 I2 (e1.trans e2) (by rw [countL_eq q r2 pv]; rfl) g2⟩
/-! ### items of lists and tuples become options -/
theorem PV.some {F : Hp} : ∀ {vs : List V} {xs : List Int}, PV dInt F vs xs → PV (dOpt dInt) F vs (xs.map some)
  | _, _, .nil => .nil
  | _, _, .cons (a := v) (b := x) r t => .cons ⟨r, fun e => by
    have r : v = V.int x := r
    rw [r] at e; cases e⟩ (PV.some t)
theorem PV.nones {F : Hp} : ∀ {vs : List V} {xs : List Unit}, PV dNon F vs xs → PV (dOpt c) F vs (xs.map fun _ => (none : Option c.α))
  | _, _, .nil => .nil
  | _, _, .cons r t => .cons r (PV.nones t)
theorem sb_someT : Sb (dTup dInt) (dTup (dOpt dInt)) (fun xs => xs.map some) := fun F v x h => by
  obtain ⟨a, vs, h1, h2, h3, h4⟩ := h
  exact ⟨a, vs, h1, h2, h3.some, by rw [List.length_map]; exact h4⟩
theorem sb_someN : Sb (dTuN dInt) (dTuN (dOpt dInt)) (fun xs => xs.map some) := fun F v x h => by
  obtain ⟨a, vs, ob, h1, h2, h3, h4, h5, h6⟩ := h
  exact ⟨a, vs, ob, h1, h2, h3, h4, h5.some, by rw [List.length_map]; exact h6⟩
theorem sb_someL : Sb (dLst dInt) (dLst (dOpt dInt)) (fun xs => xs.map some) := fun F v x h => by
  obtain ⟨a, vs, h1, h2, h3, h4⟩ := h
  exact ⟨a, vs, h1, h2, h3.some, by rw [List.length_map]; exact h4⟩
theorem sb_noneL : Sb (dLst dNon) (dLst (dOpt c)) (fun xs => xs.map fun _ => (none : Option c.α)) := fun F v x h => by
  obtain ⟨a, vs, h1, h2, h3, h4⟩ := h
  exact ⟨a, vs, h1, h2, h3.nones, by rw [List.length_map]; exact h4⟩
theorem en_someI {T : (R : Type) → (List Int → Env Γ → Res R) → Env Γ → Res R} (h : EvN p E XC Γ te (mLst dInt) T) : EvN p E XC Γ te (mLst (dOpt dInt)) (fun R k ρ => T R (fun x ρ => k (x.map some) ρ) ρ) := fun B σ F H ρ I R G hG k Q g q =>
  h B σ F H ρ I R G hG _ Q g fun x ρ' v fp F0 H0 F' H' I0 e pp n r g' => by
    obtain ⟨l, vs, h1, h2, h3, h4, h5⟩ := r
    exact q _ ρ' v fp F0 H0 F' H' I0 e pp n ⟨l, vs, h1, h2, h3, h4.some, by rw [List.length_map]; exact h5⟩ g'
theorem en_someN {T : (R : Type) → (List Unit → Env Γ → Res R) → Env Γ → Res R} (h : EvN p E XC Γ te (mLst dNon) T) : EvN p E XC Γ te (mLst (dOpt c)) (fun R k ρ => T R (fun x ρ => k (x.map fun _ => (none : Option c.α)) ρ) ρ) := fun B σ F H ρ I R G hG k Q g q =>
  h B σ F H ρ I R G hG _ Q g fun x ρ' v fp F0 H0 F' H' I0 e pp n r g' => by
    obtain ⟨l, vs, h1, h2, h3, h4, h5⟩ := r
    exact q _ ρ' v fp F0 H0 F' H' I0 e pp n ⟨l, vs, h1, h2, h3, h4.nones, by rw [List.length_map]; exact h5⟩ g'
/-! ### a, b = e1, e2 -/
theorem st_par2 {s1 s2 : Sl} (u : Up Γ i s1 (.da a) Γ1) (u2 : Up Γ1 j s2 (.da b) Γ') {Ta : (R : Type) → (a.α → Env Γ → Res R) → Env Γ → Res R} {Tb : (R : Type) → (b.α → Env Γ → Res R) → Env Γ → Res R} (ha : EvE p E XC Γ ta a Ta) (hb : EvE p E XC Γ tb b Tb) :
    StE E XC Rt Γ (tPar i j (tCons ta (tCons tb tNil))) Γ' ΓL (fun R nx rt bk ct ρ => Ta R (fun x ρ => Tb R (fun y ρ => nx (u2.set (u.set ρ x) y)) ρ) ρ) := fun B σ F H ρ I R G hG nx rt bk ct D g qn qr qb qc =>
  ha B σ F H ρ I R G hG _ _ g fun x ρ1 v F1 H1 I1 e1 r1 g1 => hb B σ F1 H1 ρ1 I1 R G hG _ _ g1 fun y ρ2 w F2 H2 I2 e2 r2 g2 =>
    ⟨v, w, rfl, qn _ _ F2 H2 ((I2.setD u (a.ext r1 e2.1)).setD u2 r2) (e1.1.trans e2.1) g2⟩
theorem st_par3 {l : Nat} {s1 s2 s3 : Sl} (u : Up Γ i s1 (.da a) Γ1) (u2 : Up Γ1 j s2 (.da b) Γ2) (u3 : Up Γ2 l s3 (.da c) Γ') {Ta : (R : Type) → (a.α → Env Γ → Res R) → Env Γ → Res R} {Tb : (R : Type) → (b.α → Env Γ → Res R) → Env Γ → Res R} {Tc : (R : Type) → (c.α → Env Γ → Res R) → Env Γ → Res R} (ha : EvE p E XC Γ ta a Ta) (hb : EvE p E XC Γ tb b Tb) (hc : EvE p E XC Γ tc c Tc) :
    StE E XC Rt Γ (tPar3 i j l (tCons ta (tCons tb (tCons tc tNil)))) Γ' ΓL (fun R nx rt bk ct ρ => Ta R (fun x ρ => Tb R (fun y ρ => Tc R (fun z ρ => nx (u3.set (u2.set (u.set ρ x) y) z)) ρ) ρ) ρ) := fun B σ F H ρ I R G hG nx rt bk ct D g qn qr qb qc =>
  ha B σ F H ρ I R G hG _ _ g fun x ρ1 v F1 H1 I1 e1 r1 g1 => hb B σ F1 H1 ρ1 I1 R G hG _ _ g1 fun y ρ2 w F2 H2 I2 e2 r2 g2 => hc B σ F2 H2 ρ2 I2 R G hG _ _ g2 fun z ρ3 w3 F3 H3 I3 e3 r3 g3 =>
    ⟨v, w, w3, rfl, qn _ _ F3 H3 (((I3.setD u (a.ext r1 (e2.1.trans e3.1))).setD u2 (b.ext r2 e3.1)).setD u3 r3) ((e1.1.trans e2.1).trans e3.1) g3⟩
theorem New.ext {fp : List Addr} {H0 F H F' H' : Hp} (n : New fp H0 F H) (pp : Pext F F' H H') : New fp H0 F' H' := ⟨n.nd, fun a ha => by
  obtain ⟨h1, h2, o, h3⟩ := n.at_ a ha
  refine ⟨h1, ?_, o, pp.hh a o h3⟩
  cases e : F' a with
  | none => rfl
  | some u =>
    rcases pp.new a u e with z | z
    · rw [h2] at z; cases z
    · rw [h3] at z; cases z⟩
theorem New.later {fp : List Addr} {H0 H1 F H : Hp} (n : New fp H1 F H) (e : Ex H0 H1) : New fp H0 F H := ⟨n.nd, fun a ha => let ⟨h1, h2⟩ := n.at_ a ha; ⟨none_of e h1, h2⟩⟩
theorem st_parNN {s1 s2 : Sl} (u : Up Γ i s1 (.m .lo m) Γ1) (u2 : Up Γ1 j s2 (.m .lo m2) Γ') {Ta : (R : Type) → (m.α → Env Γ → Res R) → Env Γ → Res R} {Tb : (R : Type) → (m2.α → Env Γ → Res R) → Env Γ → Res R} (ha : EvN p E XC Γ ta m Ta) (hb : EvN true E XC Γ tb m2 Tb) :
    StE E XC Rt Γ (tPar i j (tCons ta (tCons tb tNil))) Γ' ΓL (fun R nx rt bk ct ρ => Ta R (fun x ρ => Tb R (fun y ρ => nx (u2.set (u.set ρ x) y)) ρ) ρ) := fun B σ F H ρ I R G hG nx rt bk ct D g qn qr qb qc =>
  ha B σ F H ρ I R G hG _ _ g fun x ρ1 v fp F0 H0 F1 H1 I0 e1 pp n r1 g1 => hb B σ F1 H1 ρ1 (I0.pext pp) R G hG _ _ g1 fun y ρ2 w fp2 F2 H2 F3 H3 I2 e2 pp2 n2 r2 g2 => by
    obtain ⟨er, pe⟩ := e2.2 rfl
    subst er
    have p0 : Pext F0 F2 H0 H2 := pp.trans pe
    have I3 := I0.setM p0 (n.ext pe) u (m.ext r1 pe.ff fun a ha => by
      obtain ⟨_, _, o, h⟩ := n.at_ a ha
      rw [h, pe.hh a o h])
    exact ⟨v, w, rfl, qn _ _ F3 H3 (I3.setM pp2 n2 u2 r2) ((e1.1.trans p0.ff).trans pp2.ff) g2⟩
theorem st_parDN {s1 s2 : Sl} (u : Up Γ i s1 (.da a) Γ1) (u2 : Up Γ1 j s2 (.m .lo m2) Γ') {Ta : (R : Type) → (a.α → Env Γ → Res R) → Env Γ → Res R} {Tb : (R : Type) → (m2.α → Env Γ → Res R) → Env Γ → Res R} (ha : EvE p E XC Γ ta a Ta) (hb : EvN p E XC Γ tb m2 Tb) :
    StE E XC Rt Γ (tPar i j (tCons ta (tCons tb tNil))) Γ' ΓL (fun R nx rt bk ct ρ => Ta R (fun x ρ => Tb R (fun y ρ => nx (u2.set (u.set ρ x) y)) ρ) ρ) := fun B σ F H ρ I R G hG nx rt bk ct D g qn qr qb qc =>
  ha B σ F H ρ I R G hG _ _ g fun x ρ1 v F1 H1 I1 e1 r1 g1 => hb B σ F1 H1 ρ1 I1 R G hG _ _ g1 fun y ρ2 w fp2 F2 H2 F3 H3 I2 e2 pp2 n2 r2 g2 =>
    ⟨v, w, rfl, qn _ _ F3 H3 ((I2.setD u (a.ext r1 e2.1)).setM pp2 n2 u2 r2) ((e1.1.trans e2.1).trans pp2.ff) g2⟩
theorem st_parND {s1 s2 : Sl} (u : Up Γ i s1 (.m .lo m) Γ1) (u2 : Up Γ1 j s2 (.da b) Γ') {Ta : (R : Type) → (m.α → Env Γ → Res R) → Env Γ → Res R} {Tb : (R : Type) → (b.α → Env Γ → Res R) → Env Γ → Res R} (ha : EvN p E XC Γ ta m Ta) (hb : EvE true E XC Γ tb b Tb) :
    StE E XC Rt Γ (tPar i j (tCons ta (tCons tb tNil))) Γ' ΓL (fun R nx rt bk ct ρ => Ta R (fun x ρ => Tb R (fun y ρ => nx (u2.set (u.set ρ x) y)) ρ) ρ) := fun B σ F H ρ I R G hG nx rt bk ct D g qn qr qb qc =>
  ha B σ F H ρ I R G hG _ _ g fun x ρ1 v fp F0 H0 F1 H1 I0 e1 pp n r1 g1 => hb B σ F1 H1 ρ1 (I0.pext pp) R G hG _ _ g1 fun y ρ2 w F2 H2 I2 e2 r2 g2 => by
    obtain ⟨er, pe⟩ := e2.2 rfl
    subst er
    have p0 : Pext F0 F2 H0 H2 := pp.trans pe
    have I3 := I0.setM p0 (n.ext pe) u (m.ext r1 pe.ff fun a ha => by
      obtain ⟨_, _, o, h⟩ := n.at_ a ha
      rw [h, pe.hh a o h])
    exact ⟨v, w, rfl, qn _ _ F2 H2 (I3.setD u2 r2) (e1.1.trans p0.ff) g2⟩
/-- x op= e -/
theorem st_aug {o : Int → Int → Int} (at_ : At Γ i (.da dInt)) (u : Up Γ i (.da dInt) (.da dInt) Γ) {T : (R : Type) → (Int → Env Γ → Res R) → Env Γ → Res R} (h : EvE true E XC Γ te dInt T) :
    StE E XC Rt Γ (tAug i te (ipI o)) Γ ΓL (fun R nx rt bk ct ρ => T R (fun x ρ => nx (u.set ρ (o (at_.get ρ) x))) ρ) := fun B σ F H ρ I R G hG nx rt bk ct D g qn qr qb qc => by
  obtain ⟨v, h1, h2⟩ := I.data at_
  refine ⟨v, h1, h B σ F H ρ I R G hG _ _ g fun x ρ1 w F1 H1 I1 e1 r1 g1 => ?_⟩
  obtain ⟨er, _⟩ := e1.2 rfl
  rw [er] at I1 g1
  exact ⟨at_.get ρ, x, h2, r1, qn _ _ F1 H1 (I1.setD u rfl) e1.1 g1⟩
end
end Pu
set_option Elab.async false
set_option linter.all false
set_option maxRecDepth 100000
set_option maxHeartbeats 4000000
namespace Pu
open PySem L2 Evl
section
variable {J : It} {n : Nat} {G : Hp → Prop} {Y : Nat → Hp → V → Hp → Prop}
theorem dc_it (w : Walk J n G Y) {g : TG} {tt : TT} {tk tv : TE} {vs : List Nat} {σ : St} {H1 : Hp} {D : Addr} {Qd : Hp → Prop} (Pv : Nat → Hp → Prop) (h0 : Pv 0 (upd H1 D (.dK []))) (hG : ∀ i H, i ≤ n → Pv i H → G H)
    (hs : ∀ i x H H', i < n → Pv i H → Y i H x H' → g x (wipe σ vs) H' fun σ2 H2 => wipe σ2 vs = wipe σ vs ∧ tt σ2 H2 fun b H3 =>
      if b = true then tk σ2 H3 fun y H4 => tv σ2 H4 fun z H5 => ∃ kvs k, y = kV k ∧ H5 D = some (.dK kvs) ∧ kvs.length < sizeLine ∧ Pv (i + 1) (upd H5 D (.dK (putK kvs k z))) else Pv (i + 1) H3) (hd : ∀ H, Pv n H → Qd H) :
    ∃ W : Nat → Nat → Hp → Prop, (∃ m, W 0 m (upd H1 D (.dK []))) ∧ ∀ i m H, W i m H →
      (J.stop i H ∧ Qd H) ∨ (J.go i H ∧ ∃ Nx : Hp → Prop, (∀ H', Nx H' → ∃ m', m' < m ∧ W (i + 1) m' H') ∧ ∀ x H', J.yld i H x H' → g x (wipe σ vs) H' fun σ2 H2 => wipe σ2 vs = wipe σ vs ∧ tt σ2 H2 fun b H3 =>
        if b = true then tk σ2 H3 fun y H4 => tv σ2 H4 fun z H5 => ∃ kvs k, y = kV k ∧ H5 D = some (.dK kvs) ∧ kvs.length < sizeLine ∧ Nx (upd H5 D (.dK (putK kvs k z))) else Nx H3) := by
  refine ⟨fun i m H => m = n - i ∧ i ≤ n ∧ Pv i H, ⟨n, by simp, Nat.zero_le _, h0⟩, ?_⟩
  rintro i m H ⟨rfl, hi, p⟩
  have q := hG i H hi p
  by_cases hlt : i < n
  · refine .inr ⟨w.goes i H hlt q, Pv (i + 1), fun H' p' => ⟨n - (i + 1), by omega, rfl, hlt, p'⟩, fun x H' y => hs i x H H' hlt p (w.yields i H x H' hlt q y)⟩
  · have e : i = n := by omega
    subst e
    exact .inl ⟨w.stops H q, hd H p⟩
end
section
variable {p : Bool} {E : XK} {XC : Str → Value} {Rt : Ret} {K : PySem.W.Frag} {Γ Γ' Γ0 Γ1 Γ2 ΓL Γf : List Sl} {te tk tv ta tb tc : TE} {tt tu : TT} {tA : TA} {ti : TI} {tg : TG} {a b c d : DCod} {m m2 : Cod} {cs : List DCod} {ts us : TS} {C : Addr} {names : List Str} {i j : Nat} {k : Kd} {f : Str}
/-- {k: v for x in xs}, whole numbers to data: at once as data -/
theorem en_dc {vs is : List Nat} {q : Bool} {f : Env Γ → a.α → Env Γ1} {T0 : (R : Type) → (List a.α → Env Γ → Res R) → Env Γ → Res R} {Tk : (R : Type) → (Int → Env Γ1 → Res R) → Env Γ1 → Res R} {Tv : (R : Type) → (c.α → Env Γ1 → Res R) → Env Γ1 → Res R}
    (hv : allNo Γ vs = true) (his : ∀ i, i ∈ is → i ∈ vs) (bk : Bk Γ1 Γ) (h : EvI false E XC Γ ti a T0) (ht : TgE Γ tg a Γ1 f is) (hk : EvE q E0 XC Γ1 tk dInt Tk) (he : EvE q E0 XC Γ1 tv c Tv) :
    EvE false E XC Γ (tDc ti tg (fun σ H Q => Q true H) tk tv vs) (dDict c) (fun R k ρ => T0 R (fun xs ρ => opt (compL (fun x ρ0 => Tk _ (fun y ρ1 => Tv _ (fun z ρ2 => .ok (some (y, z), bk.f ρ2)) ρ1) (f ρ0 x)) xs ρ) fun ys => k (dmerge [] ys.1) ys.2) ρ) := fun B σ F H ρ I R G hG k Q g qq => by
  refine h B σ F H ρ I R G hG _ _ g fun xs ρ1 J F1 H1 I1 e1 w g1 hz D hD => ?_
  obtain ⟨Y, w, hy⟩ := w.ex
  generalize hcl : compL (fun x ρ0 => Tk _ (fun y ρ1 => Tv _ (fun z ρ2 => Res.ok (some (y, z), bk.f ρ2)) ρ1) (f ρ0 x)) xs ρ1 = cl at g1
  cases cl with
  | none => exact absurd g1 hG.1
  | some ys =>
  obtain ⟨ys, ρe⟩ := ys
  have g1 : G (k (dmerge [] ys) ρe) := g1
  have S0 : SApart B Γ σ F1 (upd H1 D (.dK [])) ρ1 D := I1.apart hD
  refine dc_it w (g := tg) (tt := fun σ H Q => Q true H) (tk := tk) (tv := tv) (vs := vs) (σ := σ) (fun i H' => i ≤ xs.length ∧ ∃ F' ρ0 acc vs' rest, SApart B Γ (wipe σ vs) F' H' ρ0 D ∧ Ex F1 F' ∧ H' D = some (.dK vs') ∧ KVR c F' vs' (dmerge [] acc) ∧ acc.length ≤ i ∧ compL (fun x ρ0 => Tk _ (fun y ρ1 => Tv _ (fun z ρ2 => Res.ok (some (y, z), bk.f ρ2)) ρ1) (f ρ0 x)) (xs.drop i) ρ0 = some (rest, ρe) ∧ ys = acc ++ rest)
    ⟨Nat.zero_le _, F1, ρ1, [], [], ys, S0.wiped hv, Ex.refl _, upd_same, .nil, Nat.le_refl _, hcl, rfl⟩ (fun i H' _ ⟨_, F', _, _, _, _, S, e', _⟩ => e'.trans S.inv.fh) ?_ ?_
  · rintro i v H' H2 hi ⟨_, F', ρ0, acc, vs', rest, S, e', hDl, pv, hacc, hcl', hys⟩ y
    obtain ⟨F2, x, hx, pp, r⟩ := hy i H' v H2 F' y e' S.inv.fh
    obtain ⟨hlt, hxe⟩ := List.getElem?_eq_some_iff.mp hx
    have ed : xs.drop i = x :: xs.drop (i + 1) := by rw [← hxe]; exact (List.drop_eq_getElem_cons hlt)
    rw [ed] at hcl'
    obtain ⟨o, ρ3, ys', hbody, hrest, hrr⟩ := compL_cons hcl'
    obtain ⟨B2, I2, hfr, back⟩ := S.go hDl
    have I2' := I2.pext pp
    refine ht B2 _ F2 H2 ρ0 v x I2' r _ fun σ3 I3 hag hln => ⟨?_, ?_⟩
    · have ew : wipe σ3 vs = wipe (wipe σ vs) vs := wipe_eq hln fun j hj => hag j fun z => hj (his j z)
      rw [ew]
      exact wipe_eq (wipe_length _ _) fun j hj => wipe_get _ _ _ hj
    · have hup : ∀ {Fz Hz : Hp} {ρz : Env Γ1}, SInv B2 Γ1 σ3 Fz Hz ρz → SApart B Γ (wipe σ vs) Fz Hz (bk.f ρz) D ∧ Hz D = some (.dK vs') := fun {Fz Hz ρz} Iz => by
        obtain ⟨Sz, hz⟩ := back _ _ _ _ _ (bk.inv Iz)
        have e3 : wipe σ3 vs = wipe σ vs := by
          have ew : wipe σ3 vs = wipe (wipe σ vs) vs := wipe_eq hln fun j hj => hag j fun z => hj (his j z)
          rw [ew]
          exact wipe_eq (wipe_length _ _) fun j hj => wipe_get _ _ _ hj
        have S2 := Sz.wiped hv
        rw [e3] at S2
        exact ⟨S2, hz⟩
      have hsl := sizeLine_eq
      show if true = true then _ else _
      rw [if_pos rfl]
      refine hk B2 σ3 F2 H2 _ I3 _ (fun r => r = Res.ok (o, ρ3)) (rs0 (fun z => nomatch z) fun n z => nomatch z) _ _ hbody fun kx ρ4 u4 F4 H4 I4 e4 r4 g4 => ?_
      refine he B2 σ3 F4 H4 ρ4 I4 _ (fun r => r = Res.ok (o, ρ3)) (rs0 (fun z => nomatch z) fun n z => nomatch z) _ _ g4 fun y ρ5 u F5 H5 I5 e5 r5 g5 => ?_
      cases g5
      obtain ⟨S5, h5⟩ := hup I5
      have pv5 := pv.ext ((pp.ff.trans e4.1).trans e5.1)
      refine ⟨vs', .inl kx, r4, h5, ?_, hlt, F5, _, acc ++ [(kx, y)], _, ys', S5.upd, ((e'.trans pp.ff).trans e4.1).trans e5.1, upd_same, ?_, ?_, hrest, ?_⟩
      · have := dmerge_len acc []
        have h2 : vs'.length = (dmerge [] acc).length := Paired.length pv5
        simp only [List.length_nil, Nat.zero_add] at this
        omega
      · rw [dmerge_snoc]; exact pv5.put r5
      · rw [List.length_append]; show _ + 1 ≤ _; omega
      · rw [hys, hrr]; simp
  · rintro H' ⟨_, F', ρ0, acc, vs', rest, S, e', hDl, pv, hacc, hcl', hys⟩
    rw [List.drop_length] at hcl'
    cases hcl'
    rw [List.append_nil] at hys
    subst hys
    have S2 := S.unwiped hv
    obtain ⟨L2, r2, w2, hn2, hF2, hB2⟩ := S2
    -- the dict joins what never changes
    have hne : ∀ a o, F' a = some o → a ≠ D := fun a o ha e => by rw [e, hF2] at ha; cases ha
    have w3 : Wd B (upd F' D (.dK vs')) H' L2 := ⟨w2.nd, fun k a ha => by
        obtain ⟨q1, o, q2⟩ := w2.fr k a ha
        have hne2 : a ≠ D := fun z => hn2 k (by rw [← z]; exact ha)
        exact ⟨by rw [upd_ne hne2]; exact q1, o, q2⟩, fun a u hu => by
          by_cases hb : a = D
          · subst hb; rw [upd_same] at hu; cases hu; exact hDl
          · rw [upd_ne hb] at hu; exact w2.fh a u hu, w2.bf.trans (Ex.new hF2), w2.keep, w2.there, fun a u hu => by
          by_cases hb : a = D
          · subst hb; exact .inr hB2
          · rw [upd_ne hb] at hu; exact w2.new a u hu, w2.own, w2.loc, w2.con⟩
    exact qq (dmerge [] ys) ρe (.ref D) (upd F' D (.dK vs')) H' ⟨L2, r2.ext (Ex.new hF2) fun _ _ _ => rfl, w3⟩ ⟨(e1.1.trans e').trans (Ex.new hF2), fun z => nomatch z⟩ ⟨D, vs', rfl, upd_same, pv.ext (Ex.new hF2)⟩ g1
end
end Pu
set_option Elab.async false
set_option linter.all false
set_option maxRecDepth 100000
set_option maxHeartbeats 4000000
namespace Pu
open PySem PySem.Spec PyProof.Rows L2 Evl
/-! ### the rules whose walks name the frame's constants, by a name of their own for these -/
section
variable {X : Cx} {K : PySem.W.Frag} {e o l : Expr} {es : List Expr} {ta tl to te tv : TE} {t : TA} {p pos pos' tpos apos cpos : Pos} {f : Str} {tgt value : Expr}
theorem pg_tupK {ks : List Expr} {k : Nat} {t : TGs} {n : Nat} (hc : X.calm = true) (h : PGs X ks t) (hn : (assignEach ks X.env).length = n := by rfl) (hst : (assignEach ks X.env).findIdx? (·.1) = none := by rfl) (hK : X.K = K := by rfl) : PG X (.Tuple ks k pos) (gTup K n t) := by
  subst hK; exact pg_tup hc h hn hst
theorem op_eqDK (hu : X.A.units + 64 < cLine) (hK : X.K = K := by rfl) : OpR X (compareOp .Eq) (rEqD K) := by subst hK; exact op_eqD hu
theorem op_neDK (hu : X.A.units + 64 < cLine) (hK : X.K = K := by rfl) : OpR X (compareOp .NotEq) (rNeD K) := by subst hK; exact op_neD hu
theorem ix_listK (hK : X.K = K := by rfl) : IxR X (rIxL K) := by subst hK; exact ix_list
theorem ix_tupK (hK : X.K = K := by rfl) : IxR X (rIxT K) := by subst hK; exact ix_tup
theorem op_in_seqK (hK : X.K = K := by rfl) : OpR X (compareOp .In) (rIn K false) := by subst hK; exact op_in_seq
theorem op_notIn_seqK (hK : X.K = K := by rfl) : OpR X (compareOp .NotIn) (rIn K true) := by subst hK; exact op_notIn_seq
theorem call_lenK (hK : X.K = K := by rfl) : CallR X (.builtin "len") (fun xs H Q => ∃ x n, xs = [x] ∧ LenV K x H n ∧ Q (.int n) H) := by subst hK; exact call_len
theorem call_list_ofK (hK : X.K = K := by rfl) : CallR X (.type "list") (fun xs H Q => ∃ p ys, xs = [.ref p] ∧ (SqL K H p ys ∨ SqT K H p ys) ∧ ∀ l, H l = none → Q (.ref l) (upd H l (.lst ys))) := by subst hK; exact call_list_of
theorem cr_maxK (hc : X.calm = true) (hK : X.K = K := by rfl) : CallR X (.builtin "max") (rMax K) := by subst hK; exact cr_max hc
theorem cr_anyK (hc : X.calm = true) (hK : X.K = K := by rfl) : CallR X (.builtin "any") (rAny K) := by subst hK; exact cr_any hc
theorem cr_allK (hc : X.calm = true) (hK : X.K = K := by rfl) : CallR X (.builtin "all") (rAll K) := by subst hK; exact cr_all hc
theorem cr_sortedIK (hK : X.K = K := by rfl) : CallR X (.builtin "sorted") (rSortedI K) := by subst hK; exact cr_sortedI
theorem op_catAK (hK : X.K = K := by rfl) : OpR X (binaryOp .Add) (rCatA K) := by subst hK; exact op_catA
theorem sl_listK (hK : X.K = K := by rfl) : SlR X (rSlL K) := by subst hK; exact sl_list
theorem sl_tupAK (hK : X.K = K := by rfl) : SlR X (rSlA K) := by subst hK; exact sl_tupA
theorem pe_fldK (he : PE X e ta) (hb : attributeBase e f X.env (eval e X.env) = eval e X.env) (hK : X.K = K := by rfl) : PE X (.Attribute e f pos) (tFld K ta f) := by subst hK; exact pe_fld he hb
theorem pi_listK (hl : PE X l tl) (hK : X.K = K := by rfl) : PI X tgt l (iList K tl) := by subst hK; exact pi_list hl
theorem pi_tupK (hl : PE X l tl) (hK : X.K = K := by rfl) : PI X tgt l (iTup K tl) := by subst hK; exact pi_tup hl
theorem pi_enumK {elts : List Expr} {kk : Nat} (hg : Gl X "enumerate") (hm : X.mg "enumerate" = none) (ha : PA X [e] t) (hs : starEach [e] X.env = [(false, eval e X.env)] := by rfl) (hK : X.K = K := by rfl) :
    PI X (.Tuple elts kk tpos) (.Call (.Name "enumerate" p) [e] [] pos) (iEnum K t) := by subst hK; exact pi_enum hg hm ha hs
theorem pi_enumTK {elts : List Expr} {kk : Nat} (hg : Gl X "enumerate") (hm : X.mg "enumerate" = none) (ha : PA X [e] t) (hs : starEach [e] X.env = [(false, eval e X.env)] := by rfl) (hK : X.K = K := by rfl) :
    PI X (.Tuple elts kk tpos) (.Call (.Name "enumerate" p) [e] [] pos) (iEnumT K t) := by subst hK; exact pi_enumT hg hm ha hs
theorem pe_bmK {T id : String} {name : Str} {r : V → List V → Hp → VK → Prop} (pa : PlainAttrs T) (slot : Slot T name id) (hty : typeOf (.builtin id) = pure (.type "method_descriptor")) (hm : MtR X id r) (ho : PE X o to) (ha : PA X (e :: es) t)
    (hbase : attributeBase o name X.env (eval o X.env) = eval o X.env := by rfl)
    (hfew : ((backTo cpos (starEach (e :: es) X.env)).all (fun x => !x.1) && (backToKw cpos (keywordEach [] X.env)).all (fun x => x.1.isSome)
      && decide ((e :: es).length + ([] : List Keyword).length + (if ([] : List Keyword).isEmpty then 0 else 1) < 30)) = true := by rfl)
    (hline : (apos.endLine == cpos.line) = true := by rfl) (hs : starEach (e :: es) X.env = (false, eval e X.env) :: starEach es X.env := by rfl) (hplain : (backTo cpos (starEach es X.env)).any (·.1) = false := by rfl) (hK : X.K = K := by rfl) :
    PE X (.Call (.Attribute o name apos) (e :: es) [] cpos) (tBM K T r to t) := by subst hK; exact pe_bm pa slot hty hm ho ha hbase hfew hline hs hplain
theorem pt_truthK {a : Expr} (ha : PE X a ta) (he : ∀ whole, isTrue a X.env whole = (do let v ← whole; standAt a.pos; holding [v] (truthy v))) (hK : X.K = K := by rfl) :
    PT X a (fun σ H Q => ta σ H fun x H' => ∃ k, TruV K x H' k ∧ Q k H') := by subst hK; exact pt_truth ha he
theorem call_dictPK (hcalm : X.calm = true) (hK : X.K = K := by rfl) : CallR X (.type "dict") (fun xs H Q => ∃ (a : Addr) (ps : List Addr) (kvs : List (Key × V)), xs = [.ref a] ∧ SqL K H a (ps.map V.ref) ∧ Paired (fun p kv => SqT K H p [kV kv.1, kv.2]) ps kvs ∧
    ∀ p, H p = none → Q (.ref p) (upd H p (.dK (mergeK [] kvs)))) := by subst hK; exact call_dictP hcalm
theorem ps_fldK (ha : PE X o ta) (hv : PE X value tv) (hs : swapsWith value (some (.Attribute o f pos')) pos.line X.env = pure false) (hK : X.K = K := by rfl) : PS X (.Assign [.Attribute o f pos'] value pos) (sFld K ta tv f) := by subst hK; exact ps_fld ha hv hs
theorem pe_tupleNK (hg : Gl X "tuple") (hm : X.mg "tuple" = none) (ha : PE X e ta) (na : starEach [e] X.env = (false, eval e X.env) :: starEach [] X.env := by rfl) (hK : X.K = K := by rfl) :
    PE X (.Call (.Name "tuple" p) [e] [] pos) (tThen ta (kTupN K)) := by subst hK; exact pe_tupleN hg hm ha na
theorem mt_indexTK (hK : X.K = K := by rfl) : MtR X "tuple.index" (rIndexT K) := by subst hK; exact mt_indexT
theorem mt_countTK (hK : X.K = K := by rfl) : MtR X "tuple.count" (rCountT K) := by subst hK; exact mt_countT
theorem pget_listK (hK : X.K = K := by rfl) : PGet X (rIxL K) := by subst hK; exact pget_list
end
end Pu
set_option Elab.async false
set_option linter.all false
set_option maxRecDepth 100000
set_option maxHeartbeats 4000000
namespace Pu
open PySem L2 Evl
/-- the script as it is handed in -/
abbrev dScr (K : PySem.W.Frag) : DCod := ⟨List Int, fun F v xs => ∃ a, v = .ref a ∧ SqL K F a (xs.map V.int) ∧ xs.length ≤ sizeLine, fun h e => let ⟨a, h1, h2, h3⟩ := h; ⟨a, h1, h2.imp (Rd.ext e) id, h3⟩⟩
theorem pv_ints {F : Hp} : ∀ (xs : List Int), PV dInt F (xs.map V.int) xs
  | [] => .nil
  | x :: xs => .cons rfl (pv_ints xs)
def spN (XC : Str → Value) (cs : List DCod) (m : Cod) (f : DEnv cs → Res m.α) : Sp := fun vs H Q E => ∃ F x, Ex F H ∧ DRel cs F vs x ∧ f x ≠ .bad ∧
  (∀ z, f x = .ok z → ∀ u F' H' fp, Pext F F' H H' → New fp H F' H' → m.rel F' H' fp u z → Q u H') ∧ ∀ n, f x = .exc n → ∀ H', Ex H H' → E (XC n) none H'
theorem lenN {XC : Str → Value} {cs : List DCod} {m : Cod} {f : DEnv cs → Res m.α} {n : Nat} (h : cs.length = n) : ∀ vs H Q E, spN XC cs m f vs H Q E → vs.length = n := fun vs H Q E ⟨F, x, e, r, _⟩ => r.len.trans h
abbrev retN (m : Cod) : Ret := ⟨⟨Unit, fun _ _ _ => True, fun _ _ => True.intro⟩, m.α, fun B F H v y => B.M = [] → B.N = [] → ∃ fp, Pext B.F F B.H H ∧ New fp B.H F H ∧ m.rel F H fp v y⟩
abbrev mOne (m : Cod) : Cod := ⟨m.α, fun F H fp v x => ∃ a u, v = .ref a ∧ F a = some (.lst [u]) ∧ m.rel F H fp u x, fun {F F' H H' fp v x} h e k => let ⟨a, u, h1, h2, h3⟩ := h; ⟨a, u, h1, e a _ h2, m.ext h3 e k⟩⟩
def oneOk {α β : Type} (r : Res α) (k : α → Res β) : Res β := match r with
  | .ok x => k x
  | _ => .bad
def oneL {α β : Type} (xs : List α) (k : α → Res β) : Res β := match xs with
  | [x] => k x
  | _ => .bad
section
variable {p : Bool} {E : XK} {XC : Str → Value} {Rt : Ret} {K : PySem.W.Frag} {Γ Γ' Γ0 Γ1 Γ2 ΓL Γf : List Sl} {te tk tv ta tb tc : TE} {tt tu : TT} {tA : TA} {ti : TI} {tg : TG} {a b c d : DCod} {m m2 : Cod} {cs : List DCod} {ts us : TS} {C : Addr} {names : List Str} {i j : Nat} {k : Kd} {f : Str}
theorem en_slScr {to tu : TO} {T : (R : Type) → (List Int → Env Γ → Res R) → Env Γ → Res R} {T1 T2 : (R : Type) → (Option Int → Env Γ → Res R) → Env Γ → Res R} (h : EvE p E XC Γ te (dScr K) T) (h1 : EvO p E XC Γ to T1) (h2 : EvO p E XC Γ tu T2) :
    EvN p E XC Γ (L2.tSl (rSlL K) te to tu) (mLst dInt) (fun R k ρ => T R (fun xs ρ => T1 R (fun lo ρ => T2 R (fun hi ρ => k (cutL xs lo hi) ρ) ρ) ρ) ρ) := fun B σ F H ρ I R G hG k Q g qq =>
  h B σ F H ρ I R G hG _ _ g fun xs ρ1 v F1 H1 I1 e1 r1 g1 => h1 B σ F1 H1 ρ1 I1 R G hG _ _ g1 fun lo ρ2 F2 H2 I2 e2 g2 => h2 B σ F2 H2 ρ2 I2 R G hG _ _ g2 fun hi ρ3 F3 H3 I3 e3 g3 => by
    obtain ⟨a, rfl, q2, q4⟩ := (dScr K).ext ((dScr K).ext r1 (e2.1.trans e3.1)) I3.fh
    exact ⟨a, _, rfl, q2, fun l hl => new_list I3 hl (PV.cut (c := dInt) (pv_ints xs) lo hi) (Nat.le_trans (cutL_len _ _ _) q4) ((e1.trans e2).trans e3) g3 qq⟩
theorem st_retNew {T : (R : Type) → (m.α → Env Γ → Res R) → Env Γ → Res R} (h : EvN p E XC Γ te m T) : StE E XC (retN m) Γ (tRet te) Γ' ΓL (fun R nx rt bk ct ρ => T R (fun x ρ => rt () x) ρ) := fun B σ F H ρ I R G hG nx rt bk ct D g qn qr qb qc =>
  h B σ F H ρ I R G hG _ _ g fun x ρ' v fp F0 H0 F' H' I' e pp n r g' => qr () x v F' H' (fun hM hN => ⟨fp, (I'.pextB hM hN).trans pp, n.later (I'.pextB hM hN).hh, r⟩) True.intro g'
theorem run_N {N : List Str} {n : Nat} (hN : N.length = cs.length + n) {f : DEnv cs → Res m.α} {Γe : List Sl} {T : (R : Type) → (Env Γe → Res R) → (Unit → m.α → Res R) → (Env [] → Res R) → (Env [] → Res R) → Env (slots0 cs n) → Res R} (h : StE E XC (retN m) (slots0 cs n) ts Γe [] T)
    (hf : ∀ x, T m.α (fun _ => .bad) (fun _ z => .ok z) (fun _ => .bad) (fun _ => .bad) (env0 cs n x) = f x) (vs : List V) (H : Hp) (Q : VK) (hsp : spN XC cs m f vs H Q E) : ts { nx := fun _ H' => Q .non H', rt := Q } (L2.start N vs) H := by
  obtain ⟨F, x, e, r, hb, hq, hx⟩ := hsp
  have hl := r.len
  rw [start_eq (n := n) (by rw [hl]; exact hN)]
  refine h ⟨F, H, [], [], [], vs.map some ++ List.replicate n none⟩ _ F H (env0 cs n x) ⟨[], rel0 cs n _ r, wd0 e (by simp) (by simp) (by simp) (by simp) (by simp)⟩ m.α (fun z => z = f x) ⟨fun z => hb z.symm, fun nm H' z fr => hx nm z.symm H' fun a o ha => fr a o ha (by simp) (by simp)⟩ _ _ _ _ _ (hf x) ?_ ?_ ?_ ?_
  · intro ρ' σ' F' H' _ _ z; exact absurd z.symm hb
  · intro u z v F' H' ho _ z2
    obtain ⟨fp, h1, h2, h3⟩ := ho rfl rfl
    exact hq z z2.symm v F' H' fp h1 h2 h3
  · intro ρ' σ' F' H' _ _ z; exact absurd z.symm hb
  · intro ρ' σ' F' H' _ _ z; exact absurd z.symm hb
theorem ev_callN {f : DEnv cs → Res m.α} {TA : (R : Type) → (DEnv cs → Env Γ → Res R) → Env Γ → Res R} (h : EvA p E XC Γ tA cs TA) : EvN p E XC Γ (tCall (spN XC cs m f) [] E tA) m (fun R k ρ => TA R (fun x ρ => (f x).bind fun z => k z ρ) ρ) := fun B σ F H ρ I R G hG k Q g q =>
  h B σ F H ρ I R G hG _ _ g fun x ρ1 vs F1 H1 I1 e1 r1 g1 => ⟨F1, x, I1.fh, r1.app, fun e => (by rw [e] at g1; exact hG.1 g1), fun z e u F' H' fp pp n r => (by
    rw [e] at g1
    exact q z ρ1 u fp F1 H1 F' H' I1 e1 pp n r g1), fun n e H' eh => (by
    rw [e] at g1
    exact hG.2 n H' g1 (I1.frm.ex eh))⟩
/-- [e for x in xs], one x, e new -/
theorem en_lc1 {vs is : List Nat} {f : Env Γ → a.α → Env Γ1} {T0 : (R : Type) → (List a.α → Env Γ → Res R) → Env Γ → Res R} {Te : (R : Type) → (m.α → Env Γ1 → Res R) → Env Γ1 → Res R}
    (hv : allNo Γ vs = true) (his : ∀ i, i ∈ is → i ∈ vs) (bk : Bk Γ1 Γ) (h : EvI false E XC Γ ti a T0) (ht : TgE Γ tg a Γ1 f is) (he : EvN false E0 XC Γ1 te m Te) :
    EvN false E XC Γ (tLc ti tg (fun σ H Q => Q true H) te vs) (mOne m) (fun R k ρ => T0 R (fun xs ρ => oneL xs fun x => oneOk (Te _ (fun y ρ2 => .ok (y, bk.f ρ2)) (f ρ x)) fun r => k r.1 r.2) ρ) := fun B σ F H ρ I R G hG k Q g qq => by
  refine h B σ F H ρ I R G hG _ _ g fun xs ρ1 J F1 H1 I1 e1 w g1 hz D hD => ?_
  obtain ⟨Y, w, hy⟩ := w.ex
  match xs, w, hy, g1 with
  | [], _, _, g1 => exact absurd g1 hG.1
  | _ :: _ :: _, _, _, g1 => exact absurd g1 hG.1
  | [x], w, hy, g1 =>
  have g1 : G (oneOk (Te _ (fun y ρ2 => Res.ok (y, bk.f ρ2)) (f ρ1 x)) fun r => k r.1 r.2) := g1
  generalize hbody : Te _ (fun y ρ2 => Res.ok (y, bk.f ρ2)) (f ρ1 x) = br at g1
  match br, g1 with
  | .exc n, g1 => exact absurd g1 hG.1
  | .bad, g1 => exact absurd g1 hG.1
  | .ok (yy, ρe), g1 =>
  have g1 : G (k yy ρe) := g1
  have S0 : SApart B Γ σ F1 (upd H1 D (.lst [])) ρ1 D := I1.apart hD
  refine lc_it w (tt := fun σ H Q => Q true H) (g := tg) (te := te) (vs := vs) (σ := σ) (fun i H2 => match i with
    | 0 => ∃ F', SApart B Γ (wipe σ vs) F' H2 ρ1 D ∧ Ex F1 F' ∧ H2 D = some (.lst [])
    | 1 => ∃ F0 H0 F' H' v fp, SApart B Γ (wipe σ vs) F0 H0 ρe D ∧ H0 D = some (.lst []) ∧ Ex F1 F0 ∧ Pext F0 F' H0 H' ∧ New fp H0 F' H' ∧ m.rel F' H' fp v yy ∧ H2 = upd H' D (.lst [v])
    | _ => False) ⟨F1, S0.wiped hv, Ex.refl _, upd_same⟩ ?_ ?_ ?_
  · intro i H2 hi hp
    match i, hp with
    | 0, ⟨F', S, e', _⟩ => exact e'.trans S.inv.fh
    | 1, ⟨F0, H0, F', H', v, fp, S, hd0, e', pp, n, r, eH⟩ =>
      intro b o hb
      have h1 : F' b = some o := pp.ff b o (e' b o hb)
      have hne : b ≠ D := fun z => by
        subst z
        obtain ⟨_, _, _, _, z1, _⟩ := S
        rw [e' b o hb] at z1; cases z1
      rw [eH, upd_ne hne]
      exact pp.fh b o h1
  · intro i v H2 H3 hi hp y
    match i, hp, hi with
    | 0, ⟨F', S, e', hDl⟩, _ =>
      obtain ⟨F2, x2, hx, pp, r⟩ := hy 0 H2 v H3 F' y e' S.inv.fh
      have hx : x2 = x := by simpa using hx.symm
      subst hx
      obtain ⟨B2, I2, hfr, back⟩ := S.go hDl
      have I2' := I2.pext pp
      refine ht B2 _ F2 H3 ρ1 v x2 I2' r _ fun σ3 I3 hag hln => ⟨?_, ?_⟩
      · have ew : wipe σ3 vs = wipe (wipe σ vs) vs := wipe_eq hln fun j hj => hag j fun z => hj (his j z)
        rw [ew]
        exact wipe_eq (wipe_length _ _) fun j hj => wipe_get _ _ _ hj
      · show if true = true then _ else _
        rw [if_pos rfl]
        refine he B2 σ3 F2 H3 _ I3 _ (fun r => r = Res.ok (yy, ρe)) (rs0 (fun z => nomatch z) fun n z => nomatch z) _ _ hbody fun y2 ρ5 u fp F4 H4 F5 H5 I4 e4 pp5 n5 r5 g5 => ?_
        cases g5
        obtain ⟨Sz, hz4⟩ := back _ _ _ _ _ (bk.inv I4)
        have e3 : wipe σ3 vs = wipe σ vs := by
          have ew : wipe σ3 vs = wipe (wipe σ vs) vs := wipe_eq hln fun j hj => hag j fun z => hj (his j z)
          rw [ew]
          exact wipe_eq (wipe_length _ _) fun j hj => wipe_get _ _ _ hj
        have S2 := Sz.wiped hv
        rw [e3] at S2
        have hsl := sizeLine_eq
        exact ⟨[], pp5.hh D _ hz4, by show 0 < sizeLine; omega, F4, H4, F5, H5, u, fp, S2, hz4, (e'.trans pp.ff).trans e4.1, pp5, n5, r5, rfl⟩
    | 1, _, hi => exact absurd hi (by simp)
  · intro H2 hp
    obtain ⟨F0, H0, F', H', v, fp, S, hd0, e', pp, n, r, rfl⟩ : ∃ F0 H0 F' H' v fp, SApart B Γ (wipe σ vs) F0 H0 ρe D ∧ H0 D = some (.lst []) ∧ Ex F1 F0 ∧ Pext F0 F' H0 H' ∧ New fp H0 F' H' ∧ m.rel F' H' fp v yy ∧ H2 = upd H' D (.lst [v]) := hp
    have S2 := S.unwiped hv
    obtain ⟨L2, r2, w2, hn2, hF2, hB2⟩ := S2
    have hFD : F' D = none := by
      cases e : F' D with
      | none => rfl
      | some u =>
        rcases pp.new D u e with z | z
        · rw [hF2] at z; cases z
        · rw [hd0] at z; cases z
    have hne : ∀ b, b ≠ D → (fun b => if b = D then none else H0 b : Hp) b = H0 b := fun b hb => if_neg hb
    have hDn : (fun b => if b = D then none else H0 b : Hp) D = none := if_pos rfl
    have w3 : Wd B F0 (fun b => if b = D then none else H0 b) L2 := ⟨w2.nd, fun k b hb => by
        obtain ⟨q1, o, q2⟩ := w2.fr k b hb
        exact ⟨q1, o, (hne b fun z => hn2 k (by rw [← z]; exact hb)).trans q2⟩, fun b u hu => (hne b (ne_of_none hu hF2)).trans (w2.fh b u hu), w2.bf, fun b u hu h1 h2 => (hne b (ne_of_none hu hB2)).trans (w2.keep b u hu h1 h2),
        fun b u hu => by
          obtain ⟨o, ho⟩ := w2.there b u hu
          exact ⟨o, (hne b (ne_of_none hu hB2)).trans ho⟩, w2.new, w2.own, w2.loc, w2.con⟩
    have r4 : SRel Γ B.τ σ F0 (fun b => if b = D then none else H0 b) L2 ρe := r2.ext (Ex.refl _) fun k b hb => hne b fun z => hn2 k (by rw [← z]; exact hb)
    have eFf : Ex F' (upd F' D (.lst [v])) := Ex.new hFD
    have fpD : ∀ b, b ∈ fp → b ≠ D := fun b hb z => by
      subst z
      rw [(n.at_ b hb).1] at hd0; cases hd0
    refine qq yy ρe (.ref D) fp F0 _ (upd F' D (.lst [v])) (upd H' D (.lst [v])) ⟨L2, r4, w3⟩ ⟨e1.1.trans e', fun z => nomatch z⟩ ⟨fun b o hb => ?_, pp.ff.trans eFf, ?_, fun b o hb => ?_⟩ ⟨n.nd, fun b hb => ?_⟩ ⟨D, v, rfl, upd_same, m.ext r eFf fun b hb => upd_ne (fpD b hb)⟩ g1
    · by_cases hbD : b = D
      · subst hbD
        have hb : (none : Option HO) = some o := hDn.symm.trans hb
        cases hb
      · rw [upd_ne hbD]
        exact pp.hh b o ((hne b hbD).symm.trans hb)
    · exact ex_upd pp.fh
    · by_cases hbD : b = D
      · subst hbD; exact .inr hDn
      · rw [upd_ne hbD] at hb
        rcases pp.new b o hb with z | z
        · exact .inl z
        · exact .inr ((hne b hbD).trans z)
    · obtain ⟨z1, z2, o, z3⟩ := n.at_ b hb
      have hbD := fpD b hb
      exact ⟨(hne b hbD).trans z1, by rw [upd_ne hbD]; exact z2, o, by rw [upd_ne hbD]; exact z3⟩
/-- for x in xs, xs a list of one new thing -/
theorem st_for1 {s : Sl} (u : Up Γ j s (.m .lo m) Γ') {T0 : (R : Type) → (m.α → Env Γ → Res R) → Env Γ → Res R} {T : (R : Type) → (Env Γ2 → Res R) → (Rt.r.α → Rt.P → Res R) → (Env Γ2 → Res R) → (Env Γ2 → Res R) → Env Γ' → Res R} (h : EvN p E XC Γ te (mOne m) T0) (hb : StE E XC Rt Γ' ts Γ2 Γ2 T) :
    StE E XC Rt Γ (tFor (iList K te) (gName j) ts) Γ2 ΓL (fun R nx rt bk ct ρ => T0 R (fun x ρ => T R nx rt nx nx (u.set ρ x)) ρ) := fun B σ F H ρ I R G hG nx rt bk ct D g qn qr qb qc =>
  h B σ F H ρ I R G hG _ _ g fun x ρ1 v fp F0 H0 F1 H1 I0 e1 pp n r1 g1 => by
    obtain ⟨q, w, rfl, hq, hr⟩ := r1
    have I1 := I0.setM pp n u hr
    refine ⟨q, rfl, ⟨[w], SqL.of (pp.fh q _ hq)⟩, ?_⟩
    refine for_it (walk_list (K := K) (a := q) (xs := [w])) (fun i σ' H' => match i with
      | 0 => σ' = σ ∧ H' = H1
      | 1 => ∃ F' ρ', SInv B Γ2 σ' F' H' ρ' ∧ Ex F1 F' ∧ G (nx ρ')
      | _ => False) ⟨rfl, rfl⟩ ?_ ?_ ?_
    · intro i σ' H' hi hp
      match i, hp with
      | 0, ⟨_, e⟩ => rw [e]; exact SqL.of (pp.fh q _ hq)
      | 1, ⟨F', ρ', I', e', _⟩ => exact SqL.of (I'.fh q _ (e' q _ hq))
    · intro i v' σ' H' H2 hi hp y
      match i, hp, hi with
      | 0, ⟨e2, e3⟩, _ =>
        subst e2 e3
        obtain ⟨e4, e5⟩ := y
        have e5 : v' = w := by simpa using e5.symm
        subst e4 e5
        exact hb B _ F1 _ _ I1 R G hG nx rt nx nx _ g1 (fun ρ4 σ4 F4 H4 I4 e4 g4 => ⟨F4, ρ4, I4, e4, g4⟩) qr (fun ρ4 σ4 F4 H4 I4 e4 g4 => qn ρ4 σ4 F4 H4 I4 ((e1.1.trans pp.ff).trans e4) g4) (fun ρ4 σ4 F4 H4 I4 e4 g4 => ⟨F4, ρ4, I4, e4, g4⟩)
      | 1, _, hi => exact absurd hi (by simp)
    · intro σ' H' hp
      obtain ⟨F', ρ', I', e', g'⟩ : ∃ F' ρ', SInv B Γ2 σ' F' H' ρ' ∧ Ex F1 F' ∧ G (nx ρ') := hp
      exact qn ρ' σ' F' H' I' ((e1.1.trans pp.ff).trans e') g'
end
end Pu
set_option Elab.async false
set_option linter.all false
set_option maxRecDepth 100000
set_option maxHeartbeats 4000000
namespace Pu
open PySem PySem.Spec PyProof.Rows L2 Evl
/-- a law's end, where what a call lets out may depend on the world -/
theorem walk_end {l : PySem.W.OpenLaw} {n k : Nat} {q : Program} {loose : List Str} {XP : (Str → Option Value) → Heap → Prop} {YP : World → Heap → Prop} {d : DefRec} {CX : World → CXT} {x : Str}
    (hn : l.most = some n) (hn2 : n ≤ sizeLine) (hdf : d.params.defaults = []) (hr : Room k callerA)
    (F : ∀ (w : World) (mg : Str → Option Value) (fa : Addr) (h : Heap), YP w h → h.Ns mainGlobals mg → mg d.name = some (.ref fa) →
      ∃ (K : PySem.W.Frag) (fd : FuncData) (sp : Sp), K.In h ∧ (∀ (s : Shared) (u : Value), BindsTo s fd ⟨[u], []⟩ [(x, u)]) ∧
        (∀ (H : Hp) (a : Addr) (ns : List Int), ns.length ≤ n → Only H → SqL K H a (ns.map V.int) → sp [.ref a] H (fun v _ => v = .bl true) fun _ _ _ => False) ∧
        ∀ base : Heap, K.In base → base.Ns mainGlobals mg → FnOk l.prog w K mg base (CX w) k fa fd [x] sp)
    (hCX : ∀ (w : World) (H : Hp) (s : Shared) (e : Value) (s' : Shared), CX w [] H s (fun _ _ _ => False) e s' → False) :
    PySem.W.WalkO q loose XP YP l.row.toRowW d [] (fun f vs => PySem.call f vs) := by
  refine Att.attach_call hn hdf fun w s₀ s₁ mg mb fa o pm cd doc a vs ns G Y ho hd hcd hmg hobj hints hlen hg => ?_
  obtain ⟨K, fd, sp, KX, hb, hsp, hF⟩ := F w mg fa _ Y G.T.g hmg
  exact law_call KX G.T.g G.T.b G.T.builtins G.T.nolimit hg hobj hints (Nat.le_trans hlen hn2) hr hF hb (fun H hO hS => hsp H a ns hlen hO hS) fun H e s' => hCX w H s₁ e s'
theorem cx_end {P : Program} (w : World) (H : Hp) (s : Shared) (e : Value) (s' : Shared) (h : L2.CX P w [] H s (fun _ _ _ => False) e s') : False := by
  obtain ⟨a, B, H', cls, d, h1, h2, h3, h4, h5, h6, h7, h8⟩ := h
  exact h8
section
variable {P : Program} {w : World} {K : PySem.W.Frag} {mg : Str → Option Value} {base : Heap} {x qual : Str} {params : Arguments} {body : List Stmt} {scope : Scope} {f : Addr} {N ps : List Str} {k : Nat}
/-- as okF, of one function object -/
theorem okF2 {sp : Sp} {fd : FuncData} (F : FunD K x qual params body scope [] [] f fd) (S : FnScope N ps scope) (len : ∀ vs H Q E, sp vs H Q E → vs.length = ps.length)
    (hbody : ∀ (cdv : Value) (A : Around) (outer : List PySem.Env) (s : Shared) (H : Hp) (E : XK), Room k (A.deeper (envOfC qual scope s.heap.objs.size f cdv)) →
      ∃ t, PSs (cxOf (L2.CX P w) P w K mg base N qual scope f cdv A outer s H E) body t ∧ ∀ (vs : List V) (Q : VK), sp vs H Q E → t { nx := fun _ H' => Q .non H', rt := Q } (L2.start N vs) H) : FnOk P w K mg base (L2.CX P w) (k + 1) f fd ps sp := by
  refine F.ok S len fun cdv A outer s H vs Q E hr h => ?_
  obtain ⟨t, h1, h2⟩ := hbody cdv A outer s H E hr
  exact ⟨t, h1, h2 vs Q h⟩
end
/-- a law that keeps its promise at each script holds -/
theorem law_sp {XC : Str → Value} {K : PySem.W.Frag} {f : List Int → Res Bool} {H : Hp} {a : Addr} {ns : List Int} (hl : ns.length ≤ 63) (hS : SqL K H a (ns.map V.int)) (hf : f ns = .ok true) : spD XC [dScr K] dBl (fun x => f x.1) [.ref a] H (fun v _ => v = .bl true) fun _ _ _ => False := by
  have hsl := sizeLine_eq
  refine ⟨H, (ns, ()), Ex.refl H, ⟨.ref a, [], rfl, ⟨a, rfl, hS, by show ns.length ≤ sizeLine; omega⟩, rfl⟩, ?_, fun z hz u F' H' _ r => ?_, fun n hn => ?_⟩
  · show f ns ≠ .bad
    rw [hf]; exact fun z => nomatch z
  · have hz : f ns = .ok z := hz
    rw [hf] at hz
    cases hz
    exact r
  · have hn : f ns = .exc n := hn
    rw [hf] at hn; cases hn
end Pu
namespace Pu
open PySem L2 Evl
theorem StE.as {E : XK} {XC : Str → Value} {Rt : Ret} {Γ Γ' ΓL : List Sl} {ts : TS} {T T' : (R : Type) → (Env Γ' → Res R) → (Rt.r.α → Rt.P → Res R) → (Env ΓL → Res R) → (Env ΓL → Res R) → Env Γ → Res R} (h : StE E XC Rt Γ ts Γ' ΓL T) (e : T = T') : StE E XC Rt Γ ts Γ' ΓL T' := e ▸ h
theorem PV.tun {c : DCod} {F : Hp} : ∀ {vs : List V} {xs : List (List c.α)}, PV (dTuN c) F vs xs → PV (dTup c) F vs xs
  | _, _, .nil => .nil
  | _, _, .cons r t => .cons (sb_tun F _ _ r) (PV.tun t)
theorem sb_lstTun {c : DCod} : Sb (dLst (dTuN c)) (dLst (dTup c)) (fun x => x) := fun F v x h => by
  obtain ⟨a, vs, h1, h2, h3, h4⟩ := h
  exact ⟨a, vs, h1, h2, PV.tun h3, h4⟩
theorem sb_tupTun {c : DCod} : Sb (dTup (dTuN c)) (dTup (dTup c)) (fun x => x) := fun F v x h => by
  obtain ⟨a, vs, h1, h2, h3, h4⟩ := h
  exact ⟨a, vs, h1, h2, PV.tun h3, h4⟩
theorem sb_seqTun {c : DCod} : Sb (dSeq (dTuN c)) (dSeq (dTup c)) (fun x => x) := fun F v x h => by
  obtain ⟨a, vs, h1, h2, h3, h4⟩ := h
  exact ⟨a, vs, h1, h2, PV.tun h3, h4⟩
theorem sb_tunTun {c : DCod} : Sb (dTuN (dTuN c)) (dTuN (dTup c)) (fun x => x) := fun F v x h => by
  obtain ⟨a, vs, ob, h1, h2, h3, h4, h5, h6⟩ := h
  exact ⟨a, vs, ob, h1, h2, h3, h4, PV.tun h5, h6⟩
def forBody : List Stmt → Nat → List Stmt
  | [], _ => []
  | .For (body := b) .. :: _, 0 => b
  | _ :: r, 0 => []
  | _ :: r, n + 1 => forBody r n
end Pu
set_option Elab.async false
set_option linter.all false
set_option maxRecDepth 100000
set_option maxHeartbeats 4000000
namespace Pu
open PySem PySem.Spec PyProof.Rows L2 Evl
/-! ### tuples that are made and hold no fields; d.get(k) -/
def tTupF (t : TA) : TE := fun σ H Q => t σ H fun xs H1 => xs.length ≤ sizeLine ∧ ∀ p ob, ob.dict = none → ob.cls = .type "tuple" → H1 p = none → Q (.ref p) (upd H1 p (.frz ob (.tup xs)))
section
variable {X : Cx} {K : PySem.W.Frag} {es : List Expr} {t : TA} {pos apos cpos : Pos} {o e : Expr} {td ty : TE}
theorem pe_tupF {x1} (h : PA X es t) : PE X (.Tuple es x1 pos) (tTupF t) :=
  ⟨fun pins s σ H Q I hq => wpAny_Tuple_spliced (thn (h.run pos pins s σ H _ I hq) fun us s1 ⟨xs, H1, I1, r, z, q⟩ => by
    refine ⟨by rw [← r.length]; exact z, ?_⟩
    have I2 : Inv X pins σ (upd H1 s1.heap.objs.size (.frz { cls := .type "tuple", data := .seq us.toArray } (.tup xs))) { s1 with heap := s1.heap.push { cls := .type "tuple", data := .seq us.toArray } } :=
      I1.laid (t' := s1.toks) (fun b u e => Heap.get?_push_of_some _ e) (Nat.le_refl _) ⟨Heap.get?_push_size _ rfl, z, us, r, IsTup.new _ _⟩
    exact ⟨.ref s1.heap.objs.size, _, I2, rfl, q _ { cls := .type "tuple", data := .seq us.toArray } rfl rfl (I1.hok.fresh (Nat.le_refl _))⟩)⟩
def rCatF (K : PySem.W.Frag) : V → V → Hp → VK → Prop := fun x y H Q => ∃ a b xs ys, (x = .ref a ∧ y = .ref b) ∧ SqT K H a xs ∧ SqT K H b ys ∧ xs.length + ys.length ≤ sizeLine ∧
  (xs = [] → Q (.ref b) H) ∧ (xs ≠ [] ∧ ys = [] → Q (.ref a) H) ∧ (xs ≠ [] ∧ ys ≠ [] → ∀ p ob, ob.dict = none → ob.cls = .type "tuple" → H p = none → Q (.ref p) (upd H p (.frz ob (.tup (xs ++ ys)))))
theorem op_catF : OpR X (binaryOp .Add) (rCatF X.K) := fun pins s σ H x y v u Q I rx ry h => by
  obtain ⟨a, b, xs, ys, ⟨rfl, rfl⟩, ha, hb, hz, q0, q1, q2⟩ := h
  cases rx; cases ry
  obtain ⟨i1, r1, p1, _⟩ := I.tuple ha
  obtain ⟨i2, r2, p2, _⟩ := I.tuple hb
  by_cases hx : xs = []
  · subst hx
    cases r1
    exact L2.cat_tup0 p1 p2 ⟨.ref b, H, I, rfl, q0 rfl⟩
  · refine HT.cat_tup p1 p2 (fun z => hx (r1.nil_iff.mp z)) (fun z => ⟨.ref a, H, I, rfl, q1 ⟨hx, r2.nil_iff.mp z⟩⟩) (fun z => ?_) (by rw [← r1.length, ← r2.length]; exact hz)
    have I2 : Inv X pins σ (upd H s.heap.objs.size (.frz { cls := .type "tuple", data := .seq (i1 ++ i2).toArray } (.tup (xs ++ ys)))) { s with heap := s.heap.push { cls := .type "tuple", data := .seq (i1 ++ i2).toArray } } :=
      I.laid (t' := s.toks) (fun b ob q => Heap.get?_push_of_some _ q) (Nat.le_refl _) ⟨Heap.get?_push_size _ rfl, by rw [List.length_append]; exact hz, _, r1.append r2, IsTup.new _ _⟩
    exact ⟨.ref s.heap.objs.size, _, I2, rfl, q2 ⟨hx, fun w => z (r2.nil_iff.mpr w)⟩ _ { cls := .type "tuple", data := .seq (i1 ++ i2).toArray } rfl rfl (I.hok.fresh (Nat.le_refl _))⟩
theorem op_catFK (hK : X.K = K := by rfl) : OpR X (binaryOp .Add) (rCatF K) := by subst hK; exact op_catF
theorem pe_dg1 (hu : X.A.units + 1 < cLine) (ho : PE X o td) (he : PE X e ty) (m : M1 X o "get" apos e cpos := by exact ⟨rfl, rfl, rfl, rfl⟩) : PE X (.Call (.Attribute o "get" apos) [e] [] cpos) (tDGet1 td ty) := pe_dget1 hu ho he m
end
section
variable {p : Bool} {E : XK} {XC : Str → Value} {Rt : Ret} {K : PySem.W.Frag} {Γ Γ' Γ0 Γ1 Γ2 ΓL Γf : List Sl} {te ta tb tc : TE} {tA : TA} {a b c d : DCod}
theorem ev_tupN (n : Nat) (hn : n ≤ 1000) {T : (R : Type) → (DEnv (List.replicate n c) → Env Γ → Res R) → Env Γ → Res R} (h : EvA p E XC Γ tA (List.replicate n c) T) : EvE p E XC Γ (tTupF tA) (dTuN c) (fun R k ρ => T R (fun x ρ => k (lstOf n x) ρ) ρ) := fun B σ F H ρ I R G hG k Q g qq =>
  h B σ F H ρ I R G hG _ _ g fun x ρ' vs F' H' I' e r g' => by
    have hl2 := r.len
    rw [List.length_replicate] at hl2
    have hsz := sizeLine_eq
    exact ⟨by omega, fun l ob h1 h2 hl => qq _ ρ' (.ref l) _ _ (I'.pext (Pext.one I'.fh hl)) (e.pext (Pext.one I'.fh hl)) ⟨l, vs, ob, rfl, upd_same, h1, h2, (lstOf_rel n x vs r).ext (Ex.new (none_of I'.fh hl)), by rw [lstOf_len]; omega⟩ g'⟩
theorem o_catTN : Op2P (rCatF K) (dTuN c) (dTuN c) (dTuN c) catL := fun F H v w x y z Q e h1 h2 hz k => by
  obtain ⟨a, vs, ob, rfl, q2, q5, q6, q3, q4⟩ := h1
  obtain ⟨b, ws, ob2, rfl, s2, s5, s6, s3, s4⟩ := h2
  have hsz := sizeLine_eq
  by_cases hx : x.length + y.length ≤ 16777216
  · have hr : catL x y = some (x ++ y) := if_pos hx
    rw [hr] at hz
    cases hz
    refine ⟨a, b, vs, ws, ⟨rfl, rfl⟩, SqT.rd e (.inr ⟨ob, q2⟩), SqT.rd e (.inr ⟨ob2, s2⟩), by rw [q3.length, s3.length]; omega, fun hv => ?_, fun ⟨hv, hw⟩ => ?_, fun ⟨hv, hw⟩ p ob3 h3 h4 hp => ?_⟩
    · subst hv
      cases q3
      exact k _ F H (Pext.refl e) ⟨b, ws, ob2, rfl, s2, s5, s6, s3, s4⟩
    · subst hw
      cases s3
      have e9 : x ++ ([] : List c.α) = x := List.append_nil x
      exact k _ F H (Pext.refl e) ⟨a, vs, ob, rfl, q2, q5, q6, by rw [e9]; exact q3, by rw [e9]; exact q4⟩
    · exact k _ _ _ (Pext.one e hp) ⟨p, _, ob3, rfl, upd_same, h3, h4, (q3.append s3).ext (Ex.new (none_of e hp)), by rw [List.length_append]; omega⟩
  · have hr : catL x y = none := if_neg hx
    rw [hr] at hz; cases hz
theorem ev_dget1 {Ta : (R : Type) → (List (Int × Int) → Env Γ → Res R) → Env Γ → Res R} {Tb : (R : Type) → (Int → Env Γ → Res R) → Env Γ → Res R} (ha : EvE p E XC Γ ta (dDict dInt) Ta) (hb : EvE p E XC Γ tb dInt Tb) :
    EvE p E XC Γ (tDGet1 ta tb) (dOpt dInt) (fun R k ρ => Ta R (fun x ρ => Tb R (fun y ρ => k (dget x y) ρ) ρ) ρ) := fun B σ F H ρ I R G hG k Q g q =>
  ha B σ F H ρ I R G hG _ _ g fun x ρ1 v F1 H1 I1 e1 r1 g1 => by
    obtain ⟨l, ks, rfl, hl, hk⟩ := id r1
    refine ⟨l, rfl, .inl ⟨ks, .inl (I1.fh l _ hl)⟩, hb B σ F1 H1 ρ1 I1 R G hG _ _ g1 fun y ρ2 w F2 H2 I2 e2 r2 g2 => ?_⟩
    obtain ⟨l', ks', e', hl', hk'⟩ := (dDict dInt).ext r1 e2.1
    cases e'
    obtain ⟨h1, h2⟩ := KVR.get (i := y) hk'
    rw [show w = V.int y from r2]
    refine ⟨_, DGet.k (k := .inl y) (I2.fh l _ hl'), ?_⟩
    cases hz : dget x y with
    | none =>
      rw [h2 hz]
      exact q none ρ2 .non F2 H2 I2 (e1.trans e2) rfl (by rw [hz] at g2; exact g2)
    | some z =>
      obtain ⟨u, hu, ru⟩ := h1 z hz
      rw [hu]
      have ru : u = V.int z := ru
      subst ru
      exact q (some z) ρ2 _ F2 H2 I2 (e1.trans e2) ⟨rfl, fun h => nomatch h⟩ (by rw [hz] at g2; exact g2)
end
end Pu
set_option Elab.async false
set_option linter.all false
set_option maxRecDepth 100000
set_option maxHeartbeats 4000000
namespace Pu
open PySem PySem.Spec PyProof.Rows L2 Evl
section
variable {p : Bool} {E : XK} {XC : Str → Value} {Rt : Ret} {K : PySem.W.Frag} {Γ Γ' Γ0 Γ1 Γ2 ΓL Γf : List Sl} {te ta tb tc : TE} {tA : TA} {a b c d : DCod} {m m2 m3 : Cod} {i j l : Nat}
/-- a depth more than is asked -/
def dqUp {c : DCod} {n : Nat} (q : Dq K n c) : Dq K (n + 1) c := { q with dep := fun x => Nat.le_succ_of_le (q.dep x) }
/-- a, b, c = new, data, new: where names are read within comprehensions the tuple is made -/
theorem st_asgNDN {s1 s2 s3 : Sl} (u : Up Γ i s1 (.m .lo m) Γ1) (u2 : Up Γ1 j s2 (.da b) Γ2) (u3 : Up Γ2 l s3 (.m .lo m3) Γ') {Ta : (R : Type) → (m.α → Env Γ → Res R) → Env Γ → Res R} {Tb : (R : Type) → (b.α → Env Γ → Res R) → Env Γ → Res R} {Tc : (R : Type) → (m3.α → Env Γ → Res R) → Env Γ → Res R}
    (ha : EvN p E XC Γ ta m Ta) (hb : EvE true E XC Γ tb b Tb) (hc : EvN true E XC Γ tc m3 Tc) :
    StE E XC Rt Γ (tAsg (tTup (tCons ta (tCons tb (tCons tc tNil)))) (gTup K 3 (gCons (gName i) (gCons (gName j) (gCons (gName l) gNil))))) Γ' ΓL (fun R nx rt bk ct ρ => Ta R (fun x ρ => Tb R (fun y ρ => Tc R (fun z ρ => nx (u3.set (u2.set (u.set ρ x) y) z)) ρ) ρ) ρ) := fun B σ F H ρ I R G hG nx rt bk ct D g qn qr qb qc =>
  ha B σ F H ρ I R G hG _ _ g fun x ρ1 v fp F0 H0 F1 H1 I0 e1 pp n r1 g1 => hb B σ F1 H1 ρ1 (I0.pext pp) R G hG _ _ g1 fun y ρ2 w F2 H2 I2 e2 r2 g2 => by
    obtain ⟨er, pe⟩ := e2.2 rfl
    subst er
    refine hc B σ F2 H2 ρ2 I2 R G hG _ _ g2 fun z ρ3 w3 fp3 F3 H3 F4 H4 I3 e3 pp3 n3 r3 g3 => ?_
    obtain ⟨er3, pe3⟩ := e3.2 rfl
    subst er3
    have p0 : Pext F0 F3 H0 H3 := (pp.trans pe).trans pe3
    have J1 := I0.setM p0 (n.ext (pe.trans pe3)) u (m.ext r1 (pe.trans pe3).ff fun a ha => by
      obtain ⟨_, _, o, h⟩ := n.at_ a ha
      rw [h, (pe.trans pe3).hh a o h])
    have J2 := (J1.setD u2 (b.ext r2 pe3.ff)).setM pp3 n3 u3 r3
    refine ⟨by show 3 ≤ sizeLine; decide, fun q hq => ?_⟩
    have J3 := J2.pext (Pext.one (o := .tup [v, w, w3]) J2.fh hq)
    exact ⟨q, [v, w, w3], rfl, .inl (.inl upd_same), rfl, v, [w, w3], rfl, w, [w3], rfl, w3, [], rfl, rfl, qn _ _ _ _ J3 ((e1.1.trans p0.ff).trans (pp3.ff.trans (Pext.one (o := .tup [v, w, w3]) J2.fh hq).ff)) g3⟩
end
end Pu
set_option Elab.async false
set_option linter.all false
set_option maxRecDepth 100000
set_option maxHeartbeats 4000000
namespace Pu
open PySem PySem.Spec PyProof.Rows L2 Evl SrtO Srt
/-! ### sorted of a tuple -/
section
variable {prog : Program} {w : World} {A : Around} {E : Value → Shared → Prop} {s : Shared}
theorem gather_tup {t : Addr} {vs : List Value} {Q : List Value → Shared → Prop} (ht : IsTup s.heap t vs.toArray) (hsz : vs.length ≤ sizeLine)
    (h : Q vs { s with heap := (s.heap.push (seqObj "list" #[] 0)).update s.heap.objs.size (Obj.mapSeq (· ++ vs.toArray)) }) : wpAny (model prog w) A (collect (.ref t)) Q E s := by
  obtain ⟨ob, g1, g2, n, g3⟩ := id ht
  have g4 : (s.heap.push (seqObj "list" #[] 0)).get? t = some ob := Heap.get?_push_of_some _ g1
  have g5 : (s.heap.push (seqObj "list" #[] 0)).get? s.heap.objs.size = some (seqObj "list" #[] 0) := Heap.get?_push_size _ rfl
  unfold collect
  refine wpAny_bind (wpAny_runValue (codeAny_builtin entry_proto_collect' (by
    show wpAny _ _ (do again (.builtin "list.__iadd__" ⟨[← newList [], .ref t], []⟩)) _ _ s
    refine wpAny_bind (wpAny_newList (wpAny_pure ⟨Code.quiet_builtin _ (by decide +kernel), codeAny_builtin entry_list_iadd' (by
      show wpAny _ _ (Builtin.List.listExtendWith (.ref s.heap.objs.size) (.ref t) (.ref s.heap.objs.size)) _ _ { s with heap := s.heap.push (seqObj "list" #[] 0) }
      unfold Builtin.List.listExtendWith
      refine wpAny_bind (wpAny_typeOf (T := "tuple") ⟨ob, g4, g2⟩ ?_)
      rw [if_pos (by show (_ || _ || (Value.type "tuple" == Value.type "tuple")) = true; rw [show (Value.type "tuple" == Value.type "tuple") = true by rfl]; simp)]
      refine wpAny_bind (listItems_at g4 g3 (wpAny_bind (listItems_at (xs := #[]) (n := 0) g5 rfl ?_)))
      rw [if_neg (by simp)]
      exact wpAny_bind (listUpdate_at (xs := #[]) (n := 0) g5 rfl (wpAny_pure (by
        show wpAny (model prog w) A (do
          let o ← load s.heap.objs.size
          match o.data with | .seq xs _ => pure xs.toList | _ => unsupported "internal:collect") Q E { s with heap := (s.heap.push (seqObj "list" #[] 0)).update s.heap.objs.size (Obj.mapSeq (· ++ vs.toArray)) }
        refine wpAny_bind (wpAny_load (get?_update_seq g5 _) (show wpAny _ _ (pure ((#[] : Array Value) ++ vs.toArray).toList) Q E _ from ?_))
        rw [show ((#[] : Array Value) ++ vs.toArray).toList = vs by simp]
        exact wpAny_pure h)) (Nat.zero_le _) (by show (#[] ++ vs.toArray).size ≤ sizeLine + 1; simp only [Array.size_append, List.size_toArray, List.length_nil]; omega)))⟩)))))
theorem sorted_tup {t : Addr} {vs : List Value} {ltv : Value → Value → Bool} {Q : Value → Shared → Prop} (O : Swo ltv) (ht : IsTup s.heap t vs.toArray) (hz : vs.length ≤ sizeLine)
    (hS : 2 ≤ vs.length → ∀ (h₁ : Heap) (a : Addr), h₁.get? a = some (seqObj "list" vs.toArray 0) → (∀ b o, s.heap.get? b = some o → b ≠ a ∧ h₁.get? b = some o) → SortableO prog w A.in1.in1 { s with heap := h₁ } a vs ltv)
    (h : ∀ out : List Value, SrtO.Srtd ltv out → SrtO.Stb ltv out vs → Q (.ref (s.heap.objs.size + 1)) { s with heap := sortedAll s.heap vs out.toArray }) : wpAny (model prog w) A (call (.builtin "sorted") [.ref t]) Q E s := by
  refine Calls.call_function_entry kind_sorted plain_sorted entry_sorted (args_sorted1 _) (by
    unfold Builtin.«sorted»
    refine wpAny_bind (m := checkCount "sorted" 1 1 _) (wpAny_pure (wpAny_bind (gather_tup ht hz (wpAny_bind (wpAny_newList ?_ hz)))))
    have k1 : ((s.heap.push (seqObj "list" #[] 0)).update s.heap.objs.size (Obj.mapSeq (· ++ vs.toArray))).objs.size = s.heap.objs.size + 1 := by rw [Heap.size_update, size_push']
    have k2 : (((s.heap.push (seqObj "list" #[] 0)).update s.heap.objs.size (Obj.mapSeq (· ++ vs.toArray))).push (seqObj "list" vs.toArray 0)).get? (s.heap.objs.size + 1) = some (seqObj "list" vs.toArray 0) := by rw [← k1]; exact Heap.get?_push_size _ rfl
    have k3 : ∀ b o, s.heap.get? b = some o → b ≠ s.heap.objs.size + 1 ∧ (((s.heap.push (seqObj "list" #[] 0)).update s.heap.objs.size (Obj.mapSeq (· ++ vs.toArray))).push (seqObj "list" vs.toArray 0)).get? b = some o := fun b o q => by
      have k4 : b < s.heap.objs.size := Heap.lt_size q
      exact ⟨Nat.ne_of_lt (Nat.lt_succ_of_lt k4), Heap.get?_push_of_some _ (by rw [Heap.get?_update_ne _ _ _ _ (Nat.ne_of_lt k4)]; exact Heap.get?_push_of_some _ q)⟩
    show wpAny _ _ _ _ _ { s with heap := ((s.heap.push (seqObj "list" #[] 0)).update s.heap.objs.size (Obj.mapSeq (· ++ vs.toArray))).push (seqObj "list" vs.toArray 0) }
    rw [k1]
    exact wpAny_bind (wpAny_holding (wpAny_call_entry slot_list_sort ⟨_, k2, rfl⟩ entry_list_sort (list_sort_ord O k2 hz (fun h2 => hS h2 _ _ k2 k3) fun out hs hb => ⟨_, rfl, wpAny_pure ⟨_, rfl, h out hs hb⟩⟩) (args_list_sort _))))
end
end Pu
set_option Elab.async false
set_option linter.all false
set_option maxRecDepth 100000
set_option maxHeartbeats 4000000
namespace Pu
open PySem PySem.Spec PyProof.Rows L2 Evl
/-- sorted(t), t a tuple of ints -/
def rSortedTI (K : PySem.W.Frag) : List V → Hp → VK → Prop := fun vs H Q => ∃ (a : Addr) (ns : List Int), (vs = [V.ref a]) ∧ SqT K H a (ns.map V.int) ∧ (∀ (ns' : List Int) (p : Addr), (ns'.Perm ns ∧ ns'.Pairwise (· ≤ ·)) → H p = none → Q (.ref p) (upd H p (.lst (ns'.map V.int))))
/-- sorted(t), t a tuple of pairs of ints -/
def rSortedTP (K : PySem.W.Frag) : List V → Hp → VK → Prop := fun vs H Q => ∃ (a : Addr) (xs : List V) (k : V → Int × Int), (vs = [V.ref a]) ∧ SqT K H a xs ∧ ((∀ x ∈ xs, ∃ t, x = V.ref t ∧ H t = some (.tup [.int (k x).1, .int (k x).2])) ∧ ∀ ys p, (SrtO.Srtd (ltP k) ys ∧ SrtO.Stb (ltP k) ys xs) → H p = none → Q (.ref p) (upd H p (.lst ys)))
section
variable {X : Cx} {K : PySem.W.Frag}
theorem cr_sortedTI : CallR X (.builtin "sorted") (rSortedTI X.K) := fun pins s σ H vs us Q I r h => by
  obtain ⟨a, ns, rfl, hs, q⟩ := h
  obtain ⟨its, rv, pl, hz⟩ := I.tuple hs
  rw [Vals.ref1 r]
  have hi := rv.ints
  refine sorted_tup SrtO.swo_int pl (by rw [← rv.length]; exact hz) (fun h2 h₁ a' _ _ => SrtO.ints_sortable hi h2) fun out h1 h2 => ?_
  obtain ⟨k1, k2, k3⟩ := SrtO.ints_out hi h1 h2
  obtain ⟨ep, he'⟩ := PyProof.Rows.sortedAll_at s.heap its out.toArray
  have hl2 : ((out.map SrtO.iv).map V.int).length ≤ sizeLine := by
    have := k2.length_eq
    rw [List.length_map] at hz ⊢
    omega
  exact ⟨.ref (s.heap.objs.size + 1), upd H (s.heap.objs.size + 1) (.lst ((out.map SrtO.iv).map V.int)), I.laid (t' := s.toks) (fun _ _ => PyProof.Rows.sortedAll_old) (Nat.le_succ _) ⟨hl2, out, ep, vals_of_ints k1, he'⟩, rfl, q _ _ ⟨k2, k3⟩ (I.hok.fresh (Nat.le_succ _))⟩
theorem cr_sortedTP : CallR X (.builtin "sorted") (rSortedTP X.K) := fun pins s σ H vs us Q I r h => by
  obtain ⟨a, xs, k, rfl, hs, hx, q⟩ := h
  obtain ⟨its, rv, pl, hz⟩ := I.tuple hs
  rw [Vals.ref1 r]
  obtain ⟨e1, e2⟩ := refs_back rv fun x m => ⟨_, (hx x m).choose_spec.1⟩
  have hp : ∀ v ∈ its, Srt.IsPair s.heap v (k (backV v)).1 (k (backV v)).2 := fun v hv => by
    obtain ⟨t, rfl⟩ := e2 v hv
    obtain ⟨t', e, ht⟩ := hx _ (show V.ref t ∈ xs by rw [e1]; exact List.mem_map.mpr ⟨_, hv, rfl⟩)
    cases e
    obtain ⟨_, its2, r2, o, ho, hc, n, hd⟩ := I.hok _ _ ht
    obtain ⟨u1, u2, rfl, ⟨t1, rfl⟩, ⟨t2, rfl⟩⟩ := vals2 r2
    exact ⟨t, o, t1, t2, n, rfl, ho, hc, hd⟩
  refine sorted_tup (SrtO.swo_lex fun u => k (backV u)) pl (by rw [← rv.length]; exact hz) (fun h2 h₁ a' g1 g2 => ?_) fun out h1 h2 => ?_
  · refine SrtO.pairs_sortableO (s := { s with heap := h₁ }) (by omega) (fun v hm => (hp v hm).keeps fun b o e _ => (g2 b o e).2) fun o e c => ?_
    have e' : some o = some (seqObj "list" its.toArray 0) := e.symm.trans g1
    cases e'
    exact absurd (Value.type.inj c) (by decide)
  · have h3 : ∀ u ∈ out, ∃ a, u = Value.ref a := fun u hu => e2 u (h2.perm.mem_iff.mp hu)
    obtain ⟨n, hn⟩ := PyProof.Rows.sortedAll_at s.heap its out.toArray
    have hb : SrtO.Stb (ltP k) (out.map backV) xs := by rw [e1]; exact SrtO.Stb.map (ltP_swo k) backV h2
    exact ⟨.ref (s.heap.objs.size + 1), upd H (s.heap.objs.size + 1) (.lst (out.map backV)), I.laid (t' := s.toks) (fun _ _ => PyProof.Rows.sortedAll_old) (Nat.le_succ _) ⟨by rw [hb.len]; exact hz, out, n, vals_back h3, hn⟩, rfl, q _ _ ⟨SrtO.srtd_map h1, hb⟩ (I.hok.fresh (Nat.le_succ _))⟩
theorem cr_sortedTIK (hK : X.K = K := by rfl) : CallR X (.builtin "sorted") (rSortedTI K) := by subst hK; exact cr_sortedTI
theorem cr_sortedTPK (hK : X.K = K := by rfl) : CallR X (.builtin "sorted") (rSortedTP K) := by subst hK; exact cr_sortedTP
theorem cr_sortedPOK (hK : X.K = K := by rfl) : CallR X (.builtin "sorted") (rSortedPO K) := by subst hK; exact cr_sortedPO
end
/-! ### their mirrors -/
def leP (p q : Int × Int) : Bool := !SrtO.lexB q p
theorem leP_iff {p q : Int × Int} : leP p q = true ↔ p.1 < q.1 ∨ (p.1 = q.1 ∧ p.2 ≤ q.2) := by
  unfold leP
  rw [Bool.not_eq_true', SrtO.lexB_no]
  omega
def sortP (xs : List (Int × Int)) : List (Int × Int) := xs.mergeSort leP
theorem sortP_perm (xs : List (Int × Int)) : (sortP xs).Perm xs := List.mergeSort_perm _ _
theorem sortP_pw (xs : List (Int × Int)) : (sortP xs).Pairwise fun p q => leP p q = true :=
  List.pairwise_mergeSort (le := leP) (fun a b c h1 h2 => by rw [leP_iff] at *; omega) (fun a b => by
    cases h : leP a b with
    | true => rfl
    | false =>
      have h1 : ¬ leP a b = true := by rw [h]; decide
      rw [leP_iff] at h1
      show leP b a = true
      rw [leP_iff]
      omega) xs
theorem sortedP_eq {xs ys : List (Int × Int)} (p : xs.Perm ys) (h1 : xs.Pairwise fun p q => leP p q = true) (h2 : ys.Pairwise fun p q => leP p q = true) : xs = ys :=
  List.Perm.eq_of_pairwise (fun a b _ _ h1 h2 => by
    rw [leP_iff] at h1 h2
    have e1 : a.1 = b.1 := by omega
    have e2 : a.2 = b.2 := by omega
    exact Prod.ext e1 e2) h1 h2 p
def kOf (H : Hp) (v : V) : Int × Int := match v with
  | .ref t => (match H t with
    | some (.tup [.int a, .int b]) => (a, b)
    | _ => (0, 0))
  | _ => (0, 0)
theorem pv_map {c : DCod} {F : Hp} {g : V → c.α} : ∀ (ys : List V), (∀ y, y ∈ ys → c.rel F y (g y)) → PV c F ys (ys.map g)
  | [], _ => .nil
  | y :: ys, h => .cons (h y (List.mem_cons_self ..)) (pv_map ys fun z hz => h z (List.mem_cons_of_mem _ hz))
theorem pv_k {F H : Hp} (e : Ex F H) : ∀ {vs : List V} {xs : List (Int × Int)}, PV (dP2 dInt dInt) F vs xs → vs.map (kOf H) = xs ∧ ∀ v, v ∈ vs → ∃ t, v = V.ref t ∧ F t = some (.tup [.int (kOf H v).1, .int (kOf H v).2]) ∧ H t = some (.tup [.int (kOf H v).1, .int (kOf H v).2])
  | _, _, .nil => ⟨rfl, fun v hv => nomatch hv⟩
  | _, _, .cons (a := v) (b := x) r t => by
    obtain ⟨i1, i2⟩ := pv_k e t
    obtain ⟨p, u, w, rfl, hp, r1, r2⟩ := r
    have r1 : u = V.int x.1 := r1
    have r2 : w = V.int x.2 := r2
    subst r1 r2
    have hH := e p _ hp
    have hk : kOf H (V.ref p) = x := by
      unfold kOf
      dsimp only
      rw [hH]
    refine ⟨by rw [List.map_cons, hk, i1], fun y hy => ?_⟩
    rcases List.mem_cons.mp hy with rfl | hy
    · rw [hk]; exact ⟨p, rfl, hp, hH⟩
    · exact i2 y hy
section
variable {K : PySem.W.Frag}
theorem out_pairs {F H : Hp} (e : Ex F H) {vs ys : List V} {xs : List (Int × Int)} (pv : PV (dP2 dInt dInt) F vs xs) (h1 : SrtO.Srtd (ltP (kOf H)) ys) (h2 : SrtO.Stb (ltP (kOf H)) ys vs) : PV (dP2 dInt dInt) F ys (sortP xs) := by
  obtain ⟨i1, i2⟩ := pv_k e pv
  have hp : (ys.map (kOf H)).Perm xs := by rw [← i1]; exact h2.perm.map _
  have hs : (ys.map (kOf H)).Pairwise fun p q => leP p q = true := List.pairwise_map.mpr (h1.imp fun {x y} h => by
    show leP (kOf H x) (kOf H y) = true
    unfold leP
    rw [show SrtO.lexB (kOf H y) (kOf H x) = false from h]; rfl)
  rw [← sortedP_eq (hp.trans (sortP_perm xs).symm) hs (sortP_pw xs)]
  refine pv_map ys fun y hy => ?_
  obtain ⟨t, rfl, h3, _⟩ := i2 y (h2.perm.mem_iff.mp hy)
  exact ⟨t, _, _, rfl, h3, rfl, rfl⟩
theorem o_sortP : Op1b (rSortedPO K) (dLst (dP2 dInt dInt)) (dLst (dP2 dInt dInt)) sortP := fun F H v x Q e h k => by
  obtain ⟨a, vs, rfl, g2, g3, g4⟩ := h
  obtain ⟨i1, i2⟩ := pv_k e g3
  refine ⟨a, vs, kOf H, rfl, SqL.of (e a _ g2), fun y hy => ?_, fun ys p h1 h2 hn => ?_⟩
  · obtain ⟨t, h3, _, h4⟩ := i2 y hy
    exact ⟨t, h3, h4⟩
  · exact k _ _ _ (Pext.one e hn) ⟨p, _, rfl, upd_same, (out_pairs e g3 h1 h2).ext (Ex.new (none_of e hn)), by rw [(sortP_perm x).length_eq]; exact g4⟩
theorem o_sortTP : Op1b (rSortedTP K) (dTup (dP2 dInt dInt)) (dLst (dP2 dInt dInt)) sortP := fun F H v x Q e h k => by
  obtain ⟨a, vs, rfl, g2, g3, g4⟩ := h
  obtain ⟨i1, i2⟩ := pv_k e g3
  refine ⟨a, vs, kOf H, rfl, SqT.rd e g2, fun y hy => ?_, fun ys p ⟨h1, h2⟩ hn => ?_⟩
  · obtain ⟨t, h3, _, h4⟩ := i2 y hy
    exact ⟨t, h3, h4⟩
  · exact k _ _ _ (Pext.one e hn) ⟨p, _, rfl, upd_same, (out_pairs e g3 h1 h2).ext (Ex.new (none_of e hn)), by rw [(sortP_perm x).length_eq]; exact g4⟩
theorem o_sortTI : Op1b (rSortedTI K) (dTup dInt) (dLst dInt) sortI := fun F H v x Q e h k => by
  obtain ⟨a, vs, rfl, g2, g3, g4⟩ := h
  rw [ints_of g3] at g2
  refine ⟨a, x, rfl, SqT.rd e g2, fun ns' p ⟨hp, hs⟩ hn => ?_⟩
  have en : ns' = sortI x := sorted_eq (hp.trans (sortI_perm x).symm) hs (sortI_pw x)
  subst en
  exact k _ _ _ (Pext.one e hn) ⟨p, _, rfl, upd_same, ints_to _, by rw [(sortI_perm x).length_eq]; exact g4⟩
end
end Pu
set_option Elab.async false
set_option linter.all false
set_option maxRecDepth 100000
set_option maxHeartbeats 4000000
namespace Pu
open PySem L2 Evl
/-! ### comprehensions of two clauses -/
theorem go_it {J : It} {n : Nat} {Gh : Hp → Prop} {Y : Nat → Hp → V → Hp → Prop} (w : Walk J n Gh Y) {g : TG} {σw : St} {body : St → Hp → (Hp → Prop) → Prop} {H0 : Hp} {Qd : Hp → Prop} (Pv : Nat → Hp → Prop) (h0 : Pv 0 H0) (hG : ∀ i H, i ≤ n → Pv i H → Gh H)
    (hs : ∀ i x H H', i < n → Pv i H → Y i H x H' → g x σw H' fun σ2 H2 => body σ2 H2 (Pv (i + 1))) (hd : ∀ H, Pv n H → Qd H) :
    ∃ W : Nat → Nat → Hp → Prop, (∃ m, W 0 m H0) ∧ ∀ i m H, W i m H → (J.stop i H ∧ Qd H) ∨ (J.go i H ∧ ∃ Nx : Hp → Prop, (∀ H', Nx H' → ∃ m', m' < m ∧ W (i + 1) m' H') ∧ ∀ x H', J.yld i H x H' → g x σw H' fun σ2 H2 => body σ2 H2 Nx) := by
  refine ⟨fun i m H => (i ≤ n ∧ Pv i H) ∧ m = n - i, ⟨n, ⟨Nat.zero_le _, h0⟩, by simp⟩, fun i m H ⟨⟨hi, p⟩, e⟩ => ?_⟩
  subst e
  have q := hG i H hi p
  rcases Nat.lt_or_ge i n with hlt | hge
  · exact .inr ⟨w.goes i H hlt q, Pv (i + 1), fun H' p' => ⟨n - (i + 1), by omega, ⟨hlt, p'⟩, rfl⟩, fun x H' y => hs i x H H' hlt p (w.yields i H x H' hlt q y)⟩
  · have e : i = n := by omega
    subst e
    exact .inl ⟨w.stops H q, hd H p⟩
def compM {α β S : Type} (body : α → S → Res (List β × S)) : List α → S → Option (List β × S)
  | [], s => some ([], s)
  | x :: xs, s => match body x s with
    | .ok (o, s1) => (match compM body xs s1 with
      | some (ys, s2) => some (o ++ ys, s2)
      | none => none)
    | _ => none
theorem compM_cons {α β S : Type} {body : α → S → Res (List β × S)} {x : α} {xs : List α} {s s2 : S} {ys : List β} (h : compM body (x :: xs) s = some (ys, s2)) : ∃ o s1 ys', body x s = .ok (o, s1) ∧ compM body xs s1 = some (ys', s2) ∧ ys = o ++ ys' := by
  unfold compM at h
  split at h
  · rename_i o s1 e
    split at h
    · rename_i ys' s2' e2
      cases h
      exact ⟨o, s1, ys', e, e2, rfl⟩
    · cases h
  · cases h
section
variable {p : Bool} {E : XK} {XC : Str → Value} {Rt : Ret} {Γ Γ' Γ0 Γ1 Γ2 ΓL : List Sl} {te ta tb tc : TE} {tt tu : TT} {tA : TA} {ti ti1 : TI} {tg tg1 : TG} {a b c d a1 : DCod} {m : Cod} {cs : List DCod} {ts us : TS}
/-- what stays of a list laid apart, when the names of a block are wiped again -/
theorem wiped_on {B B2 : Base} {Γ Γx : List Sl} {σ σ3 : St} {D : Addr} {vs is : List Nat} {o : HO} (his : ∀ i, i ∈ is → i ∈ vs) (hag : ∀ i, i ∉ is → σ3[i]? = (wipe σ vs)[i]?) (hln : σ3.length = (wipe σ vs).length) : wipe σ3 vs = wipe σ vs := by
  rw [wipe_eq hln fun j hj => hag j fun z => hj (his j z)]
  exact wipe_eq (wipe_length _ _) fun j hj => wipe_get _ _ _ hj
theorem en_lc2 {vs vs1 is is1 : List Nat} {q : Bool} {f : Env Γ0 → a.α → Env Γ1} {f1 : Env Γ1 → a1.α → Env Γ2} {T0 : (R : Type) → (List a.α → Env Γ → Res R) → Env Γ → Res R} {T1 : (R : Type) → (List a1.α → Env Γ1 → Res R) → Env Γ1 → Res R}
    {Tt : (R : Type) → (Bool → Env Γ1 → Res R) → Env Γ1 → Res R} {Tu : (R : Type) → (Bool → Env Γ2 → Res R) → Env Γ2 → Res R} {Te : (R : Type) → (c.α → Env Γ2 → Res R) → Env Γ2 → Res R}
    (hd : Hd Γ Γ0) (hv : allNo Γ0 vs = true) (hv1 : allNo Γ1 vs1 = true) (his : ∀ i, i ∈ is → i ∈ vs) (his1 : ∀ i, i ∈ is1 → i ∈ vs1) (hvv : ∀ i, i ∈ vs1 → i ∈ vs) (bk : Bk Γ1 Γ0) (bk1 : Bk Γ2 Γ1)
    (h : EvI false E XC Γ ti a T0) (ht : TgE Γ0 tg a Γ1 f is) (hc : EvT q E0 XC Γ1 tt Tt) (h1 : EvI false E0 XC Γ1 ti1 a1 T1) (ht1 : TgE Γ1 tg1 a1 Γ2 f1 is1) (hc1 : EvT q E0 XC Γ2 tu Tu) (he : EvE q E0 XC Γ2 te c Te) :
    EvN false E XC Γ (tLc2 ti tg tt ti1 tg1 tu te vs vs1) (mLst c) (fun R k ρ => T0 R (fun xs ρ => opt (compM (fun x ρ0 => Tt _ (fun b ρ1 => if b = true then T1 _ (fun ys ρ1 => opt (compL (fun y ρ1 => Tu _ (fun b ρ2 => if b = true then Te _ (fun z ρ3 => .ok (some z, bk1.f ρ3)) ρ2 else .ok (none, bk1.f ρ2)) (f1 ρ1 y)) ys ρ1) fun zs => .ok (zs.1, bk.f zs.2)) ρ1 else .ok ([], bk.f ρ1)) (f ρ0 x)) xs (hd.h ρ)) fun ys => chk (decide (ys.1.length ≤ 16777216)) (k ys.1 (hd.sh ys.2 ρ))) ρ) := fun B σ F H ρ I R G hG k Q g qq => by
  refine h B σ F H ρ I R G hG _ _ g fun xs ρ1 J F1 H1 I1 e1 w g1 hz D hD => ?_
  obtain ⟨Y, w, hy⟩ := w.ex
  generalize hbody0 : (fun (x : a.α) (ρ0 : Env Γ0) => Tt _ (fun b ρ1 => if b = true then T1 _ (fun ys ρ1 => opt (compL (fun y ρ1 => Tu _ (fun b ρ2 => if b = true then Te _ (fun z ρ3 => Res.ok (some z, bk1.f ρ3)) ρ2 else Res.ok (none, bk1.f ρ2)) (f1 ρ1 y)) ys ρ1) fun zs => Res.ok (zs.1, bk.f zs.2)) ρ1 else Res.ok ([], bk.f ρ1)) (f ρ0 x)) = body0 at g1
  generalize hcl : compM body0 xs (hd.h ρ1) = cl at g1
  cases cl with
  | none => exact absurd g1 hG.1
  | some ys =>
  obtain ⟨ys, ρe⟩ := ys
  have g1 : G (chk (decide (ys.length ≤ 16777216)) (k ys (hd.sh ρe ρ1))) := g1
  have hysl : ys.length ≤ 16777216 := by
    by_cases hh : ys.length ≤ 16777216
    · exact hh
    · rw [decide_eq_false hh] at g1; exact absurd g1 hG.1
  rw [decide_eq_true hysl] at g1
  have g1 : G (k ys (hd.sh ρe ρ1)) := g1
  have hsl := sizeLine_eq
  have S1 : SApart B Γ σ F1 (upd H1 D (.lst [])) ρ1 D := I1.apart hD
  obtain ⟨L1, r1, w1, hn1, hF1, hB1⟩ := S1
  have S0 : SApart B Γ0 σ F1 (upd H1 D (.lst [])) (hd.h ρ1) D := ⟨L1, hd.ok r1, w1, hn1, hF1, hB1⟩
  refine go_it (body := fun σ2 H2 Nx => wipe σ2 vs = wipe σ vs ∧ tt σ2 H2 fun b H3 => if b = true then ti1 σ2 H3 fun J1 H4 => ∃ W1 : Nat → Nat → Hp → Prop, (∃ m, W1 0 m H4) ∧ ∀ j k H, W1 j k H →
      (J1.stop j H ∧ Nx H) ∨ (J1.go j H ∧ ∃ Nx1 : Hp → Prop, (∀ H', Nx1 H' → ∃ k', k' < k ∧ W1 (j + 1) k' H') ∧ ∀ x H', J1.yld j H x H' → tg1 x (wipe σ2 vs1) H' fun σ3 H5 => wipe σ3 vs1 = wipe σ2 vs1 ∧ tu σ3 H5 fun b H6 =>
        if b = true then te σ3 H6 fun y H7 => ∃ acc, H7 D = some (.lst acc) ∧ acc.length < sizeLine ∧ Nx1 (upd H7 D (.lst (acc ++ [y]))) else Nx1 H6) else Nx H3)
    w (fun i H' => i ≤ xs.length ∧ ∃ F' ρ0 acc vs' rest, SApart B Γ0 (wipe σ vs) F' H' ρ0 D ∧ Ex F1 F' ∧ H' D = some (.lst vs') ∧ PV c F' vs' acc ∧ compM body0 (xs.drop i) ρ0 = some (rest, ρe) ∧ ys = acc ++ rest)
    ⟨Nat.zero_le _, F1, hd.h ρ1, [], [], ys, S0.wiped hv, Ex.refl _, upd_same, .nil, hcl, rfl⟩ (fun i H' _ ⟨_, F', _, _, _, _, S, e', _⟩ => e'.trans S.inv.fh) ?_ ?_
  · rintro i v H' H2 hi ⟨_, F', ρ0, acc, vs', rest, S, e', hDl, pv, hcl', hys⟩ y
    obtain ⟨F2, x, hx, pp, r⟩ := hy i H' v H2 F' y e' S.inv.fh
    obtain ⟨hlt, hxe⟩ := List.getElem?_eq_some_iff.mp hx
    have ed : xs.drop i = x :: xs.drop (i + 1) := by rw [← hxe]; exact (List.drop_eq_getElem_cons hlt)
    rw [ed] at hcl'
    obtain ⟨o, ρ3, ys', hbody, hrest, hrr⟩ := compM_cons hcl'
    rw [← hbody0] at hbody
    obtain ⟨B2, I2, hfr, back⟩ := S.go hDl
    have I2' := I2.pext pp
    refine ht B2 _ F2 H2 ρ0 v x I2' r _ fun σ3 I3 hag hln => ?_
    have ew3 : wipe σ3 vs = wipe σ vs := wiped_on (B := B) (B2 := B2) (Γ := Γ) (Γx := Γ) (D := D) (o := .lst []) his hag hln
    refine ⟨ew3, ?_⟩
    refine hc B2 σ3 F2 H2 _ I3 _ (fun r => r = Res.ok (o, ρ3)) (rs0 (fun z => nomatch z) fun n z => nomatch z) _ _ hbody fun bb ρ4 F4 H4 I4 e4 g4 => ?_
    have hup : ∀ {Fz Hz : Hp} {ρz : Env Γ1} {σz : St}, wipe σz vs = wipe σ vs → SApart B Γ1 σz Fz Hz ρz D → SApart B Γ0 (wipe σ vs) Fz Hz (bk.f ρz) D := fun {Fz Hz ρz σz} ez Sz => by
      have S2 := (bk.apart Sz).wiped hv
      rw [ez] at S2
      exact S2
    cases bb with
    | false =>
      rw [if_neg (by decide)] at g4 ⊢
      cases g4
      obtain ⟨S5, h5⟩ := back _ _ _ _ _ I4
      exact ⟨hlt, F4, _, acc, vs', ys', hup ew3 S5, (e'.trans pp.ff).trans e4.1, h5, pv.ext (pp.ff.trans e4.1), hrest, by rw [hys, hrr]; simp⟩
    | true =>
      rw [if_pos rfl] at g4 ⊢
      refine h1 B2 σ3 F4 H4 ρ4 I4 _ (fun r => r = Res.ok (o, ρ3)) (rs0 (fun z => nomatch z) fun n z => nomatch z) _ _ g4 fun xs1 ρ5 J1 F5 H5 I5 e5 w5 g5 hz5 => ?_
      obtain ⟨Y1, w5, hy5⟩ := w5.ex
      generalize hbody1 : (fun (y : a1.α) (ρ1 : Env Γ1) => Tu _ (fun b ρ2 => if b = true then Te _ (fun z ρ3 => Res.ok (some z, bk1.f ρ3)) ρ2 else Res.ok (none, bk1.f ρ2)) (f1 ρ1 y)) = body1 at g5
      generalize hcl1 : compL body1 xs1 ρ5 = cl1 at g5
      cases cl1 with
      | none => exact absurd g5 (fun z => nomatch z)
      | some zs =>
      obtain ⟨zs, ρz⟩ := zs
      have g5 : Res.ok (zs, bk.f ρz) = Res.ok (o, ρ3) := g5
      obtain ⟨S5, h5⟩ := back _ _ _ _ _ I5
      refine go_it (body := fun σ3' H5 Nx1 => wipe σ3' vs1 = wipe σ3 vs1 ∧ tu σ3' H5 fun b H6 => if b = true then te σ3' H6 fun y H7 => ∃ acc, H7 D = some (.lst acc) ∧ acc.length < sizeLine ∧ Nx1 (upd H7 D (.lst (acc ++ [y]))) else Nx1 H6)
        w5 (fun j Hj => j ≤ xs1.length ∧ ∃ Fj ρj acc1 vsj rest1, SApart B Γ1 (wipe σ3 vs1) Fj Hj ρj D ∧ Ex F5 Fj ∧ Hj D = some (.lst vsj) ∧ PV c Fj vsj (acc ++ acc1) ∧ compL body1 (xs1.drop j) ρj = some (rest1, ρz) ∧ zs = acc1 ++ rest1)
        ⟨Nat.zero_le _, F5, ρ5, [], vs', zs, S5.wiped hv1, Ex.refl _, h5, by rw [List.append_nil]; exact pv.ext ((pp.ff.trans e4.1).trans e5.1), hcl1, rfl⟩ (fun j Hj _ ⟨_, Fj, _, _, _, _, Sj, ej, _⟩ => ej.trans Sj.inv.fh) ?_ ?_
      · rintro j vj Hj Hj' hj ⟨_, Fj, ρj, acc1, vsj, rest1, Sj, ej, hDj, pvj, hclj, hzs⟩ yj
        obtain ⟨F6, y1, hy1, pp1, r6⟩ := hy5 j Hj vj Hj' Fj yj ej Sj.inv.fh
        obtain ⟨hlt1, hye⟩ := List.getElem?_eq_some_iff.mp hy1
        have ed1 : xs1.drop j = y1 :: xs1.drop (j + 1) := by rw [← hye]; exact (List.drop_eq_getElem_cons hlt1)
        rw [ed1] at hclj
        obtain ⟨o1, ρ7, rest2, hb1, hrest1, hrr1⟩ := compL_cons hclj
        rw [← hbody1] at hb1
        obtain ⟨B3, I6, hfr3, back3⟩ := Sj.go hDj
        have I6' := I6.pext pp1
        refine ht1 B3 _ F6 Hj' ρj vj y1 I6' r6 _ fun σ7 I7 hag7 hln7 => ?_
        have ew7 : wipe σ7 vs1 = wipe σ3 vs1 := wiped_on (B := B) (B2 := B3) (Γ := Γ) (Γx := Γ) (D := D) (o := .lst []) his1 hag7 hln7
        refine ⟨ew7, ?_⟩
        refine hc1 B3 σ7 F6 Hj' _ I7 _ (fun r => r = Res.ok (o1, ρ7)) (rs0 (fun z => nomatch z) fun n z => nomatch z) _ _ hb1 fun bb1 ρ8 F8 H8 I8 e8 g8 => ?_
        have hup1 : ∀ {Fz Hz : Hp} {ρy : Env Γ2}, SInv B3 Γ2 σ7 Fz Hz ρy → SApart B Γ1 (wipe σ3 vs1) Fz Hz (bk1.f ρy) D ∧ Hz D = some (.lst vsj) := fun {Fz Hz ρy} Iz => by
          obtain ⟨Sz, hz⟩ := back3 _ _ _ _ _ (bk1.inv Iz)
          have S2 := Sz.wiped hv1
          rw [ew7] at S2
          exact ⟨S2, hz⟩
        cases bb1 with
        | true =>
          rw [if_pos rfl] at g8 ⊢
          refine he B3 σ7 F8 H8 ρ8 I8 _ (fun r => r = Res.ok (o1, ρ7)) (rs0 (fun z => nomatch z) fun n z => nomatch z) _ _ g8 fun z1 ρ9 u9 F9 H9 I9 e9 r9 g9 => ?_
          cases g9
          obtain ⟨S9, h9⟩ := hup1 I9
          have hzl : (acc ++ acc1).length + 1 ≤ ys.length := by
            cases g5
            rw [hys, hrr, hzs, hrr1]
            simp only [List.length_append, Option.toList, List.length_cons]
            omega
          refine ⟨vsj, h9, ?_, hlt1, F9, _, acc1 ++ [z1], vsj ++ [u9], rest2, S9.upd, ((ej.trans pp1.ff).trans e8.1).trans e9.1, upd_same, ?_, hrest1, ?_⟩
          · rw [pvj.length]; omega
          · rw [← List.append_assoc]; exact (pvj.ext ((pp1.ff.trans e8.1).trans e9.1)).append (.cons r9 .nil)
          · rw [hzs, hrr1]; simp
        | false =>
          rw [if_neg (by decide)] at g8 ⊢
          cases g8
          obtain ⟨S9, h9⟩ := hup1 I8
          exact ⟨hlt1, F8, _, acc1, vsj, rest2, S9, (ej.trans pp1.ff).trans e8.1, h9, pvj.ext (pp1.ff.trans e8.1), hrest1, by rw [hzs, hrr1]; simp⟩
      · rintro Hj ⟨_, Fj, ρj, acc1, vsj, rest1, Sj, ej, hDj, pvj, hclj, hzs⟩
        rw [List.drop_length] at hclj
        cases hclj
        rw [List.append_nil] at hzs
        subst hzs
        cases g5
        have Sk : SApart B Γ1 σ3 Fj Hj ρz D := Sj.unwiped hv1
        exact ⟨hlt, Fj, _, acc ++ o, vsj, ys', hup ew3 Sk, (((e'.trans pp.ff).trans e4.1).trans e5.1).trans ej, hDj, pvj, hrest, by rw [hys, hrr]; simp⟩
  · rintro H' ⟨_, F', ρ0, acc, vs', rest, S, e', hDl, pv, hcl', hys⟩
    rw [List.drop_length] at hcl'
    cases hcl'
    rw [List.append_nil] at hys
    subst hys
    have S2 := S.unwiped hv
    obtain ⟨L2, r2, w2, hn2, hF2, hB2⟩ := S2
    have r3 : SRel Γ B.τ σ F' H' L2 (hd.sh ρe ρ1) := hd.re r1 e' r2
    have hne : ∀ a, a ≠ D → (fun b => if b = D then none else H' b : Hp) a = H' a := fun a ha => if_neg ha
    have hDn : (fun b => if b = D then none else H' b : Hp) D = none := if_pos rfl
    have w3 : Wd B F' (fun b => if b = D then none else H' b) L2 := ⟨w2.nd, fun k a ha => by
        obtain ⟨q1, o, q2⟩ := w2.fr k a ha
        exact ⟨q1, o, (hne a fun z => hn2 k (z ▸ ha)).trans q2⟩, fun a u hu => (hne a (ne_of_none hu hF2)).trans (w2.fh a u hu), w2.bf, fun a u hu h1 h2 => (hne a (ne_of_none hu hB2)).trans (w2.keep a u hu h1 h2),
        fun a u hu => by
          obtain ⟨o, ho⟩ := w2.there a u hu
          exact ⟨o, (hne a (ne_of_none hu hB2)).trans ho⟩, w2.new, w2.own, w2.loc, w2.con⟩
    have r4 : SRel Γ B.τ σ F' (fun b => if b = D then none else H' b) L2 (hd.sh ρe ρ1) := r3.ext (Ex.refl _) fun k a ha => hne a fun z => hn2 k (z ▸ ha)
    refine qq ys _ (.ref D) [D] F' _ F' H' ⟨L2, r4, w3⟩ ⟨e1.1.trans e', fun z => nomatch z⟩ ⟨fun a o ho => ?_, Ex.refl _, w2.fh, fun a o ho => .inl ho⟩ ⟨by simp, fun a ha => ?_⟩ ⟨D, vs', rfl, rfl, hDl, pv, ?_⟩ g1
    · by_cases ha : a = D
      · subst ha
        have ho : (none : Option HO) = some o := hDn.symm.trans ho
        cases ho
      · exact (hne a ha).symm.trans ho
    · have ha : a = D := by simpa using ha
      subst ha
      exact ⟨hDn, hF2, _, hDl⟩
    · omega
end
end Pu
set_option Elab.async false
set_option linter.all false
set_option maxRecDepth 100000
set_option maxHeartbeats 4000000
namespace Pu
open PySem L2 Evl
section
variable {p : Bool} {E : XK} {XC : Str → Value} {Rt : Ret} {K : PySem.W.Frag} {Γ Γ' Γ0 Γ1 Γ2 ΓL Γf : List Sl} {te ta tb tc : TE} {tA : TA} {a b c d : DCod}
def catA {α : Type} (xs ys : List α) : List α := xs ++ ys
theorem catA_len {α : Type} (xs ys : List α) : (catA xs ys).length = xs.length + ys.length := List.length_append
theorem st_ext {i : Nat} {k : Kd} (hk : k ≠ .co) (at_ : At Γ i (.m k (mLst c))) {T : (R : Type) → (List c.α → Env Γ → Res R) → Env Γ → Res R} (h : EvE p E XC Γ te (dLst c) T) :
    StE E XC Rt Γ (tDrop (tBM K "list" rExtend (tVar i) (tCons te tNil))) Γ ΓL (fun R nx rt bk ct ρ => T R (fun x ρ => chk (decide (List.length (α := c.α) (at_.get ρ) + List.length (α := c.α) x ≤ 16777216)) (nx (at_.put ρ (catA (α := c.α) (at_.get ρ) x)))) ρ) := fun B σ F H ρ I R G hG nx rt bk ct D g qn qr qb qc => by
  obtain ⟨l0, vs0, h1, hl0, _⟩ := lst_step hk I at_
  refine ⟨.ref l0, h1, .inl ⟨rfl, vs0, SqL.of hl0⟩, h B σ F H ρ I R G hG _ _ g fun x ρ1 u F1 H1 I1 e1 r1 g1 => ?_⟩
  obtain ⟨l, vs, h2, hl, pv, hz, hs⟩ := lst_step hk I1 at_
  rw [h1] at h2
  cases h2
  obtain ⟨a, ws, rfl, q2, q3, q4⟩ := r1
  by_cases hx : List.length (α := c.α) (at_.get ρ1) + List.length (α := c.α) x ≤ 16777216
  · rw [decide_eq_true hx] at g1
    have hsz := sizeLine_eq
    have hpl := pv.length
    have hql := q3.length
    exact ⟨l0, a, vs, ws, rfl, rfl, hl, I1.fh a _ q2, by omega, qn _ σ F1 _ (hs (vs ++ ws) (catA (α := c.α) (at_.get ρ1) x) (pv.append q3) (Nat.le_trans (Nat.le_of_eq (catA_len (α := c.α) (at_.get ρ1) x)) (by omega))) e1.1 g1⟩
  · rw [decide_eq_false hx] at g1
    exact absurd g1 hG.1
theorem call_max2T {X : Cx} (hc : X.calm = true) : CallR X (.builtin "max") (fun xs H Q => ∃ i j, xs = [.int i, .int j] ∧ Q (.int (if i < j then j else i)) H) := call_max2 hc
theorem call_min2T {X : Cx} (hc : X.calm = true) : CallR X (.builtin "min") (fun xs H Q => ∃ i j, xs = [.int i, .int j] ∧ Q (.int (if j < i then j else i)) H) := call_min2 hc
theorem ev_max2 {Ta Tb : (R : Type) → (Int → Env Γ → Res R) → Env Γ → Res R} (ha : EvE p E XC Γ ta dInt Ta) (hb : EvE p E XC Γ tb dInt Tb) :
    EvE p E XC Γ (tCB (fun xs H Q => ∃ i j, xs = [.int i, .int j] ∧ Q (.int (if i < j then j else i)) H) (tCons ta (tCons tb tNil))) dInt (fun R k ρ => Ta R (fun x ρ => Tb R (fun y ρ => k (if x < y then y else x) ρ) ρ) ρ) := fun B σ F H ρ I R G hG k Q g q =>
  ha B σ F H ρ I R G hG _ _ g fun x ρ1 v F1 H1 I1 e1 r1 g1 => hb B σ F1 H1 ρ1 I1 R G hG _ _ g1 fun y ρ2 w F2 H2 I2 e2 r2 g2 =>
    ⟨x, y, by rw [show v = V.int x from r1, show w = V.int y from r2], q _ ρ2 _ F2 H2 I2 (e1.trans e2) rfl g2⟩
theorem ev_min2 {Ta Tb : (R : Type) → (Int → Env Γ → Res R) → Env Γ → Res R} (ha : EvE p E XC Γ ta dInt Ta) (hb : EvE p E XC Γ tb dInt Tb) :
    EvE p E XC Γ (tCB (fun xs H Q => ∃ i j, xs = [.int i, .int j] ∧ Q (.int (if j < i then j else i)) H) (tCons ta (tCons tb tNil))) dInt (fun R k ρ => Ta R (fun x ρ => Tb R (fun y ρ => k (if y < x then y else x) ρ) ρ) ρ) := fun B σ F H ρ I R G hG k Q g q =>
  ha B σ F H ρ I R G hG _ _ g fun x ρ1 v F1 H1 I1 e1 r1 g1 => hb B σ F1 H1 ρ1 I1 R G hG _ _ g1 fun y ρ2 w F2 H2 I2 e2 r2 g2 =>
    ⟨x, y, by rw [show v = V.int x from r1, show w = V.int y from r2], q _ ρ2 _ F2 H2 I2 (e1.trans e2) rfl g2⟩
end
end Pu
set_option Elab.async false
set_option linter.all false
set_option maxRecDepth 100000
set_option maxHeartbeats 4000000
namespace PuMin
open PySem PySem.SeqAt
open PySem.AutoSeq1 (wpAny_loadPart')
open PySem.MeetsSeq PySem.MeetsSeq2 PySem.MeetsSeq3
/-- t < u: what stands behind the first unequal pair isn't looked at -/
theorem tup_first (l b : Addr) (us ws : Array Value) (n n2 : Nat) (dd dd2 : Option Addr) (sl sl2 : Array (Option Value)) (e r : Nat → Bool) :
    Meets (Builtin.«tuple.__lt__» ⟨[.ref l, .ref b], []⟩)
      (fun A R s => (s.heap.get? l = some { cls := .type "tuple", dict := dd, data := .seq us n, slots := sl } ∧ s.heap.get? b = some { cls := .type "tuple", dict := dd2, data := .seq ws n2, slots := sl2 }) ∧
        (∀ j (h1 : j < us.size) (h2 : j < ws.size), EqAt A.in1 s us[j] ws[j] (e j)) ∧
        (∀ j (h1 : j < us.size) (h2 : j < ws.size), (∀ i, i < j → e i = true) → e j = false → Ob.RcOp .Lt A.in1 s us[j] ws[j] (r j)) ∧
        R (.ok (.ret (.bool (Ob.lexAt e r (decide (us.size < ws.size)) 0 (min us.size ws.size))))) s) :=
  .of_wp fun prog w A R s h => by
    obtain ⟨hp, g, d, tk, os⟩ := s; obtain ⟨⟨hl, hb⟩, he, hr, h⟩ := h
    have f2 := AutoSeq1.sub_tuple_tuple
    have zl : (us.toList.zip ws.toList).length = min us.size ws.size := by simp
    wp_walk using wpAny_loadPart' hl, wpAny_loadPart' hb, wpAny_forIn_list _ (fun rest b s' => b.1 = none ∧ s' = ⟨hp, g, d, tk, os⟩ ∧ ∃ i, (rest = (us.toList.zip ws.toList).drop i ∧ ∀ i', i' < i → e i' = true) ∧
      R (.ok (.ret (.bool (Ob.lexAt e r (decide (us.size < ws.size)) i (min us.size ws.size - i))))) ⟨hp, g, d, tk, os⟩) _
    case turn =>
      rintro ⟨y, x⟩ rest b s' ⟨hb', rfl, i, ⟨zd, eqs⟩, hR⟩
      have k0 : i < (us.toList.zip ws.toList).length := Nat.lt_of_not_le fun k => by rw [List.drop_of_length_le k] at zd; cases zd
      have km : i < min us.size ws.size := zl ▸ k0
      have k1 : i < us.size := by omega
      have k2 : i < ws.size := by omega
      rw [List.drop_eq_getElem_cons k0] at zd
      injection zd with ze zr
      have ey : y = us[i] := by have := congrArg Prod.fst ze; simpa using this
      have ex : x = ws[i] := by have := congrArg Prod.snd ze; simpa using this
      subst ey ex
      rw [show min us.size ws.size - i = (min us.size ws.size - (i + 1)) + 1 by omega, Ob.lexAt_succ] at hR
      refine wpAny_bind (he i k1 k2 prog w _ _ ?_)
      cases ei : e i with
      | true =>
        rw [ei, if_pos rfl] at hR
        wp_walk
        exact ⟨rfl, rfl, i + 1, ⟨zr, fun i' hi' => by rcases Nat.lt_succ_iff_lt_or_eq.mp hi' with q | q; exact eqs i' q; rw [q]; exact ei⟩, hR⟩
      | false =>
        rw [ei, if_neg Bool.false_ne_true] at hR
        have hri := hr i k1 k2 eqs ei prog w
        wp_walk using hri
        exact ⟨_, rfl, by simpa using hR⟩
    case fin =>
      rintro ⟨b1, b2⟩ s' ⟨hb', rfl, i, ⟨zd, eqs⟩, hR⟩
      simp only at hb'
      subst hb'
      have kg : min us.size ws.size ≤ i := Nat.le_of_not_lt fun k => by
        have k' : i < (us.toList.zip ws.toList).length := by rw [zl]; exact k
        rw [List.drop_eq_getElem_cons k'] at zd; cases zd
      rw [Nat.sub_eq_zero_of_le kg, Ob.lexAt_zero] at hR
      wp_walk
      exact ⟨_, rfl, by simpa [Builtin.Tuple.tupleCompareSizes] using hR⟩
    case h => exact ⟨rfl, rfl, 0, ⟨rfl, fun i' hi' => absurd hi' (Nat.not_lt_zero _)⟩, by simpa using h⟩
theorem lt_first {A : Around} {s : Shared} {l b : Addr} {us ws : Array Value} {e r : Nat → Bool} (hl : s.heap.IsTuple l us) (hb : s.heap.IsTuple b ws) (hu : A.units < cLine)
    (he : ∀ j (h1 : j < us.size) (h2 : j < ws.size), EqAt A.in1 s us[j] ws[j] (e j))
    (hr : ∀ j (h1 : j < us.size) (h2 : j < ws.size), (∀ i, i < j → e i = true) → e j = false → Ob.RcOp .Lt A.in1 s us[j] ws[j] (r j)) :
    Ob.RcOp .Lt A s (.ref l) (.ref b) (Ob.lexAt e r (decide (us.size < ws.size)) 0 (min us.size ws.size)) := fun prog w E Q h => by
  obtain ⟨⟨c1, dd, d1, sl⟩, o1, rfl, n, rfl⟩ := id hl
  obtain ⟨⟨c2, dd2, d2, sl2⟩, o2, rfl, n2, rfl⟩ := id hb
  exact richCompare_meets_room (op := .Lt) ⟨_, o1, rfl⟩ ⟨_, o2, rfl⟩ F.slot_tuple_lt F.entry_tuple_lt (F.args_tuple_lt_2 _ _) (tup_first l b us ws n n2 dd dd2 sl sl2 e r) ⟨⟨o1, o2⟩, he, hr, ⟨(fun x => nomatch x), h⟩⟩ hu
section
variable {prog : Program} {w : World} {A : Around} {E : Value → Shared → Prop} {s : Shared}
theorem str_of_none {Q : Value → Shared → Prop} (h : Q (.str "None" s.toks) { s with toks := s.toks + 1 }) : wpAny (model prog w) A (call (.type "str") [.none]) Q E s :=
  callType_new F.called_str (by decide) (F.typeCall_str_1 _) (F.newCall_str_1 _) (fun obj => F.args_object_init_2 obj _) F.entry_str_new
    (meets_str_new (S := fun _ R s => R (.ok (.ret (.str "None" s.toks))) { s with toks := s.toks + 1 }) fun _ _ _ _ s hq =>
      wpAny_strOf_gives rfl (typeIs_none s) F.slot_NoneType_str F.slot_NoneType_repr F.entry_NoneType_repr (F.args_NoneType_repr_1 _) gives_none_repr hq (hsz := by decide)) ⟨typeIs_str _ _ _, h⟩
end
end PuMin
namespace Pu
open PySem L2 Evl PySem.W
/-! ### str(x) of an int or nothing; min of (int, text, int or nothing) -/
def rStrO : List V → Hp → VK → Prop := fun xs H Q => (xs = [V.non] ∧ Q (.str "None") H) ∨ ∃ i, xs = [V.int i] ∧ i.natAbs.log2 < 1920 ∧ Q (.str (toString i)) H
theorem call_strO {X : Cx} : CallR X (.type "str") rStrO := fun pins s σ H xs us Q I r h => by
  rcases h with ⟨rfl, q⟩ | ⟨i, rfl, hz, q⟩
  · obtain ⟨u, rfl, ru⟩ := vals1 r
    cases ru
    exact PuMin.str_of_none ⟨.str "None", H, I.tok _, ⟨_, rfl⟩, q⟩
  · obtain ⟨u, rfl, t, rfl⟩ := vals1 r
    exact PySem.P.str_of_int hz ⟨.str _, H, I.tok _, ⟨_, rfl⟩, q⟩
def strO : Option Int → Option Str
  | none => some "None"
  | some i => if i.natAbs.log2 < 1920 then some (toString i) else none
theorem o_strO : Op1bP rStrO (dOpt dInt) dStr strO := fun F H v x z Q e h hz k => by
  cases x with
  | none =>
    have hz : some ("None" : Str) = some z := hz
    cases hz
    exact .inl ⟨by rw [show v = V.non from h], k _ F H (Pext.refl e) rfl⟩
  | some i =>
    have hz : (if i.natAbs.log2 < 1920 then some (toString i : Str) else none) = some z := hz
    by_cases hl : i.natAbs.log2 < 1920
    · rw [if_pos hl] at hz
      cases hz
      exact .inr ⟨i, by rw [show v = V.int i from h.1], hl, k _ F H (Pext.refl e) rfl⟩
    · rw [if_neg hl] at hz; cases hz
abbrev Tri := Int × Str × Option Int
def ltB (x y : Tri) : Bool := if x.1 = y.1 then decide (x.2.1.cps.toList < y.2.1.cps.toList) else decide (x.1 < y.1)
def okB (xs : List Tri) : Bool := xs.all fun x => xs.all fun y => !(decide (x.1 = y.1) && (x.2.1 == y.2.1) && !decide (x.2.2 = y.2.2))
def bestB (x : Tri) (xs : List Tri) : Tri := xs.foldl (fun a y => if ltB y a then y else a) x
def minB : List Tri → Option Tri
  | [] => none
  | x :: xs => if okB (x :: xs) = true then some (bestB x xs) else none
def isO (o : Option Int) (v : V) : Prop := match o with
  | none => v = V.non
  | some y => v = V.int y
def rMinB (K : PySem.W.Frag) : List V → Hp → VK → Prop := fun xs H Q => ∃ (a : Addr) (vs : List V) (m : Tri) (ms : List Tri), (xs = [V.ref a] ∧ SqL K H a vs ∧ vs.length = (m :: ms).length) ∧ okB (m :: ms) = true ∧
  (∀ (i : Nat) v x, vs[i]? = some v → (m :: ms)[i]? = some x → ∃ t ov, v = V.ref t ∧ H t = some (.tup [.int x.1, .str x.2.1, ov]) ∧ isO x.2.2 ov) ∧ ∀ (i : Nat) v, vs[i]? = some v → (m :: ms)[i]? = some (bestB m ms) → Q v H
theorem lex3 {e r : Nat → Bool} : Ob.lexAt e r false 0 3 = if e 0 = true then (if e 1 = true then (if e 2 = true then false else r 2) else r 1) else r 0 := rfl
theorem eqO_at {A : Around} {s : Shared} {o o' : Option Int} {v v' : V} {u u' : Value} (h : isO o v) (h' : isO o' v') (r : RelV v u) (r' : RelV v' u') : PySem.SeqAt.EqAt A s u u' (decide (o = o')) := by
  cases o with
  | none =>
    have h : v = V.non := h
    subst h
    cases r
    cases o' with
    | none =>
      have h' : v' = V.non := h'
      subst h'
      cases r'
      exact PySem.SeqAt.EqAt.same _
    | some y =>
      have h' : v' = V.int y := h'
      subst h'
      obtain ⟨t, rfl⟩ := r'
      exact PySem.SeqAt.EqAt.none_int y t
  | some x =>
    have h : v = V.int x := h
    subst h
    obtain ⟨t, rfl⟩ := r
    cases o' with
    | none =>
      have h' : v' = V.non := h'
      subst h'
      cases r'
      exact PySem.SeqAt.EqAt.int_none x t
    | some y =>
      have h' : v' = V.int y := h'
      subst h'
      obtain ⟨t', rfl⟩ := r'
      have := PySem.SeqAt.EqAt.int_int (A := A) (s := s) x t y t'
      rwa [show (x == y) = decide (some x = some y) by by_cases k : x = y <;> simp [k]] at this
theorem valsThree {x y z : V} {us : List Value} (r : Vals [x, y, z] us) : ∃ u v w, us = [u, v, w] ∧ RelV x u ∧ RelV y v ∧ RelV z w := by
  cases r with
  | cons r1 r2 =>
    obtain ⟨v, w, rfl, r3, r4⟩ := vals2 r2
    exact ⟨_, v, w, rfl, r1, r3, r4⟩
theorem strEq_iff {x y : Str} : (x == y) = true ↔ x = y := by simp
section
variable {X : Cx} {K : PySem.W.Frag}
theorem cr_minB (hc : X.calm = true) (hu : X.A.units + 64 < cLine) : CallR X (.builtin "min") (rMinB X.K) := fun pins s σ H vs us Q I r h => by
  obtain ⟨a, vs, m, ms, ⟨rfl, hs, hlen⟩, hok, hrel, hq⟩ := h
  obtain ⟨its, rv, pl, hz⟩ := I.list hs
  rw [Vals.ref1 r]
  have hh := I.ok.hd hc
  have hil : its.length = (m :: ms).length := by rw [← rv.length]; exact hlen
  have hitem : ∀ (i : Nat) (u : Value) (x : Tri), its[i]? = some u → (m :: ms)[i]? = some x → ∃ (t : Addr) (t1 t2 : Tok) (ov : V) (u3 : Value), u = .ref t ∧ s.heap.IsTuple t #[.int x.1 t1, .str x.2.1 t2, u3] ∧ isO x.2.2 ov ∧ RelV ov u3 := fun i u x hu' hx => by
    have hvl : i < vs.length := by
      have := (List.getElem?_eq_some_iff.mp hu').1
      rw [← rv.length] at this
      exact this
    have hv : vs[i]? = some vs[i] := List.getElem?_eq_getElem hvl
    obtain ⟨u2, hu2, ru⟩ := rv.get hv
    rw [hu'] at hu2
    cases hu2
    obtain ⟨t, ov, e, ht, ho⟩ := hrel i _ x hv hx
    rw [e] at ru
    cases ru
    obtain ⟨_, its2, r2, o, q1, q2, n, q3⟩ := I.hok _ _ ht
    obtain ⟨w1, w2, w3, rfl, ⟨t1, rfl⟩, ⟨t2, rfl⟩, r3⟩ := valsThree r2
    exact ⟨t, t1, t2, ov, w3, rfl, ⟨o, q1, q2, n, q3⟩, ho, r3⟩
  refine call_min_walkH (iter_listW (A := X.A.in1) (vs := its.toArray) hh pl.isList fun s₂ e W st hfp hw hk => ?_)
  refine ⟨_, _, _, _, _, _, _, s.heap, fun i j => ltB ((m :: ms).getD i m) ((m :: ms).getD j m), rfl, W, st, hfp, by rw [List.size_toArray, hil]; exact Nat.zero_lt_succ _, hw, hk, ?_, fun v s' hP mv => ?_⟩
  · intro i j vi vj s' Q' E' hk' hi hj hq'
    have hq' : Q' (Value.bool (ltB ((m :: ms).getD i m) ((m :: ms).getD j m))) s' := hq'
    have hi : its[i]? = some vi := by simpa using hi
    have hj : its[j]? = some vj := by simpa using hj
    have hil' : i < (m :: ms).length := by rw [← hil]; exact (List.getElem?_eq_some_iff.mp hi).1
    have hjl' : j < (m :: ms).length := by rw [← hil]; exact (List.getElem?_eq_some_iff.mp hj).1
    have gi : (m :: ms)[i]? = some ((m :: ms).getD i m) := by rw [List.getD_eq_getElem?_getD, List.getElem?_eq_getElem hil']; rfl
    have gj : (m :: ms)[j]? = some ((m :: ms).getD j m) := by rw [List.getD_eq_getElem?_getD, List.getElem?_eq_getElem hjl']; rfl
    have mi := List.mem_of_getElem? gi
    have mj := List.mem_of_getElem? gj
    generalize (m :: ms).getD i m = x at gi mi hq'
    generalize (m :: ms).getD j m = y at gj mj hq'
    obtain ⟨p, t1, t2, ov, u3, rfl, hp, ho, r3⟩ := hitem i vi x hi gi
    obtain ⟨p', t1', t2', ov', u3', rfl, hp', ho', r3'⟩ := hitem j vj y hj gj
    have keepT : ∀ {t : Addr} {xs : Array Value}, s.heap.IsTuple t xs → s'.heap.IsTuple t xs := fun ⟨o, q1, q2, n, q3⟩ => ⟨o, hk' _ o q1, q2, n, q3⟩
    have hthird : x.1 = y.1 → (x.2.1 == y.2.1) = true → decide (x.2.2 = y.2.2) = true := fun h1 h2 => by
      have := List.all_eq_true.mp (List.all_eq_true.mp hok x mi) y mj
      rw [decide_eq_true h1, h2] at this
      simpa using this
    have hcmp := PuMin.lt_first (A := X.A.in1) (s := s') (us := #[.int x.1 t1, .str x.2.1 t2, u3]) (ws := #[.int y.1 t1', .str y.2.1 t2', u3'])
      (e := fun n => if n = 0 then x.1 == y.1 else if n = 1 then x.2.1 == y.2.1 else decide (x.2.2 = y.2.2)) (r := fun n => if n = 0 then decide (x.1 < y.1) else if n = 1 then decide (x.2.1.cps.toList < y.2.1.cps.toList) else false) (keepT hp) (keepT hp') (by show X.A.units + 1 < _; omega)
      (fun n h1 h2 => by
        match n, h1, h2 with
        | 0, _, _ => exact PySem.SeqAt.EqAt.int_int x.1 t1 y.1 t1'
        | 1, _, _ => exact PySem.SeqAt.EqAt.str_str x.2.1 t2 y.2.1 t2'
        | 2, _, _ => exact eqO_at ho ho' r3 r3'
        | n + 3, h1, _ => exact absurd h1 (by simp))
      (fun n h1 h2 heq hno => by
        match n, h1, h2, heq, hno with
        | 0, _, _, _, _ => exact Ob.RcOp.lt_int x.1 y.1 t1 t1'
        | 1, _, _, _, _ => exact fun _ _ _ _ hQ => PyProof.Rows.lt_str hQ
        | 2, _, _, heq, hno =>
          have e0 := heq 0 (by decide)
          have e1 := heq 1 (by decide)
          simp at e0 e1 hno
          exact absurd (of_decide_eq_true (hthird e0 (by rw [e1]; simp))) hno
        | n + 3, h1, _, _, _ => exact absurd h1 (by simp))
    have hv : Ob.lexAt (fun n => if n = 0 then x.1 == y.1 else if n = 1 then x.2.1 == y.2.1 else decide (x.2.2 = y.2.2)) (fun n => if n = 0 then decide (x.1 < y.1) else if n = 1 then decide (x.2.1.cps.toList < y.2.1.cps.toList) else false) (decide ((#[Value.int x.1 t1, .str x.2.1 t2, u3] : Array Value).size < (#[Value.int y.1 t1', .str y.2.1 t2', u3'] : Array Value).size)) 0
        (min (#[Value.int x.1 t1, .str x.2.1 t2, u3] : Array Value).size (#[Value.int y.1 t1', .str y.2.1 t2', u3'] : Array Value).size) = ltB x y := by
      show Ob.lexAt _ _ false 0 3 = _
      rw [lex3]
      unfold ltB
      by_cases h1 : x.1 = y.1
      · rw [if_pos (by simp [h1]), if_pos h1]
        by_cases h2 : (x.2.1 == y.2.1) = true
        · rw [if_pos (by simpa using h2), if_pos (by simpa using hthird h1 h2)]
          have : x.2.1 = y.2.1 := by simpa using h2
          rw [this]
          symm
          exact decide_eq_false (List.lt_irrefl _)
        · rw [if_neg (by simpa using h2)]
          rfl
      · rw [if_neg (by simpa using h1), if_neg h1]
        rfl
    rw [hv] at hcmp
    exact hcmp _ _ _ _ hq'
  · obtain ⟨h', tk, rfl, hk'⟩ := moved_old e rfl mv
    have hsz : its.toArray.size - 1 = ms.length := by rw [List.size_toArray, hil]; rfl
    have e2 := argBest_fold ltB m m ms ms.length (Nat.le_refl _)
    rw [List.take_length] at e2
    rw [hsz] at hP
    generalize hb : argBest (fun i j => ltB ((m :: ms).getD i m) ((m :: ms).getD j m)) ms.length = b at hP e2
    have hP : its[b]? = some v := by simpa using hP
    have hbl : b < vs.length := by
      have := (List.getElem?_eq_some_iff.mp hP).1
      rw [← rv.length] at this
      exact this
    have hv : vs[b]? = some vs[b] := List.getElem?_eq_getElem hbl
    obtain ⟨u2, hu2, ru⟩ := rv.get hv
    rw [hP] at hu2
    cases hu2
    refine ⟨vs[b], H, I.kept hk', ru, hq b _ hv ?_⟩
    have hbl2 : b < (m :: ms).length := by rw [← hlen]; exact hbl
    have g2 : (m :: ms)[b]? = some ((m :: ms).getD b m) := by rw [List.getD_eq_getElem?_getD, List.getElem?_eq_getElem hbl2]; rfl
    rw [g2, e2.2]
    rfl
theorem cr_minBK (hc : X.calm = true) (hu : X.A.units + 64 < cLine) (hK : X.K = K := by rfl) : CallR X (.builtin "min") (rMinB K) := by subst hK; exact cr_minB hc hu
end
theorem pv_at {c : DCod} {F : Hp} : ∀ {vs : List V} {xs : List c.α}, PV c F vs xs → ∀ (i : Nat) v x, vs[i]? = some v → xs[i]? = some x → c.rel F v x
  | _, _, .nil, i, v, x, h, _ => by simp at h
  | _, _, .cons (a := v0) (b := x0) r t, 0, v, x, h1, h2 => by
    have h1 : v0 = v := by simpa using h1
    have h2 : x0 = x := by simpa using h2
    rw [← h1, ← h2]; exact r
  | _, _, .cons r t, i + 1, v, x, h1, h2 => pv_at t i v x (by simpa using h1) (by simpa using h2)
theorem o_minB {K : PySem.W.Frag} : Op1bP (rMinB K) (dLst (dP3 dInt dStr (dOpt dInt))) (dP3 dInt dStr (dOpt dInt)) minB := fun F H v x z Q e h hz k => by
  obtain ⟨a, vs, rfl, g2, g3, g4⟩ := h
  match x, hz, g3, g4 with
  | m :: ms, hz, g3, g4 =>
    have hz : (if okB (m :: ms) = true then some (bestB m ms) else none) = some z := hz
    by_cases hok : okB (m :: ms) = true
    · rw [if_pos hok] at hz
      cases hz
      refine ⟨a, vs, m, ms, ⟨rfl, SqL.of (e a _ g2), g3.length⟩, hok, fun i v x hv hx => ?_, fun i v hv hx => ?_⟩
      · obtain ⟨p, u1, u2, u3, rfl, hp, r1, r2, r3⟩ := pv_at g3 i v x hv hx
        rw [show u1 = V.int x.1 from r1, show u2 = V.str x.2.1 from r2] at hp
        refine ⟨p, u3, rfl, e p _ hp, ?_⟩
        cases hx3 : x.2.2 with
        | none => rw [hx3] at r3; exact r3
        | some y => rw [hx3] at r3; exact r3.1
      · exact k v F H (Pext.refl e) (pv_at g3 i v _ hv hx)
    · rw [if_neg hok] at hz; cases hz
end Pu
set_option Elab.async false
set_option linter.all false
set_option maxRecDepth 100000
set_option maxHeartbeats 4000000
namespace Pu
open PySem L2 Evl
section
variable {K : PySem.W.Frag}
theorem o_p32 {a b c : DCod} : Op2P (rIxT K) (dP3 a b c) dInt c (fun x i => if i = 2 then some x.2.2 else none) := fun F H v w x y z Q e h1 h2 hz k => by
  obtain ⟨p, u1, u2, u3, rfl, g2, g3, g4, g5⟩ := h1
  have hz : (if (y : Int) = 2 then some x.2.2 else none) = some z := hz
  by_cases hy : (y : Int) = 2
  · rw [if_pos hy] at hz; cases hz
    exact ⟨p, [u1, u2, u3], y, u3, rfl, h2, SqT.of (e p _ g2), by rw [hy]; rfl, k u3 F H (Pext.refl e) g5⟩
  · rw [if_neg hy] at hz; cases hz
end
/-- == of tuples that hold no fields -/
def dqTuN {K : PySem.W.Frag} {c : DCod} {n : Nat} (q : Dq K n c) : Dq K (n + 1) (dTuN c) := { toD := (dqTup q).toD, dec := (dqTup q).dec, dp := fun {F H v x} e h => (dqTup q).dp e (sb_tun F v x h), lay := (dqTup q).lay, dep := (dqTup q).dep, eqv := (dqTup q).eqv }
theorem some_p2 {a b : DCod} : ∀ (F : Hp) (v : V) (x : (dP2 a b).α), (dP2 a b).rel F v x → (dOpt (dP2 a b)).rel F v (some x) := fun F v x h => by
  obtain ⟨p, u, w, rfl, hp, r1, r2⟩ := id h
  exact ⟨h, fun z => nomatch z⟩
end Pu
set_option Elab.async false
set_option linter.all false
set_option maxRecDepth 100000
set_option maxHeartbeats 4000000
namespace PuMin
open PySem PySem.SeqAt
open PySem.AutoSeq1 (wpAny_loadPart')
open PySem.MeetsSeq PySem.MeetsSeq2 PySem.MeetsSeq3
/-- t < u: what stands behind the first unequal pair isn't looked at -/
theorem tup_firstG (l b : Addr) (us ws : Array Value) (n n2 : Nat) (dd dd2 : Option Addr) (sl sl2 : Array (Option Value)) (e r : Nat → Bool) :
    Meets (Builtin.«tuple.__gt__» ⟨[.ref l, .ref b], []⟩)
      (fun A R s => (s.heap.get? l = some { cls := .type "tuple", dict := dd, data := .seq us n, slots := sl } ∧ s.heap.get? b = some { cls := .type "tuple", dict := dd2, data := .seq ws n2, slots := sl2 }) ∧
        (∀ j (h1 : j < us.size) (h2 : j < ws.size), EqAt A.in1 s us[j] ws[j] (e j)) ∧
        (∀ j (h1 : j < us.size) (h2 : j < ws.size), (∀ i, i < j → e i = true) → e j = false → Ob.RcOp .Gt A.in1 s us[j] ws[j] (r j)) ∧
        R (.ok (.ret (.bool (Ob.lexAt e r (decide (ws.size < us.size)) 0 (min us.size ws.size))))) s) :=
  .of_wp fun prog w A R s h => by
    obtain ⟨hp, g, d, tk, os⟩ := s; obtain ⟨⟨hl, hb⟩, he, hr, h⟩ := h
    have f2 := AutoSeq1.sub_tuple_tuple
    have zl : (us.toList.zip ws.toList).length = min us.size ws.size := by simp
    wp_walk using wpAny_loadPart' hl, wpAny_loadPart' hb, wpAny_forIn_list _ (fun rest b s' => b.1 = none ∧ s' = ⟨hp, g, d, tk, os⟩ ∧ ∃ i, (rest = (us.toList.zip ws.toList).drop i ∧ ∀ i', i' < i → e i' = true) ∧
      R (.ok (.ret (.bool (Ob.lexAt e r (decide (ws.size < us.size)) i (min us.size ws.size - i))))) ⟨hp, g, d, tk, os⟩) _
    case turn =>
      rintro ⟨y, x⟩ rest b s' ⟨hb', rfl, i, ⟨zd, eqs⟩, hR⟩
      have k0 : i < (us.toList.zip ws.toList).length := Nat.lt_of_not_le fun k => by rw [List.drop_of_length_le k] at zd; cases zd
      have km : i < min us.size ws.size := zl ▸ k0
      have k1 : i < us.size := by omega
      have k2 : i < ws.size := by omega
      rw [List.drop_eq_getElem_cons k0] at zd
      injection zd with ze zr
      have ey : y = us[i] := by have := congrArg Prod.fst ze; simpa using this
      have ex : x = ws[i] := by have := congrArg Prod.snd ze; simpa using this
      subst ey ex
      rw [show min us.size ws.size - i = (min us.size ws.size - (i + 1)) + 1 by omega, Ob.lexAt_succ] at hR
      refine wpAny_bind (he i k1 k2 prog w _ _ ?_)
      cases ei : e i with
      | true =>
        rw [ei, if_pos rfl] at hR
        wp_walk
        exact ⟨rfl, rfl, i + 1, ⟨zr, fun i' hi' => by rcases Nat.lt_succ_iff_lt_or_eq.mp hi' with q | q; exact eqs i' q; rw [q]; exact ei⟩, hR⟩
      | false =>
        rw [ei, if_neg Bool.false_ne_true] at hR
        have hri := hr i k1 k2 eqs ei prog w
        wp_walk using hri
        exact ⟨_, rfl, by simpa using hR⟩
    case fin =>
      rintro ⟨b1, b2⟩ s' ⟨hb', rfl, i, ⟨zd, eqs⟩, hR⟩
      simp only at hb'
      subst hb'
      have kg : min us.size ws.size ≤ i := Nat.le_of_not_lt fun k => by
        have k' : i < (us.toList.zip ws.toList).length := by rw [zl]; exact k
        rw [List.drop_eq_getElem_cons k'] at zd; cases zd
      rw [Nat.sub_eq_zero_of_le kg, Ob.lexAt_zero] at hR
      wp_walk
      exact ⟨_, rfl, by simpa [Builtin.Tuple.tupleCompareSizes] using hR⟩
    case h => exact ⟨rfl, rfl, 0, ⟨rfl, fun i' hi' => absurd hi' (Nat.not_lt_zero _)⟩, by simpa using h⟩
theorem gt_first {A : Around} {s : Shared} {l b : Addr} {us ws : Array Value} {e r : Nat → Bool} (hl : s.heap.IsTuple l us) (hb : s.heap.IsTuple b ws) (hu : A.units < cLine)
    (he : ∀ j (h1 : j < us.size) (h2 : j < ws.size), EqAt A.in1 s us[j] ws[j] (e j))
    (hr : ∀ j (h1 : j < us.size) (h2 : j < ws.size), (∀ i, i < j → e i = true) → e j = false → Ob.RcOp .Gt A.in1 s us[j] ws[j] (r j)) :
    Ob.RcOp .Gt A s (.ref l) (.ref b) (Ob.lexAt e r (decide (ws.size < us.size)) 0 (min us.size ws.size)) := fun prog w E Q h => by
  obtain ⟨⟨c1, dd, d1, sl⟩, o1, rfl, n, rfl⟩ := id hl
  obtain ⟨⟨c2, dd2, d2, sl2⟩, o2, rfl, n2, rfl⟩ := id hb
  exact richCompare_meets_room (op := .Gt) ⟨_, o1, rfl⟩ ⟨_, o2, rfl⟩ F.slot_tuple_gt F.entry_tuple_gt (F.args_tuple_gt_2 _ _) (tup_firstG l b us ws n n2 dd dd2 sl sl2 e r) ⟨⟨o1, o2⟩, he, hr, ⟨(fun x => nomatch x), h⟩⟩ hu
end PuMin
namespace Pu
open PySem L2 Evl PySem.W
def gtB (x y : Tri) : Bool := if x.1 = y.1 then decide (y.2.1.cps.toList < x.2.1.cps.toList) else decide (y.1 < x.1)
def bestM (x : Tri) (xs : List Tri) : Tri := xs.foldl (fun a y => if gtB y a then y else a) x
def maxB : List Tri → Option Tri
  | [] => none
  | x :: xs => if okB (x :: xs) = true then some (bestM x xs) else none
def rMaxB (K : PySem.W.Frag) : List V → Hp → VK → Prop := fun xs H Q => ∃ (a : Addr) (vs : List V) (m : Tri) (ms : List Tri), (xs = [V.ref a] ∧ SqL K H a vs ∧ vs.length = (m :: ms).length) ∧ okB (m :: ms) = true ∧
  (∀ (i : Nat) v x, vs[i]? = some v → (m :: ms)[i]? = some x → ∃ t ov, v = V.ref t ∧ H t = some (.tup [.int x.1, .str x.2.1, ov]) ∧ isO x.2.2 ov) ∧ ∀ (i : Nat) v, vs[i]? = some v → (m :: ms)[i]? = some (bestM m ms) → Q v H
section
variable {X : Cx} {K : PySem.W.Frag}
theorem cr_maxB (hc : X.calm = true) (hu : X.A.units + 64 < cLine) : CallR X (.builtin "max") (rMaxB X.K) := fun pins s σ H vs us Q I r h => by
  obtain ⟨a, vs, m, ms, ⟨rfl, hs, hlen⟩, hok, hrel, hq⟩ := h
  obtain ⟨its, rv, pl, hz⟩ := I.list hs
  rw [Vals.ref1 r]
  have hh := I.ok.hd hc
  have hil : its.length = (m :: ms).length := by rw [← rv.length]; exact hlen
  have hitem : ∀ (i : Nat) (u : Value) (x : Tri), its[i]? = some u → (m :: ms)[i]? = some x → ∃ (t : Addr) (t1 t2 : Tok) (ov : V) (u3 : Value), u = .ref t ∧ s.heap.IsTuple t #[.int x.1 t1, .str x.2.1 t2, u3] ∧ isO x.2.2 ov ∧ RelV ov u3 := fun i u x hu' hx => by
    have hvl : i < vs.length := by
      have := (List.getElem?_eq_some_iff.mp hu').1
      rw [← rv.length] at this
      exact this
    have hv : vs[i]? = some vs[i] := List.getElem?_eq_getElem hvl
    obtain ⟨u2, hu2, ru⟩ := rv.get hv
    rw [hu'] at hu2
    cases hu2
    obtain ⟨t, ov, e, ht, ho⟩ := hrel i _ x hv hx
    rw [e] at ru
    cases ru
    obtain ⟨_, its2, r2, o, q1, q2, n, q3⟩ := I.hok _ _ ht
    obtain ⟨w1, w2, w3, rfl, ⟨t1, rfl⟩, ⟨t2, rfl⟩, r3⟩ := valsThree r2
    exact ⟨t, t1, t2, ov, w3, rfl, ⟨o, q1, q2, n, q3⟩, ho, r3⟩
  refine call_max_walkH (iter_listW (A := X.A.in1) (vs := its.toArray) hh pl.isList fun s₂ e W st hfp hw hk => ?_)
  refine ⟨_, _, _, _, _, _, _, s.heap, fun i j => gtB ((m :: ms).getD i m) ((m :: ms).getD j m), rfl, W, st, hfp, by rw [List.size_toArray, hil]; exact Nat.zero_lt_succ _, hw, hk, ?_, fun v s' hP mv => ?_⟩
  · intro i j vi vj s' Q' E' hk' hi hj hq'
    have hq' : Q' (Value.bool (gtB ((m :: ms).getD i m) ((m :: ms).getD j m))) s' := hq'
    have hi : its[i]? = some vi := by simpa using hi
    have hj : its[j]? = some vj := by simpa using hj
    have hil' : i < (m :: ms).length := by rw [← hil]; exact (List.getElem?_eq_some_iff.mp hi).1
    have hjl' : j < (m :: ms).length := by rw [← hil]; exact (List.getElem?_eq_some_iff.mp hj).1
    have gi : (m :: ms)[i]? = some ((m :: ms).getD i m) := by rw [List.getD_eq_getElem?_getD, List.getElem?_eq_getElem hil']; rfl
    have gj : (m :: ms)[j]? = some ((m :: ms).getD j m) := by rw [List.getD_eq_getElem?_getD, List.getElem?_eq_getElem hjl']; rfl
    have mi := List.mem_of_getElem? gi
    have mj := List.mem_of_getElem? gj
    generalize (m :: ms).getD i m = x at gi mi hq'
    generalize (m :: ms).getD j m = y at gj mj hq'
    obtain ⟨p, t1, t2, ov, u3, rfl, hp, ho, r3⟩ := hitem i vi x hi gi
    obtain ⟨p', t1', t2', ov', u3', rfl, hp', ho', r3'⟩ := hitem j vj y hj gj
    have keepT : ∀ {t : Addr} {xs : Array Value}, s.heap.IsTuple t xs → s'.heap.IsTuple t xs := fun ⟨o, q1, q2, n, q3⟩ => ⟨o, hk' _ o q1, q2, n, q3⟩
    have hthird : x.1 = y.1 → (x.2.1 == y.2.1) = true → decide (x.2.2 = y.2.2) = true := fun h1 h2 => by
      have := List.all_eq_true.mp (List.all_eq_true.mp hok x mi) y mj
      rw [decide_eq_true h1, h2] at this
      simpa using this
    have hcmp := PuMin.gt_first (A := X.A.in1) (s := s') (us := #[.int x.1 t1, .str x.2.1 t2, u3]) (ws := #[.int y.1 t1', .str y.2.1 t2', u3'])
      (e := fun n => if n = 0 then x.1 == y.1 else if n = 1 then x.2.1 == y.2.1 else decide (x.2.2 = y.2.2)) (r := fun n => if n = 0 then decide (y.1 < x.1) else if n = 1 then decide (y.2.1.cps.toList < x.2.1.cps.toList) else false) (keepT hp) (keepT hp') (by show X.A.units + 1 < _; omega)
      (fun n h1 h2 => by
        match n, h1, h2 with
        | 0, _, _ => exact PySem.SeqAt.EqAt.int_int x.1 t1 y.1 t1'
        | 1, _, _ => exact PySem.SeqAt.EqAt.str_str x.2.1 t2 y.2.1 t2'
        | 2, _, _ => exact eqO_at ho ho' r3 r3'
        | n + 3, h1, _ => exact absurd h1 (by simp))
      (fun n h1 h2 heq hno => by
        match n, h1, h2, heq, hno with
        | 0, _, _, _, _ => exact Ob.RcOp.gt_int x.1 y.1 t1 t1'
        | 1, _, _, _, _ => exact fun _ _ _ _ hQ => PySem.P.gt_str hQ
        | 2, _, _, heq, hno =>
          have e0 := heq 0 (by decide)
          have e1 := heq 1 (by decide)
          simp at e0 e1 hno
          exact absurd (of_decide_eq_true (hthird e0 (by rw [e1]; simp))) hno
        | n + 3, h1, _, _, _ => exact absurd h1 (by simp))
    have hv : Ob.lexAt (fun n => if n = 0 then x.1 == y.1 else if n = 1 then x.2.1 == y.2.1 else decide (x.2.2 = y.2.2)) (fun n => if n = 0 then decide (y.1 < x.1) else if n = 1 then decide (y.2.1.cps.toList < x.2.1.cps.toList) else false) (decide ((#[Value.int y.1 t1', .str y.2.1 t2', u3'] : Array Value).size < (#[Value.int x.1 t1, .str x.2.1 t2, u3] : Array Value).size)) 0
        (min (#[Value.int x.1 t1, .str x.2.1 t2, u3] : Array Value).size (#[Value.int y.1 t1', .str y.2.1 t2', u3'] : Array Value).size) = gtB x y := by
      show Ob.lexAt _ _ false 0 3 = _
      rw [lex3]
      unfold gtB
      by_cases h1 : x.1 = y.1
      · rw [if_pos (by simp [h1]), if_pos h1]
        by_cases h2 : (x.2.1 == y.2.1) = true
        · rw [if_pos (by simpa using h2), if_pos (by simpa using hthird h1 h2)]
          have : x.2.1 = y.2.1 := by simpa using h2
          rw [this]
          symm
          exact decide_eq_false (List.lt_irrefl _)
        · rw [if_neg (by simpa using h2)]
          rfl
      · rw [if_neg (by simpa using h1), if_neg h1]
        rfl
    rw [hv] at hcmp
    exact hcmp _ _ _ _ hq'
  · obtain ⟨h', tk, rfl, hk'⟩ := moved_old e rfl mv
    have hsz : its.toArray.size - 1 = ms.length := by rw [List.size_toArray, hil]; rfl
    have e2 := argBest_fold gtB m m ms ms.length (Nat.le_refl _)
    rw [List.take_length] at e2
    rw [hsz] at hP
    generalize hb : argBest (fun i j => gtB ((m :: ms).getD i m) ((m :: ms).getD j m)) ms.length = b at hP e2
    have hP : its[b]? = some v := by simpa using hP
    have hbl : b < vs.length := by
      have := (List.getElem?_eq_some_iff.mp hP).1
      rw [← rv.length] at this
      exact this
    have hv : vs[b]? = some vs[b] := List.getElem?_eq_getElem hbl
    obtain ⟨u2, hu2, ru⟩ := rv.get hv
    rw [hP] at hu2
    cases hu2
    refine ⟨vs[b], H, I.kept hk', ru, hq b _ hv ?_⟩
    have hbl2 : b < (m :: ms).length := by rw [← hlen]; exact hbl
    have g2 : (m :: ms)[b]? = some ((m :: ms).getD b m) := by rw [List.getD_eq_getElem?_getD, List.getElem?_eq_getElem hbl2]; rfl
    rw [g2, e2.2]
    rfl
theorem cr_maxBK (hc : X.calm = true) (hu : X.A.units + 64 < cLine) (hK : X.K = K := by rfl) : CallR X (.builtin "max") (rMaxB K) := by subst hK; exact cr_maxB hc hu
end
theorem o_maxB {K : PySem.W.Frag} : Op1bP (rMaxB K) (dLst (dP3 dInt dStr (dOpt dInt))) (dP3 dInt dStr (dOpt dInt)) maxB := fun F H v x z Q e h hz k => by
  obtain ⟨a, vs, rfl, g2, g3, g4⟩ := h
  match x, hz, g3, g4 with
  | m :: ms, hz, g3, g4 =>
    have hz : (if okB (m :: ms) = true then some (bestM m ms) else none) = some z := hz
    by_cases hok : okB (m :: ms) = true
    · rw [if_pos hok] at hz
      cases hz
      refine ⟨a, vs, m, ms, ⟨rfl, SqL.of (e a _ g2), g3.length⟩, hok, fun i v x hv hx => ?_, fun i v hv hx => ?_⟩
      · obtain ⟨p, u1, u2, u3, rfl, hp, r1, r2, r3⟩ := pv_at g3 i v x hv hx
        rw [show u1 = V.int x.1 from r1, show u2 = V.str x.2.1 from r2] at hp
        refine ⟨p, u3, rfl, e p _ hp, ?_⟩
        cases hx3 : x.2.2 with
        | none => rw [hx3] at r3; exact r3
        | some y => rw [hx3] at r3; exact r3.1
      · exact k v F H (Pext.refl e) (pv_at g3 i v _ hv hx)
    · rw [if_neg hok] at hz; cases hz
end Pu
set_option Elab.async false
set_option linter.all false
set_option maxRecDepth 100000
set_option maxHeartbeats 4000000
namespace Pu
open PySem L2 Evl
/-! ### x in l, items of any depth -/
section
variable {K : PySem.W.Frag} {c : DCod} {n : Nat}
theorem any_eqv (q : Dq K n c) (x : c.α) (xs : List c.α) : ((xs.map q.toD).any fun z => PyData.eqv z (q.toD x)) = isIn q.dec x xs := by
  unfold isIn
  rw [List.any_map]
  congr 1
  funext y
  exact q.eqv y x
theorem o_inD (q : Dq K n c) (hn : n + 1 ≤ 64) : Op2 (rInD K) c (dLst c) dBl (fun x xs => isIn q.dec x xs) := fun F H v w x y Q e h1 h2 k =>
  ⟨q.toD x, List.map q.toD y, q.dp e h1, (dqLst q).dp e h2, q.shaped (by omega) x, (dqLst q).shaped hn y, by rw [any_eqv]; exact k _ F H (Pext.refl e) rfl⟩
theorem o_ninD (q : Dq K n c) (hn : n + 1 ≤ 64) : Op2 (rNotInD K) c (dLst c) dBl (fun x xs => !isIn q.dec x xs) := fun F H v w x y Q e h1 h2 k =>
  ⟨q.toD x, List.map q.toD y, q.dp e h1, (dqLst q).dp e h2, q.shaped (by omega) x, (dqLst q).shaped hn y, by rw [any_eqv]; exact k _ F H (Pext.refl e) rfl⟩
end
section
variable {X : Cx} {K : PySem.W.Frag}
theorem op_inDK (hu : X.A.units + 65 < cLine) (hK : X.K = K := by rfl) : OpR X (compareOp .In) (rInD K) := by subst hK; exact op_inD hu
theorem op_notInDK (hu : X.A.units + 65 < cLine) (hK : X.K = K := by rfl) : OpR X (compareOp .NotIn) (rNotInD K) := by subst hK; exact op_notInD hu
end
theorem _root_.L2.Room.units65 {k : Nat} {A : PySem.Around} (r : Room k A) : A.units + 65 < cLine := by have := r.un; omega
end Pu
set_option Elab.async false
set_option linter.all false
set_option maxRecDepth 100000
set_option maxHeartbeats 4000000
namespace Pu
open PySem L2 Evl
/-! ### two things that change at once -/
theorem perm4 {α : Type} (A T1 T2 C : List α) : (A ++ (T1 ++ (T2 ++ C))).Perm (T1 ++ (T2 ++ (A ++ C))) :=
  (List.perm_append_comm_assoc A T1 (T2 ++ C)).trans (List.Perm.append_left T1 (List.perm_append_comm_assoc A T2 C))
theorem perm3 {α : Type} (A T C : List α) : (A ++ T ++ C).Perm (T ++ (A ++ C)) := by
  rw [List.append_assoc]; exact List.perm_append_comm_assoc A T C
theorem tau_s {v : V} {k : Kd} {τ : St} {i : Nat} (h : k = .lo ∨ τ.tail[i]? = some (some v)) : k = .lo ∨ τ[i + 1]? = some (some v) := by
  rcases h with h | h
  · exact .inl h
  · right
    cases τ with
    | nil => simp at h
    | cons t τ => simpa using h
theorem tau_z {v : V} {k : Kd} {τ : St} (h : k = .lo ∨ τ.head? = some (some v)) : k = .lo ∨ τ[0]? = some (some v) := by
  rcases h with h | h
  · exact .inl h
  · right
    cases τ with
    | nil => cases h
    | cons t τ => simpa using h
theorem SRel.mut2 {F H : Hp} {k k2 : Kd} {c c2 : Cod} : ∀ {Γ : List Sl} {i j : Nat} (a1 : At Γ i (.m k c)) (a2 : At Γ j (.m k2 c2)), i ≠ j → ∀ {τ σ : St} {L : Fps} {ρ : Env Γ}, SRel Γ τ σ F H L ρ →
    ∃ v fp v2 fp2 Lr, σ[i]? = some (some v) ∧ (k = .lo ∨ τ[i]? = some (some v)) ∧ σ[j]? = some (some v2) ∧ (k2 = .lo ∨ τ[j]? = some (some v2)) ∧ L.Perm (tag k fp ++ (tag k2 fp2 ++ Lr)) ∧ c.rel F H fp v (a1.get ρ) ∧ c2.rel F H fp2 v2 (a2.get ρ) ∧
    ∀ F' H' fp' x' fp2' x2', Ex F F' → (∀ q a, (q, a) ∈ Lr → H' a = H a) → c.rel F' H' fp' v x' → c2.rel F' H' fp2' v2 x2' → ∃ L' : Fps, L'.Perm (tag k fp' ++ (tag k2 fp2' ++ Lr)) ∧ SRel Γ τ σ F' H' L' (a2.put (a1.put ρ x') x2')
  | _, _, _, .z, .z, hne, _, _, _, _, _ => absurd rfl hne
  | _, _, _, .z, .s r, hne, τ, σ, L, ρ, ⟨v, σ', fp, L', e, e2, e3, hr, h⟩ => by
    obtain ⟨v2, fp2, L1, L2, h1, h2, h3, h4, h5⟩ := SRel.mut r h
    refine ⟨v, fp, v2, fp2, L1 ++ L2, by rw [e]; rfl, tau_z e2, by rw [e]; simpa using h1, tau_s h2, ?_, hr, h4, fun F' H' fp' x' fp2' x2' eF kk q1 q2 => ?_⟩
    · rw [e3, h3]; exact List.Perm.append_left _ (perm3 _ _ _)
    · exact ⟨tag k fp' ++ (L1 ++ tag k2 fp2' ++ L2), List.Perm.append_left _ (perm3 _ _ _), v, σ', fp', _, e, e2, rfl, q1, h5 F' H' fp2' x2' eF kk q2⟩
  | _, _, _, .s r, .z, hne, τ, σ, L, ρ, ⟨v2, σ', fp2, L', e, e2, e3, hr, h⟩ => by
    obtain ⟨v, fp, L1, L2, h1, h2, h3, h4, h5⟩ := SRel.mut r h
    refine ⟨v, fp, v2, fp2, L1 ++ L2, by rw [e]; simpa using h1, tau_s h2, by rw [e]; rfl, tau_z e2, ?_, h4, hr, fun F' H' fp' x' fp2' x2' eF kk q1 q2 => ?_⟩
    · rw [e3, h3]
      exact (List.Perm.append_left _ (perm3 _ _ _)).trans (List.perm_append_comm_assoc _ _ _)
    · exact ⟨tag k2 fp2' ++ (L1 ++ tag k fp' ++ L2), (List.Perm.append_left _ (perm3 _ _ _)).trans (List.perm_append_comm_assoc _ _ _), v2, σ', fp2', _, e, e2, rfl, q2, h5 F' H' fp' x' eF kk q1⟩
  | .no :: Γ, _, _, .s r, .s r2, hne, τ, σ, L, ρ, ⟨w, σ', e, h⟩ => by
    obtain ⟨v, fp, v2, fp2, Lr, g1, g2, g3, g4, g5, g6, g7, g8⟩ := SRel.mut2 r r2 (fun z => hne (by rw [z])) h
    refine ⟨v, fp, v2, fp2, Lr, by rw [e]; simpa using g1, tau_s g2, by rw [e]; simpa using g3, tau_s g4, g5, g6, g7, fun F' H' fp' x' fp2' x2' eF kk q1 q2 => ?_⟩
    obtain ⟨L', p1, p2⟩ := g8 F' H' fp' x' fp2' x2' eF kk q1 q2
    exact ⟨L', p1, w, σ', e, p2⟩
  | .da _ :: Γ, _, _, .s r, .s r2, hne, τ, σ, L, ρ, ⟨w, σ', e, hr, h⟩ => by
    obtain ⟨v, fp, v2, fp2, Lr, g1, g2, g3, g4, g5, g6, g7, g8⟩ := SRel.mut2 r r2 (fun z => hne (by rw [z])) h
    refine ⟨v, fp, v2, fp2, Lr, by rw [e]; simpa using g1, tau_s g2, by rw [e]; simpa using g3, tau_s g4, g5, g6, g7, fun F' H' fp' x' fp2' x2' eF kk q1 q2 => ?_⟩
    obtain ⟨L', p1, p2⟩ := g8 F' H' fp' x' fp2' x2' eF kk q1 q2
    exact ⟨L', p1, w, σ', e, DCod.ext _ hr eF, p2⟩
  | .m k' c' :: Γ, _, _, .s r, .s r2, hne, τ, σ, L, ρ, ⟨w, σ', fp0, L0, e, e2, e3, hr, h⟩ => by
    obtain ⟨v, fp, v2, fp2, Lr, g1, g2, g3, g4, g5, g6, g7, g8⟩ := SRel.mut2 r r2 (fun z => hne (by rw [z])) h
    refine ⟨v, fp, v2, fp2, tag k' fp0 ++ Lr, by rw [e]; simpa using g1, tau_s g2, by rw [e]; simpa using g3, tau_s g4, ?_, g6, g7, fun F' H' fp' x' fp2' x2' eF kk q1 q2 => ?_⟩
    · rw [e3]; exact (List.Perm.append_left _ g5).trans (perm4 _ _ _ _)
    · obtain ⟨L', p1, p2⟩ := g8 F' H' fp' x' fp2' x2' eF (fun q a ha => kk q a (List.mem_append_right _ ha)) q1 q2
      exact ⟨tag k' fp0 ++ L', (List.Perm.append_left _ p1).trans (perm4 _ _ _ _), w, σ', fp0, L', e, e2, rfl, c'.ext hr eF fun a ha => kk k' a (List.mem_append_left _ (mem_tag.mpr ⟨rfl, ha⟩)), p2⟩
theorem Wd.perm {B : Base} {F H : Hp} {L L' : Fps} (w : Wd B F H L) (h : L.Perm L') : Wd B F H L' :=
  ⟨(h.map _).nodup_iff.mp w.nd, fun k a ha => w.fr k a (h.mem_iff.mpr ha), w.fh, w.bf, w.keep, w.there, w.new, fun a ha => w.own a (h.mem_iff.mpr ha), fun a ha => w.loc a (h.mem_iff.mpr ha), fun a ha => w.con a (h.mem_iff.mpr ha)⟩
theorem Wd.change {B : Base} {F H F' H' : Hp} {k : Kd} {fp fp' : List Addr} {Lr : Fps} (hk : k ≠ .co) (w : Wd B F H (tag k fp ++ Lr)) (st : Step F H fp F' H' fp') : Wd B F' H' (tag k fp' ++ Lr) ∧ ∀ q a, (q, a) ∈ Lr → H' a = H a := by
  have hin : ∀ a, a ∈ fp → (k, a) ∈ tag k fp ++ Lr := fun a ha => List.mem_append_left _ (mem_tag.mpr ⟨rfl, ha⟩)
  have old : ∀ k' a, (k', a) ∈ Lr → (k', a) ∈ tag k fp ++ Lr := fun k' a ha => List.mem_append_right _ ha
  have nd := w.nd
  rw [List.map_append, tag_map] at nd
  have nd1 := List.nodup_append.mp nd
  have hrest : ∀ k' a, (k', a) ∈ Lr → ∃ o, H a = some o ∧ H' a = some o ∧ a ∉ fp := fun k' a ha => by
    obtain ⟨_, o, ho⟩ := w.fr k' a (old k' a ha)
    have hnot : a ∉ fp := fun hf => nd1.2.2 a hf a (List.mem_map.mpr ⟨_, ha, rfl⟩) rfl
    exact ⟨o, ho, st.keep a o ho hnot, hnot⟩
  have cases_ : ∀ k' a, (k', a) ∈ tag k fp' ++ Lr → (k', a) ∈ Lr ∨ (k' = k ∧ a ∈ fp') := fun k' a ha => by
    rcases List.mem_append.mp ha with ha | ha
    · exact .inr (mem_tag.mp ha)
    · exact .inl ha
  refine ⟨⟨?_, fun k' a ha => ?_, st.fh, w.bf.trans st.ff, fun a o h hm hn => ?_, fun a o h => ?_, fun a o e => ?_, fun a ha => ?_, fun a ha => ?_, fun a ha => ?_⟩, fun q a ha => ?_⟩
  · rw [List.map_append, tag_map]
    refine List.nodup_append.mpr ⟨st.nd, nd1.2.1, fun a ha b hb e => ?_⟩
    subst e
    obtain ⟨q, hq, e⟩ := List.mem_map.mp hb
    obtain ⟨k', a'⟩ := q
    have e : a' = a := e
    subst e
    obtain ⟨o, g1, g2, g3⟩ := hrest k' a' hq
    rcases (st.own a' ha).1 with q | q
    · exact g3 q
    · rw [g1] at q; cases q
  · rcases cases_ k' a ha with q | ⟨_, q⟩
    · obtain ⟨o, g1, g2, _⟩ := hrest k' a q
      refine ⟨?_, o, g2⟩
      have g0 := (w.fr k' a (old k' a q)).1
      cases e : F' a with
      | none => rfl
      | some u =>
        rcases st.new a u e with z | z
        · rw [g0] at z; cases z
        · rw [g1] at z; cases z
    · exact (st.own a q).2
  · by_cases hf : a ∈ fp
    · exfalso
      cases k with
      | pa =>
        rcases w.own a (hin a hf) with z | z
        · exact hm z
        · rw [h] at z; cases z
      | lo =>
        rcases w.loc a (hin a hf) with z | z
        · exact hn z
        · rw [h] at z; cases z
      | co => exact hk rfl
    · exact st.keep a o (w.keep a o h hm hn) hf
  · obtain ⟨o', h'⟩ := w.there a o h
    exact st.there a o' h'
  · rcases st.new a o e with q | q
    · exact w.new a o q
    · right
      cases e2 : B.H a with
      | none => rfl
      | some u =>
        obtain ⟨o', h'⟩ := w.there a u e2
        rw [q] at h'; cases h'
  · rcases cases_ _ a ha with q | ⟨e, q⟩
    · exact w.own a (old _ a q)
    · subst e
      rcases (st.own a q).1 with z | z
      · exact w.own a (hin a z)
      · right
        cases e2 : B.H a with
        | none => rfl
        | some u =>
          obtain ⟨o', h'⟩ := w.there a u e2
          rw [z] at h'; cases h'
  · rcases cases_ _ a ha with q | ⟨e, q⟩
    · exact w.loc a (old _ a q)
    · subst e
      rcases (st.own a q).1 with z | z
      · exact w.loc a (hin a z)
      · right
        cases e2 : B.H a with
        | none => rfl
        | some u =>
          obtain ⟨o', h'⟩ := w.there a u e2
          rw [z] at h'; cases h'
  · rcases cases_ _ a ha with q | ⟨e, q⟩
    · exact w.con a (old _ a q)
    · exact absurd e.symm hk
  · obtain ⟨o, g1, g2, _⟩ := hrest q a ha
    rw [g1, g2]
theorem SInv.mut2 {B : Base} {Γ : List Sl} {σ : St} {F H : Hp} {ρ : Env Γ} {k : Kd} {c c2 : Cod} {i j : Nat} (I : SInv B Γ σ F H ρ) (hk : k ≠ .co) (a1 : At Γ i (.m k c)) (a2 : At Γ j (.m k c2)) (hne : i ≠ j) :
    ∃ v fp v2 fp2, σ[i]? = some (some v) ∧ (k = .lo ∨ B.τ[i]? = some (some v)) ∧ σ[j]? = some (some v2) ∧ (k = .lo ∨ B.τ[j]? = some (some v2)) ∧ c.rel F H fp v (a1.get ρ) ∧ c2.rel F H fp2 v2 (a2.get ρ) ∧ (fp ++ fp2).Nodup ∧
      (∀ a, a ∈ fp ++ fp2 → F a = none ∧ (∃ o, H a = some o) ∧ (k = .pa → a ∈ B.M ∨ B.H a = none) ∧ (k = .lo → a ∈ B.N ∨ B.H a = none)) ∧
      ∀ F' H' fp' fp2' x' x2', Step F H (fp ++ fp2) F' H' (fp' ++ fp2') → c.rel F' H' fp' v x' → c2.rel F' H' fp2' v2 x2' → SInv B Γ σ F' H' (a2.put (a1.put ρ x') x2') := by
  obtain ⟨L, r, w⟩ := I
  obtain ⟨v, fp, v2, fp2, Lr, g1, g2, g3, g4, g5, g6, g7, g8⟩ := r.mut2 a1 a2 hne
  have w2 : Wd B F H (tag k (fp ++ fp2) ++ Lr) := by rw [tag_app, List.append_assoc]; exact w.perm g5
  have nd := w2.nd
  rw [List.map_append, tag_map] at nd
  refine ⟨v, fp, v2, fp2, g1, g2, g3, g4, g6, g7, (List.nodup_append.mp nd).1, fun a ha => ?_, fun F' H' fp' fp2' x' x2' st q1 q2 => ?_⟩
  · have hm : (k, a) ∈ tag k (fp ++ fp2) ++ Lr := List.mem_append_left _ (mem_tag.mpr ⟨rfl, ha⟩)
    obtain ⟨z1, z2⟩ := w2.fr k a hm
    exact ⟨z1, z2, fun e => w2.own a (e ▸ hm), fun e => w2.loc a (e ▸ hm)⟩
  · obtain ⟨w3, hr⟩ := w2.change hk st
    obtain ⟨L', p1, p2⟩ := g8 F' H' fp' x' fp2' x2' st.ff hr q1 q2
    refine ⟨L', p2, w3.perm ?_⟩
    rw [tag_app, List.append_assoc]; exact p1.symm

/-! ### a def with two arguments, side by side, that it may change -/
def slP : List DCod → List Sl → List Sl
  | [], Γ => Γ
  | c :: cs, Γ => .da c :: slP cs Γ
def envP : (cs : List DCod) → {Γ : List Sl} → DEnv cs → Env Γ → Env (slP cs Γ)
  | [], _, _, ρ => ρ
  | _ :: cs, _, x, ρ => (x.1, envP cs x.2 ρ)
theorem relP {F H : Hp} : ∀ (cs : List DCod) {Γ : List Sl} {τ σ : St} {L : Fps} {vs : List V} {x : DEnv cs} {ρ : Env Γ}, DRel cs F vs x → SRel Γ τ σ F H L ρ → SRel (slP cs Γ) (vs.map some ++ τ) (vs.map some ++ σ) F H L (envP cs x ρ)
  | [], Γ, τ, σ, L, vs, x, ρ, h, r => by rw [show vs = [] from h]; exact r
  | c :: cs, Γ, τ, σ, L, vs, x, ρ, ⟨v, vs', e, r0, h⟩, r => by
    rw [e]
    exact ⟨v, vs'.map some ++ σ, rfl, r0, relP cs h r⟩
def spM2 (XC : Str → Value) (cs0 : List DCod) (m1 m2 : Cod) (cs : List DCod) (c : DCod) (f : DEnv cs0 → m1.α → m2.α → DEnv cs → Res (c.α × m1.α × m2.α)) : Sp := fun vs H Q E => ∃ F fp1 fp2 vs0 v1 v2 vs' x0 y1 y2 x,
  vs = vs0 ++ v1 :: v2 :: vs' ∧ Ex F H ∧ DRel cs0 F vs0 x0 ∧ m1.rel F H fp1 v1 y1 ∧ m2.rel F H fp2 v2 y2 ∧ (fp1 ++ fp2).Nodup ∧ (∀ a, a ∈ fp1 ++ fp2 → F a = none ∧ ∃ o, H a = some o) ∧ DRel cs F vs' x ∧ f x0 y1 y2 x ≠ .bad ∧
  (∀ z y1' y2', f x0 y1 y2 x = .ok (z, y1', y2') → ∀ u F' H' fp1' fp2', Step F H (fp1 ++ fp2) F' H' (fp1' ++ fp2') → m1.rel F' H' fp1' v1 y1' → m2.rel F' H' fp2' v2 y2' → c.rel F' u z → Q u H') ∧
  ∀ n, f x0 y1 y2 x = .exc n → ∀ H', (∀ a o, H a = some o → a ∉ fp1 ++ fp2 → H' a = some o) → E (XC n) none H'
abbrev retM2 (c : DCod) (m1 m2 : Cod) (i j : Nat) : Ret := ⟨c, m1.α × m2.α, fun B F H _ y => B.N = [] → ∃ v1 v2 fp1 fp2, B.τ[i]? = some (some v1) ∧ B.τ[j]? = some (some v2) ∧ m1.rel F H fp1 v1 y.1 ∧ m2.rel F H fp2 v2 y.2 ∧ Step B.F B.H B.M F H (fp1 ++ fp2)⟩
section
variable {p : Bool} {E : XK} {XC : Str → Value} {Γ : List Sl} {c : DCod} {m1 m2 : Cod} {cs0 cs : List DCod} {ts : TS}
theorem SInv.stepB2 {B : Base} {σ : St} {F H : Hp} {ρ : Env Γ} {i j : Nat} (I : SInv B Γ σ F H ρ) (a1 : At Γ i (.m .pa m1)) (a2 : At Γ j (.m .pa m2)) (hne : i ≠ j) (v : V) : (retM2 c m1 m2 i j).ok B F H v (a1.get ρ, a2.get ρ) := fun hN => by
  obtain ⟨v1, fp1, v2, fp2, _, t1, _, t2, q1, q2, nd, hf, _⟩ := I.mut2 (by decide) a1 a2 hne
  obtain ⟨L, r, w⟩ := I
  refine ⟨v1, v2, fp1, fp2, t1.resolve_left (by decide), t2.resolve_left (by decide), q1, q2, ?_⟩
  exact ⟨w.bf, w.fh, fun a o h hm => w.keep a o h hm (by rw [hN]; simp), w.there, w.new, nd, fun a ha => ⟨(hf a ha).2.2.1 rfl, (hf a ha).1, (hf a ha).2.1⟩⟩
def prM2 {i j : Nat} (a1 : At Γ i (.m .pa m1)) (a2 : At Γ j (.m .pa m2)) (hne : i ≠ j) : Pr (retM2 c m1 m2 i j) Γ := ⟨fun ρ => (a1.get ρ, a2.get ρ), fun I v => I.stepB2 a1 a2 hne v⟩
theorem run_M2N {N : List Str} {n i j : Nat} (hi : cs0.length = i) (hj : cs0.length + 1 = j) (hN : N.length = cs0.length + 2 + cs.length + n) {f : DEnv cs0 → m1.α → m2.α → DEnv cs → Res (Unit × m1.α × m2.α)} {Γe : List Sl} (b1 : At Γe i (.m .pa m1)) (b2 : At Γe j (.m .pa m2))
    {T : (R : Type) → (Env Γe → Res R) → (Unit → m1.α × m2.α → Res R) → (Env [] → Res R) → (Env [] → Res R) → Env (slP cs0 (.m .pa m1 :: .m .pa m2 :: slots0 cs n)) → Res R}
    (h : StE E XC (retM2 dNon m1 m2 i j) (slP cs0 (.m .pa m1 :: .m .pa m2 :: slots0 cs n)) ts Γe [] T)
    (hf : ∀ x0 y1 y2 x, T (Unit × m1.α × m2.α) (fun ρ => .ok ((), b1.get ρ, b2.get ρ)) (fun z y => .ok (z, y)) (fun _ => .bad) (fun _ => .bad) (envP cs0 x0 (y1, y2, env0 cs n x)) = f x0 y1 y2 x) (vs : List V) (H : Hp) (Q : VK) (hsp : spM2 XC cs0 m1 m2 cs dNon f vs H Q E) :
    ts { nx := fun _ H' => Q .non H', rt := Q } (L2.start N vs) H := by
  obtain ⟨F, fp1, fp2, vs0, v1, v2, vs', x0, y1, y2, x, rfl, e, r0, mr1, mr2, nd, hfp, r, hb, hq, hx⟩ := hsp
  have hl := r.len
  have hl0 := r0.len
  rw [start_eq (n := n) (by rw [List.length_append, List.length_cons, List.length_cons, hl, hl0]; omega)]
  have hne : i ≠ j := by omega
  have tau1 : ((vs0 ++ v1 :: v2 :: vs').map some ++ List.replicate n none)[i]? = some (some v1) := by
    rw [List.map_append, List.append_assoc, List.getElem?_append_right (by rw [List.length_map]; omega), List.length_map, show i - vs0.length = 0 by omega]; rfl
  have tau2 : ((vs0 ++ v1 :: v2 :: vs').map some ++ List.replicate n none)[j]? = some (some v2) := by
    rw [List.map_append, List.append_assoc, List.getElem?_append_right (by rw [List.length_map]; omega), List.length_map, show j - vs0.length = 1 by omega]; rfl
  have fin : ∀ z y u F' H', (retM2 dNon m1 m2 i j).ok ⟨F, H, fp1 ++ fp2, [], [], (vs0 ++ v1 :: v2 :: vs').map some ++ List.replicate n none⟩ F' H' u y → dNon.rel F' u z → Res.ok (z, y) = f x0 y1 y2 x → Q u H' := fun z y u F' H' ho rv z2 => by
    obtain ⟨w1, w2, fq1, fq2, t1, t2, q1, q2, st⟩ := ho rfl
    have t1 : ((vs0 ++ v1 :: v2 :: vs').map some ++ List.replicate n none)[i]? = some (some w1) := t1
    have t2 : ((vs0 ++ v1 :: v2 :: vs').map some ++ List.replicate n none)[j]? = some (some w2) := t2
    rw [tau1] at t1; cases t1
    rw [tau2] at t2; cases t2
    exact hq z y.1 y.2 z2.symm u F' H' fq1 fq2 st q1 q2 rv
  refine h ⟨F, H, fp1 ++ fp2, [], [], (vs0 ++ v1 :: v2 :: vs').map some ++ List.replicate n none⟩ _ F H (envP cs0 x0 (y1, y2, env0 cs n x)) ⟨tag .pa fp1 ++ (tag .pa fp2 ++ []), ?_, ?_⟩
    (Unit × m1.α × m2.α) (fun z => z = f x0 y1 y2 x) ⟨fun z => hb z.symm, fun nm H' z fr => hx nm z.symm H' fun a o ha hm => fr a o ha hm (by simp)⟩ _ _ _ _ _ (hf x0 y1 y2 x) ?_ ?_ ?_ ?_
  · have rr : SRel (.m .pa m1 :: .m .pa m2 :: slots0 cs n) (some v1 :: some v2 :: (vs'.map some ++ List.replicate n none)) (some v1 :: some v2 :: (vs'.map some ++ List.replicate n none)) F H (tag .pa fp1 ++ (tag .pa fp2 ++ [])) (y1, y2, env0 cs n x) :=
      ⟨v1, _, fp1, _, rfl, .inr rfl, rfl, mr1, v2, _, fp2, [], rfl, .inr rfl, rfl, mr2, rel0 cs n _ r⟩
    have := relP cs0 r0 rr
    rw [show (vs0 ++ v1 :: v2 :: vs').map some ++ List.replicate n none = vs0.map some ++ (some v1 :: some v2 :: (vs'.map some ++ List.replicate n none)) by rw [List.map_append, List.append_assoc]; rfl]
    exact this
  · have el : tag .pa fp1 ++ (tag .pa fp2 ++ []) = tag .pa (fp1 ++ fp2) := by rw [List.append_nil, tag_app]
    rw [el]
    exact wd0 e (by rw [tag_map]; exact nd) (fun k a ha => hfp a (mem_tag.mp ha).2) (fun a ha => (mem_tag.mp ha).2) (fun a ha => nomatch (mem_tag.mp ha).1) (fun a ha => nomatch (mem_tag.mp ha).1)
  · intro ρ' σ' F' H' I' _ z; exact fin () _ .non F' H' (I'.stepB2 b1 b2 hne .non) rfl z
  · intro z y' u F' H' ho rv z2; exact fin z y' u F' H' ho rv z2
  · intro ρ' σ' F' H' _ _ z; exact absurd z.symm hb
  · intro ρ' σ' F' H' _ _ z; exact absurd z.symm hb
theorem callM2_goes {B : Base} {σ : St} {F H : Hp} {ρ : Env Γ} {R : Type} {G : Res R → Prop} (hG : Rs E XC B G) {k : Kd} {i j : Nat} (hk : k ≠ .co) (a1 : At Γ i (.m k m1)) (a2 : At Γ j (.m k m2)) (hne : i ≠ j) {kk : c.α → Env Γ → Res R} {f : DEnv cs0 → m1.α → m2.α → DEnv cs → Res (c.α × m1.α × m2.α)} {Q : VK} {vs0 vs : List V} {x0 : DEnv cs0} {x : DEnv cs} {v1 v2 : V}
    (I : SInv B Γ σ F H ρ) (s1 : σ[i]? = some (some v1)) (s2 : σ[j]? = some (some v2)) (r0 : DRel cs0 F vs0 x0) (r : DRel cs F vs x) (g : G ((f x0 (a1.get ρ) (a2.get ρ) x).bind fun z => kk z.1 (a2.put (a1.put ρ z.2.1) z.2.2)))
    (q : ∀ z ρ' u F' H', SInv B Γ σ F' H' ρ' → Ex F F' → c.rel F' u z → G (kk z ρ') → Q u H') : spM2 XC cs0 m1 m2 cs c f (vs0 ++ v1 :: v2 :: vs) H Q E := by
  obtain ⟨w1, fp1, w2, fp2, t1, _, t2, _, q1, q2, nd, hf, hst⟩ := I.mut2 hk a1 a2 hne
  rw [s1] at t1; cases t1
  rw [s2] at t2; cases t2
  refine ⟨F, fp1, fp2, vs0, v1, v2, vs, x0, a1.get ρ, a2.get ρ, x, rfl, I.fh, r0, q1, q2, nd, fun a ha => ⟨(hf a ha).1, (hf a ha).2.1⟩, r, fun e => ?_, fun z y1 y2 e u F' H' fp1' fp2' st r1 r2 ru => ?_, fun n e H' eh => ?_⟩
  · rw [e] at g; exact hG.1 g
  · rw [e] at g
    exact q z _ u F' H' (hst F' H' fp1' fp2' y1 y2 st r1 r2) st.ff ru g
  · rw [e] at g
    refine hG.2 n H' g fun a o ha hm hn => ?_
    have ha1 := I.frm a o ha hm hn
    by_cases hf' : a ∈ fp1 ++ fp2
    · exfalso
      obtain ⟨_, _, z1, z2⟩ := hf a hf'
      cases k with
      | pa => rcases z1 rfl with z | z
              · exact hm z
              · rw [ha] at z; cases z
      | lo => rcases z2 rfl with z | z
              · exact hn z
              · rw [ha] at z; cases z
      | co => exact hk rfl
    · exact eh a o ha1 hf'
/-- d(x, a, b, ..): a and b may change -/
theorem ev_callM2 {a : DCod} {t0 : TE} {tA : TA} {i j : Nat} {k : Kd} (hk : k ≠ .co) (a1 : At Γ i (.m k m1)) (a2 : At Γ j (.m k m2)) (hne : i ≠ j) {f : DEnv [a] → m1.α → m2.α → DEnv cs → Res (c.α × m1.α × m2.α)} {T0 : (R : Type) → (a.α → Env Γ → Res R) → Env Γ → Res R} {TA : (R : Type) → (DEnv cs → Env Γ → Res R) → Env Γ → Res R}
    (h0 : EvE false E XC Γ t0 a T0) (h : EvA false E XC Γ tA cs TA) :
    EvE false E XC Γ (tCall (spM2 XC [a] m1 m2 cs c f) [] E (tCons t0 (tCons (tVar i) (tCons (tVar j) tA)))) c (fun R kk ρ => T0 R (fun x0 ρ => TA R (fun x ρ => (f (x0, ()) (a1.get ρ) (a2.get ρ) x).bind fun z => kk z.1 (a2.put (a1.put ρ z.2.1) z.2.2)) ρ) ρ) := fun B σ F H ρ I R G hG kk Q g q =>
  h0 B σ F H ρ I R G hG _ _ g fun x0 ρ0 u0 F0 H0 I0 e0 r0 g0 => by
    obtain ⟨v1, _, v2, _, s1, _, s2, _⟩ := I0.mut2 hk a1 a2 hne
    refine ⟨v1, s1, v2, s2, h B σ F0 H0 ρ0 I0 R G hG _ _ g0 fun x ρ1 vs F1 H1 I1 e1 r1 g1 => ?_⟩
    have r0' : DRel [a] F1 [u0] (x0, ()) := ⟨u0, [], rfl, a.ext r0 e1.1, rfl⟩
    exact callM2_goes (vs0 := [u0]) hG hk a1 a2 hne I1 s1 s2 r0' r1.app g1 fun z ρ' u F' H' I' eF ru g2 => q z ρ' u F' H' I' ⟨(e0.1.trans e1.1).trans eF, fun z => nomatch z⟩ ru g2
/-- d(a, b, ..): a and b may change -/
theorem ev_callM2z {tA : TA} {i j : Nat} {k : Kd} (hk : k ≠ .co) (a1 : At Γ i (.m k m1)) (a2 : At Γ j (.m k m2)) (hne : i ≠ j) {f : DEnv [] → m1.α → m2.α → DEnv cs → Res (c.α × m1.α × m2.α)} {TA : (R : Type) → (DEnv cs → Env Γ → Res R) → Env Γ → Res R}
    (h : EvA false E XC Γ tA cs TA) :
    EvE false E XC Γ (tCall (spM2 XC [] m1 m2 cs c f) [] E (tCons (tVar i) (tCons (tVar j) tA))) c (fun R kk ρ => TA R (fun x ρ => (f () (a1.get ρ) (a2.get ρ) x).bind fun z => kk z.1 (a2.put (a1.put ρ z.2.1) z.2.2)) ρ) := fun B σ F H ρ I R G hG kk Q g q => by
  obtain ⟨v1, _, v2, _, s1, _, s2, _⟩ := I.mut2 hk a1 a2 hne
  refine ⟨v1, s1, v2, s2, h B σ F H ρ I R G hG _ _ g fun x ρ1 vs F1 H1 I1 e1 r1 g1 => ?_⟩
  exact callM2_goes (vs0 := []) (cs0 := []) (x0 := ()) hG hk a1 a2 hne I1 s1 s2 rfl r1.app g1 fun z ρ' u F' H' I' eF ru g2 => q z ρ' u F' H' I' ⟨e1.1.trans eF, fun z => nomatch z⟩ ru g2
/-- its length of arguments -/
theorem lenM2 {f : DEnv cs0 → m1.α → m2.α → DEnv cs → Res (c.α × m1.α × m2.α)} {n : Nat} (h : cs0.length + 2 + cs.length = n) : ∀ vs H Q E, spM2 XC cs0 m1 m2 cs c f vs H Q E → vs.length = n := fun vs H Q E ⟨_, _, _, vs0, v1, v2, vs', _, _, _, _, e, _, r0, _, _, _, _, r, _⟩ => by
  rw [e, List.length_append, List.length_cons, List.length_cons, r.len, r0.len]; omega
end
end Pu
set_option Elab.async false
set_option linter.all false
set_option maxRecDepth 100000
set_option maxHeartbeats 4000000
namespace Pu
open PySem L2 Evl
/-! ### dicts by pairs of whole numbers, that may change -/
abbrev PK := Int × Int
def pkey (k : PK) : List Key := [.inl k.1, .inl k.2]
theorem pkey_inj {k k' : PK} (h : pkey k = pkey k') : k = k' := by
  unfold pkey at h
  obtain ⟨a, b⟩ := k
  obtain ⟨a', b'⟩ := k'
  simp at h
  rw [h.1, h.2]
def KTR (c : DCod) (F : Hp) (ks : List (List Key × V)) (kvs : List (PK × c.α)) : Prop := Paired (fun (p : List Key × V) (q : PK × c.α) => p.1 = pkey q.1 ∧ c.rel F p.2 q.2) ks kvs
def pget {α : Type} : List (PK × α) → PK → Option α
  | [], _ => none
  | p :: r, k => if p.1 = k then some p.2 else pget r k
def pput {α : Type} (kvs : List (PK × α)) (k : PK) (v : α) : List (PK × α) :=
  if (kvs.any fun q => decide (q.1 = k)) = true then kvs.map (fun q => if q.1 = k then (q.1, v) else q) else kvs ++ [(k, v)]
section
variable {c : DCod}
theorem KTR.ext {F F' : Hp} (e : Ex F F') {ks : List (List Key × V)} {kvs : List (PK × c.α)} (h : KTR c F ks kvs) : KTR c F' ks kvs := Paired.mapP h fun _ _ q => ⟨q.1, c.ext q.2 e⟩
theorem KTR.get {F : Hp} {i : PK} : ∀ {ks : List (List Key × V)} {kvs : List (PK × c.α)}, KTR c F ks kvs → (∀ z, pget kvs i = some z → ∃ v, valV ks (pkey i) = some v ∧ c.rel F v z) ∧ (pget kvs i = none → valV ks (pkey i) = none)
  | _, _, .nil => ⟨fun z h => (nomatch h), fun _ => rfl⟩
  | _, _, .cons (a := p) (b := q) r t => by
    obtain ⟨h1, h2⟩ := KTR.get (i := i) t
    unfold pget
    by_cases e : q.1 = i
    · rw [if_pos e]
      have e2 : p.1 = pkey i := by rw [r.1, e]
      exact ⟨fun z hz => by cases hz; exact ⟨p.2, valV_pos e2, r.2⟩, fun z => (nomatch z)⟩
    · rw [if_neg e]
      have e2 : ¬ p.1 = pkey i := fun z => by
        rw [r.1] at z
        exact e (pkey_inj z)
      rw [valV_neg e2]
      exact ⟨h1, h2⟩
theorem KTR.any {F : Hp} {i : PK} : ∀ {ks : List (List Key × V)} {kvs : List (PK × c.α)}, KTR c F ks kvs → (ks.any fun p => decide (p.1 = pkey i)) = kvs.any fun q => decide (q.1 = i)
  | _, _, .nil => rfl
  | _, _, .cons (a := p) (b := q) r t => by
    rw [List.any_cons, List.any_cons, KTR.any t, r.1]
    congr 1
    by_cases e : q.1 = i
    · simp [e]
    · have : ¬ pkey q.1 = pkey i := fun z => e (pkey_inj z)
      rw [decide_eq_false this, decide_eq_false e]
theorem KTR.map {F : Hp} {i : PK} {v : V} {x : c.α} (hx : c.rel F v x) : ∀ {ks : List (List Key × V)} {kvs : List (PK × c.α)}, KTR c F ks kvs → KTR c F (ks.map fun p => if p.1 = pkey i then (p.1, v) else p) (kvs.map fun q => if q.1 = i then (q.1, x) else q)
  | _, _, .nil => .nil
  | _, _, .cons (a := p) (b := q) r t => by
    refine .cons ?_ (KTR.map hx t)
    by_cases e : q.1 = i
    · have e2 : p.1 = pkey i := by rw [r.1, e]
      dsimp only
      rw [if_pos e, if_pos e2]
      exact ⟨r.1, hx⟩
    · have e2 : ¬ p.1 = pkey i := fun z => by
        rw [r.1] at z
        exact e (pkey_inj z)
      dsimp only
      rw [if_neg e, if_neg e2]
      exact r
theorem KTR.app {F : Hp} : ∀ {ks ls : List (List Key × V)} {kvs lvs : List (PK × c.α)}, KTR c F ks kvs → KTR c F ls lvs → KTR c F (ks ++ ls) (kvs ++ lvs)
  | _, _, _, _, .nil, s => s
  | _, _, _, _, .cons r t, s => .cons r (KTR.app t s)
theorem KTR.put {F : Hp} {i : PK} {v : V} {x : c.α} (hx : c.rel F v x) {ks : List (List Key × V)} {kvs : List (PK × c.α)} (h : KTR c F ks kvs) : KTR c F (putK ks (pkey i) v) (pput kvs i x) := by
  unfold putK pput
  rw [h.any (i := i)]
  by_cases e : (kvs.any fun q => decide (q.1 = i)) = true
  · rw [if_pos e, if_pos e]; exact h.map hx
  · rw [if_neg e, if_neg e]; exact h.app (.cons ⟨rfl, hx⟩ .nil)
end
theorem pput_len {α : Type} (kvs : List (PK × α)) (k : PK) (v : α) : (pput kvs k v).length ≤ kvs.length + 1 := by
  unfold pput
  split
  · rw [List.length_map]; omega
  · rw [List.length_append]; exact Nat.le_refl _
def dDicP (c : DCod) : DCod := ⟨List (PK × c.α), fun F v kvs => ∃ l ks, v = .ref l ∧ F l = some (.dT ks) ∧ KTR c F ks kvs, fun ⟨l, ks, h1, h2, h3⟩ e => ⟨l, ks, h1, e l _ h2, h3.ext e⟩⟩
def mDicP (c : DCod) : Cod := ⟨List (PK × c.α), fun F H fp v kvs => ∃ l ks, v = .ref l ∧ fp = [l] ∧ H l = some (.dT ks) ∧ KTR c F ks kvs, fun ⟨l, ks, h1, h0, h2, h3⟩ e k => ⟨l, ks, h1, h0, by rw [k l (by rw [h0]; simp)]; exact h2, h3.ext e⟩⟩
def fzDP {c : DCod} : Fz (mDicP c) (dDicP c) := ⟨fun x => x, fun {F H Fz fp v x} h e k => let ⟨l, ks, h1, h0, h2, h3⟩ := h; ⟨l, ks, h1, by rw [k l (by rw [h0]; simp)]; exact h2, h3.ext e⟩,
  fun {F H fp v x} h a ha o ho => by
    obtain ⟨l, ks, h1, h0, h2, h3⟩ := h
    rw [h0] at ha
    have ha : a = l := by simpa using ha
    subst ha
    rw [h2] at ho; cases ho
    trivial⟩
section
variable {p : Bool} {E : XK} {XC : Str → Value} {Rt : Ret} {K : PySem.W.Frag} {Γ ΓL : List Sl} {te tb ta : TE} {c : DCod}
theorem en_dnewP : EvN p E XC Γ tDNewT (mDicP c) (fun R k ρ => k [] ρ) := fun B σ F H ρ I R G hG k Q g qq => by
  refine fun l hl => qq [] ρ (.ref l) [l] F H F _ I (Gt.refl I.fh) (Pext.own I.fh hl) ⟨by simp, fun a ha => ?_⟩ ⟨l, [], rfl, rfl, upd_same, .nil⟩ g
  have ha : a = l := by simpa using ha
  subst ha
  exact ⟨hl, none_of I.fh hl, _, upd_same⟩
theorem key_at {F : Hp} {v : V} {x : PK} (h : (dP2 dInt dInt).rel F v x) : ∃ b, v = .ref b ∧ F b = some (.tup ((pkey x).map kV)) := by
  obtain ⟨b, u, w, h1, h2, h3, h4⟩ := h
  refine ⟨b, h1, ?_⟩
  rw [show u = V.int x.1 from h3, show w = V.int x.2 from h4] at h2
  exact h2
theorem ev_pin {Ta : (R : Type) → (PK → Env Γ → Res R) → Env Γ → Res R} {Tb : (R : Type) → (List (PK × c.α) → Env Γ → Res R) → Env Γ → Res R} (ha : EvE p E XC Γ ta (dP2 dInt dInt) Ta) (hb : EvE p E XC Γ tb (dDicP c) Tb) :
    EvE p E XC Γ (tDIn ta tb) dBl (fun R k ρ => Ta R (fun x ρ => Tb R (fun y ρ => k (pget y x).isSome ρ) ρ) ρ) := fun B σ F H ρ I R G hG k Q g q =>
  ha B σ F H ρ I R G hG _ _ g fun x ρ1 v F1 H1 I1 e1 r1 g1 => hb B σ F1 H1 ρ1 I1 R G hG _ _ g1 fun y ρ2 w F2 H2 I2 e2 r2 g2 => by
    obtain ⟨l, ks, rfl, hl, hk⟩ := r2
    obtain ⟨h1, h2⟩ := KTR.get (i := x) hk
    obtain ⟨b, rfl, eb⟩ := key_at ((dP2 dInt dInt).ext r1 e2.1)
    refine ⟨l, valV ks (pkey x), rfl, DGet.t (I2.fh l _ hl) (I2.fh b _ eb), q _ ρ2 _ F2 H2 I2 (e1.trans e2) ?_ g2⟩
    show V.bl _ = V.bl _
    congr 1
    cases hz : pget y x with
    | none => rw [h2 hz]; rfl
    | some z =>
      obtain ⟨u, hu, _⟩ := h1 z hz
      rw [hu]; rfl
theorem ev_pnotin {Ta : (R : Type) → (PK → Env Γ → Res R) → Env Γ → Res R} {Tb : (R : Type) → (List (PK × c.α) → Env Γ → Res R) → Env Γ → Res R} (ha : EvE p E XC Γ ta (dP2 dInt dInt) Ta) (hb : EvE p E XC Γ tb (dDicP c) Tb) :
    EvE p E XC Γ (tDNotIn ta tb) dBl (fun R k ρ => Ta R (fun x ρ => Tb R (fun y ρ => k (!(pget y x).isSome) ρ) ρ) ρ) := fun B σ F H ρ I R G hG k Q g q =>
  ha B σ F H ρ I R G hG _ _ g fun x ρ1 v F1 H1 I1 e1 r1 g1 => hb B σ F1 H1 ρ1 I1 R G hG _ _ g1 fun y ρ2 w F2 H2 I2 e2 r2 g2 => by
    obtain ⟨l, ks, rfl, hl, hk⟩ := r2
    obtain ⟨h1, h2⟩ := KTR.get (i := x) hk
    obtain ⟨b, rfl, eb⟩ := key_at ((dP2 dInt dInt).ext r1 e2.1)
    refine ⟨l, valV ks (pkey x), rfl, DGet.t (I2.fh l _ hl) (I2.fh b _ eb), q _ ρ2 _ F2 H2 I2 (e1.trans e2) ?_ g2⟩
    show V.bl _ = V.bl _
    congr 1
    cases hz : pget y x with
    | none => rw [h2 hz]; rfl
    | some z =>
      obtain ⟨u, hu, _⟩ := h1 z hz
      rw [hu]; rfl
theorem dic_step {B : Base} {σ : St} {F H : Hp} {ρ : Env Γ} {i : Nat} {k : Kd} (hk : k ≠ .co) (I : SInv B Γ σ F H ρ) (at_ : At Γ i (.m k (mDicP c))) : ∃ l ks, σ[i]? = some (some (.ref l)) ∧ H l = some (.dT ks) ∧ KTR c F ks (at_.get ρ) ∧
    ∀ ks' xs', KTR c F ks' xs' → SInv B Γ σ F (upd H l (.dT ks')) (at_.put ρ xs') := by
  obtain ⟨v, fp, h1, _, hr, nd, hfp, hst⟩ := I.mut at_
  obtain ⟨l, ks, rfl, rfl, hl, pv⟩ := hr
  refine ⟨l, ks, h1, hl, pv, fun ks' xs' pv' => hst hk F _ [l] xs' ⟨Ex.refl _, fun a o ha => ?_, fun a o ha hm => ?_, fun a o ha => ?_, fun a o ha => .inl ha, by simp, fun a ha => ?_⟩ ⟨l, ks', rfl, rfl, upd_same, pv'⟩⟩
  · have hne : a ≠ l := ne_of_none ha (hfp l (by simp)).1
    rw [upd_ne hne]; exact I.fh a o ha
  · rw [upd_ne (by simpa using hm)]; exact ha
  · by_cases he : a = l
    · subst he; exact ⟨_, upd_same⟩
    · exact ⟨o, by rw [upd_ne he]; exact ha⟩
  · have ha : a = l := by simpa using ha
    subst ha
    exact ⟨.inl (by simp), (hfp a (by simp)).1, _, upd_same⟩
theorem st_pput {i : Nat} {k : Kd} (hk : k ≠ .co) (at_ : At Γ i (.m k (mDicP c))) {T : (R : Type) → (c.α → Env Γ → Res R) → Env Γ → Res R} {Ti : (R : Type) → (PK → Env Γ → Res R) → Env Γ → Res R} (h : EvE p E XC Γ te c T) (hi : EvE p E XC Γ tb (dP2 dInt dInt) Ti) :
    StE E XC Rt Γ (sDPut (tVar i) tb te) Γ ΓL (fun R nx rt bk ct ρ => T R (fun x ρ => Ti R (fun j ρ => chk (decide (List.length (α := PK × c.α) (at_.get ρ) < 16777216)) (nx (at_.put ρ (pput (α := c.α) (at_.get ρ) j x)))) ρ) ρ) := fun B σ F H ρ I R G hG nx rt bk ct D g qn qr qb qc =>
  h B σ F H ρ I R G hG _ _ g fun x ρ1 u F1 H1 I1 e1 r1 g1 => by
    obtain ⟨l0, ks0, h1, _⟩ := dic_step hk I1 at_
    refine ⟨.ref l0, h1, hi B σ F1 H1 ρ1 I1 R G hG _ _ g1 fun j ρ2 w F2 H2 I2 e2 r2 g2 => ?_⟩
    obtain ⟨l, ks, h2, hl, pv, hs⟩ := dic_step hk I2 at_
    rw [h1] at h2
    cases h2
    by_cases hx : List.length (α := PK × c.α) (at_.get ρ2) < 16777216
    · rw [decide_eq_true hx] at g2
      have hsz := sizeLine_eq
      have hpl := Paired.length pv
      obtain ⟨b, rfl, eb⟩ := key_at r2
      exact ⟨l0, _, rfl, DPut.t hl (I2.fh b _ eb) (by rw [hsz, hpl]; exact hx), qn _ σ F2 _ (hs _ _ (pv.put (c.ext r1 e2.1))) (e1.1.trans e2.1) g2⟩
    · rw [decide_eq_false hx] at g2
      exact absurd g2 hG.1
/-- enumerate over a list or a tuple that a slot holds -/
theorem ei_enumSV {i : Nat} (at_ : At Γ i (.da (dSeq c))) : EvI p E XC Γ (iEith (iEnum K (tCons (tVar i) tNil)) (iEnumT K (tCons (tVar i) tNil))) (dP2 dInt c) (fun R k ρ => k (enumL (at_.get ρ)) ρ) := fun B σ F H ρ I R G hG k Q g qq => by
  obtain ⟨v, h1, h2⟩ := I.data at_
  obtain ⟨a, vs, rfl, g2, g3, g4⟩ := h2
  rcases g2 with g2 | g2
  · exact .inl ⟨_, h1, a, vs, rfl, SqL.of (I.fh a _ g2), qq _ ρ _ F H I (Gt.refl I.fh) (walks_enum (a := a) walk_enum (fun H2 e2 => SqL.of (e2 a _ g2)) g3) g (Nat.le_trans (Nat.le_of_eq (enumL_len (α := c.α) (xs := at_.get ρ))) g4)⟩
  · exact .inr ⟨_, h1, a, vs, rfl, SqT.rd I.fh g2, qq _ ρ _ F H I (Gt.refl I.fh) (walks_enum (a := a) walk_enumT (fun H2 e2 => SqT.rd e2 g2) g3) g (Nat.le_trans (Nat.le_of_eq (enumL_len (α := c.α) (xs := at_.get ρ))) g4)⟩
end
end Pu
set_option Elab.async false
set_option linter.all false
set_option maxRecDepth 100000
set_option maxHeartbeats 4000000
namespace Pu
open PySem L2 Evl
theorem pv_und {c : DCod} (u : Und c) {F : Hp} {fp : List Addr} (k : ∀ a, a ∈ fp → ∀ o, F a = some o → Mu o) : ∀ {vs : List V} {xs : List c.α}, PV c F vs xs → PV c (thaw F fp) vs xs
  | _, _, .nil => .nil
  | _, _, .cons r t => .cons (u F fp _ _ k r) (pv_und u k t)
theorem thaw_no {F : Hp} {fp : List Addr} {a : Addr} (h : F a = none) : thaw F fp a = none := by unfold thaw; rw [h, ite_self]
section
variable {p : Bool} {E : XK} {XC : Str → Value} {Γ Γ' : List Sl} {te : TE} {c : DCod}
/-- a new list, made by a reading of things that may change -/
theorem ev_frzL {T : (R : Type) → (List c.α → Env Γ' → Res R) → Env Γ' → Res R} (fz : FzG Γ Γ') (und : Und c) (h : EvN true E XC Γ' te (mLst c) T) : EvE p E XC Γ te (dLst c) (fun R k ρ => T R (fun x _ => k x ρ) (fz.conv ρ)) := freeze (fun B σ F H ρ I R G hG k Q g q => by
  obtain ⟨L, r, w⟩ := id I
  have hno : ∀ a, a ∈ L.map (·.2) → F a = none := fun a ha => by
    obtain ⟨⟨kk, b⟩, hb, e⟩ := List.mem_map.mp ha
    have e : b = a := e
    subst e
    exact (w.fr kk b hb).1
  have hin : ∀ k a, (k, a) ∈ L → a ∈ L.map (·.2) := fun k a ha => List.mem_map.mpr ⟨_, ha, rfl⟩
  have eF : Ex F (frz F H (L.map (·.2))) := fun a o ha => by
    unfold frz
    rw [if_neg fun hm => by rw [hno a hm] at ha; cases ha]; exact ha
  have hfz : ∀ a, a ∈ L.map (·.2) → frz F H (L.map (·.2)) a = H a := fun a ha => by unfold frz; rw [if_pos ha]
  have r' := fz.rel eF r fun k a ha => hfz a (hin k a ha)
  have hmu := fz.mu r
  have eFH : Ex (frz F H (L.map (·.2))) H := fun a o ha => by
    unfold frz at ha
    by_cases hm : a ∈ L.map (·.2)
    · rw [if_pos hm] at ha; exact ha
    · rw [if_neg hm] at ha; exact w.fh a o ha
  have I' : SInv ⟨frz F H (L.map (·.2)), H, [], [], [], B.τ⟩ Γ' σ (frz F H (L.map (·.2))) H (fz.conv ρ) :=
    ⟨[], r', ⟨by simp, fun k a ha => (nomatch ha), eFH, Ex.refl _, fun a o h _ _ => h, fun a o h => ⟨o, h⟩, fun a o h => .inl h, fun a ha => (nomatch ha), fun a ha => (nomatch ha), fun a ha => (nomatch ha)⟩⟩
  refine h _ σ _ H _ I' R G ⟨hG.1, fun n H' gn f => hG.2 n H' gn fun a o h1 h2 h3 => f a o (w.keep a o h1 h2 h3) (by simp) (by simp)⟩ _ Q g fun x ρ' v fp F0 H0 F' H' I1 e1 pq nw r1 g1 => ?_
  obtain ⟨_, pe⟩ := e1.2 rfl
  have pp : Pext F (thaw F0 (L.map (·.2))) H H0 := by
    refine ⟨pe.hh, fun a o ha => ?_, fun a o ha => ?_, fun a o ha => ?_⟩
    · unfold thaw
      rw [if_neg fun hm => by rw [hno a hm] at ha; cases ha]
      exact pe.ff a o (eF a o ha)
    · unfold thaw at ha
      by_cases hm : a ∈ L.map (·.2)
      · rw [if_pos hm] at ha; cases ha
      · rw [if_neg hm] at ha; exact pe.fh a o ha
    · unfold thaw at ha
      by_cases hm : a ∈ L.map (·.2)
      · rw [if_pos hm] at ha; cases ha
      · rw [if_neg hm] at ha
        rcases pe.new a o ha with z | z
        · unfold frz at z
          rw [if_neg hm] at z; exact .inl z
        · exact .inr z
  have p2 : Pext (thaw F0 (L.map (·.2))) (thaw F' (L.map (·.2))) H0 H' := by
    refine ⟨pq.hh, fun a o ha => ?_, fun a o ha => ?_, fun a o ha => ?_⟩
    · unfold thaw at ha ⊢
      by_cases hm : a ∈ L.map (·.2)
      · rw [if_pos hm] at ha; cases ha
      · rw [if_neg hm] at ha ⊢; exact pq.ff a o ha
    · unfold thaw at ha
      by_cases hm : a ∈ L.map (·.2)
      · rw [if_pos hm] at ha; cases ha
      · rw [if_neg hm] at ha; exact pq.fh a o ha
    · unfold thaw at ha
      by_cases hm : a ∈ L.map (·.2)
      · rw [if_pos hm] at ha; cases ha
      · rw [if_neg hm] at ha
        rcases pq.new a o ha with z | z
        · left; unfold thaw; rw [if_neg hm]; exact z
        · exact .inr z
  have nw2 : New fp H0 (thaw F' (L.map (·.2))) H' := ⟨nw.nd, fun a ha => ⟨(nw.at_ a ha).1, thaw_no (nw.at_ a ha).2.1, (nw.at_ a ha).2.2⟩⟩
  refine q x ρ v fp _ H0 _ H' (I.pext pp) ⟨pp.ff, fun _ => ⟨rfl, pp⟩⟩ p2 nw2 ?_ g1
  obtain ⟨l, vs, h1, h0, hl, pv, hz⟩ := r1
  refine ⟨l, vs, h1, h0, hl, pv_und und (fun a ha o ho => ?_) pv, hz⟩
  obtain ⟨⟨kk, b⟩, hb, e⟩ := List.mem_map.mp ha
  have e : b = a := e
  subst e
  obtain ⟨_, o', ho'⟩ := w.fr kk b hb
  have h1 : F' b = some o' := pq.ff b o' (pe.ff b o' ((hfz b ha).trans ho'))
  rw [h1] at ho; cases ho
  exact hmu kk b hb _ ho')
end
end Pu
set_option Elab.async false
set_option linter.all false
set_option maxRecDepth 100000
set_option maxHeartbeats 4000000
/-! dicts whose keys are whole numbers or None, that may change; readings that are never come to; whole numbers of the text -/
namespace Pu
open PySem PySem.Spec PyProof.Rows L2 Evl
/-! ### never come to -/
def tNever : TE := fun _ _ _ => False
theorem pe_never {X : Cx} {e : Expr} : PE X e tNever := ⟨fun _ _ _ _ _ _ h => h.elim⟩
section
variable {p : Bool} {E : XK} {XC : Str → Value} {Γ : List Sl} {c : DCod}
theorem ev_never : EvE p E XC Γ tNever c (fun R k ρ => .bad) := fun B σ F H ρ I R G hG k Q g q => absurd g hG.1
end
/-! ### whole numbers of the text -/
theorem Tx.gint {fa : List He.Fa} {fn : List He.DefD} {K : PySem.W.Frag} {mg : Str → Option Value} (T : Tx fa fn K mg) (i : Nat) {x : Str} {n : Int} (h : fa[i]? = some (.int x n) := by rfl) : ∃ u, mg x = some u ∧ RelV (.int n) u :=
  let ⟨_, X, G⟩ := T.h
  let ⟨t, e⟩ := He.int_ok X G (T.c.fact i h)
  ⟨_, e, t, rfl⟩
theorem pe_gint {X : Cx} {x : Str} {v : V} {pos : Pos} (h : ∃ u, X.mg x = some u ∧ RelV v u) (hg : Gl X x := by rfl) (hd : (x == ("__debug__" : Str)) = false := by decide) : PE X (.Name x pos) (tC v) := let ⟨_, hm, r⟩ := h; pe_glob hg hm r hd
/-! ### the kind of key -/
abbrev OK := Option Int
def okIs : OK → Value → Bool
  | none, .none => true
  | none, _ => false
  | some i, v => Value.isInt i v
theorem okIs_shape : ∀ {k : OK} {v : Value}, okIs k v = true → (k = none ∧ v = Value.none) ∨ ∃ i t, k = some i ∧ v = Value.int i t
  | none, v, h => by
    cases v <;> first | exact .inl ⟨rfl, rfl⟩ | exact nomatch h
  | some i, v, h => by
    obtain ⟨t, e⟩ := Value.isInt_shape (k := i) (v := v) h
    exact .inr ⟨i, t, rfl, e⟩
def okH : OK → Int
  | none => 0xFCA86420
  | some i => hashInt i
theorem typeIs_non (s : Shared) : s.TypeIs .none "NoneType" := rfl
theorem pyHash_non {prog : Program} {w : World} {A : Around} {E : Value → Shared → Prop} {s : Shared} {Q : Int → Shared → Prop} (h : Q 0xFCA86420 { s with toks := s.toks + 1 }) :
    wpAny (model prog w) A (pyHash .none) Q E s := by
  unfold pyHash
  have none_on : [Value.none].any Value.onHeap = false := rfl
  refine wpAny_bind ?_
  rw [cRoomFor, if_neg (by rw [none_on]; decide)]
  refine wpAny_pure (wpAny_bind (wpAny_specialOf (typeIs_non s) F.slot_NoneType_hash.lookup ?_))
  show wpAny _ _ (if (some (Value.builtin "NoneType.__hash__") == some Value.none) = true then _ else _) Q E s
  rw [if_neg (by rw [beq_builtin_none]; decide)]
  refine wpAny_bind (wpAny_specialOf (typeIs_non s) F.slot_NoneType_hash.lookup ?_)
  show wpAny _ _ (callSpecialIfBoundUnlessNone? .none "__hash__" _ >>= _) Q E s
  refine wpAny_bind (wpAny_callSpecialIfBoundUnlessNone?_slot (typeIs_non s) F.slot_NoneType_hash (wpAny_call_entry F.slot_NoneType_hash (typeIs_non s) F.entry_NoneType_hash
    (show wpAny _ _ (do ret (← mkInt (0xFCA86420 : Int))) _ _ s from wpAny_ret_mkInt ?_) (F.args_NoneType_hash_1 _)))
  show wpAny _ _ (if (decide (-(2 : Int) ^ 63 ≤ 0xFCA86420) && decide ((0xFCA86420 : Int) < 2 ^ 63)) = true then _ else _) Q E _
  rw [if_pos (by decide)]
  exact wpAny_pure h
theorem ok_ss (a b : Int) : decide ((some a : OK) = some b) = (a == b) := by
  by_cases e : a = b
  · subst e; simp
  · rw [decide_eq_false (fun q => e (Option.some.inj q))]
    exact (beq_eq_false_iff_ne.mpr e).symm
theorem eqBool_nn {prog : Program} {w : World} {A : Around} {E : Value → Shared → Prop} {s : Shared} {Q : Bool → Shared → Prop} (h : Q true s) : wpAny (model prog w) A (eqBool .none .none) Q E s := by
  unfold eqBool
  refine wpAny_holding ?_
  rw [if_pos (show (Value.none == Value.none) = true from rfl)]
  exact wpAny_bind (wpAny_rule (wpAny_pure h))
def okKind (prog : Program) (w : World) : PySem.KeyKind prog w OK where
  is := okIs
  hash := okH
  inj := fun v a b ha hb => by
    rcases okIs_shape ha with ⟨rfl, rfl⟩ | ⟨i, t, rfl, rfl⟩
    · rcases okIs_shape hb with ⟨rfl, _⟩ | ⟨j, u, _, e⟩
      · rfl
      · exact nomatch e
    · rcases okIs_shape hb with ⟨_, e⟩ | ⟨j, u, rfl, e⟩
      · exact nomatch e
      · injection e with e1 _
        rw [e1]
  byValue := fun k v h => by
    rcases okIs_shape h with ⟨_, rfl⟩ | ⟨i, t, _, rfl⟩
    · rfl
    · rfl
  pyHash := fun hv h => by
    rcases okIs_shape hv with ⟨rfl, rfl⟩ | ⟨i, t, rfl, rfl⟩
    · exact pyHash_non h
    · exact wpAny_pyHash_int h
  eqBool := fun hu hv h => by
    rcases okIs_shape hu with ⟨rfl, rfl⟩ | ⟨i, t, rfl, rfl⟩
    · rcases okIs_shape hv with ⟨rfl, rfl⟩ | ⟨j, u, rfl, rfl⟩
      · exact eqBool_nn h
      · exact SeqAt.EqAt.none_int j u _ _ _ _ h
    · rcases okIs_shape hv with ⟨rfl, rfl⟩ | ⟨j, u, rfl, rfl⟩
      · exact SeqAt.EqAt.int_none i t _ _ _ _ h
      · rw [ok_ss] at h
        exact wpAny_eqBool_int h
  «strs» := fun k x t v h => by
    rcases okIs_shape h with ⟨_, e⟩ | ⟨i, u, _, e⟩
    · exact nomatch e
    · exact nomatch e
/-! ### the dict, in the abstract heap -/
def DicO (h : Heap) (a : Addr) (vs : List (OK × Value)) : Prop := ∀ (P : Program) (w : World), h.DictOf (okKind P w) a vs
theorem pairs_ok {P P' : Program} {w w' : World} {es : List DictEntry} {vs : List (OK × Value)} (h : Pairs (okKind P w) es vs) : Pairs (okKind P' w') es vs := by
  induction h with
  | nil => exact .nil
  | cons h1 h2 _ ih => exact .cons h1 h2 ih
theorem DicO.of {P : Program} {w : World} {h : Heap} {a : Addr} {vs : List (OK × Value)} (d : h.DictOf (okKind P w) a vs) : DicO h a vs := fun P' w' =>
  let ⟨o, es, ep, h1, h2, h3, h4, h5, h6⟩ := d
  ⟨o, es, ep, h1, h2, h3, h4, pairs_ok h5, h6⟩
def mapO (a : Addr) (kvs : List (OK × V)) : HO := .ext fun h => kvs.length ≤ sizeLine ∧ (a == sysModules) = false ∧ ∃ vs, KV kvs vs ∧ DicO h a vs
theorem mapO_ok {P : Program} {w : World} {H : Hp} {h : Heap} {a : Addr} {kvs : List (OK × V)} {vs : List (OK × Value)} (z : kvs.length ≤ sizeLine) (hd : (a == sysModules) = false) (rel : KV kvs vs) (dd : h.DictOf (okKind P w) a vs) : ObjOk P w H h a (mapO a kvs) :=
  ⟨⟨z, hd, vs, rel, DicO.of dd⟩, let ⟨o, _, _, ho, _⟩ := dd; ⟨o, ho⟩, fun h1 h2 ⟨z', hd', vs', r', d'⟩ k => ⟨z', hd', vs', r', fun P' w' => (d' P' w').at k⟩⟩
section
variable {P : Program} {w : World} {H : Hp} {h : Heap} {a : Addr} {kvs : List (OK × V)}
theorem mapO_of (ok : HOk P w H h) (e : H a = some (mapO a kvs)) : kvs.length ≤ sizeLine ∧ (a == sysModules) = false ∧ ∃ vs, KV kvs vs ∧ h.DictOf (okKind P w) a vs := by
  obtain ⟨⟨z, hd, vs, rel, dd⟩, _⟩ := (show ObjOk P w H h a (mapO a kvs) from ok a _ e)
  exact ⟨z, hd, vs, rel, dd P w⟩
end
def oV : OK → V
  | none => .non
  | some i => .int i
theorem oV_is {k : OK} {u : Value} (r : RelV (oV k) u) : okIs k u = true := by
  cases k with
  | none => obtain rfl : u = Value.none := r; rfl
  | some i => obtain ⟨t, rfl⟩ := (show ∃ t, u = Value.int i t from r); simp [okIs, Value.isInt]
section
variable {X : Cx} {pos pos' : Pos} {o i value : Expr} {td ty tv : TE}
def tNewO : TE := fun _ H Q => ∀ p, H p = none → Q (.ref p) (upd H p (mapO p []))
def tInO (ty td : TE) : TE := fun σ H Q => ty σ H fun y H1 => td σ H1 fun x H2 => ∃ a kvs k, x = .ref a ∧ H2 a = some (mapO a kvs) ∧ y = oV k ∧ Q (.bl (valV kvs k).isSome) H2
def tNotInO (ty td : TE) : TE := fun σ H Q => ty σ H fun y H1 => td σ H1 fun x H2 => ∃ a kvs k, x = .ref a ∧ H2 a = some (mapO a kvs) ∧ y = oV k ∧ Q (.bl (!(valV kvs k).isSome)) H2
def sPutO (td ty tv : TE) : TS := fun D σ H => tv σ H fun v H1 => td σ H1 fun x H2 => ty σ H2 fun y H3 => ∃ a kvs k, x = .ref a ∧ H3 a = some (mapO a kvs) ∧ y = oV k ∧ kvs.length < sizeLine ∧ D.nx σ (upd H3 a (mapO a (putK kvs k v)))
theorem pe_newO : PE X (.Dict [] [] pos) tNewO := ⟨fun pins s σ H Q I h => wpAny_Dict_empty
  ⟨.ref s.heap.objs.size, _, I.laid (a := s.heap.objs.size) (o := mapO s.heap.objs.size []) (t' := s.toks) (fun _ _ q => Heap.get?_push_of_some _ q) (Nat.le_refl _)
    (mapO_ok (P := X.prog) (w := X.w) (Nat.zero_le _) (beq_eq_false_iff_ne.mpr (Ne.symm (Nat.ne_of_lt I.big))) .nil (Heap.DictOf.new s.heap)), rfl, h _ (I.hok.fresh (Nat.le_refl _))⟩⟩
theorem pc_inO (hi : PE X i ty) (ho : PE X o td) : PC X .In i o (tInO ty td) := ⟨fun pins s σ H Q I h =>
  thn (hi.run pins s σ H _ I h) fun iv s1 ⟨y, H1, I1, ry, q1⟩ => thn (ho.run pins s1 σ H1 _ I1 q1) fun u s2 ⟨x, H2, I2, rx, a, kvs, k, ex, e, ey, q2⟩ => by
    subst ex ey
    obtain rfl : u = Value.ref a := rx
    obtain ⟨z, hd, vs, rel, dd⟩ := mapO_of I2.hok e
    refine wpAny_in_of (knd := okKind X.prog X.w) (oV_is ry) hd dd.mapOf ?_
    rw [← (rel.val k).isSome_eq]
    exact ⟨.bl (valV kvs k).isSome, H2, I2.tok _, rfl, q2⟩⟩
theorem pc_notinO (hi : PE X i ty) (ho : PE X o td) : PC X .NotIn i o (tNotInO ty td) := ⟨fun pins s σ H Q I h =>
  thn (hi.run pins s σ H _ I h) fun iv s1 ⟨y, H1, I1, ry, q1⟩ => thn (ho.run pins s1 σ H1 _ I1 q1) fun u s2 ⟨x, H2, I2, rx, a, kvs, k, ex, e, ey, q2⟩ => by
    subst ex ey
    obtain rfl : u = Value.ref a := rx
    obtain ⟨z, hd, vs, rel, dd⟩ := mapO_of I2.hok e
    refine wpAny_notIn_of (knd := okKind X.prog X.w) (oV_is ry) hd dd.mapOf ?_
    rw [← (rel.val k).isSome_eq]
    exact ⟨.bl (!(valV kvs k).isSome), H2, I2.tok _, rfl, q2⟩⟩
theorem ps_putO (ho : PE X o td) (hi : PE X i ty) (hv : PE X value tv) (hs : swapsWith value (some (.Subscript o i pos')) pos.line X.env = pure false) : PS X (.Assign [.Subscript o i pos'] value pos) (sPutO td ty tv) := ⟨fun pins s σ H D I h =>
  wpAny_Assign_Subscript (thn (hv.run pins s σ H _ I h) fun r s1 ⟨v, H1, I1, rv, q1⟩ => thn (ho.run pins s1 σ H1 _ I1 q1) fun u s2 ⟨x, H2, I2, rx, q2⟩ => thn (hi.run pins s2 σ H2 _ I2 q2) fun iv s3 ⟨y, H3, I3, ry, a, kvs, k, ex, e, ey, l, q3⟩ => by
    subst ex ey
    obtain rfl : u = Value.ref a := rx
    obtain ⟨z, hd, vs, rel, dd⟩ := mapO_of I3.hok e
    have hz : vs.length ≤ sizeLine := by rw [← rel.length]; exact z
    have hl : (putK kvs k v).length ≤ sizeLine := by have := length_putK kvs k v; omega
    refine wpAny_setItem_pairs (knd := okKind X.prog X.w) (hsz := hz) (oV_is ry) dd fun h' dd' hs' => ⟨σ, _, ?_, q3⟩
    have he : ∃ q, h'.get? a = some q := let ⟨q, _, _, hq, _⟩ := dd'; ⟨q, hq⟩
    exact d_write I3 (by rw [e]; exact True.intro) hs' he (mapO_ok hl hd (rel.put k rv) dd')) hs⟩
end
end Pu
set_option Elab.async false
set_option linter.all false
set_option maxRecDepth 100000
set_option maxHeartbeats 4000000
namespace Pu
open PySem L2 Evl
/-! ### dicts by whole numbers or None: the code -/
def OTR (c : DCod) (F : Hp) (ks : List (OK × V)) (kvs : List (OK × c.α)) : Prop := Paired (fun (p : OK × V) (q : OK × c.α) => p.1 = q.1 ∧ c.rel F p.2 q.2) ks kvs
def oget {α : Type} : List (OK × α) → OK → Option α
  | [], _ => none
  | p :: r, k => if p.1 = k then some p.2 else oget r k
def oput {α : Type} (kvs : List (OK × α)) (k : OK) (v : α) : List (OK × α) :=
  if (kvs.any fun q => decide (q.1 = k)) = true then kvs.map (fun q => if q.1 = k then (q.1, v) else q) else kvs ++ [(k, v)]
section
variable {c : DCod}
theorem OTR.ext {F F' : Hp} (e : Ex F F') {ks : List (OK × V)} {kvs : List (OK × c.α)} (h : OTR c F ks kvs) : OTR c F' ks kvs := Paired.mapP h fun _ _ q => ⟨q.1, c.ext q.2 e⟩
theorem OTR.isSome {F : Hp} {i : OK} : ∀ {ks : List (OK × V)} {kvs : List (OK × c.α)}, OTR c F ks kvs → (valV ks i).isSome = (oget kvs i).isSome
  | _, _, .nil => rfl
  | _, _, .cons (a := u) (b := w) r t => by
    unfold oget
    by_cases e : w.1 = i
    · rw [if_pos e, valV_pos (r.1.trans e)]
      rfl
    · rw [if_neg e, valV_neg (fun z => e (r.1.symm.trans z))]
      exact OTR.isSome t
theorem OTR.any {F : Hp} {i : OK} : ∀ {ks : List (OK × V)} {kvs : List (OK × c.α)}, OTR c F ks kvs → (ks.any fun p => decide (p.1 = i)) = kvs.any fun q => decide (q.1 = i)
  | _, _, .nil => rfl
  | _, _, .cons (a := u) (b := w) r t => by rw [List.any_cons, List.any_cons, OTR.any t, r.1]
theorem OTR.map {F : Hp} {i : OK} {v : V} {x : c.α} (hx : c.rel F v x) : ∀ {ks : List (OK × V)} {kvs : List (OK × c.α)}, OTR c F ks kvs → OTR c F (ks.map fun p => if p.1 = i then (p.1, v) else p) (kvs.map fun q => if q.1 = i then (q.1, x) else q)
  | _, _, .nil => .nil
  | _, _, .cons (a := u) (b := w) r t => by
    refine .cons ?_ (OTR.map hx t)
    dsimp only
    by_cases e : w.1 = i
    · rw [if_pos e, if_pos (r.1.trans e)]; exact ⟨r.1, hx⟩
    · rw [if_neg e, if_neg (fun z => e (r.1.symm.trans z))]; exact r
theorem OTR.put {F : Hp} {i : OK} {v : V} {x : c.α} (hx : c.rel F v x) {ks : List (OK × V)} {kvs : List (OK × c.α)} (h : OTR c F ks kvs) : OTR c F (putK ks i v) (oput kvs i x) := by
  unfold putK oput
  rw [h.any (i := i)]
  by_cases e : (kvs.any fun q => decide (q.1 = i)) = true
  · rw [if_pos e, if_pos e]; exact h.map hx
  · rw [if_neg e, if_neg e]; exact Paired.snoc h ⟨rfl, hx⟩
end
def dDicO (c : DCod) : DCod := ⟨List (OK × c.α), fun F v kvs => ∃ l ks, v = .ref l ∧ F l = some (mapO l ks) ∧ OTR c F ks kvs, fun ⟨l, ks, h1, h2, h3⟩ e => ⟨l, ks, h1, e l _ h2, h3.ext e⟩⟩
def mDicO (c : DCod) : Cod := ⟨List (OK × c.α), fun F H fp v kvs => ∃ l ks, v = .ref l ∧ fp = [l] ∧ H l = some (mapO l ks) ∧ OTR c F ks kvs, fun ⟨l, ks, h1, h0, h2, h3⟩ e k => ⟨l, ks, h1, h0, by rw [k l (by rw [h0]; simp)]; exact h2, h3.ext e⟩⟩
def fzDO {c : DCod} : Fz (mDicO c) (dDicO c) := ⟨fun x => x, fun {F H Fz fp v x} h e k => let ⟨l, ks, h1, h0, h2, h3⟩ := h; ⟨l, ks, h1, by rw [k l (by rw [h0]; simp)]; exact h2, h3.ext e⟩,
  fun {F H fp v x} h a ha o ho => by
    obtain ⟨l, ks, rfl, rfl, h2, h3⟩ := h
    have ha : a = l := by simpa using ha
    subst ha
    rw [h2] at ho; cases ho
    trivial⟩
section
variable {p : Bool} {E : XK} {XC : Str → Value} {Rt : Ret} {K : PySem.W.Frag} {Γ ΓL : List Sl} {te tb ta : TE} {c : DCod}
theorem en_dnewO : EvN p E XC Γ tNewO (mDicO c) (fun R k ρ => k [] ρ) := fun B σ F H ρ I R G hG k Q g qq => by
  refine fun l hl => qq [] ρ (.ref l) [l] F H F _ I (Gt.refl I.fh) (Pext.own I.fh hl) ⟨by simp, fun a ha => ?_⟩ ⟨l, [], rfl, rfl, upd_same, .nil⟩ g
  obtain rfl : a = l := by simpa using ha
  exact ⟨hl, none_of I.fh hl, _, upd_same⟩
theorem okey_at {F : Hp} {v : V} {x : OK} (h : (dOpt dInt).rel F v x) : v = oV x := by
  cases x with
  | none => exact h
  | some i => exact h.1
theorem ev_oin {Ta : (R : Type) → (OK → Env Γ → Res R) → Env Γ → Res R} {Tb : (R : Type) → (List (OK × c.α) → Env Γ → Res R) → Env Γ → Res R} (ha : EvE p E XC Γ ta (dOpt dInt) Ta) (hb : EvE p E XC Γ tb (dDicO c) Tb) :
    EvE p E XC Γ (tInO ta tb) dBl (fun R k ρ => Ta R (fun x ρ => Tb R (fun y ρ => k (oget y x).isSome ρ) ρ) ρ) := fun B σ F H ρ I R G hG k Q g q =>
  ha B σ F H ρ I R G hG _ _ g fun x ρ1 v F1 H1 I1 e1 r1 g1 => hb B σ F1 H1 ρ1 I1 R G hG _ _ g1 fun y ρ2 w F2 H2 I2 e2 r2 g2 => by
    obtain ⟨l, ks, rfl, hl, hk⟩ := r2
    exact ⟨l, ks, x, rfl, I2.fh l _ hl, okey_at r1, q _ ρ2 _ F2 H2 I2 (e1.trans e2) (congrArg V.bl (OTR.isSome hk)) g2⟩
theorem ev_onotin {Ta : (R : Type) → (OK → Env Γ → Res R) → Env Γ → Res R} {Tb : (R : Type) → (List (OK × c.α) → Env Γ → Res R) → Env Γ → Res R} (ha : EvE p E XC Γ ta (dOpt dInt) Ta) (hb : EvE p E XC Γ tb (dDicO c) Tb) :
    EvE p E XC Γ (tNotInO ta tb) dBl (fun R k ρ => Ta R (fun x ρ => Tb R (fun y ρ => k (!(oget y x).isSome) ρ) ρ) ρ) := fun B σ F H ρ I R G hG k Q g q =>
  ha B σ F H ρ I R G hG _ _ g fun x ρ1 v F1 H1 I1 e1 r1 g1 => hb B σ F1 H1 ρ1 I1 R G hG _ _ g1 fun y ρ2 w F2 H2 I2 e2 r2 g2 => by
    obtain ⟨l, ks, rfl, hl, hk⟩ := r2
    exact ⟨l, ks, x, rfl, I2.fh l _ hl, okey_at r1, q _ ρ2 _ F2 H2 I2 (e1.trans e2) (congrArg (fun b => V.bl (!b)) (OTR.isSome hk)) g2⟩
theorem dico_step {B : Base} {σ : St} {F H : Hp} {ρ : Env Γ} {i : Nat} {k : Kd} (hk : k ≠ .co) (I : SInv B Γ σ F H ρ) (at_ : At Γ i (.m k (mDicO c))) : ∃ l ks, σ[i]? = some (some (.ref l)) ∧ H l = some (mapO l ks) ∧ OTR c F ks (at_.get ρ) ∧
    ∀ ks' xs', OTR c F ks' xs' → SInv B Γ σ F (upd H l (mapO l ks')) (at_.put ρ xs') := by
  obtain ⟨v, fp, h1, _, hr, nd, hfp, hst⟩ := I.mut at_
  obtain ⟨l, ks, rfl, rfl, hl, pv⟩ := hr
  refine ⟨l, ks, h1, hl, pv, fun ks' xs' pv' => hst hk F _ [l] xs' ⟨Ex.refl _, fun a o ha => ?_, fun a o ha hm => ?_, fun a o ha => ?_, fun a o ha => .inl ha, by simp, fun a ha => ?_⟩ ⟨l, ks', rfl, rfl, upd_same, pv'⟩⟩
  · rw [upd_ne (ne_of_none ha (hfp l (by simp)).1)]; exact I.fh a o ha
  · rw [upd_ne (by simpa using hm)]; exact ha
  · by_cases he : a = l
    · subst he; exact ⟨_, upd_same⟩
    · exact ⟨o, by rw [upd_ne he]; exact ha⟩
  · obtain rfl : a = l := by simpa using ha
    exact ⟨.inl (by simp), (hfp a (by simp)).1, _, upd_same⟩
theorem st_oput {i : Nat} {k : Kd} (hk : k ≠ .co) (at_ : At Γ i (.m k (mDicO c))) {T : (R : Type) → (c.α → Env Γ → Res R) → Env Γ → Res R} {Ti : (R : Type) → (OK → Env Γ → Res R) → Env Γ → Res R} (h : EvE p E XC Γ te c T) (hi : EvE p E XC Γ tb (dOpt dInt) Ti) :
    StE E XC Rt Γ (sPutO (tVar i) tb te) Γ ΓL (fun R nx rt bk ct ρ => T R (fun x ρ => Ti R (fun j ρ => chk (decide (List.length (α := OK × c.α) (at_.get ρ) < 16777216)) (nx (at_.put ρ (oput (α := c.α) (at_.get ρ) j x)))) ρ) ρ) := fun B σ F H ρ I R G hG nx rt bk ct D g qn qr qb qc =>
  h B σ F H ρ I R G hG _ _ g fun x ρ1 u F1 H1 I1 e1 r1 g1 => by
    obtain ⟨l0, ks0, h1, _⟩ := dico_step hk I1 at_
    refine ⟨.ref l0, h1, hi B σ F1 H1 ρ1 I1 R G hG _ _ g1 fun j ρ2 w F2 H2 I2 e2 r2 g2 => ?_⟩
    obtain ⟨l, ks, h2, hl, pv, hs⟩ := dico_step hk I2 at_
    rw [h1] at h2
    cases h2
    by_cases hx : List.length (α := OK × c.α) (at_.get ρ2) < 16777216
    · rw [decide_eq_true hx] at g2
      have hsz := sizeLine_eq
      have hpl := Paired.length pv
      exact ⟨l0, ks, j, rfl, hl, okey_at r2, by rw [hsz, hpl]; exact hx, qn _ σ F2 _ (hs _ _ (pv.put (c.ext r1 e2.1))) (e1.1.trans e2.1) g2⟩
    · rw [decide_eq_false hx] at g2
      exact absurd g2 hG.1
end
section
variable {p : Bool} {E : XK} {XC : Str → Value} {Rt : Ret} {K : PySem.W.Frag} {Γ Γ1 Γ' ΓL : List Sl} {ta tc : TE} {m m3 : Cod} {i l : Nat}
/-- a, b = new, new: where names are read within comprehensions the tuple is made -/
theorem st_asgNN {s1 s3 : Sl} (u : Up Γ i s1 (.m .lo m) Γ1) (u3 : Up Γ1 l s3 (.m .lo m3) Γ') {Ta : (R : Type) → (m.α → Env Γ → Res R) → Env Γ → Res R} {Tc : (R : Type) → (m3.α → Env Γ → Res R) → Env Γ → Res R}
    (ha : EvN p E XC Γ ta m Ta) (hc : EvN true E XC Γ tc m3 Tc) :
    StE E XC Rt Γ (tAsg (tTup (tCons ta (tCons tc tNil))) (gTup K 2 (gCons (gName i) (gCons (gName l) gNil)))) Γ' ΓL (fun R nx rt bk ct ρ => Ta R (fun x ρ => Tc R (fun z ρ => nx (u3.set (u.set ρ x) z)) ρ) ρ) := fun B σ F H ρ I R G hG nx rt bk ct D g qn qr qb qc =>
  ha B σ F H ρ I R G hG _ _ g fun x ρ1 v fp F0 H0 F1 H1 I0 e1 pp n r1 g1 => by
    refine hc B σ F1 H1 ρ1 (I0.pext pp) R G hG _ _ g1 fun z ρ3 w3 fp3 F3 H3 F4 H4 I3 e3 pp3 n3 r3 g3 => ?_
    obtain ⟨er3, pe3⟩ := e3.2 rfl
    subst er3
    have p0 : Pext F0 F3 H0 H3 := pp.trans pe3
    have J1 := I0.setM p0 (n.ext pe3) u (m.ext r1 pe3.ff fun a ha => by
      obtain ⟨_, _, o, h⟩ := n.at_ a ha
      rw [h, pe3.hh a o h])
    have J2 := J1.setM pp3 n3 u3 r3
    refine ⟨by show 2 ≤ sizeLine; decide, fun q hq => ?_⟩
    have J3 := J2.pext (Pext.one (o := .tup [v, w3]) J2.fh hq)
    exact ⟨q, [v, w3], rfl, .inl (.inl upd_same), rfl, v, [w3], rfl, w3, [], rfl, rfl, qn _ _ _ _ J3 ((e1.1.trans p0.ff).trans (pp3.ff.trans (Pext.one (o := .tup [v, w3]) J2.fh hq).ff)) g3⟩
end
section
variable {p : Bool} {E : XK} {XC : Str → Value} {Γ Γ' : List Sl} {tt : TT}
/-- a test that reads what may change -/
theorem et_frz {T : (R : Type) → (Bool → Env Γ' → Res R) → Env Γ' → Res R} (fz : FzG Γ Γ') (h : EvT true E XC Γ' tt T) : EvT p E XC Γ tt (fun R k ρ => T R (fun x _ => k x ρ) (fz.conv ρ)) := fun B σ F H ρ I R G hG k Q g q =>
  ev_frz (te := fun σ H Q => tt σ H fun b H' => Q (.bl b) H') (c := dBl) (p := p) fz und_bl (fun B σ F H ρ I R G hG k Q g q => h B σ F H ρ I R G hG k _ g fun b ρ' F' H' I' gt gk => q b ρ' (.bl b) F' H' I' gt rfl gk) B σ F H ρ I R G hG k
    (fun v H' => match v with
      | .bl b => Q b H'
      | _ => False) g fun x ρ' v F' H' I' gt r gk => by
        obtain rfl : v = V.bl x := r
        exact q x ρ' F' H' I' gt gk
end
end Pu
set_option Elab.async false
set_option linter.all false
set_option maxRecDepth 100000
set_option maxHeartbeats 4000000
/-! tuple(zip(a, b)) -/
namespace PuZ
open PySem PySem.W
section
variable {prog : Program} {w : World} {A : Around} {E : Value → Shared → Prop} {s : Shared} {z TI TO T i1 i2 : Addr} {fp1 fp2 : List Addr} {n1 n2 i : Nat} {P1 P2 : Nat → Value → Prop} {St1 St2 : Nat → Heap → Prop} {f : Bool} {oT : Obj}
theorem held_item {Q : Value → Shared → Prop} (S : ZipSep2 z TI TO i1 i2 fp1 fp2) (D1 : Draws prog w A i1 fp1 n1 P1 St1) (D2 : Draws prog w A i2 fp2 n2 P2 St2) (hz : IsZipHeld s.heap z TI TO T f) (hT : s.heap.get? T = some oT) (hTI : IsTupOf2 s.heap TI (.ref i1) (.ref i2))
    (st1 : St1 i s.heap) (st2 : St2 i s.heap) (hlt1 : i < n1) (hlt2 : i < n2)
    (hQ : ∀ x1 x2 h' tk, P1 i x1 → P2 i x2 → IsZipHeld h' z TI TO T true → St1 (i + 1) h' → St2 (i + 1) h' → IsTupOf2 h' s.heap.objs.size x1 x2 → h'.objs.size = s.heap.objs.size + 1 →
      (∀ c o, c ≠ z → c ≠ i1 → c ≠ i2 → s.heap.get? c = some o → h'.get? c = some o) → Q (.ref s.heap.objs.size) { s with heap := h', toks := tk }) :
    wpAny (model prog w) A (Builtin.«zip.__next__» ⟨[.ref z], []⟩) (fun fin s' => ∃ v, fin = .done (.ret v) ∧ Q v s') E s := by
  obtain ⟨hp, g, d, tk0, os⟩ := s
  change wpAny _ A (field (.ref z) 2 >>= _) _ _ _
  refine wpAny_bind (wpAny_field hz rfl (x := .bool false) rfl (?_ : wpAny _ A (field (.ref z) 3 >>= _) _ _ _))
  refine wpAny_bind (wpAny_field hz rfl (x := .ref TI) rfl (wpAny_bind (wpAny_seqItems hTI rfl (?_ : wpAny _ A (Builtin.SmallTypes.ownedTupleIsFree (.ref z) >>= _) _ _ _))))
  refine wpAny_bind (wpAny_tupleHeld_zip hz hT fun p0 z0 b0 => ?_)
  replace b0 : Heap.SameBut z hp p0 := b0
  simp only [Bool.false_eq_true, if_false]
  refine wpAny_bind ?_
  rw [← Array.forIn_toList]
  simp only [List.forIn_cons, List.forIn_nil]
  refine wpAny_bind (wpAny_bind (wpAny_holding (?_ : wpAny _ A (Builtin.SmallTypes.nextOf (.ref i1) >>= _) _ _ ⟨p0, g, d, tk0, os⟩)))
  refine wpAny_bind (D1.item i _ _ _ hlt1 (D1.over st1 b0 S.zf1) fun x1 p1 tk1 hx1 sn1 b1 => wpAny_pure (wpAny_pure ?_))
  replace b1 : Heap.SameBut i1 p0 p1 := b1
  refine wpAny_bind (wpAny_bind (wpAny_holding (?_ : wpAny _ A (Builtin.SmallTypes.nextOf (.ref i2) >>= _) _ _ ⟨p1, g, d, tk1, os⟩)))
  refine wpAny_bind (D2.item i _ _ _ hlt2 (D2.over (D2.over st2 b0 S.zf2) b1 S.sep1_2) fun x2 p2 tk2 hx2 sn2 b2 => wpAny_pure (wpAny_pure (wpAny_pure (?_ : wpAny _ A (newTuple [x1, x2] >>= _) _ _ _))))
  replace b2 : Heap.SameBut i2 p1 p2 := b2
  have hsz : p2.objs.size = hp.objs.size := b2.1.trans (b1.1.trans b0.1)
  have z2 : IsZipHeld p2 z TI TO T true := b2.extBut _ _ S.zi2 (b1.extBut _ _ S.zi1 z0)
  have kk : ∀ c o, c ≠ z → c ≠ i1 → c ≠ i2 → hp.get? c = some o → p2.get? c = some o := fun c o c1 c2 c3 e => b2.extBut _ _ c3 (b1.extBut _ _ c2 (b0.extBut _ _ c1 e))
  have pu : ∀ c o, p2.get? c = some o → (p2.push { cls := .type "tuple", data := .seq #[x1, x2] }).get? c = some o := fun c o e => Heap.get?_push_of_some _ e
  have q1 : St1 (i + 1) (p2.push { cls := .type "tuple", data := .seq #[x1, x2] }) := D1.frame _ _ _ (D1.over sn1 b2 S.sep2_1) fun b _ o e => pu b o e
  have q2 : St2 (i + 1) (p2.push { cls := .type "tuple", data := .seq #[x1, x2] }) := D2.frame _ _ _ sn2 fun b _ o e => pu b o e
  refine wpAny_bind (wpAny_newTuple (wpAny_pure ⟨.ref p2.objs.size, rfl, ?_⟩))
  have hp3 : IsTupOf2 (p2.push { cls := .type "tuple", data := .seq #[x1, x2] }) p2.objs.size x1 x2 := Heap.get?_push_size _ rfl
  have hs3 : (p2.push { cls := .type "tuple", data := .seq #[x1, x2] }).objs.size = p2.objs.size + 1 := Heap.size_push ..
  rw [hsz] at hp3 hs3 ⊢
  exact hQ x1 x2 _ tk2 hx1 hx2 (pu _ _ z2) q1 q2 hp3 hs3 fun c o c1 c2 c3 e => pu _ _ (kk c o c1 c2 c3 e)
theorem held_end {Q : Fin → Shared → Prop} (S : ZipSep2 z TI TO i1 i2 fp1 fp2) (D1 : Draws prog w A i1 fp1 n1 P1 St1) (D2 : Draws prog w A i2 fp2 n2 P2 St2) (hz : IsZipHeld s.heap z TI TO T f) (hT : s.heap.get? T = some oT) (hTI : IsTupOf2 s.heap TI (.ref i1) (.ref i2))
    (st1 : St1 i s.heap) (st2 : St2 i s.heap) (hle1 : i ≤ n1) (hle2 : i ≤ n2) (hend : i = n1 ∨ i = n2)
    (hE : ∀ h' tk e, (∀ c o, c ≠ z → c ≠ i1 → c ≠ i2 → s.heap.get? c = some o → h'.get? c = some o) → (∃ o, h'.get? e = some o ∧ o.cls = .type "StopIteration") → E (.ref e) { s with heap := h', toks := tk }) :
    wpAny (model prog w) A (Builtin.«zip.__next__» ⟨[.ref z], []⟩) Q E s := by
  obtain ⟨hp, g, d, tk0, os⟩ := s
  change wpAny _ A (field (.ref z) 2 >>= _) _ _ _
  refine wpAny_bind (wpAny_field hz rfl (x := .bool false) rfl (?_ : wpAny _ A (field (.ref z) 3 >>= _) _ _ _))
  refine wpAny_bind (wpAny_field hz rfl (x := .ref TI) rfl (wpAny_bind (wpAny_seqItems hTI rfl (?_ : wpAny _ A (Builtin.SmallTypes.ownedTupleIsFree (.ref z) >>= _) _ _ _))))
  refine wpAny_bind (wpAny_tupleHeld_zip hz hT fun p0 z0 b0 => ?_)
  replace b0 : Heap.SameBut z hp p0 := b0
  simp only [Bool.false_eq_true, if_false]
  refine wpAny_bind ?_
  rw [← Array.forIn_toList]
  simp only [List.forIn_cons, List.forIn_nil]
  refine wpAny_bind (wpAny_bind (wpAny_holding (?_ : wpAny _ A (Builtin.SmallTypes.nextOf (.ref i1) >>= _) _ _ ⟨p0, g, d, tk0, os⟩)))
  by_cases hlt1 : i < n1
  · refine wpAny_bind (D1.item i _ _ _ hlt1 (D1.over st1 b0 S.zf1) fun x1 p1 tk1 hx1 sn1 b1 => wpAny_pure (wpAny_pure ?_))
    replace b1 : Heap.SameBut i1 p0 p1 := b1
    have e2 : i = n2 := hend.resolve_left (Nat.ne_of_lt hlt1)
    refine wpAny_bind (wpAny_bind (wpAny_holding (?_ : wpAny _ A (Builtin.SmallTypes.nextOf (.ref i2) >>= _) _ _ ⟨p1, g, d, tk1, os⟩)))
    refine wpAny_bind (D2.done ⟨p1, g, d, tk1, os⟩ _ _ (by rw [← e2]; exact D2.over (D2.over st2 b0 S.zf2) b1 S.sep1_2) fun q e hq he => ?_)
    exact hE q tk1 e (fun c o c1 c2 c3 x => hq _ _ c3 (b1.extBut _ _ c2 (b0.extBut _ _ c1 x))) he
  · have e1 : i = n1 := Nat.le_antisymm hle1 (Nat.le_of_not_lt hlt1)
    refine wpAny_bind (D1.done ⟨p0, g, d, tk0, os⟩ _ _ (by rw [← e1]; exact D1.over st1 b0 S.zf1) fun q e hq he => ?_)
    exact hE q tk0 e (fun c o c1 c2 c3 x => hq _ _ c2 (b0.extBut _ _ c1 x)) he
theorem next_held {Q : Option Value → Shared → Prop} (S : ZipSep2 z TI TO i1 i2 fp1 fp2) (D1 : Draws prog w A.in1 i1 fp1 n1 P1 St1) (D2 : Draws prog w A.in1 i2 fp2 n2 P2 St2) (hz : IsZipHeld s.heap z TI TO T f) (hT : s.heap.get? T = some oT) (hTI : IsTupOf2 s.heap TI (.ref i1) (.ref i2))
    (st1 : St1 i s.heap) (st2 : St2 i s.heap) (hlt1 : i < n1) (hlt2 : i < n2)
    (hQ : ∀ x1 x2 h' tk, P1 i x1 → P2 i x2 → IsZipHeld h' z TI TO T true → St1 (i + 1) h' → St2 (i + 1) h' → IsTupOf2 h' s.heap.objs.size x1 x2 → h'.objs.size = s.heap.objs.size + 1 →
      (∀ c o, c ≠ z → c ≠ i1 → c ≠ i2 → s.heap.get? c = some o → h'.get? c = some o) → Q (some (.ref s.heap.objs.size)) { s with heap := h', toks := tk }) : wpAny (model prog w) A (pyNext (.ref z)) Q E s := by
  have ty : s.TypeIs (.ref z) "zip" := ⟨_, hz, rfl⟩
  unfold pyNext
  exact wpAny_bind (wpAny_attempt (wpAny_callSpecial?_slot (name := Str.ofString "__next__") ty F.slot_zip_next (wpAny_call_entry F.slot_zip_next ty F.entry_zip_next
      (held_item S D1 D2 hz hT hTI st1 st2 hlt1 hlt2 fun x1 x2 h' tk a1 a2 a3 a4 a5 a6 a7 a8 => wpAny_pure (hQ x1 x2 h' tk a1 a2 a3 a4 a5 a6 a7 a8)) (F.args_zip_next_1 _))))
theorem stop_held {Q : Option Value → Shared → Prop} (S : ZipSep2 z TI TO i1 i2 fp1 fp2) (D1 : Draws prog w A.in1 i1 fp1 n1 P1 St1) (D2 : Draws prog w A.in1 i2 fp2 n2 P2 St2) (hz : IsZipHeld s.heap z TI TO T f) (hT : s.heap.get? T = some oT) (hTI : IsTupOf2 s.heap TI (.ref i1) (.ref i2))
    (st1 : St1 i s.heap) (st2 : St2 i s.heap) (hle1 : i ≤ n1) (hle2 : i ≤ n2) (hend : i = n1 ∨ i = n2)
    (hQ : ∀ h' tk, (∀ c o, c ≠ z → c ≠ i1 → c ≠ i2 → s.heap.get? c = some o → h'.get? c = some o) → Q none { s with heap := h', toks := tk }) : wpAny (model prog w) A (pyNext (.ref z)) Q E s := by
  have ty : s.TypeIs (.ref z) "zip" := ⟨_, hz, rfl⟩
  unfold pyNext
  exact wpAny_bind (wpAny_attempt (wpAny_callSpecial?_slot (name := Str.ofString "__next__") ty F.slot_zip_next (wpAny_call_entry F.slot_zip_next ty F.entry_zip_next
      (held_end S D1 D2 hz hT hTI st1 st2 hle1 hle2 hend fun h' tk e hk ⟨o, ho, hc⟩ => wpAny_bind (wpAny_isInstance (T := "StopIteration") (b := true) ⟨o, ho, hc⟩ isSubtype_stop (wpAny_pure (hQ _ _ hk)))) (F.args_zip_next_1 _))))
end
end PuZ
set_option Elab.async false
set_option linter.all false
set_option maxRecDepth 100000
set_option maxHeartbeats 4000000
namespace PuZ
open PySem PySem.Spec PyProof.Rows L2
theorem zip_no_len : typeLookup (.type "zip") "__len__" = pure none := by rw [typeLookup_type, builtinLookup_eq_fast]; kernel_rfl
theorem zip_no_hint : typeLookup (.type "zip") "__length_hint__" = pure none := by rw [typeLookup_type, builtinLookup_eq_fast]; kernel_rfl
/-- new pairs at the places ps -/
def Laid : Hp → List Addr → List (V × V) → Hp → Prop
  | H, [], [], H' => H' = H
  | H, p :: ps, q :: qs, H' => H p = none ∧ Laid (upd H p (.tup [q.1, q.2])) ps qs H'
  | _, _, _, _ => False
theorem Laid.snoc {p : Addr} {q : V × V} : ∀ {H : Hp} {ps : List Addr} {qs : List (V × V)} {H' : Hp}, Laid H ps qs H' → H' p = none → Laid H (ps ++ [p]) (qs ++ [q]) (upd H' p (.tup [q.1, q.2]))
  | H, [], [], H', h, n => by
    have h : H' = H := h
    subst h
    exact ⟨n, rfl⟩
  | H, a :: ps, b :: qs, H', ⟨h1, h2⟩, n => ⟨h1, Laid.snoc h2 n⟩
theorem Laid.len : ∀ {H : Hp} {ps : List Addr} {qs : List (V × V)} {H' : Hp}, Laid H ps qs H' → ps.length = qs.length
  | H, [], [], H', h => rfl
  | H, a :: ps, b :: qs, H', ⟨h1, h2⟩ => congrArg Nat.succ (Laid.len h2)
structure ZSt (z TI TO i1 i2 L a b : Addr) (us ws : Array Value) (i : Nat) (h : Heap) : Prop where
  pair : IsTupOf2 h TI (.ref i1) (.ref i2)
  t1 : h.IsTupleIter i1 a i
  t2 : h.IsTupleIter i2 b i
  l1 : h.IsTuple a us
  l2 : h.IsTuple b ws
  to : ∃ o, h.get? TO = some o
  zz : (IsZip h z TI TO .none ∧ ∃ p q, IsTupOf2 h TO p q) ∨ ∃ T f oT, IsZipHeld h z TI TO T f ∧ h.get? T = some oT ∧ T ≠ z ∧ T ≠ i1 ∧ T ≠ i2 ∧ T ≠ L
structure ZSep (z TI TO i1 i2 L a b : Addr) : Prop where
  s : ZipSep2 z TI TO i1 i2 [i1, a] [i2, b]
  i1a : a ≠ i1
  i2b : b ≠ i2
  az : a ≠ z
  aTO : a ≠ TO
  bz : b ≠ z
  bTO : b ≠ TO
  ai2 : a ≠ i2
  bi1 : b ≠ i1
  Lz : L ≠ z
  LTI : L ≠ TI
  LTO : L ≠ TO
  Li1 : L ≠ i1
  Li2 : L ≠ i2
  La : L ≠ a
  Lb : L ≠ b
section
variable {X : Cx} {pins : List (Addr × Obj)} {σ : L2.St} {H : Hp} {A : Around} {E : Value → Shared → Prop} {z TI TO i1 i2 L a b : Addr} {us ws : Array Value} {xs ys : List V}
/-- on the way: i pairs are made -/
def Way (X : Cx) (pins : List (Addr × Obj)) (σ : L2.St) (H : Hp) (z TI TO i1 i2 L a b : Addr) (us ws : Array Value) (xs ys : List V) (i : Nat) (acc : Array Value) (s : Shared) : Prop :=
  ∃ H' ps c, L2.Inv X pins σ H' s ∧ (∀ d ∈ [z, TO, i1, i2, L], H' d = none) ∧ ZSt z TI TO i1 i2 L a b us ws i s.heap ∧ s.heap.get? L = some { cls := .type "list", dict := none, data := .seq acc c, slots := #[] } ∧
    Laid H ps ((xs.zip ys).take i) H' ∧ acc.toList = ps.map Value.ref
theorem Way.size {i : Nat} {acc : Array Value} {s : Shared} (W : Way X pins σ H z TI TO i1 i2 L a b us ws xs ys i acc s) (hi : i ≤ (xs.zip ys).length) : acc.size = i := by
  obtain ⟨H', ps, c, _, _, _, _, hl, ha⟩ := W
  have h1 := hl.len
  rw [List.length_take, Nat.min_eq_left hi] at h1
  have h2 := congrArg List.length ha
  rw [List.length_map, h1] at h2
  simpa using h2
/-- one more pair -/
theorem way_on (S : ZSep z TI TO i1 i2 L a b) (hh : A.handled = none) (hf : ∀ d ∈ [z, TO, i1, i2, L], FpOk X pins H d) (hu : Vals xs us.toList) (hw : Vals ys ws.toList) {i : Nat} {acc : Array Value} {s : Shared} (hi : i < (xs.zip ys).length) (hz : (xs.zip ys).length ≤ sizeLine)
    (W : Way X pins σ H z TI TO i1 i2 L a b us ws xs ys i acc s) {Q : Option Value → Shared → Prop}
    (hQ : ∀ v s' c, s'.heap.get? L = some { cls := .type "list", dict := none, data := .seq acc c, slots := #[] } → Way X pins σ H z TI TO i1 i2 L a b us ws xs ys (i + 1) (acc.push v) { s' with heap := s'.heap.update L (Obj.mapSeq (·.push v)) } → Q (some v) s') :
    wpAny (model X.prog X.w) A (pyNext (.ref z)) Q E s := by
  obtain ⟨H', ps, c, I, n5, Z, hL, ld, ha⟩ := W
  rw [List.length_zip] at hi
  have hxl : i < us.size := by have := hu.length; simp at this; omega
  have hyl : i < ws.size := by have := hw.length; simp at this; omega
  have D1 := Draws.tuple (prog := X.prog) (w := X.w) (A := A.in1) hh i1 a S.i1a us
  have D2 := Draws.tuple (prog := X.prog) (w := X.w) (A := A.in1) hh i2 b S.i2b ws
  have lt : ∀ {d o}, s.heap.get? d = some o → d ≠ s.heap.objs.size := fun e => Nat.ne_of_lt (Heap.lt_size e)
  have lz : z ≠ s.heap.objs.size := by
    rcases Z.zz with ⟨e, _⟩ | ⟨_, _, _, e, _⟩
    · exact lt e
    · exact lt e
  have l1 : i1 ≠ s.heap.objs.size := let ⟨_, e, _⟩ := Z.t1; lt e
  have l2 : i2 ≠ s.heap.objs.size := let ⟨_, e, _⟩ := Z.t2; lt e
  have lL : L ≠ s.heap.objs.size := lt hL
  obtain ⟨x, hx⟩ : ∃ x, xs[i]? = some x := ⟨_, List.getElem?_eq_getElem (by omega)⟩
  obtain ⟨y, hy⟩ : ∃ y, ys[i]? = some y := ⟨_, List.getElem?_eq_getElem (by omega)⟩
  have hxy : (xs.zip ys)[i]? = some (x, y) := by rw [List.getElem?_zip_eq_some]; exact ⟨hx, hy⟩
  -- what is so behind the drawing
  have go : ∀ (x1 x2 : Value) (h' : Heap) (tk : Nat), us[i]? = some x1 → ws[i]? = some x2 → (h'.IsTupleIter i1 a (i + 1) ∧ h'.IsTuple a us) → (h'.IsTupleIter i2 b (i + 1) ∧ h'.IsTuple b ws) → IsTupOf2 h' s.heap.objs.size x1 x2 →
      (∀ d o, d ≠ z → d ≠ TO → d ≠ i1 → d ≠ i2 → s.heap.get? d = some o → h'.get? d = some o) → (∃ o, h'.get? TO = some o) → (∃ T f oT, IsZipHeld h' z TI TO T f ∧ h'.get? T = some oT ∧ T ≠ z ∧ T ≠ i1 ∧ T ≠ i2 ∧ T ≠ L) → Q (some (.ref s.heap.objs.size)) { s with heap := h', toks := tk } := by
    intro x1 x2 h' tk e1 e2 q1 q2 hT hk ⟨o7, h7⟩ ⟨T, f, oT, z1, z2, z3, z4, z5, z6⟩
    obtain ⟨u1, hu1, r1⟩ := hu.get hx
    obtain ⟨u2, hu2, r2⟩ := hw.get hy
    have f1 : u1 = x1 := by
      have h1 : us.toList[i]? = some x1 := by simpa using e1
      rw [h1] at hu1
      exact (Option.some.inj hu1).symm
    have f2 : u2 = x2 := by
      have h1 : ws.toList[i]? = some x2 := by simpa using e2
      rw [h1] at hu2
      exact (Option.some.inj hu2).symm
    subst f1 f2
    have hL' := hk L _ S.Lz S.LTO S.Li1 S.Li2 hL
    have oth : ∀ d o, d ≠ L → h'.get? d = some o → (h'.update L (Obj.mapSeq (·.push (.ref s.heap.objs.size)))).get? d = some o := fun d o hd e => (Heap.get?_update_other _ _ (Ne.symm hd)).trans e
    refine hQ _ _ c hL' ⟨upd H' s.heap.objs.size (.tup [x, y]), ps ++ [s.heap.objs.size], _, ?_, fun d hd => ?_, ⟨?_, ?_, ?_, ?_, ?_, ⟨_, oth _ _ (Ne.symm S.LTO) h7⟩, .inr ⟨T, f, oT, oth _ _ (Ne.symm S.Lz) z1, oth _ _ z6 z2, z3, z4, z5, z6⟩⟩, Heap.get?_update_self _ hL' rfl, ?_, ?_⟩
    · refine I.turnedNew (ch := [z, TO, i1, i2, L]) (fun d o hd e => ?_) (fun d hd => ⟨n5 d hd, (hf d hd).2⟩) (Nat.le_refl _) ⟨by show 2 ≤ sizeLine; decide, [u1, u2], .cons r1 (.cons r2 .nil), ⟨_, oth _ _ (Ne.symm lL) hT, rfl, _, rfl⟩⟩
      simp only [List.mem_cons, List.not_mem_nil, or_false, not_or] at hd
      exact oth d o hd.2.2.2.2 (hk d o hd.1 hd.2.1 hd.2.2.1 hd.2.2.2.1 e)
    · have hne : d ≠ s.heap.objs.size := fun e => by
        have hb := n5 d hd
        simp only [List.mem_cons, List.not_mem_nil, or_false] at hd
        rcases hd with q | q | q | q | q
        · exact lz (q ▸ e)
        · obtain ⟨o, eo⟩ := Z.to
          exact lt eo (q ▸ e)
        · exact l1 (q ▸ e)
        · exact l2 (q ▸ e)
        · exact lL (q ▸ e)
      rw [upd_ne hne]
      exact n5 d hd
    · exact oth _ _ (Ne.symm S.LTI) (hk _ _ S.s.TIz S.s.TITO S.s.TIi1 S.s.TIi2 Z.pair)
    · exact q1.1.at fun o e => oth _ o (Ne.symm S.Li1) e
    · exact q2.1.at fun o e => oth _ o (Ne.symm S.Li2) e
    · exact q1.2.at fun o e => oth _ o (Ne.symm S.La) e
    · exact q2.2.at fun o e => oth _ o (Ne.symm S.Lb) e
    · have et : (xs.zip ys).take (i + 1) = (xs.zip ys).take i ++ [(x, y)] := by rw [List.take_add_one, hxy]; rfl
      rw [et]
      exact ld.snoc (q := (x, y)) (I.hok.fresh (Nat.le_refl _))
    · rw [Array.toList_push, ha, List.map_append]; rfl
  rcases Z.zz with ⟨hz1, p, q, hTO⟩ | ⟨T, f, oT, hz1, hT, c1, c2, c3, c4⟩
  · refine wpAny_pyNext_zipD2_item S.s D1 D2 hz1 Z.pair hTO ⟨Z.t1, Z.l1⟩ ⟨Z.t2, Z.l2⟩ hxl hyl fun x1 x2 h' tk e1 e2 b1 b2 d1 d2 b5 b6 hk => ?_
    exact go x1 x2 h' tk e1 e2 d1 d2 b5 hk ⟨_, b2⟩ ⟨_, false, _, b1, b5, lz.symm, l1.symm, l2.symm, lL.symm⟩
  · refine next_held S.s D1 D2 hz1 hT Z.pair ⟨Z.t1, Z.l1⟩ ⟨Z.t2, Z.l2⟩ hxl hyl fun x1 x2 h' tk e1 e2 b1 d1 d2 b5 b6 hk => ?_
    exact go x1 x2 h' tk e1 e2 d1 d2 b5 (fun d o h1 _ h3 h4 e => hk d o h1 h3 h4 e) (let ⟨o, e⟩ := Z.to; ⟨o, hk _ _ S.s.TOz S.s.Ti1 S.s.Ti2 e⟩) ⟨T, true, oT, b1, hk _ _ c1 c2 c3 hT, c1, c2, c3, c4⟩
/-- all pairs are made -/
def Done (X : Cx) (pins : List (Addr × Obj)) (σ : L2.St) (H : Hp) (L : Addr) (xs ys : List V) (acc : Array Value) (s : Shared) : Prop := ∃ H' ps, L2.Inv X pins σ H' s ∧ Laid H ps (xs.zip ys) H' ∧ acc.toList = ps.map Value.ref
theorem way_end (S : ZSep z TI TO i1 i2 L a b) (hh : A.handled = none) (hf : ∀ d ∈ [z, TO, i1, i2, L], FpOk X pins H d) (hu : Vals xs us.toList) (hw : Vals ys ws.toList) {acc : Array Value} {s : Shared}
    (W : Way X pins σ H z TI TO i1 i2 L a b us ws xs ys (xs.zip ys).length acc s) {Q : Option Value → Shared → Prop} (hQ : ∀ s' c, s'.heap.get? L = some { cls := .type "list", dict := none, data := .seq acc c, slots := #[] } → Done X pins σ H L xs ys acc s' → Q none s') :
    wpAny (model X.prog X.w) A (pyNext (.ref z)) Q E s := by
  obtain ⟨H', ps, c, I, n5, Z, hL, ld, ha⟩ := W
  rw [List.take_length] at ld
  have e1 : us.size = xs.length := by have := hu.length; simp at this; omega
  have e2 : ws.size = ys.length := by have := hw.length; simp at this; omega
  have en : (xs.zip ys).length = min us.size ws.size := by rw [List.length_zip, e1, e2]
  have D1 := Draws.tuple (prog := X.prog) (w := X.w) (A := A.in1) hh i1 a S.i1a us
  have D2 := Draws.tuple (prog := X.prog) (w := X.w) (A := A.in1) hh i2 b S.i2b ws
  have fin : ∀ (h' : Heap) (tk : Nat), (∀ d o, d ≠ z → d ≠ TO → d ≠ i1 → d ≠ i2 → s.heap.get? d = some o → h'.get? d = some o) → Q none { s with heap := h', toks := tk } := fun h' tk hk => by
    have step : ∀ d, d ∈ [z, TO, i1, i2, L] → FpOk X pins H' d := fun d hd => ⟨n5 d hd, (hf d hd).2⟩
    refine hQ _ c (hk L _ S.Lz S.LTO S.Li1 S.Li2 hL) ⟨H', ps, ?_, ld, ha⟩
    refine I.turnedL (ch := [z, TO, i1, i2]) (fun d o hc e => ?_) fun d hd => step d (by simp only [List.mem_cons, List.not_mem_nil, or_false] at hd ⊢; rcases hd with q | q | q | q <;> simp [q])
    simp only [List.mem_cons, List.not_mem_nil, or_false, not_or] at hc
    exact hk d o hc.1 hc.2.1 hc.2.2.1 hc.2.2.2 e
  rcases Z.zz with ⟨hz1, p, q, hTO⟩ | ⟨T, f, oT, hz1, hT, c1, c2, c3, c4⟩
  · exact wpAny_pyNext_zipD2_end S.s D1 D2 hz1 Z.pair hTO ⟨Z.t1, Z.l1⟩ ⟨Z.t2, Z.l2⟩ (by omega) (by omega) (by omega) fun h' tk hk => fin h' tk hk
  · exact stop_held S.s D1 D2 hz1 hT Z.pair ⟨Z.t1, Z.l1⟩ ⟨Z.t2, Z.l2⟩ (by omega) (by omega) (by omega) fun h' tk hk => fin h' tk fun d o h1 _ h3 h4 e => hk d o h1 h3 h4 e
end
end PuZ
set_option Elab.async false
set_option linter.all false
set_option maxRecDepth 100000
set_option maxHeartbeats 4000000
namespace PuZ
open PySem PySem.Spec PyProof.Rows L2
section
variable {X : Cx} {pins : List (Addr × Obj)} {σ : L2.St} {H : Hp} {A : Around} {E : Value → Shared → Prop} {z TI TO i1 i2 L a b : Addr} {us ws : Array Value} {xs ys : List V}
theorem calmed {A : Around} {id : String} (h : plainId id = true) {args : Args} : A.under (.builtin id args) = A.in1 := A.under_plainId h args
/-- the walk that fills the list -/
theorem fill (S : ZSep z TI TO i1 i2 L a b) (hh : A.handled = none) (hf : ∀ d ∈ [z, TO, i1, i2, L], FpOk X pins H d) (hu : Vals xs us.toList) (hw : Vals ys ws.toList) (hz : (xs.zip ys).length ≤ sizeLine) (res : Value) {R : Result → Shared → Prop}
    (hR : ∀ s' acc c, s'.heap.get? L = some { cls := .type "list", dict := none, data := .seq acc c, slots := #[] } → Done X pins σ H L xs ys acc s' → R (.ok (.ret res)) s') :
    ∀ (k i : Nat) (acc : Array Value) (s : Shared), (xs.zip ys).length - i = k → i ≤ (xs.zip ys).length → Way X pins σ H z TI TO i1 i2 L a b us ws xs ys i acc s → codeAny (model X.prog X.w) A (.builtin "list.extend.loop" ⟨[.ref L, .ref z, res], []⟩) R s := by
  intro k
  induction k with
  | zero =>
    intro i acc s hk hi W
    obtain rfl : i = (xs.zip ys).length := by omega
    refine codeAny_builtin F.entry_extend_loop ?_
    rw [calmed F.plain_extend_loop]
    show wpAny _ A.in1 (pyNext (.ref z) >>= _) _ _ s
    exact wpAny_bind (way_end (A := A.in1) S hh hf hu hw W fun s' c hL D => wpAny_pure (hR s' acc c hL D))
  | succ k ih =>
    intro i acc s hk hi W
    refine codeAny_builtin F.entry_extend_loop ?_
    rw [calmed F.plain_extend_loop]
    show wpAny _ A.in1 (pyNext (.ref z) >>= _) _ _ s
    refine wpAny_bind (way_on (A := A.in1) S hh hf hu hw (show i < (xs.zip ys).length by omega) hz W fun v s' c hL W' => ?_)
    have hsz := W.size hi
    show wpAny _ A.in1 (updateSeq L (·.push v) >>= _) _ _ _
    refine wpAny_bind (wpAny_updateSeq hL rfl (wpAny_pure ⟨plainId_quiet F.plain_extend_loop _, ih (i + 1) (acc.push v) _ (by omega) (by omega) W'⟩) (by omega) (by show (acc.push v).size ≤ sizeLine + 1; rw [Array.size_push]; omega))
theorem ZSt.keep (S : ZSep z TI TO i1 i2 L a b) {i : Nat} {h h' : Heap} (Z : ZSt z TI TO i1 i2 L a b us ws i h) (k : ∀ d o, d ≠ L → h.get? d = some o → h'.get? d = some o) : ZSt z TI TO i1 i2 L a b us ws i h' where
  pair := k _ _ (Ne.symm S.LTI) Z.pair
  t1 := Z.t1.at fun o e => k _ o (Ne.symm S.Li1) e
  t2 := Z.t2.at fun o e => k _ o (Ne.symm S.Li2) e
  l1 := Z.l1.at fun o e => k _ o (Ne.symm S.La) e
  l2 := Z.l2.at fun o e => k _ o (Ne.symm S.Lb) e
  to := let ⟨o, e⟩ := Z.to; ⟨o, k _ _ (Ne.symm S.LTO) e⟩
  zz := by
    rcases Z.zz with ⟨h1, p, q, h2⟩ | ⟨T, f, oT, h1, h2, c1, c2, c3, c4⟩
    · exact .inl ⟨k _ _ (Ne.symm S.Lz) h1, p, q, k _ _ (Ne.symm S.LTO) h2⟩
    · exact .inr ⟨T, f, oT, k _ _ (Ne.symm S.Lz) h1, k _ _ c4 h2, c1, c2, c3, c4⟩
abbrev newL : Obj := { cls := .type "list", data := .seq ([] : List Value).toArray }
theorem collect_zip {s : Shared} (I : L2.Inv X pins σ H s) (S : ZSep z TI TO i1 i2 s.heap.objs.size a b) (hh : A.handled = none) (hf : ∀ d ∈ [z, TO, i1, i2], FpOk X pins H d) (hu : Vals xs us.toList) (hw : Vals ys ws.toList) (hz : (xs.zip ys).length ≤ sizeLine)
    (Z : ZSt z TI TO i1 i2 s.heap.objs.size a b us ws 0 s.heap) (hz0 : IsZip s.heap z TI TO .none) {Q : List Value → Shared → Prop} (hQ : ∀ s' acc, Done X pins σ H s.heap.objs.size xs ys acc s' → Q acc.toList s') : wpAny (model X.prog X.w) A (collect (.ref z)) Q E s := by
  have pu : ∀ d o, s.heap.get? d = some o → (s.heap.push newL).get? d = some o := fun d o e => Heap.get?_push_of_some _ e
  have ty : ({ s with heap := s.heap.push newL } : Shared).TypeIs (.ref z) "zip" := ⟨_, pu _ _ hz0, rfl⟩
  unfold collect
  refine wpAny_bind (wpAny_runValue (codeAny_builtin F.entry_proto_collect ?_))
  rw [calmed F.plain_proto_collect]
  show wpAny _ A.in1 (newList [] >>= fun l => again (.builtin "list.__iadd__" ⟨[l, .ref z], []⟩)) _ _ s
  refine wpAny_bind (wpAny_newObj_type (wpAny_pure ⟨plainId_quiet F.plain_list_iadd _, codeAny_builtin F.entry_list_iadd ?_⟩))
  rw [calmed F.plain_list_iadd]
  show wpAny _ A.in1 (Builtin.List.listExtendWith (.ref s.heap.objs.size) (.ref z) (.ref s.heap.objs.size)) _ _ _
  unfold Builtin.List.listExtendWith
  refine wpAny_bind (wpAny_typeOf ty ?_)
  have n1 : Builtin.List.listSameRef (.ref s.heap.objs.size) (.ref z) = false := by simp [Builtin.List.listSameRef, S.Lz]
  have n2 : ((Value.type "zip" == Value.type "list") || (Value.type "zip" == Value.type "tuple")) = false := by decide
  simp only [n1, n2, Bool.or_false, Bool.false_or, Bool.false_eq_true, if_false]
  refine wpAny_bind (wpAny_pyIter_zip (pu _ _ hz0) (wpAny_bind (wpAny_holding ?_)))
  unfold Builtin.List.listLengthHint
  refine wpAny_bind (wpAny_specialOf ty zip_no_len ?_)
  show wpAny _ A.in1 (specialOf (Value.ref z) (Str.ofString "__length_hint__") >>= _) _ _ _
  refine wpAny_bind (wpAny_specialOf ty zip_no_hint (wpAny_pure ?_))
  show wpAny _ A.in1 (rule "list.extend.makes-room" >>= fun _ => Builtin.List.listTouch (.ref s.heap.objs.size) >>= fun _ =>
    again (.builtin "list.extend.loop" ⟨[.ref s.heap.objs.size, .ref z, .ref s.heap.objs.size], []⟩)) _ _ _
  refine wpAny_bind (wpAny_rule (wpAny_bind ?_))
  have g1 : (s.heap.push newL).get? s.heap.objs.size = some newL := Heap.get?_push_size _ rfl
  show wpAny _ A.in1 (updateSeq s.heap.objs.size (·.push .none) >>= fun _ => updateSeq s.heap.objs.size (·.pop)) _ _ _
  have g2 := Heap.get?_update_self (Obj.mapSeq (·.push Value.none)) g1 rfl
  have g3 := Heap.get?_update_self (Obj.mapSeq (·.pop)) g2 rfl
  refine wpAny_bind (wpAny_updateSeq g1 rfl (wpAny_updateSeq g2 rfl ?_))
  have oth : ∀ d o, d ≠ s.heap.objs.size → s.heap.get? d = some o → (((s.heap.push newL).update s.heap.objs.size (Obj.mapSeq (·.push Value.none))).update s.heap.objs.size (Obj.mapSeq (·.pop))).get? d = some o :=
    fun d o hd e => (Heap.get?_update_other _ _ (Ne.symm hd)).trans ((Heap.get?_update_other _ _ (Ne.symm hd)).trans (pu d o e))
  have fL : FpOk X pins H s.heap.objs.size := I.fpOk (Nat.le_refl _) (I.hok.fresh (Nat.le_refl _))
  have hf5 : ∀ d ∈ [z, TO, i1, i2, s.heap.objs.size], FpOk X pins H d := fun d hd => by
    simp only [List.mem_cons, List.not_mem_nil, or_false] at hd
    rcases hd with q | q | q | q | q
    · exact hf d (by simp [q])
    · exact hf d (by simp [q])
    · exact hf d (by simp [q])
    · exact hf d (by simp [q])
    · rw [q]; exact fL
  have I5 : L2.Inv X pins σ H ({ s with heap := ((s.heap.push newL).update s.heap.objs.size (Obj.mapSeq (·.push Value.none))).update s.heap.objs.size (Obj.mapSeq (·.pop)), toks := s.toks } : Shared) :=
    I.turnedL (ch := [s.heap.objs.size]) (fun d o hd e => oth d o (by simpa using hd) e) fun d hd => by
      obtain rfl : d = s.heap.objs.size := by simpa using hd
      exact fL
  refine wpAny_pure ⟨plainId_quiet F.plain_extend_loop _, fill (A := A) (σ := σ) (pins := pins) S hh hf5 hu hw hz _ (fun s' acc c hL D => ?_) _ 0 #[] _ rfl (Nat.zero_le _) ⟨H, [], _, ?_, fun d hd => (hf5 d hd).1, Z.keep S fun d o hd e => oth d o hd e, g3, by rw [List.take_zero]; rfl, rfl⟩⟩
  · show wpAny _ A (load s.heap.objs.size >>= _) _ _ s'
    exact wpAny_bind (wpAny_load hL (wpAny_pure (hQ s' acc D)))
  · exact I5
end
end PuZ
set_option Elab.async false
set_option linter.all false
set_option maxRecDepth 100000
set_option maxHeartbeats 4000000
namespace PuZ
open PySem PySem.Spec PyProof.Rows L2
section
variable {X : Cx} {pins : List (Addr × Obj)} {σ : L2.St} {H : Hp} {A : Around} {E : Value → Shared → Prop} {z TI TO i1 i2 L a b : Addr} {us ws : Array Value} {xs ys : List V}
theorem new_tuple_zip {s : Shared} (I : L2.Inv X pins σ H s) (S : ZSep z TI TO i1 i2 s.heap.objs.size a b) (hh : A.handled = none) (hf : ∀ d ∈ [z, TO, i1, i2], FpOk X pins H d) (hu : Vals xs us.toList) (hw : Vals ys ws.toList) (hz : (xs.zip ys).length ≤ sizeLine)
    (Z : ZSt z TI TO i1 i2 s.heap.objs.size a b us ws 0 s.heap) (hz0 : IsZip s.heap z TI TO .none) {Q : Value → Shared → Prop}
    (hQ : ∀ s' acc, Done X pins σ H s.heap.objs.size xs ys acc s' → Q (.ref s'.heap.objs.size) { s' with heap := s'.heap.push { cls := .type "tuple", data := .seq acc } }) :
    codeAny (model X.prog X.w) A (.call (.builtin "tuple.__new__") ⟨[.type "tuple", .ref z], []⟩) (wants Q E) s := by
  refine codeAny_of_tree (?_ : wpAny _ A.in1 (do checkBuiltinCall "tuple.__new__" ⟨[.type "tuple", .ref z], []⟩; again (.builtin "tuple.__new__" ⟨[.type "tuple", .ref z], []⟩)) _ _ s)
  refine wpAny_bind (wpAny_of_eq (F.newCall_tuple_1 (.ref z)) (wpAny_pure ⟨plainId_quiet F.plain_tuple_new _, codeAny_builtin F.entry_tuple_new ?_⟩))
  rw [calmed F.plain_tuple_new]
  have f1 := sub_tuple_self
  have f2 := init_tuple_lookup
  have f3 := madeHere_tuple
  have f4 : s.TypeIs (.ref z) "zip" := ⟨_, hz0, rfl⟩
  have dl : ∀ s' acc, Done X pins σ H s.heap.objs.size xs ys acc s' → acc.size ≤ sizeLine := fun s' acc ⟨_, ps, _, ld, e⟩ => by
    have h1 := congrArg List.length e
    rw [List.length_map, ld.len] at h1
    have h2 : acc.toList.length = acc.size := by simp
    omega
  wp_walk using wpAny_typeOf f4, collect_zip (A := A.in1) (hz := hz) I S hh hf hu hw Z hz0
  intro s' acc D
  show wpAny _ _ (Builtin.Tuple.tupleExact acc.toList.toArray >>= fun v => ret v) _ _ _
  unfold Builtin.Tuple.tupleExact
  have e : acc.toList.toArray = acc := by simp
  rw [e]
  exact wpAny_bind (wpAny_newObj_type (wpAny_pure (hQ s' acc D)) (dl s' acc D))
end
end PuZ
namespace PuZ
open PySem PySem.Spec PyProof.Rows L2
section
variable {X : Cx} {pins : List (Addr × Obj)} {σ : L2.St} {H : Hp} {A : Around} {E : Value → Shared → Prop} {z TI TO i1 i2 L a b : Addr} {us ws : Array Value} {xs ys : List V}
theorem call_tuple_zip {s : Shared} (I : L2.Inv X pins σ H s) (S : ZSep z TI TO i1 i2 s.heap.objs.size a b) (hh : A.handled = none) (hf : ∀ d ∈ [z, TO, i1, i2], FpOk X pins H d) (hu : Vals xs us.toList) (hw : Vals ys ws.toList) (hz : (xs.zip ys).length ≤ sizeLine)
    (Z : ZSt z TI TO i1 i2 s.heap.objs.size a b us ws 0 s.heap) (hz0 : IsZip s.heap z TI TO .none) {Q : Value → Shared → Prop}
    (hQ : ∀ s' acc, Done X pins σ H s.heap.objs.size xs ys acc s' → Q (.ref s'.heap.objs.size) { s' with heap := s'.heap.push { cls := .type "tuple", data := .seq acc } }) :
    wpAny (model X.prog X.w) A (call (.type "tuple") [.ref z]) Q E s :=
  callType_codes (Q₁ := fun r s1 => s1.TypeIs r "tuple" ∧ Q r s1) F.called_tuple (F.typeCall_tuple_1 (.ref z)) F.entry_object_init
    (new_tuple_zip (A := A.in1) I S hh hf hu hw hz Z hz0 fun s' acc D => ⟨⟨_, Heap.get?_push_size _ rfl, rfl⟩, hQ s' acc D⟩) fun r s1 h1 =>
      ⟨h1.1, F.args_object_init_2 r _, object_init_meets F.called_tuple.init.lookup F.called_tuple.made (by decide) X.prog X.w A.in1 _ s1 ⟨h1.1, rfl, h1.2⟩⟩
theorem nA {a b : Nat} (h : a < b ∨ b < a) : a ≠ b := by omega
theorem zsep {n a b : Nat} (ha : a < n) (hb : b < n) : ZSep (n + 4) (n + 2) (n + 3) n (n + 1) (n + 5) a b where
  s := zip_sep2 (N := n) (fp1 := [a]) (fp2 := [b]) (fun x hx => by rw [List.mem_singleton.mp hx]; exact ha) (fun x hx => by rw [List.mem_singleton.mp hx]; exact hb)
  i1a := by refine nA ?_; omega
  i2b := by refine nA ?_; omega
  az := by refine nA ?_; omega
  aTO := by refine nA ?_; omega
  bz := by refine nA ?_; omega
  bTO := by refine nA ?_; omega
  ai2 := by refine nA ?_; omega
  bi1 := by refine nA ?_; omega
  Lz := by refine nA ?_; omega
  LTI := by refine nA ?_; omega
  LTO := by refine nA ?_; omega
  Li1 := by refine nA ?_; omega
  Li2 := by refine nA ?_; omega
  La := by refine nA ?_; omega
  Lb := by refine nA ?_; omega
def tTupZip (K : PySem.W.Frag) (ta : TA) : TE := fun σ H Q => ta σ H fun vs H1 => ∃ (a b : Addr) (xs ys : List V), vs = [.ref a, .ref b] ∧ SqT K H1 a xs ∧ SqT K H1 b ys ∧ ∀ ps H2 q, Laid H1 ps (xs.zip ys) H2 → H2 q = none → Q (.ref q) (upd H2 q (.tup (ps.map V.ref)))
end
section
variable {X : Cx} {e e2 : Expr} {ta : TA} {p0 pos0 p pos : Pos}
/-- tuple(zip(x, y)) of two tuples -/
theorem pe_tupZip (hcalm : X.calm = true) (hg0 : Gl X "tuple") (hm0 : X.mg "tuple" = none) (hg : Gl X "zip") (hm : X.mg "zip" = none) (ha : PA X [e, e2] ta)
    (na0 : starEach [.Call (.Name "zip" p) [e, e2] [] pos] X.env = (false, eval (.Call (.Name "zip" p) [e, e2] [] pos) X.env) :: starEach [] X.env := by rfl)
    (na : starEach [e, e2] X.env = (false, eval e X.env) :: starEach [e2] X.env := by rfl) (npl : (backTo pos (starEach [e2] X.env)).any (·.1) = false := by rfl) :
    PE X (.Call (.Name "tuple" p0) [.Call (.Name "zip" p) [e, e2] [] pos] [] pos0) (tTupZip X.K ta) := ⟨fun pins s σ H Q I h => by
  refine Call_ (ld_blt I hg0 hm0 boot_tuple (PyProof.Rows.callWith_type1 (args_cons (?_ : wpAny _ _ (eval (.Call (.Name "zip" p) [e, e2] [] pos) X.env) _ _ s) na0) na0))
  refine Call_ (ld_blt I hg hm PyProof.Rows.boot_zip (PyProof.Rows.callWith_type1 (thn (ha.run pos pins s σ H _ I h) fun vals s1 ⟨vs, H1, I1, r1, a, b, xs, ys, ex, qx, qy, q1⟩ => ?_) na npl))
  subst ex
  cases r1 with
  | cons r rr =>
    cases rr with
    | cons r' rr =>
      cases rr
      cases r
      cases r'
      obtain ⟨its, rv, t1, zx⟩ := I1.tuple qx
      obtain ⟨its2, rv2, t2, zy⟩ := I1.tuple qy
      obtain ⟨o1, ho1, _⟩ := id t1
      obtain ⟨o2, ho2, _⟩ := id t2
      have la := Heap.lt_size ho1
      have lb := Heap.lt_size ho2
      refine RZ.call_zipT (show s1.heap.IsTuple a its.toArray from t1) (show s1.heap.IsTuple b its2.toArray from t2) fun h' hz hTI hTO j1 j2 hsz hk => ?_
      have I2 : L2.Inv X pins σ H1 { s1 with heap := h' } := I1.kept (t' := s1.toks) hk
      have fr : ∀ d, s1.heap.objs.size ≤ d → FpOk X pins H1 d := fun d hd => I1.fpOk hd (I1.hok.fresh hd)
      refine args_nil ?_
      have S := zsep la lb
      rw [← hsz] at S
      refine call_tuple_zip (us := its.toArray) (ws := its2.toArray) (xs := xs) (ys := ys) I2 S (I1.ok.hd hcalm) (fun d hd => ?_) rv rv2 ?_ ⟨hTI, j1, j2, ?_, ?_, ⟨_, hTO⟩, .inl ⟨hz, _, _, hTO⟩⟩ hz fun s' acc ⟨H2, ps, I3, ld, ea⟩ => ?_
      · simp only [List.mem_cons, List.not_mem_nil, or_false] at hd
        rcases hd with q | q | q | q <;> (rw [q]; exact fr _ (by omega))
      · have := rv.length
        rw [List.length_zip]
        omega
      · exact ⟨o1, hk _ _ ho1, by assumption⟩
      · exact ⟨o2, hk _ _ ho2, by assumption⟩
      · have hv : Vals (ps.map V.ref) (ps.map Value.ref) := by
          clear ea ld
          induction ps with
          | nil => exact .nil
          | cons x t ih => exact .cons rfl ih
        have hl : (ps.map V.ref).length ≤ sizeLine := by
          have := ld.len
          have := rv.length
          rw [List.length_map, ld.len, List.length_zip]
          omega
        have I4 : L2.Inv X pins σ (upd H2 s'.heap.objs.size (.tup (ps.map V.ref))) { s' with heap := s'.heap.push { cls := .type "tuple", data := .seq acc } } :=
          I3.laid (t' := s'.toks) (fun b o e => Heap.get?_push_of_some _ e) (Nat.le_refl _) ⟨hl, ps.map Value.ref, hv, by
            have e : (ps.map Value.ref).toArray = acc := by rw [← ea]
            rw [e]
            exact IsTup.new _ _⟩
        exact ⟨.ref s'.heap.objs.size, _, I4, rfl, q1 ps H2 _ ld (I3.hok.fresh (Nat.le_refl _))⟩⟩
end
end PuZ
set_option Elab.async false
set_option linter.all false
set_option maxRecDepth 100000
set_option maxHeartbeats 4000000
namespace Pu
open PySem PySem.Spec PyProof.Rows L2 Evl
/-! ### tuple(zip(x, y)) -/
theorem pe_tupZipK {X : Cx} {K : PySem.W.Frag} {e e2 : Expr} {ta : TA} {p0 pos0 p pos : Pos} (hcalm : X.calm = true) (hg0 : Gl X "tuple") (hm0 : X.mg "tuple" = none) (hg : Gl X "zip") (hm : X.mg "zip" = none) (ha : PA X [e, e2] ta)
    (na0 : starEach [.Call (.Name "zip" p) [e, e2] [] pos] X.env = (false, eval (.Call (.Name "zip" p) [e, e2] [] pos) X.env) :: starEach [] X.env := by rfl)
    (na : starEach [e, e2] X.env = (false, eval e X.env) :: starEach [e2] X.env := by rfl) (npl : (backTo pos (starEach [e2] X.env)).any (·.1) = false := by rfl) (hK : X.K = K := by rfl) :
    PE X (.Call (.Name "tuple" p0) [.Call (.Name "zip" p) [e, e2] [] pos] [] pos0) (PuZ.tTupZip K ta) := by
  subst hK
  exact PuZ.pe_tupZip hcalm hg0 hm0 hg hm ha na0 na npl
section
variable {p : Bool} {E : XK} {XC : Str → Value} {K : PySem.W.Frag} {Γ : List Sl} {tA : TA} {a b : DCod}
theorem laid_pext : ∀ {F H H2 : Hp} {ps : List Addr} {us ws : List V} {xs : List a.α} {ys : List b.α}, Ex F H → PuZ.Laid H ps (us.zip ws) H2 → PV a F us xs → PV b F ws ys → ∃ F2, Pext F F2 H H2 ∧ PV (dP2 a b) F2 (ps.map V.ref) (xs.zip ys)
  | F, H, H2, [], [], ws, _, ys, fh, ld, .nil, _ => by
    obtain rfl : H2 = H := ld
    exact ⟨F, Pext.refl fh, .nil⟩
  | F, H, H2, [], u :: us, [], _, _, fh, ld, .cons _ _, .nil => by
    obtain rfl : H2 = H := ld
    exact ⟨F, Pext.refl fh, .nil⟩
  | F, H, H2, q :: ps, u :: us, w :: ws, _, _, fh, ⟨hq, ld⟩, .cons ru tu, .cons rw' tw => by
    have e1 := Pext.one (o := .tup [u, w]) fh hq
    obtain ⟨F2, e2, pv⟩ := laid_pext e1.fh ld (PV.ext e1.ff tu) (PV.ext e1.ff tw)
    exact ⟨F2, e1.trans e2, .cons ⟨q, u, w, rfl, e2.ff q _ upd_same, a.ext ru (e1.ff.trans e2.ff), b.ext rw' (e1.ff.trans e2.ff)⟩ pv⟩
theorem ev_tupZip {T : (R : Type) → (DEnv [dTup a, dTup b] → Env Γ → Res R) → Env Γ → Res R} (h : EvA p E XC Γ tA [dTup a, dTup b] T) : EvE p E XC Γ (PuZ.tTupZip K tA) (dTup (dP2 a b)) (fun R k ρ => T R (fun x ρ => k (List.zip (α := a.α) (β := b.α) x.1 x.2.1) ρ) ρ) := fun B σ F H ρ I R G hG k Q g qq =>
  h B σ F H ρ I R G hG _ _ g fun x ρ' vs F' H' I' e r g' => by
    obtain ⟨v, vs', rfl, r1, w, vs2, rfl, r2, r3⟩ := r
    have r3 : vs2 = [] := r3
    subst r3
    obtain ⟨l1, us, rfl, h1, pu, z1⟩ := r1
    obtain ⟨l2, ws, rfl, h2, pw, z2⟩ := r2
    refine ⟨l1, l2, us, ws, rfl, SqT.rd I'.fh h1, SqT.rd I'.fh h2, fun ps H2 q ld hq => ?_⟩
    obtain ⟨F2, e2, pv⟩ := laid_pext (a := a) (b := b) I'.fh ld pu pw
    have e3 := Pext.one (o := .tup (ps.map V.ref)) e2.fh hq
    have e4 := e2.trans e3
    have z3 : (List.zip (α := a.α) (β := b.α) x.1 x.2.1).length ≤ sizeLine := by
      rw [List.length_zip]
      have z1 : List.length (α := a.α) x.1 ≤ sizeLine := z1
      omega
    exact qq _ ρ' (.ref q) _ _ (I'.pext e4) (e.pext e4) ⟨q, _, rfl, .inl upd_same, pv.ext e3.ff, z3⟩ g'
end
end Pu
set_option Elab.async false
set_option linter.all false
set_option maxRecDepth 100000
set_option maxHeartbeats 4000000
namespace Pu
open PySem PySem.Spec PyProof.Rows L2 Evl
/-! ### min of a tuple of ints -/
section
variable {prog : Program} {w : World} {A : Around} {E : Value → Shared → Prop} {s : Shared} {l : Addr}
theorem min_intsT {xs : Array (Int × Tok)} {Q : Value → Shared → Prop} (hh : A.handled = none) (hl : s.heap.IsTuple l (intItems xs)) (hne : 0 < xs.size)
    (h : ∀ v h' tk, (intItems xs)[argBest (fun i j => decide (numAt xs i < numAt xs j)) (xs.size - 1)]? = some v → (∀ b o, s.heap.get? b = some o → h'.get? b = some o) → Q v { s with heap := h', toks := tk }) :
    wpAny (model prog w) A (call (.builtin "min") [.ref l]) Q E s := by
  have hlt : l < s.heap.objs.size := let ⟨_, e, _⟩ := hl; Heap.lt_size e
  have hne' := Nat.ne_of_lt hlt
  refine call_min_walk (wpAny_pyIter_tuple hl ⟨s.heap.objs.size, [s.heap.objs.size, l], [s.heap.objs.size], _, _, _, _, rfl, Walks.tuple (A := A.in1) hh _ l hne' (intItems xs), ⟨⟨_, Heap.get?_push_size _ rfl, rfl, rfl⟩, hl.push _⟩, fun b hb => ?_, by simpa [intItems] using hne, CmpOf.ints_lt (numAt xs) (fun _ _ => intItems_at), fun v h' tk hP hk => ?_⟩)
  · show b < (s.heap.push _).objs.size
    rw [Heap.size_push]
    simp only [List.mem_cons, List.not_mem_nil, or_false] at hb
    rcases hb with q | q
    · rw [q]; exact Nat.lt_succ_self _
    · rw [q]; exact Nat.lt_succ_of_lt hlt
  · refine h v h' tk (by simpa [intItems] using hP) fun b o e => hk b o (fun hm => ?_) (Heap.get?_push_of_some _ e)
    exact absurd (Heap.lt_size e) (by rw [List.mem_singleton.mp hm]; exact Nat.lt_irrefl _)
theorem min_rawT {its : List Value} {ns : List Int} {Q : Value → Shared → Prop} (hh : A.handled = none) (hl : s.heap.IsTuple l its.toArray) (hi : IntsAre its ns) (hne : 0 < ns.length)
    (h : ∀ h' tk M t', (∀ b o, s.heap.get? b = some o → h'.get? b = some o) → M ∈ ns → (∀ a, a ∈ ns → M ≤ a) → Q (.int M t') { s with heap := h', toks := tk }) : wpAny (model prog w) A (call (.builtin "min") [.ref l]) Q E s := by
  obtain ⟨xs, e⟩ := hi.allInts.items
  have hn : numsOf (intItems xs).toList = ns := by rw [← e]; exact hi.numsOf
  rw [nums_intItems] at hn
  subst hn
  rw [e] at hl
  have hsz : 0 < xs.size := by simpa using hne
  refine min_intsT hh hl hsz fun v h' tk hv hk => ?_
  obtain ⟨t, rfl⟩ := intItems_at hv
  obtain ⟨h1, h2⟩ := argBest_lt (numAt xs) (xs.size - 1)
  have hlen : (xs.toList.map (·.1)).length = xs.size := by rw [List.length_map, Array.length_toList]
  refine h h' tk _ t hk (by rw [numAt_eq]; exact PySem.getD_mem (by omega)) fun a ha => ?_
  obtain ⟨j, hj, rfl⟩ := mem_getD ha
  rw [← numAt_eq]
  exact h2 j (by omega)
end
def rMinT (K : PySem.W.Frag) : List V → Hp → VK → Prop := fun vs H Q => ∃ (a : Addr) (ns : List Int), (vs = [V.ref a]) ∧ SqT K H a (ns.map V.int) ∧ 0 < ns.length ∧ (∀ m, m ∈ ns → (∀ y, y ∈ ns → m ≤ y) → Q (.int m) H)
section
variable {X : Cx} {K : PySem.W.Frag}
theorem cr_minT (hc : X.calm = true) : CallR X (.builtin "min") (rMinT X.K) := fun pins s σ H vs us Q I r h => by
  obtain ⟨a, ns, rfl, hs, hne, q⟩ := h
  obtain ⟨its, rv, pl, _⟩ := I.tuple hs
  rw [Vals.ref1 r]
  obtain ⟨o1, ho, hc1, hd1⟩ := id pl
  exact min_rawT (I.ok.hd hc) (show s.heap.IsTuple a its.toArray from pl) rv.ints hne fun h' tk m t' hk h1 h2 => ⟨.int _, H, I.kept hk, ⟨_, rfl⟩, q m h1 h2⟩
theorem cr_minTK (hc : X.calm = true) (hK : X.K = K := by rfl) : CallR X (.builtin "min") (rMinT K) := by subst hK; exact cr_minT hc
def minI : List Int → Option Int
  | [] => none
  | x :: xs => some (xs.foldl (fun m y => if y < m then y else m) x)
theorem foldl_min : ∀ (xs : List Int) (x : Int), (xs.foldl (fun m y => if y < m then y else m) x ∈ x :: xs) ∧ ∀ y ∈ x :: xs, xs.foldl (fun m y => if y < m then y else m) x ≤ y
  | [], x => by simp
  | z :: zs, x => by
    rw [List.foldl_cons]
    obtain ⟨h1, h2⟩ := foldl_min zs (if z < x then z else x)
    have h3 := h2 _ (List.mem_cons_self ..)
    refine ⟨?_, fun y hy => ?_⟩
    · rcases List.mem_cons.mp h1 with h | h
      · rw [h]
        split
        · simp
        · simp
      · simp [h]
    · have h4 : (if z < x then z else x) ≤ x ∧ (if z < x then z else x) ≤ z := by split <;> omega
      rcases List.mem_cons.mp hy with h | h
      · rw [h]; exact Int.le_trans h3 h4.1
      · rcases List.mem_cons.mp h with h | h
        · rw [h]; exact Int.le_trans h3 h4.2
        · exact h2 y (List.mem_cons_of_mem _ h)
theorem o_minT : Op1bP (rMinT K) (dTup dInt) dInt minI := fun F H v x z Q e h hz k => by
  obtain ⟨a, vs, rfl, g2, g3, g4⟩ := h
  rw [ints_of g3] at g2
  cases x with
  | nil => cases hz
  | cons y ys =>
    have hz : some (ys.foldl (fun m y => if y < m then y else m) y) = some z := hz
    cases hz
    obtain ⟨f1, f2⟩ := foldl_min ys y
    refine ⟨a, y :: ys, rfl, SqT.rd e g2, by simp, fun m hm hle => ?_⟩
    have hmm : m = ys.foldl (fun m y => if y < m then y else m) y := Int.le_antisymm (hle _ f1) (f2 m hm)
    rw [hmm]
    exact k _ F H (Pext.refl e) rfl
end
/-! ### in of tuples, by data -/
def rInTD (K : PySem.W.Frag) : R2 := fun x y H Q => ∃ d ds, Dp K H x d ∧ Dp K H y (.tuple ds) ∧ (SeqAt.shaped d = true ∧ SeqAt.shaped (.tuple ds) = true) ∧ Q (.bl (ds.any fun z => PyData.eqv z d)) H
def rNotInTD (K : PySem.W.Frag) : R2 := fun x y H Q => ∃ d ds, Dp K H x d ∧ Dp K H y (.tuple ds) ∧ (SeqAt.shaped d = true ∧ SeqAt.shaped (.tuple ds) = true) ∧ Q (.bl (!ds.any fun z => PyData.eqv z d)) H
section
variable {X : Cx} {K : PySem.W.Frag} {n : Nat} {c : DCod}
theorem op_inTD (hu : X.A.units + 65 < cLine) : OpR X (compareOp .In) (rInTD X.K) := fun pins s σ H x y v u Q I rx ry h => by
  obtain ⟨d, ds, hd, he, ⟨sd, se⟩, q⟩ := h
  obtain ⟨as, r1⟩ := Dp.reads I d x v hd rx
  obtain ⟨bs, r2⟩ := Dp.reads I (.tuple ds) y u he ry
  exact SeqAt.in_tuple_reads r2 r1 (SeqAt.canLay_of_shaped se) (SeqAt.canLay_of_shaped sd) (room_in_shaped sd hu) ⟨.bl _, H, I, rfl, q⟩
theorem op_notInTD (hu : X.A.units + 65 < cLine) : OpR X (compareOp .NotIn) (rNotInTD X.K) := fun pins s σ H x y v u Q I rx ry h => by
  obtain ⟨d, ds, hd, he, ⟨sd, se⟩, q⟩ := h
  obtain ⟨as, r1⟩ := Dp.reads I d x v hd rx
  obtain ⟨bs, r2⟩ := Dp.reads I (.tuple ds) y u he ry
  exact SeqAt.notIn_tuple_reads r2 r1 (SeqAt.canLay_of_shaped se) (SeqAt.canLay_of_shaped sd) (room_in_shaped sd hu) ⟨.bl _, H, I, rfl, q⟩
theorem op_inTDK (hu : X.A.units + 65 < cLine) (hK : X.K = K := by rfl) : OpR X (compareOp .In) (rInTD K) := by subst hK; exact op_inTD hu
theorem op_notInTDK (hu : X.A.units + 65 < cLine) (hK : X.K = K := by rfl) : OpR X (compareOp .NotIn) (rNotInTD K) := by subst hK; exact op_notInTD hu
theorem o_inTD (q : Dq K n c) (hn : n + 1 ≤ 64) : Op2 (rInTD K) c (dTup c) dBl (fun x xs => isIn q.dec x xs) := fun F H v w x y Q e h1 h2 k =>
  ⟨q.toD x, List.map q.toD y, q.dp e h1, (dqTup q).dp e h2, ⟨q.shaped (by omega) x, (dqTup q).shaped hn y⟩, by rw [any_eqv]; exact k _ F H (Pext.refl e) rfl⟩
theorem o_ninTD (q : Dq K n c) (hn : n + 1 ≤ 64) : Op2 (rNotInTD K) c (dTup c) dBl (fun x xs => !isIn q.dec x xs) := fun F H v w x y Q e h1 h2 k =>
  ⟨q.toD x, List.map q.toD y, q.dp e h1, (dqTup q).dp e h2, ⟨q.shaped (by omega) x, (dqTup q).shaped hn y⟩, by rw [any_eqv]; exact k _ F H (Pext.refl e) rfl⟩
/-! ### a number's opposite -/
theorem o_neg : Op1 (rU fun i => V.int (-i)) dInt dInt (fun x => -x) := fun F H v x Q e h k => ⟨x, h, k _ F H (Pext.refl e) rfl⟩
end
/-! ### == () of a tuple of anything -/
def rEqE (K : PySem.W.Frag) : R2 := fun x y H Q => ∃ (a b : Addr) (xs : List V), (x = .ref a ∧ y = .ref b) ∧ SqT K H a xs ∧ SqT K H b [] ∧ Q (.bl xs.isEmpty) H
def rNeE (K : PySem.W.Frag) : R2 := fun x y H Q => ∃ (a b : Addr) (xs : List V), (x = .ref a ∧ y = .ref b) ∧ SqT K H a xs ∧ SqT K H b [] ∧ Q (.bl (!xs.isEmpty)) H
section
variable {X : Cx} {K : PySem.W.Frag} {c : DCod}
theorem vals_nil : ∀ {its : List Value}, Vals [] its → its = []
  | [], _ => rfl
theorem size_e {xs : List V} {its : List Value} (rv : Vals xs its) : ((List.range (min its.toArray.size ([] : List Value).toArray.size)).all (fun _ => true) && its.toArray.size == ([] : List Value).toArray.size) = xs.isEmpty := by
  cases rv <;> rfl
theorem op_eqE (hu : X.A.units < cLine) : OpR X (compareOp .Eq) (rEqE X.K) := fun pins s σ H x y v u Q I rx ry h => by
  obtain ⟨a, b, xs, ⟨rfl, rfl⟩, h1, h2, q⟩ := h
  obtain rfl : v = Value.ref a := rx
  obtain rfl : u = Value.ref b := ry
  obtain ⟨its, rv, t1, _⟩ := I.tuple h1
  obtain ⟨its2, rv2, t2, _⟩ := I.tuple h2
  obtain rfl := vals_nil rv2
  refine SeqAt.eq_tupleAt (e := fun _ => true) t1 t2 hu (fun j _ hj => absurd hj (Nat.not_lt_zero _)) ⟨.bl xs.isEmpty, H, I, ?_, q⟩
  rw [size_e rv]
  rfl
theorem op_neE (hu : X.A.units < cLine) : OpR X (compareOp .NotEq) (rNeE X.K) := fun pins s σ H x y v u Q I rx ry h => by
  obtain ⟨a, b, xs, ⟨rfl, rfl⟩, h1, h2, q⟩ := h
  obtain rfl : v = Value.ref a := rx
  obtain rfl : u = Value.ref b := ry
  obtain ⟨its, rv, t1, _⟩ := I.tuple h1
  obtain ⟨its2, rv2, t2, _⟩ := I.tuple h2
  obtain rfl := vals_nil rv2
  refine SeqAt.RcNeAt.tuples (e := fun _ => true) t1 t2 hu (fun j _ hj => absurd hj (Nat.not_lt_zero _)) X.prog X.w _ _ ⟨.bl (!xs.isEmpty), H, I, ?_, q⟩
  rw [size_e rv]
  rfl
theorem op_eqEK (hu : X.A.units < cLine) (hK : X.K = K := by rfl) : OpR X (compareOp .Eq) (rEqE K) := by subst hK; exact op_eqE hu
theorem op_neEK (hu : X.A.units < cLine) (hK : X.K = K := by rfl) : OpR X (compareOp .NotEq) (rNeE K) := by subst hK; exact op_neE hu
theorem pv_empty {F : Hp} : ∀ {vs : List V} {xs : List c.α}, PV c F vs xs → vs.isEmpty = xs.isEmpty
  | _, _, .nil => rfl
  | _, _, .cons _ _ => rfl
end
section
variable {p : Bool} {E : XK} {XC : Str → Value} {K : PySem.W.Frag} {Γ : List Sl} {ta tb : TE} {c d : DCod}
/-- t == (), t != (), the second written so -/
theorem ev_eqE {Ta : (R : Type) → (List c.α → Env Γ → Res R) → Env Γ → Res R} (ha : EvE p E XC Γ ta (dTup c) Ta) : EvE p E XC Γ (tOp (rEqE K) ta (tTup tNil)) dBl (fun R k ρ => Ta R (fun x ρ => k (List.isEmpty (α := c.α) x) ρ) ρ) := fun B σ F H ρ I R G hG k Q g q =>
  ha B σ F H ρ I R G hG _ _ g fun x ρ1 v F1 H1 I1 e1 r1 g1 => by
    obtain ⟨a, vs, rfl, h1, pv, z⟩ := r1
    refine ⟨by show 0 ≤ sizeLine; decide, fun l hl => ⟨a, l, vs, ⟨rfl, rfl⟩, SqT.rd (I1.fh.trans (Ex.new hl)) h1, .inl (.inl upd_same), ?_⟩⟩
    rw [pv_empty pv]
    exact q _ ρ1 _ _ _ (I1.pext (Pext.one I1.fh hl)) (e1.pext (Pext.one I1.fh hl)) rfl g1
theorem ev_neE {Ta : (R : Type) → (List c.α → Env Γ → Res R) → Env Γ → Res R} (ha : EvE p E XC Γ ta (dTup c) Ta) : EvE p E XC Γ (tOp (rNeE K) ta (tTup tNil)) dBl (fun R k ρ => Ta R (fun x ρ => k (!List.isEmpty (α := c.α) x) ρ) ρ) := fun B σ F H ρ I R G hG k Q g q =>
  ha B σ F H ρ I R G hG _ _ g fun x ρ1 v F1 H1 I1 e1 r1 g1 => by
    obtain ⟨a, vs, rfl, h1, pv, z⟩ := r1
    refine ⟨by show 0 ≤ sizeLine; decide, fun l hl => ⟨a, l, vs, ⟨rfl, rfl⟩, SqT.rd (I1.fh.trans (Ex.new hl)) h1, .inl (.inl upd_same), ?_⟩⟩
    rw [pv_empty pv]
    exact q _ ρ1 _ _ _ (I1.pext (Pext.one I1.fh hl)) (e1.pext (Pext.one I1.fh hl)) rfl g1
end
/-! ### range(lo, hi) -/
def rng2L (lo hi : Int) : List Int := (List.range (hi - lo).toNat).map fun (i : Nat) => lo + (i : Int)
def rng2 (lo hi : Int) : Option (List Int) := if (-(2 ^ 61) ≤ lo ∧ lo ≤ 2 ^ 61) ∧ hi ≤ lo + 16777216 ∧ -(2 ^ 62) ≤ hi then some (rng2L lo hi) else none
section
variable {p : Bool} {E : XK} {XC : Str → Value} {K : PySem.W.Frag} {Γ : List Sl} {tA : TA}
theorem walks_range2 {lo hi : Int} {F : Hp} : Walks (Itr lo (hi - lo).toNat) dInt (rng2L lo hi) F := by
  have hl : (rng2L lo hi).length = (hi - lo).toNat := by unfold rng2L; rw [List.length_map, List.length_range]
  refine ⟨fun i H v H' => i < (hi - lo).toNat ∧ H' = H ∧ v = .int (lo + (i : Int)), by rw [hl]; exact walk_range.mono (fun _ _ => trivial) fun i H x H' hi _ y => ⟨hi, y⟩, fun i H v H' F1 y e1 e2 => ?_⟩
  obtain ⟨hi', rfl, rfl⟩ := y
  refine ⟨F1, lo + (i : Int), ?_, Pext.refl e2, rfl⟩
  unfold rng2L
  rw [List.getElem?_map, List.getElem?_range hi']
  rfl
theorem rng2_b {n m : Int} (h1 : -(2 ^ 61) ≤ n) (h2 : n ≤ 2 ^ 61) (h3 : m ≤ n + 16777216) : -(2 ^ 62) ≤ n ∧ n < 2 ^ 62 ∧ m < 2 ^ 62 ∧ (rng2L n m).length ≤ sizeLine := by
  have := sizeLine_eq
  refine ⟨by omega, by omega, by omega, ?_⟩
  unfold rng2L
  rw [List.length_map, List.length_range]
  omega
theorem ei_rng2 {T : (R : Type) → (DEnv [dInt, dInt] → Env Γ → Res R) → Env Γ → Res R} (h : EvA p E XC Γ tA [dInt, dInt] T) : EvI p E XC Γ (iRng2 tA) dInt (fun R k ρ => T R (fun x ρ => opt (rng2 x.1 x.2.1) fun xs => k xs ρ) ρ) := fun B σ F H ρ I R G hG k Q g qq =>
  h B σ F H ρ I R G hG _ _ g fun x ρ' vs F' H' I' e r g' => by
    obtain ⟨v, vs', rfl, r1, w, vs2, rfl, r2, r3⟩ := r
    have r3 : vs2 = [] := r3
    obtain ⟨n, m, u⟩ := x
    have r1 : v = V.int n := r1
    have r2 : w = V.int m := r2
    subst r1 r2 r3
    have g' : G (opt (rng2 n m) fun xs => k xs ρ') := g'
    by_cases hx : (-(2 ^ 61) ≤ (n : Int) ∧ (n : Int) ≤ 2 ^ 61) ∧ (m : Int) ≤ (n : Int) + 16777216 ∧ -(2 ^ 62) ≤ (m : Int)
    · have hr : rng2 n m = some (rng2L n m) := if_pos hx
      rw [hr] at g'
      obtain ⟨⟨h1, h2⟩, h3, h4⟩ := hx
      obtain ⟨b1, b2, b3, b4⟩ := rng2_b h1 h2 h3
      exact ⟨n, m, rfl, ⟨b1, b2, h4, b3⟩, qq _ ρ' _ F' H' I' e walks_range2 g' b4⟩
    · have hr : rng2 n m = none := if_neg hx
      rw [hr] at g'
      exact absurd g' hG.1
end
end Pu
set_option Elab.async false
set_option linter.all false
set_option maxRecDepth 100000
set_option maxHeartbeats 4000000
namespace Pu
open PySem PySem.Spec PyProof.Rows L2 Evl
/-! ### bodies that are never come to -/
def sNever : TS := fun _ _ _ => False
theorem pss_never {X : Cx} {st : List Stmt} : PSs X st sNever := ⟨fun _ _ _ _ _ _ h => h.elim⟩
/-! ### dicts by whole numbers that may change -/
abbrev mDicI (c : DCod) : Cod := ⟨List (Int × c.α), fun F H fp v kvs => ∃ l ks, v = .ref l ∧ fp = [l] ∧ H l = some (.dK ks) ∧ KVR c F ks kvs, fun ⟨l, ks, h1, h0, h2, h3⟩ e k => ⟨l, ks, h1, h0, by rw [k l (by rw [h0]; simp)]; exact h2, h3.ext e⟩⟩
def fzDI {c : DCod} : Fz (mDicI c) (dDict c) := ⟨fun x => x, fun {F H Fz fp v x} h e k => let ⟨l, ks, h1, h0, h2, h3⟩ := h; ⟨l, ks, h1, by rw [k l (by rw [h0]; simp)]; exact h2, h3.ext e⟩,
  fun {F H fp v x} h a ha o ho => by
    obtain ⟨l, ks, rfl, rfl, h2, h3⟩ := h
    obtain rfl : a = l := by simpa using ha
    rw [h2] at ho; cases ho
    trivial⟩
/-- one that nobody changes any more, and that may be walked -/
abbrev dDicF (c : DCod) : DCod := ⟨List (Int × c.α), fun F v kvs => ∃ l od ks, v = .ref l ∧ F l = some (.frz od (.dK ks)) ∧ KVR c F ks kvs ∧ kvs.length ≤ sizeLine, fun ⟨l, od, ks, h1, h2, h3, h4⟩ e => ⟨l, od, ks, h1, e l _ h2, h3.ext e, h4⟩⟩
def tLockD (te : TE) : TE := fun σ H Q => te σ H fun v H1 => ∃ l u, v = .ref l ∧ H1 l = some u ∧ Mut (some u) ∧ ∀ od, Q v (upd H1 l (.frz od u))
theorem pe_lockD {X : Cx} {e : Expr} {te : TE} (h : PE X e te) : PE X e (tLockD te) := ⟨fun pins s σ H Q I q => thn (h.run pins s σ H _ I q) fun v s1 ⟨x, H1, I1, r, l, u, ex, hl, mu, q1⟩ => by
  obtain ⟨od, I2⟩ := I1.lock hl mu
  exact ⟨x, _, I2, r, q1 od⟩⟩
section
variable {p : Bool} {E : XK} {XC : Str → Value} {Rt : Ret} {K : PySem.W.Frag} {Γ ΓL : List Sl} {te tb tk tv : TE} {c : DCod}
theorem ev_lockD {T : (R : Type) → (List (Int × c.α) → Env Γ → Res R) → Env Γ → Res R} (h : EvN p E XC Γ te (mDicI c) T) : EvE p E XC Γ (tLockD te) (dDicF c) (fun R k ρ => T R (fun x ρ => chk (decide (List.length (α := Int × c.α) x ≤ 16777216)) (k x ρ)) ρ) := fun B σ F H ρ I R G hG k Q g q =>
  h B σ F H ρ I R G hG _ _ g fun x ρ' v fp F0 H0 F' H' I0 e pp n r g' => by
    by_cases hx : List.length (α := Int × c.α) x ≤ 16777216
    · rw [decide_eq_true hx] at g'
      obtain ⟨l, ks, rfl, rfl, hl, pv⟩ := r
      obtain ⟨n1, n2, _⟩ := n.at_ l (by simp)
      have hsz := sizeLine_eq
      refine ⟨l, _, rfl, hl, True.intro, fun od => ?_⟩
      have p2 : Pext F0 (upd F' l (.frz od (.dK ks))) H0 (upd H' l (.frz od (.dK ks))) := ⟨fun a u ea => by
        have : a ≠ l := ne_of_none ea n1
        rw [upd_ne this]; exact pp.hh a u ea, pp.ff.trans (Ex.new n2), fun a u ea => by
        by_cases hb : a = l
        · subst hb; rw [upd_same] at ea ⊢; exact ea
        · rw [upd_ne hb] at ea ⊢; exact pp.fh a u ea, fun a u ea => by
        by_cases hb : a = l
        · subst hb; exact .inr n1
        · rw [upd_ne hb] at ea; exact pp.new a u ea⟩
      exact q x ρ' (.ref l) _ _ (I0.pext p2) (e.pext p2) ⟨l, od, ks, rfl, upd_same, pv.ext (Ex.new n2), by rw [hsz]; exact hx⟩ g'
    · rw [decide_eq_false hx] at g'
      exact absurd g' hG.1
/-- {k: v} -/
theorem en_disp1 {Tk : (R : Type) → (Int → Env Γ → Res R) → Env Γ → Res R} {Tv : (R : Type) → (c.α → Env Γ → Res R) → Env Γ → Res R} (hk : EvE true E XC Γ tk dInt Tk) (hv : EvE true E XC Γ tv c Tv) :
    EvN p E XC Γ (tDisp [(tk, tv)]) (mDicI c) (fun R k ρ => Tk R (fun x ρ => Tv R (fun y ρ => k [(x, y)] ρ) ρ) ρ) := fun B σ F H ρ I R G hG k Q g qq l hl => by
  have p0 : Pext F F H (upd H l (.dK [])) := Pext.own I.fh hl
  refine hk B σ F _ ρ (I.pext p0) R G hG _ _ g fun x ρ1 v F1 H1 I1 e1 r1 g1 => hv B σ F1 H1 ρ1 I1 R G hG _ _ g1 fun y ρ2 w F2 H2 I2 e2 r2 g2 => ?_
  obtain ⟨rfl, p1⟩ := e1.2 rfl
  obtain ⟨rfl, p2⟩ := e2.2 rfl
  have p3 := p1.trans p2
  have r1 : v = V.int x := r1
  subst r1
  have hL : H2 l = some (.dK []) := p3.hh l _ upd_same
  have nF : F2 l = none := by
    cases hf : F2 l with
    | none => rfl
    | some o =>
      rcases p3.new l o hf with z | z
      · rw [none_of I.fh hl] at z; cases z
      · rw [upd_same] at z; cases z
  have hh : ∀ a u, H a = some u → (upd H2 l (.dK (mergeK [] [((.inl x : Key), w)]))) a = some u := fun a u ea => by
    have hne : a ≠ l := ne_of_none ea hl
    rw [upd_ne hne]
    exact p3.hh a u (by rw [upd_ne hne]; exact ea)
  refine ⟨hL, [((.inl x : Key), w)], rfl, by show 1 ≤ 15; decide, qq [(x, y)] ρ2 (.ref l) [l] F H F2 _ I (Gt.refl I.fh) ⟨hh, p3.ff, fun a u ea => ?_, fun a u ea => ?_⟩ ⟨by simp, fun a ha => ?_⟩ ⟨l, _, rfl, rfl, upd_same, .cons ⟨rfl, r2⟩ .nil⟩ g2⟩
  · by_cases hb : a = l
    · subst hb; rw [nF] at ea; cases ea
    · rw [upd_ne hb]; exact p3.fh a u ea
  · rcases p3.new a u ea with z | z
    · exact .inl z
    · by_cases hb : a = l
      · subst hb; exact .inr hl
      · rw [upd_ne hb] at z; exact .inr z
  · obtain rfl : a = l := by simpa using ha
    exact ⟨hl, nF, _, upd_same⟩
theorem dici_step {B : Base} {σ : L2.St} {F H : Hp} {ρ : Env Γ} {i : Nat} {k : Kd} (hk : k ≠ .co) (I : SInv B Γ σ F H ρ) (at_ : At Γ i (.m k (mDicI c))) : ∃ l ks, σ[i]? = some (some (.ref l)) ∧ H l = some (.dK ks) ∧ KVR c F ks (at_.get ρ) ∧
    ∀ ks' xs', KVR c F ks' xs' → SInv B Γ σ F (upd H l (.dK ks')) (at_.put ρ xs') := by
  obtain ⟨v, fp, h1, _, hr, nd, hfp, hst⟩ := I.mut at_
  obtain ⟨l, ks, rfl, rfl, hl, pv⟩ := hr
  refine ⟨l, ks, h1, hl, pv, fun ks' xs' pv' => hst hk F _ [l] xs' ⟨Ex.refl _, fun a o ha => ?_, fun a o ha hm => ?_, fun a o ha => ?_, fun a o ha => .inl ha, by simp, fun a ha => ?_⟩ ⟨l, ks', rfl, rfl, upd_same, pv'⟩⟩
  · rw [upd_ne (ne_of_none ha (hfp l (by simp)).1)]; exact I.fh a o ha
  · rw [upd_ne (by simpa using hm)]; exact ha
  · by_cases he : a = l
    · subst he; exact ⟨_, upd_same⟩
    · exact ⟨o, by rw [upd_ne he]; exact ha⟩
  · obtain rfl : a = l := by simpa using ha
    exact ⟨.inl (by simp), (hfp a (by simp)).1, _, upd_same⟩
theorem st_iput {i : Nat} {k : Kd} (hk : k ≠ .co) (at_ : At Γ i (.m k (mDicI c))) {T : (R : Type) → (c.α → Env Γ → Res R) → Env Γ → Res R} {Ti : (R : Type) → (Int → Env Γ → Res R) → Env Γ → Res R} (h : EvE p E XC Γ te c T) (hi : EvE p E XC Γ tb dInt Ti) :
    StE E XC Rt Γ (sDPut (tVar i) tb te) Γ ΓL (fun R nx rt bk ct ρ => T R (fun x ρ => Ti R (fun j ρ => chk (decide (List.length (α := Int × c.α) (at_.get ρ) < 16777216)) (nx (at_.put ρ (dput (α := c.α) (at_.get ρ) j x)))) ρ) ρ) := fun B σ F H ρ I R G hG nx rt bk ct D g qn qr qb qc =>
  h B σ F H ρ I R G hG _ _ g fun x ρ1 u F1 H1 I1 e1 r1 g1 => by
    obtain ⟨l0, ks0, h1, _⟩ := dici_step hk I1 at_
    refine ⟨.ref l0, h1, hi B σ F1 H1 ρ1 I1 R G hG _ _ g1 fun j ρ2 w F2 H2 I2 e2 r2 g2 => ?_⟩
    obtain ⟨l, ks, h2, hl, pv, hs⟩ := dici_step hk I2 at_
    rw [h1] at h2
    cases h2
    have r2 : w = V.int j := r2
    subst r2
    by_cases hx : List.length (α := Int × c.α) (at_.get ρ2) < 16777216
    · rw [decide_eq_true hx] at g2
      have hsz := sizeLine_eq
      have hpl := Paired.length pv
      exact ⟨l0, _, rfl, DPut.k (k := .inl j) hl (by rw [hsz, hpl]; exact hx), qn _ σ F2 _ (hs _ _ (pv.put (c.ext r1 e2.1))) (e1.1.trans e2.1) g2⟩
    · rw [decide_eq_false hx] at g2
      exact absurd g2 hG.1
theorem ev_fget {Ta : (R : Type) → (List (Int × c.α) → Env Γ → Res R) → Env Γ → Res R} {Tb : (R : Type) → (Int → Env Γ → Res R) → Env Γ → Res R} (ha : EvE p E XC Γ te (dDicF c) Ta) (hb : EvE p E XC Γ tb dInt Tb) :
    EvE p E XC Γ (tDGet te tb) c (fun R k ρ => Ta R (fun x ρ => Tb R (fun y ρ => opt (dget x y) fun z => k z ρ) ρ) ρ) := fun B σ F H ρ I R G hG k Q g q =>
  ha B σ F H ρ I R G hG _ _ g fun x ρ1 v F1 H1 I1 e1 r1 g1 => hb B σ F1 H1 ρ1 I1 R G hG _ _ g1 fun y ρ2 w F2 H2 I2 e2 r2 g2 => by
    obtain ⟨l, od, ks, rfl, hl, hk, _⟩ := (dDicF c).ext r1 e2.1
    obtain ⟨h1, h2⟩ := KVR.get (i := y) hk
    cases hz : dget x y with
    | none => rw [hz] at g2; exact absurd g2 hG.1
    | some z =>
      rw [hz] at g2
      obtain ⟨u, hu, ru⟩ := h1 z hz
      rw [show w = V.int y from r2]
      exact ⟨l, u, rfl, .inl ⟨ks, .inl y, .inr ⟨od, I2.fh l _ hl⟩, rfl, hu.symm⟩, q z ρ2 u F2 H2 I2 (e1.trans e2) ru g2⟩
theorem kvr_at {F : Hp} : ∀ {ks : List (Key × V)} {kvs : List (Int × c.α)} {i : Nat} {k : Key} {v : V}, KVR c F ks kvs → ks[i]? = some (k, v) → ∃ j, (kvs.map (·.1))[i]? = some j ∧ k = .inl j
  | _, _, _, _, _, .nil, e => by simp at e
  | _, _, 0, k, v, .cons (a := a) (b := b) r _, e => ⟨b.1, rfl, by
    have e : a = (k, v) := by simpa using e
    rw [e] at r
    exact r.1⟩
  | _, _, i + 1, _, _, .cons _ t, e => by
    obtain ⟨j, h1, h2⟩ := kvr_at t (i := i) (by simpa using e)
    exact ⟨j, by simpa using h1, h2⟩
/-- for k in d -/
theorem ei_keysF {T : (R : Type) → (List (Int × c.α) → Env Γ → Res R) → Env Γ → Res R} (h : EvE p E XC Γ te (dDicF c) T) : EvI p E XC Γ (iKeys te) dInt (fun R k ρ => T R (fun xs ρ => k (xs.map Prod.fst) ρ) ρ) := fun B σ F H ρ I R G hG k Q g qq =>
  h B σ F H ρ I R G hG _ _ g fun xs ρ' v F' H' I' e r g' => by
    obtain ⟨l, od, ks, rfl, hl, hk, hz⟩ := r
    have hlen : ks.length = (xs.map Prod.fst).length := by rw [List.length_map]; exact Paired.length hk
    have W : Walks (Itk l od ks) dInt (xs.map Prod.fst) F' := ⟨fun i H2 u H3 => H3 = H2 ∧ ∃ k v, ks[i]? = some (k, v) ∧ u = kV k, by
      rw [← hlen]
      exact walk_keys.mono (fun H2 e2 => e2 l _ hl) fun i H2 x H3 _ _ y => y, fun i H2 u H3 F1 y e1 e2 => by
      obtain ⟨rfl, k, v, hkv, rfl⟩ := y
      obtain ⟨j, h1, rfl⟩ := kvr_at hk hkv
      exact ⟨F1, j, h1, Pext.refl e2, rfl⟩⟩
    exact ⟨l, od, rfl, .inl ⟨ks, I'.fh l _ hl, qq _ ρ' _ F' H' I' e W g' (by rw [List.length_map]; exact hz)⟩⟩
/-! ### pop(0), insert(0, x) -/
theorem ev_pop0 {i : Nat} {k : Kd} (hk : k ≠ .co) (at_ : At Γ i (.m k (mLst c))) : EvE false E XC Γ (tBM K "list" rPopAt (tVar i) (tCons (tC (.int 0)) tNil)) c (fun R k ρ => opt (List.head? (α := c.α) (at_.get ρ)) fun x => k x (at_.put ρ (List.tail (α := c.α) (at_.get ρ)))) := fun B σ F H ρ I R G hG k Q g q => by
  obtain ⟨l, vs, h1, hl, pv, hz, hs⟩ := lst_step hk I at_
  refine ⟨.ref l, h1, .inl ⟨rfl, vs, SqL.of hl⟩, ?_⟩
  have g : G (opt (List.head? (α := c.α) (at_.get ρ)) fun x => k x (at_.put ρ (List.tail (α := c.α) (at_.get ρ)))) := g
  generalize hx : (at_.get ρ) = xs at g pv hz
  match xs, vs, pv with
  | [], _, _ => exact absurd g hG.1
  | x :: xs, v :: vs, .cons r t =>
    refine ⟨l, v :: vs, 0, 0, v, rfl, rfl, hl, by decide, by decide, seqIndex_of (by decide) (by rw [List.length_cons]; omega), rfl, ?_⟩
    have hz' : (x :: xs).length ≤ sizeLine := hz
    exact q x _ v F _ (hs vs xs t (by rw [List.length_cons] at hz'; omega)) ⟨Ex.refl F, fun z => nomatch z⟩ r g
theorem st_ins0 {i : Nat} {k : Kd} (hk : k ≠ .co) (at_ : At Γ i (.m k (mLst c))) {T : (R : Type) → (c.α → Env Γ → Res R) → Env Γ → Res R} (h : EvE p E XC Γ te c T) :
    StE E XC Rt Γ (tDrop (tBM K "list" (fun x vs H Q => ∃ (l : Addr) (xs : List V) (i : Int) (y : V), x = .ref l ∧ vs = [.int i, y] ∧ H l = some (.lst xs) ∧ xs.length < sizeLine ∧ 0 ≤ i ∧ i < 2 ^ 63 ∧ Q .non (upd H l (.lst (xs.take i.toNat ++ [y] ++ xs.drop i.toNat)))) (tVar i) (tCons (tC (.int 0)) (tCons te tNil)))) Γ ΓL (fun R nx rt bk ct ρ => T R (fun x ρ => chk (decide (List.length (α := c.α) (at_.get ρ) < 16777216)) (nx (at_.put ρ (List.cons (α := c.α) x (at_.get ρ))))) ρ) := fun B σ F H ρ I R G hG nx rt bk ct D g qn qr qb qc => by
  obtain ⟨l0, vs0, h1, hl0, _⟩ := lst_step hk I at_
  refine ⟨.ref l0, h1, .inl ⟨rfl, vs0, SqL.of hl0⟩, h B σ F H ρ I R G hG _ _ g fun x ρ1 u F1 H1 I1 e1 r1 g1 => ?_⟩
  obtain ⟨l, vs, h2, hl, pv, hz, hs⟩ := lst_step hk I1 at_
  rw [h1] at h2
  cases h2
  by_cases hx : List.length (α := c.α) (at_.get ρ1) < 16777216
  · rw [decide_eq_true hx] at g1
    have hsz := sizeLine_eq
    have hpl := pv.length
    exact ⟨l0, vs, 0, u, rfl, rfl, hl, by omega, by decide, by decide, qn _ σ F1 _ (hs (u :: vs) (List.cons (α := c.α) x (at_.get ρ1)) (.cons r1 pv) (by show List.length (α := c.α) (at_.get ρ1) + 1 ≤ sizeLine; omega)) e1.1 g1⟩
  · rw [decide_eq_false hx] at g1
    exact absurd g1 hG.1
/-- return d: a local dict is handed out, to be changed by nobody any more -/
theorem st_retDI {Γ' : List Sl} {i : Nat} (at_ : At Γ i (.m .lo (mDicI c))) : StE E XC (retD (dDicF c)) Γ (tRet (tLockD (tVar i))) Γ' ΓL (fun R nx rt bk ct ρ => chk (decide (List.length (α := Int × c.α) (at_.get ρ) ≤ 16777216)) (rt (at_.get ρ) ())) := fun B σ F H ρ I R G hG nx rt bk ct D g qn qr qb qc => by
  obtain ⟨v, fp, h1, _, hr, nd, hfp, _⟩ := I.mut at_
  obtain ⟨l, ks, rfl, rfl, hl, pv⟩ := hr
  obtain ⟨f1, _, _, f4⟩ := hfp l (by simp)
  have g : G (chk (decide (List.length (α := Int × c.α) (at_.get ρ) ≤ 16777216)) (rt (at_.get ρ) ())) := g
  by_cases hx : List.length (α := Int × c.α) (at_.get ρ) ≤ 16777216
  · rw [decide_eq_true hx] at g
    have hsz := sizeLine_eq
    refine ⟨_, h1, l, _, rfl, hl, True.intro, fun od => qr _ () _ (upd F l (.frz od (.dK ks))) _ (fun hM hN => ?_) ⟨l, od, ks, rfl, upd_same, pv.ext (Ex.new f1), by rw [hsz]; exact hx⟩ g⟩
    have pp := I.pextB hM hN
    have nB : B.H l = none := by
      rcases f4 rfl with z | z
      · rw [hN] at z; cases z
      · exact z
    refine ⟨fun a o ha => ?_, pp.ff.trans (Ex.new f1), fun a o ha => ?_, fun a o ha => ?_⟩
    · have hne : a ≠ l := ne_of_none ha nB
      rw [upd_ne hne]; exact pp.hh a o ha
    · by_cases he : a = l
      · subst he; rw [upd_same] at ha ⊢; exact ha
      · rw [upd_ne he] at ha ⊢; exact I.fh a o ha
    · by_cases he : a = l
      · subst he; exact .inr nB
      · rw [upd_ne he] at ha; exact pp.new a o ha
  · rw [decide_eq_false hx] at g
    exact absurd g hG.1
end
section
variable {p : Bool} {E : XK} {XC : Str → Value} {Γ Γ' : List Sl} {te : TE} {c : DCod}
/-- a new list, by a reading that may itself change the slots of the reading -/
theorem ev_frzLM {T : (R : Type) → (List c.α → Env Γ' → Res R) → Env Γ' → Res R} (fz : FzG Γ Γ') (und : Und c) (h : EvN false E XC Γ' te (mLst c) T) : EvE p E XC Γ te (dLst c) (fun R k ρ => T R (fun x _ => k x ρ) (fz.conv ρ)) := freeze (fun B σ F H ρ I R G hG k Q g q => by
  obtain ⟨L, r, w⟩ := id I
  have hno : ∀ a, a ∈ L.map (·.2) → F a = none := fun a ha => by
    obtain ⟨⟨kk, b⟩, hb, e⟩ := List.mem_map.mp ha
    have e : b = a := e
    subst e
    exact (w.fr kk b hb).1
  have hin : ∀ k a, (k, a) ∈ L → a ∈ L.map (·.2) := fun k a ha => List.mem_map.mpr ⟨_, ha, rfl⟩
  have eF : Ex F (frz F H (L.map (·.2))) := fun a o ha => by
    unfold frz
    rw [if_neg fun hm => by rw [hno a hm] at ha; cases ha]; exact ha
  have hfz : ∀ a, a ∈ L.map (·.2) → frz F H (L.map (·.2)) a = H a := fun a ha => by unfold frz; rw [if_pos ha]
  have r' := fz.rel eF r fun k a ha => hfz a (hin k a ha)
  have hmu := fz.mu r
  have eFH : Ex (frz F H (L.map (·.2))) H := fun a o ha => by
    unfold frz at ha
    by_cases hm : a ∈ L.map (·.2)
    · rw [if_pos hm] at ha; exact ha
    · rw [if_neg hm] at ha; exact w.fh a o ha
  have I' : SInv ⟨frz F H (L.map (·.2)), H, [], [], [], B.τ⟩ Γ' σ (frz F H (L.map (·.2))) H (fz.conv ρ) :=
    ⟨[], r', ⟨by simp, fun k a ha => (nomatch ha), eFH, Ex.refl _, fun a o h _ _ => h, fun a o h => ⟨o, h⟩, fun a o h => .inl h, fun a ha => (nomatch ha), fun a ha => (nomatch ha), fun a ha => (nomatch ha)⟩⟩
  refine h _ σ _ H _ I' R G ⟨hG.1, fun n H' gn f => hG.2 n H' gn fun a o h1 h2 h3 => f a o (w.keep a o h1 h2 h3) (by simp) (by simp)⟩ _ Q g fun x ρ' v fp F0 H0 F' H' I1 e1 pq nw r1 g1 => ?_
  have pe : Pext (frz F H (L.map (·.2))) F0 H H0 := I1.pextB rfl rfl
  have pp : Pext F (thaw F0 (L.map (·.2))) H H0 := by
    refine ⟨pe.hh, fun a o ha => ?_, fun a o ha => ?_, fun a o ha => ?_⟩
    · unfold thaw
      rw [if_neg fun hm => by rw [hno a hm] at ha; cases ha]
      exact pe.ff a o (eF a o ha)
    · unfold thaw at ha
      by_cases hm : a ∈ L.map (·.2)
      · rw [if_pos hm] at ha; cases ha
      · rw [if_neg hm] at ha; exact pe.fh a o ha
    · unfold thaw at ha
      by_cases hm : a ∈ L.map (·.2)
      · rw [if_pos hm] at ha; cases ha
      · rw [if_neg hm] at ha
        rcases pe.new a o ha with z | z
        · unfold frz at z
          rw [if_neg hm] at z; exact .inl z
        · exact .inr z
  have p2 : Pext (thaw F0 (L.map (·.2))) (thaw F' (L.map (·.2))) H0 H' := by
    refine ⟨pq.hh, fun a o ha => ?_, fun a o ha => ?_, fun a o ha => ?_⟩
    · unfold thaw at ha ⊢
      by_cases hm : a ∈ L.map (·.2)
      · rw [if_pos hm] at ha; cases ha
      · rw [if_neg hm] at ha ⊢; exact pq.ff a o ha
    · unfold thaw at ha
      by_cases hm : a ∈ L.map (·.2)
      · rw [if_pos hm] at ha; cases ha
      · rw [if_neg hm] at ha; exact pq.fh a o ha
    · unfold thaw at ha
      by_cases hm : a ∈ L.map (·.2)
      · rw [if_pos hm] at ha; cases ha
      · rw [if_neg hm] at ha
        rcases pq.new a o ha with z | z
        · left; unfold thaw; rw [if_neg hm]; exact z
        · exact .inr z
  have nw2 : New fp H0 (thaw F' (L.map (·.2))) H' := ⟨nw.nd, fun a ha => ⟨(nw.at_ a ha).1, thaw_no (nw.at_ a ha).2.1, (nw.at_ a ha).2.2⟩⟩
  refine q x ρ v fp _ H0 _ H' (I.pext pp) ⟨pp.ff, fun _ => ⟨rfl, pp⟩⟩ p2 nw2 ?_ g1
  obtain ⟨l, vs, h1, h0, hl, pv, hz⟩ := r1
  refine ⟨l, vs, h1, h0, hl, pv_und und (fun a ha o ho => ?_) pv, hz⟩
  obtain ⟨⟨kk, b⟩, hb, e⟩ := List.mem_map.mp ha
  have e : b = a := e
  subst e
  obtain ⟨_, o', ho'⟩ := w.fr kk b hb
  have h1 : F' b = some o' := pq.ff b o' (pe.ff b o' ((hfz b ha).trans ho'))
  rw [h1] at ho; cases ho
  exact hmu kk b hb _ ho')
theorem ev_frzM {T : (R : Type) → (c.α → Env Γ' → Res R) → Env Γ' → Res R} (fz : FzG Γ Γ') (und : Und c) (h : EvE false E XC Γ' te c T) : EvE p E XC Γ te c (fun R k ρ => T R (fun x _ => k x ρ) (fz.conv ρ)) := fun B σ F H ρ I R G hG k Q g q => by
  obtain ⟨L, r, w⟩ := id I
  have hno : ∀ a, a ∈ L.map (·.2) → F a = none := fun a ha => by
    obtain ⟨⟨kk, b⟩, hb, e⟩ := List.mem_map.mp ha
    have e : b = a := e
    subst e
    exact (w.fr kk b hb).1
  have hin : ∀ k a, (k, a) ∈ L → a ∈ L.map (·.2) := fun k a ha => List.mem_map.mpr ⟨_, ha, rfl⟩
  have eF : Ex F (frz F H (L.map (·.2))) := fun a o ha => by
    unfold frz
    rw [if_neg fun hm => by rw [hno a hm] at ha; cases ha]; exact ha
  have hfz : ∀ a, a ∈ L.map (·.2) → frz F H (L.map (·.2)) a = H a := fun a ha => by unfold frz; rw [if_pos ha]
  have r' := fz.rel eF r fun k a ha => hfz a (hin k a ha)
  have hmu := fz.mu r
  have eFH : Ex (frz F H (L.map (·.2))) H := fun a o ha => by
    unfold frz at ha
    by_cases hm : a ∈ L.map (·.2)
    · rw [if_pos hm] at ha; exact ha
    · rw [if_neg hm] at ha; exact w.fh a o ha
  have I' : SInv ⟨frz F H (L.map (·.2)), H, [], [], [], B.τ⟩ Γ' σ (frz F H (L.map (·.2))) H (fz.conv ρ) :=
    ⟨[], r', ⟨by simp, fun k a ha => (nomatch ha), eFH, Ex.refl _, fun a o h _ _ => h, fun a o h => ⟨o, h⟩, fun a o h => .inl h, fun a ha => (nomatch ha), fun a ha => (nomatch ha), fun a ha => (nomatch ha)⟩⟩
  refine h _ σ _ H _ I' R G ⟨hG.1, fun n H' gn f => hG.2 n H' gn fun a o h1 h2 h3 => f a o (w.keep a o h1 h2 h3) (by simp) (by simp)⟩ _ Q g fun x ρ' v F' H' I1 e1 r1 g1 => ?_
  have pe : Pext (frz F H (L.map (·.2))) F' H H' := I1.pextB rfl rfl
  have pp : Pext F (thaw F' (L.map (·.2))) H H' := by
    refine ⟨pe.hh, fun a o ha => ?_, fun a o ha => ?_, fun a o ha => ?_⟩
    · unfold thaw
      rw [if_neg fun hm => by rw [hno a hm] at ha; cases ha]
      exact pe.ff a o (eF a o ha)
    · unfold thaw at ha
      by_cases hm : a ∈ L.map (·.2)
      · rw [if_pos hm] at ha; cases ha
      · rw [if_neg hm] at ha; exact pe.fh a o ha
    · unfold thaw at ha
      by_cases hm : a ∈ L.map (·.2)
      · rw [if_pos hm] at ha; cases ha
      · rw [if_neg hm] at ha
        rcases pe.new a o ha with z | z
        · unfold frz at z
          rw [if_neg hm] at z; exact .inl z
        · exact .inr z
  refine q x ρ v _ H' (I.pext pp) ⟨pp.ff, fun _ => ⟨rfl, pp⟩⟩ (und F' _ v x (fun a ha o ho => ?_) r1) g1
  obtain ⟨⟨kk, b⟩, hb, e⟩ := List.mem_map.mp ha
  have e : b = a := e
  subst e
  obtain ⟨_, o', ho'⟩ := w.fr kk b hb
  have h1 : F' b = some o' := pe.ff b o' ((hfz b ha).trans ho')
  rw [h1] at ho; cases ho
  exact hmu kk b hb _ ho'
/-- a tuple that may be None -/
theorem some_tun {c : DCod} : ∀ (F : Hp) (v : V) (x : (dTuN c).α), (dTuN c).rel F v x → (dOpt (dTuN c)).rel F v (some x) := fun F v x h => by
  obtain ⟨a, vs, ob, rfl, h2⟩ := id h
  exact ⟨h, fun z => nomatch z⟩
theorem o_some {c : DCod} : ∀ (F : Hp) (v : V) (x : (dOpt c).α) (y : c.α), (dOpt c).rel F v x → x = some y → c.rel F v y := fun F v x y h e => by subst e; exact h.1
end
/-- tuple(range(n)) -/
theorem ev_tupRg {p : Bool} {E : XK} {XC : Str → Value} {Γ : List Sl} {ta : TE} {Ta : (R : Type) → (Int → Env Γ → Res R) → Env Γ → Res R} (h : EvE p E XC Γ ta dInt Ta) : EvE p E XC Γ (tTupRg (tRg1 ta)) (dTup dInt) (fun R k ρ => Ta R (fun n ρ => opt (rng n) fun xs => k xs ρ) ρ) := fun B σ F H ρ I R G hG k Q g q =>
  h B σ F H ρ I R G hG _ _ g fun n ρ' v F' H' I' e r g' => by
    by_cases hx : -(2 ^ 62) ≤ (n : Int) ∧ (n : Int) ≤ 16777216
    · have hr : rng n = some (rngL n) := if_pos hx
      rw [hr] at g'
      have h2 : (n : Int) ≤ 16777216 := hx.2
      refine ⟨n, r, rg_ok hx.1 h2, fun l hl => ?_⟩
      rw [show rgV 0 n = (rngL n).map V.int from rgV_rngL n]
      exact q (rngL n) ρ' (.ref l) _ _ (I'.pext (Pext.one I'.fh hl)) (e.pext (Pext.one I'.fh hl)) ⟨l, _, rfl, .inl upd_same, ints_to _, rngL_len h2⟩ g'
    · have hr : rng n = none := if_neg hx
      rw [hr] at g'
      exact absurd g' hG.1
end Pu
set_option Elab.async false
set_option linter.all false
set_option maxRecDepth 100000
set_option maxHeartbeats 4000000
namespace Pu
open PySem PySem.Spec PyProof.Rows L2 Evl
section
variable {K : PySem.W.Frag} {c : DCod}
/-! ### sum and min of a list of whole numbers -/
theorem o_sum : Op1b (rSum K) (dLst dInt) dInt (fun xs => xs.sum) := fun F H v x Q e h k => by
  obtain ⟨a, vs, rfl, g2, g3, g4⟩ := h
  rw [ints_of g3] at g2
  exact ⟨a, x, rfl, SqL.of (e a _ g2), k _ F H (Pext.refl e) rfl⟩
theorem o_minL : Op1bP (rMin K) (dLst dInt) dInt minI := fun F H v x z Q e h hz k => by
  obtain ⟨a, vs, rfl, g2, g3, g4⟩ := h
  rw [ints_of g3] at g2
  cases x with
  | nil => cases hz
  | cons y ys =>
    have hz : some (ys.foldl (fun m y => if y < m then y else m) y) = some z := hz
    cases hz
    obtain ⟨f1, f2⟩ := foldl_min ys y
    refine ⟨a, y :: ys, rfl, SqL.of (e a _ g2), by simp, fun m hm hle => ?_⟩
    have hmm : m = ys.foldl (fun m y => if y < m then y else m) y := Int.le_antisymm (hle _ f1) (f2 m hm)
    rw [hmm]
    exact k _ F H (Pext.refl e) rfl
end
/-! ### xs.index(x), a list that is data -/
section
variable {p : Bool} {E : XK} {XC : Str → Value} {K : PySem.W.Frag} {Γ : List Sl} {ta tb : TE} {c : DCod}
theorem ev_indexL (q : Fl c) {Ta : (R : Type) → (List c.α → Env Γ → Res R) → Env Γ → Res R} {Tb : (R : Type) → (c.α → Env Γ → Res R) → Env Γ → Res R} (ha : EvE p E XC Γ ta (dLst c) Ta) (hb : EvE p E XC Γ tb c Tb) :
    EvE p E XC Γ (tBM K "list" (rIndex K) ta (tCons tb tNil)) dInt (fun R k ρ => Ta R (fun x ρ => Tb R (fun y ρ => opt (indexL q.dec x y) fun z => k z ρ) ρ) ρ) := fun B σ F H ρ I R G hG k Q g qq =>
  ha B σ F H ρ I R G hG _ _ g fun x ρ1 v F1 H1 I1 e1 r1 g1 => by
    obtain ⟨l, vs, rfl, h2, h5, h6⟩ := r1
    refine ⟨.inl ⟨rfl, vs, SqL.of (I1.fh l _ h2)⟩, hb B σ F1 H1 ρ1 I1 R G hG _ _ g1 fun y ρ2 w F2 H2 I2 e2 r2 g2 => ?_⟩
    cases hn : indexL q.dec x y with
    | none => rw [hn] at g2; exact absurd g2 hG.1
    | some n =>
      rw [hn] at g2
      have pv := h5.ext e2.1
      obtain ⟨j, z, rfl, g3, g4, g5⟩ := indexL_get q r2 pv hn
      exact ⟨l, vs, w, j, z, rfl, rfl, SqL.of (I2.fh l _ (e2.1 l _ h2)), q.flat r2, fl_all q pv, g3, g4, g5, qq _ ρ2 _ F2 H2 I2 (e1.trans e2) rfl g2⟩
/-- of a list that may change -/
theorem ev_indexM {i : Nat} {k : Kd} (q : Fl c) (at_ : At Γ i (.m k (mLst c))) {Tb : (R : Type) → (c.α → Env Γ → Res R) → Env Γ → Res R} (hb : EvE p E XC Γ tb c Tb) :
    EvE p E XC Γ (tBM K "list" (rIndex K) (tVar i) (tCons tb tNil)) dInt (fun R k ρ => Tb R (fun y ρ => opt (indexL (α := c.α) q.dec (at_.get ρ) y) fun z => k z ρ) ρ) := fun B σ F H ρ I R G hG k Q g qq => by
  obtain ⟨v, fp, h1, _, hr, _⟩ := I.mut at_
  obtain ⟨l, vs, rfl, rfl, hl, pv, hz⟩ := hr
  refine ⟨_, h1, .inl ⟨rfl, vs, SqL.of hl⟩, hb B σ F H ρ I R G hG _ _ g fun y ρ2 w F2 H2 I2 e2 r2 g2 => ?_⟩
  obtain ⟨v2, fp2, h12, _, hr2, _⟩ := I2.mut at_
  obtain ⟨l2, vs2, rfl, rfl, hl2, pv2, hz2⟩ := hr2
  have hll : l2 = l := by
    have := h12.symm.trans h1
    cases this
    rfl
  subst hll
  cases hn : indexL (α := c.α) q.dec (at_.get ρ2) y with
  | none => rw [hn] at g2; exact absurd g2 hG.1
  | some n =>
    rw [hn] at g2
    obtain ⟨j, z, rfl, g3, g4, g5⟩ := indexL_get q r2 pv2 hn
    exact ⟨l2, vs2, w, j, z, rfl, rfl, SqL.of hl2, q.flat r2, fl_all q pv2, g3, g4, g5, qq _ ρ2 _ F2 H2 I2 e2 rfl g2⟩
/-- len of a dict by whole numbers that may change -/
theorem ev_lenMI {i : Nat} {k : Kd} (at_ : At Γ i (.m k (mDicI c))) : EvE p E XC Γ (tCB (fun xs H Q => ∃ a kvs, xs = [V.ref a] ∧ H a = some (.dK kvs) ∧ Q (.int kvs.length) H) (tCons (tVar i) tNil)) dInt (fun R kk ρ => kk (List.length (α := Int × c.α) (at_.get ρ) : Int) ρ) := fun B σ F H ρ I R G hG kk Q g qq => by
  obtain ⟨v, fp, h1, _, hr, _⟩ := I.mut at_
  obtain ⟨l, ks, rfl, rfl, hl, pv⟩ := hr
  exact ⟨_, h1, l, ks, rfl, hl, qq _ ρ _ F H I (Gt.refl I.fh) (by rw [pv.length]) g⟩
end
end Pu
set_option Elab.async false
set_option linter.all false
set_option maxRecDepth 100000
set_option maxHeartbeats 4000000
namespace Pu
open PySem PySem.Spec PyProof.Rows L2 Evl
section
variable {p : Bool} {E : XK} {XC : Str → Value} {Rt : Ret} {K : PySem.W.Frag} {Γ Γ' Γ0 Γ1 Γ2 ΓL Γf : List Sl} {te tk tv ta tb tc : TE} {tt tu : TT} {tA : TA} {ti : TI} {tg : TG} {a b c d : DCod} {m m2 : Cod} {cs : List DCod} {ts us : TS} {C : Addr} {names : List Str} {i j : Nat} {k : Kd} {f : Str}
/-- a dict comprehension with a condition -/
theorem en_dcT {vs is : List Nat} {q : Bool} {f : Env Γ → a.α → Env Γ1} {T0 : (R : Type) → (List a.α → Env Γ → Res R) → Env Γ → Res R} {Tt : (R : Type) → (Bool → Env Γ1 → Res R) → Env Γ1 → Res R} {Tk : (R : Type) → (Int → Env Γ1 → Res R) → Env Γ1 → Res R} {Tv : (R : Type) → (c.α → Env Γ1 → Res R) → Env Γ1 → Res R}
    (hv : allNo Γ vs = true) (his : ∀ i, i ∈ is → i ∈ vs) (bk : Bk Γ1 Γ) (h : EvI false E XC Γ ti a T0) (ht : TgE Γ tg a Γ1 f is) (hc : EvT q E0 XC Γ1 tt Tt) (hk : EvE q E0 XC Γ1 tk dInt Tk) (he : EvE q E0 XC Γ1 tv c Tv) :
    EvE false E XC Γ (tDc ti tg tt tk tv vs) (dDict c) (fun R k ρ => T0 R (fun xs ρ => opt (compL (fun x ρ0 => Tt _ (fun b ρ9 => if b = true then Tk _ (fun y ρ1 => Tv _ (fun z ρ2 => .ok (some (y, z), bk.f ρ2)) ρ1) ρ9 else .ok (none, bk.f ρ9)) (f ρ0 x)) xs ρ) fun ys => k (dmerge [] ys.1) ys.2) ρ) := fun B σ F H ρ I R G hG k Q g qq => by
  refine h B σ F H ρ I R G hG _ _ g fun xs ρ1 J F1 H1 I1 e1 w g1 hz D hD => ?_
  obtain ⟨Y, w, hy⟩ := w.ex
  generalize hcl : compL (fun x ρ0 => Tt _ (fun b ρ9 => if b = true then Tk _ (fun y ρ1 => Tv _ (fun z ρ2 => Res.ok (some (y, z), bk.f ρ2)) ρ1) ρ9 else Res.ok (none, bk.f ρ9)) (f ρ0 x)) xs ρ1 = cl at g1
  cases cl with
  | none => exact absurd g1 hG.1
  | some ys =>
  obtain ⟨ys, ρe⟩ := ys
  have g1 : G (k (dmerge [] ys) ρe) := g1
  have S0 : SApart B Γ σ F1 (upd H1 D (.dK [])) ρ1 D := I1.apart hD
  refine dc_it w (g := tg) (tt := tt) (tk := tk) (tv := tv) (vs := vs) (σ := σ) (fun i H' => i ≤ xs.length ∧ ∃ F' ρ0 acc vs' rest, SApart B Γ (wipe σ vs) F' H' ρ0 D ∧ Ex F1 F' ∧ H' D = some (.dK vs') ∧ KVR c F' vs' (dmerge [] acc) ∧ acc.length ≤ i ∧ compL (fun x ρ0 => Tt _ (fun b ρ9 => if b = true then Tk _ (fun y ρ1 => Tv _ (fun z ρ2 => Res.ok (some (y, z), bk.f ρ2)) ρ1) ρ9 else Res.ok (none, bk.f ρ9)) (f ρ0 x)) (xs.drop i) ρ0 = some (rest, ρe) ∧ ys = acc ++ rest)
    ⟨Nat.zero_le _, F1, ρ1, [], [], ys, S0.wiped hv, Ex.refl _, upd_same, .nil, Nat.le_refl _, hcl, rfl⟩ (fun i H' _ ⟨_, F', _, _, _, _, S, e', _⟩ => e'.trans S.inv.fh) ?_ ?_
  · rintro i v H' H2 hi ⟨_, F', ρ0, acc, vs', rest, S, e', hDl, pv, hacc, hcl', hys⟩ y
    obtain ⟨F2, x, hx, pp, r⟩ := hy i H' v H2 F' y e' S.inv.fh
    obtain ⟨hlt, hxe⟩ := List.getElem?_eq_some_iff.mp hx
    have ed : xs.drop i = x :: xs.drop (i + 1) := by rw [← hxe]; exact (List.drop_eq_getElem_cons hlt)
    rw [ed] at hcl'
    obtain ⟨o, ρ3, ys', hbody, hrest, hrr⟩ := compL_cons hcl'
    obtain ⟨B2, I2, hfr, back⟩ := S.go hDl
    have I2' := I2.pext pp
    refine ht B2 _ F2 H2 ρ0 v x I2' r _ fun σ3 I3 hag hln => ⟨?_, ?_⟩
    · have ew : wipe σ3 vs = wipe (wipe σ vs) vs := wipe_eq hln fun j hj => hag j fun z => hj (his j z)
      rw [ew]
      exact wipe_eq (wipe_length _ _) fun j hj => wipe_get _ _ _ hj
    · refine hc B2 σ3 F2 H2 _ I3 _ (fun r => r = Res.ok (o, ρ3)) (rs0 (fun z => nomatch z) fun n z => nomatch z) _ _ hbody fun bb ρ9 F9 H9 I9 e9 g9 => ?_
      have hup : ∀ {Fz Hz : Hp} {ρz : Env Γ1}, SInv B2 Γ1 σ3 Fz Hz ρz → SApart B Γ (wipe σ vs) Fz Hz (bk.f ρz) D ∧ Hz D = some (.dK vs') := fun {Fz Hz ρz} Iz => by
        obtain ⟨Sz, hz⟩ := back _ _ _ _ _ (bk.inv Iz)
        have e3 : wipe σ3 vs = wipe σ vs := by
          have ew : wipe σ3 vs = wipe (wipe σ vs) vs := wipe_eq hln fun j hj => hag j fun z => hj (his j z)
          rw [ew]
          exact wipe_eq (wipe_length _ _) fun j hj => wipe_get _ _ _ hj
        have S2 := Sz.wiped hv
        rw [e3] at S2
        exact ⟨S2, hz⟩
      have hsl := sizeLine_eq
      cases bb with
      | true =>
        rw [if_pos rfl] at g9 ⊢
        refine hk B2 σ3 F9 H9 _ I9 _ (fun r => r = Res.ok (o, ρ3)) (rs0 (fun z => nomatch z) fun n z => nomatch z) _ _ g9 fun kx ρ4 u4 F4 H4 I4 e4 r4 g4 => ?_
        refine he B2 σ3 F4 H4 ρ4 I4 _ (fun r => r = Res.ok (o, ρ3)) (rs0 (fun z => nomatch z) fun n z => nomatch z) _ _ g4 fun y ρ5 u F5 H5 I5 e5 r5 g5 => ?_
        cases g5
        obtain ⟨S5, h5⟩ := hup I5
        have pv5 := pv.ext (((pp.ff.trans e9.1).trans e4.1).trans e5.1)
        refine ⟨vs', .inl kx, r4, h5, ?_, hlt, F5, _, acc ++ [(kx, y)], _, ys', S5.upd, (((e'.trans pp.ff).trans e9.1).trans e4.1).trans e5.1, upd_same, ?_, ?_, hrest, ?_⟩
        · have := dmerge_len acc []
          have h2 : vs'.length = (dmerge [] acc).length := Paired.length pv5
          simp only [List.length_nil, Nat.zero_add] at this
          omega
        · rw [dmerge_snoc]; exact pv5.put r5
        · rw [List.length_append]; show _ + 1 ≤ _; omega
        · rw [hys, hrr]; simp
      | false =>
        rw [if_neg (by decide)] at g9 ⊢
        cases g9
        obtain ⟨S5, h5⟩ := hup I9
        exact ⟨hlt, F9, _, acc, vs', ys', S5, (e'.trans pp.ff).trans e9.1, h5, pv.ext (pp.ff.trans e9.1), by omega, hrest, by rw [hys, hrr]; simp⟩
  · rintro H' ⟨_, F', ρ0, acc, vs', rest, S, e', hDl, pv, hacc, hcl', hys⟩
    rw [List.drop_length] at hcl'
    cases hcl'
    rw [List.append_nil] at hys
    subst hys
    have S2 := S.unwiped hv
    obtain ⟨L2, r2, w2, hn2, hF2, hB2⟩ := S2
    -- the dict joins what never changes
    have hne : ∀ a o, F' a = some o → a ≠ D := fun a o ha e => by rw [e, hF2] at ha; cases ha
    have w3 : Wd B (upd F' D (.dK vs')) H' L2 := ⟨w2.nd, fun k a ha => by
        obtain ⟨q1, o, q2⟩ := w2.fr k a ha
        have hne2 : a ≠ D := fun z => hn2 k (by rw [← z]; exact ha)
        exact ⟨by rw [upd_ne hne2]; exact q1, o, q2⟩, fun a u hu => by
          by_cases hb : a = D
          · subst hb; rw [upd_same] at hu; cases hu; exact hDl
          · rw [upd_ne hb] at hu; exact w2.fh a u hu, w2.bf.trans (Ex.new hF2), w2.keep, w2.there, fun a u hu => by
          by_cases hb : a = D
          · subst hb; exact .inr hB2
          · rw [upd_ne hb] at hu; exact w2.new a u hu, w2.own, w2.loc, w2.con⟩
    exact qq (dmerge [] ys) ρe (.ref D) (upd F' D (.dK vs')) H' ⟨L2, r2.ext (Ex.new hF2) fun _ _ _ => rfl, w3⟩ ⟨(e1.1.trans e').trans (Ex.new hF2), fun z => nomatch z⟩ ⟨D, vs', rfl, upd_same, pv.ext (Ex.new hF2)⟩ g1
end
end Pu
set_option Elab.async false
set_option linter.all false
set_option maxRecDepth 100000
set_option maxHeartbeats 4000000
/-! sorted(set(..)) of tuples of whole numbers, however long each -/
namespace PuU
open PySem PySem.Spec PyProof.Rows L2 SrtO
section
variable {prog : Program} {w : World} {A : Around} {E : Value → Shared → Prop} {s : Shared}
theorem lex_any {Q : Bool → Shared → Prop} {b fin : Bool} {xs ys : List Value} {ns ms : List Int} (i : Nat) (hx : IntsAre xs ns) (hy : IntsAre ys ms) (hf : fin = decide (ns.length < ms.length)) (h : Q (HT.lexLt ns ms) s) :
    PySem.W.KatLex prog w A b fin Q (xs.zip ys) i s := by
  subst hf
  induction hx generalizing ys ms i with
  | nil =>
    rw [List.zip_nil_left]
    refine PySem.W.kat_nil ?_
    cases hy with
    | nil => exact h
    | cons _ _ _ => exact h
  | @cons p t xs ns hx ih =>
    cases hy with
    | nil => exact PySem.W.kat_nil h
    | @cons q u ys ms hy =>
      refine PySem.W.kat_cons (wpAny_eqBool_int ?_)
      have el : decide ((p :: ns).length < (q :: ms).length) = decide (ns.length < ms.length) := decide_eq_decide.mpr (by rw [List.length_cons, List.length_cons]; omega)
      rw [el]
      rw [HT.lexLt_cons] at h
      by_cases e : p = q
      · rw [if_pos e] at h
        rw [show (p == q) = true from beq_iff_eq.mpr e]
        exact PySem.W.kat_yes (ih (i + 1) hy h)
      · rw [if_neg e] at h
        rw [show (p == q) = false from beq_eq_false_iff_ne.mpr e]
        exact PySem.W.kat_no (TS.oneLt_ints _ h)
theorem firsts {h : Heap} {k : Value → List Int} : ∀ vs : List Value, (∀ v ∈ vs, TS.TupInts h v (k v) ∧ k v ≠ []) → ∃ fs, PySem.W.KatTups h vs fs ∧ fs.length = vs.length ∧ ∀ f, f ∈ fs → ∃ n t, f = Value.int n t
  | [], _ => ⟨[], PySem.W.KatTups.nil, rfl, fun f z => nomatch z⟩
  | v :: vs, x => by
    obtain ⟨fs, g1, g2, g3⟩ := firsts vs fun u hu => x u (List.mem_cons_of_mem _ hu)
    obtain ⟨⟨a, xs, ev, ⟨o, ho, hc, n, hd⟩, i⟩, ne⟩ := x v (List.mem_cons_self ..)
    generalize k v = ns at i ne
    subst ev
    cases hx : xs.toList with
    | nil =>
      rw [hx] at i
      cases i
      exact absurd rfl ne
    | cons y ys =>
      rw [hx] at i
      cases i with
      | cons m t i =>
        refine ⟨Value.int m t :: fs, PySem.W.KatTups.cons ho hc hd ?_ g1, by rw [List.length_cons, List.length_cons, g2], fun f hf => ?_⟩
        · rw [← Array.getElem?_toList, hx]; rfl
        · rcases List.mem_cons.mp hf with rfl | hf
          · exact ⟨m, t, rfl⟩
          · exact g3 f hf
theorem tups_sortable {a : Addr} {vs : List Value} {k : Value → List Int} (h0 : 0 < vs.length) (hp : ∀ v ∈ vs, TS.TupInts s.heap v (k v) ∧ k v ≠ []) (ha : ∀ o, s.heap.get? a = some o → o.cls ≠ .type "tuple") :
    SortableO prog w A s a vs fun v u => HT.lexLt (k v) (k u) := by
  intro h' keep
  have hp' : ∀ v ∈ vs, TS.TupInts h' v (k v) ∧ k v ≠ [] := fun v hm => ⟨(hp v hm).1.keeps fun b o e c => keep b o (fun z => by subst z; exact ha o e c) e, (hp v hm).2⟩
  obtain ⟨fs, g1, g2, g3⟩ := firsts vs hp'
  refine ⟨tuples' (Value.type "int" != Value.type "tuple"), fun Q E hq => PySem.W.kat_kind (s := { s with heap := h' }) (T := Value.type "int") g1 (by omega) (fun f hf => ?_) rfl hq, fun p q hm hm' => ?_⟩
  · obtain ⟨n, t, rfl⟩ := g3 f hf
    exact PySem.W.Looks.of_pure rfl
  · obtain ⟨⟨x, xs, ex, ⟨o, ho, hc, n, hd⟩, ix⟩, _⟩ := hp' p.1 hm
    obtain ⟨⟨y, ys, ey, ⟨o', ho', hc', n', hd'⟩, iy⟩, _⟩ := hp' q.1 hm'
    show wpAny (model prog w) A (keyLt' (tuples' (Value.type "int" != Value.type "tuple")) p.1 q.1) (fun r s' => s' = { s with heap := h' } ∧ r = HT.lexLt (k p.1) (k q.1)) (fun _ _ => False) { s with heap := h' }
    generalize k p.1 = ns at ix ⊢
    generalize k q.1 = ms at iy ⊢
    rw [ex, ey]
    refine PySem.W.kat_lt (s := { s with heap := h' }) ho hd ho' hd' (lex_any 0 ix iy ?_ ⟨rfl, rfl⟩)
    have l1 := ix.length
    have l2 := iy.length
    rw [Array.length_toList] at l1 l2
    rw [l1, l2]
end
end PuU
set_option Elab.async false
set_option linter.all false
set_option maxRecDepth 100000
set_option maxHeartbeats 4000000
namespace PuU
open PySem PySem.Spec PyProof.Rows L2 SrtO Pu Evl
/-! ### the mirror: rising lists of lists of whole numbers, each once -/
def lexL : List Int → List Int → Bool
  | [], [] => false
  | [], _ :: _ => true
  | _ :: _, [] => false
  | x :: xs, y :: ys => if x = y then lexL xs ys else decide (x < y)
theorem lexL_eq : ∀ xs ys, HT.lexLt xs ys = lexL xs ys
  | [], [] => rfl
  | [], _ :: _ => rfl
  | _ :: _, [] => rfl
  | x :: xs, y :: ys => by
    rw [HT.lexLt_cons]
    unfold lexL
    rw [lexL_eq xs ys]
def insS (x : List Int) : List (List Int) → List (List Int)
  | [] => [x]
  | y :: ys => if x = y then y :: ys else if lexL x y = true then x :: y :: ys else y :: insS x ys
def setS (xs : List (List Int)) : List (List Int) := xs.foldr insS []
theorem lex_irr (x : List Int) : lexL x x = false := by
  induction x with
  | nil => rfl
  | cons a x ih => unfold lexL; rw [if_pos rfl]; exact ih
theorem lex_or : ∀ x y : List Int, lexL x y = true ∨ x = y ∨ lexL y x = true
  | [], [] => .inr (.inl rfl)
  | [], _ :: _ => .inl rfl
  | _ :: _, [] => .inr (.inr rfl)
  | a :: x, b :: y => by
    unfold lexL
    by_cases e : a = b
    · rw [if_pos e, if_pos e.symm]
      rcases lex_or x y with h | h | h
      · exact .inl h
      · exact .inr (.inl (by rw [e, h]))
      · exact .inr (.inr h)
    · rw [if_neg e, if_neg (fun z => e z.symm)]
      rcases Int.lt_or_gt_of_ne e with h | h
      · exact .inl (decide_eq_true h)
      · exact .inr (.inr (decide_eq_true h))
theorem lex_trans : ∀ x y z : List Int, lexL x y = true → lexL y z = true → lexL x z = true
  | [], [], _, h, _ => nomatch h
  | [], _ :: _, [], _, h => nomatch h
  | [], _ :: _, _ :: _, _, _ => rfl
  | _ :: _, [], _, h, _ => nomatch h
  | _ :: _, _ :: _, [], _, h => nomatch h
  | a :: x, b :: y, c :: z, h1, h2 => by
    unfold lexL at h1 h2 ⊢
    by_cases e1 : a = b
    · rw [if_pos e1] at h1
      by_cases e2 : b = c
      · rw [if_pos e2] at h2
        rw [if_pos (e1.trans e2)]
        exact lex_trans x y z h1 h2
      · rw [if_neg e2] at h2
        rw [if_neg (fun q => e2 (e1.symm.trans q)), e1]
        exact h2
    · rw [if_neg e1] at h1
      have h1 := of_decide_eq_true h1
      by_cases e2 : b = c
      · rw [if_neg (fun q => e1 (q.trans e2.symm)), ← e2]
        exact decide_eq_true h1
      · rw [if_neg e2] at h2
        have h2 := of_decide_eq_true h2
        rw [if_neg (by omega)]
        exact decide_eq_true (by omega)
theorem ins_mem {x z : List Int} : ∀ {ys : List (List Int)}, z ∈ insS x ys ↔ z = x ∨ z ∈ ys
  | [] => by unfold insS; simp
  | y :: ys => by
    unfold insS
    by_cases e : x = y
    · rw [if_pos e]
      constructor
      · exact .inr
      · rintro (h | h)
        · rw [h, e]; exact List.mem_cons_self ..
        · exact h
    · rw [if_neg e]
      by_cases h : lexL x y = true
      · rw [if_pos h]; exact List.mem_cons
      · rw [if_neg h, List.mem_cons, ins_mem, List.mem_cons]
        constructor
        · rintro (h | h | h)
          · exact .inr (.inl h)
          · exact .inl h
          · exact .inr (.inr h)
        · rintro (h | h | h)
          · exact .inr (.inl h)
          · exact .inl h
          · exact .inr (.inr h)
abbrev Ups (ys : List (List Int)) : Prop := ys.Pairwise fun x y => lexL x y = true
theorem ins_ups {x : List Int} : ∀ {ys : List (List Int)}, Ups ys → Ups (insS x ys)
  | [], _ => List.pairwise_singleton _ _
  | y :: ys, h => by
    obtain ⟨h1, h2⟩ := List.pairwise_cons.mp h
    unfold insS
    by_cases e : x = y
    · rw [if_pos e]; exact h
    · rw [if_neg e]
      by_cases l : lexL x y = true
      · rw [if_pos l]
        exact List.pairwise_cons.mpr ⟨fun z hz => by
          rcases List.mem_cons.mp hz with rfl | hz
          · exact l
          · exact lex_trans _ _ _ l (h1 z hz), h⟩
      · rw [if_neg l]
        refine List.pairwise_cons.mpr ⟨fun z hz => ?_, ins_ups h2⟩
        rcases ins_mem.mp hz with rfl | hz
        · rcases lex_or z y with q | q | q
          · exact absurd q l
          · exact absurd q e
          · exact q
        · exact h1 z hz
theorem set_mem {z : List Int} : ∀ {xs : List (List Int)}, z ∈ setS xs ↔ z ∈ xs
  | [] => Iff.rfl
  | x :: xs => by
    show z ∈ insS x (setS xs) ↔ _
    rw [ins_mem, set_mem, List.mem_cons]
theorem set_ups : ∀ xs : List (List Int), Ups (setS xs)
  | [] => List.Pairwise.nil
  | x :: xs => ins_ups (set_ups xs)
theorem ups_eq : ∀ {xs ys : List (List Int)}, Ups xs → Ups ys → (∀ z, z ∈ xs ↔ z ∈ ys) → xs = ys
  | [], [], _, _, _ => rfl
  | [], y :: ys, _, _, h => absurd ((h y).mpr (List.mem_cons_self ..)) (fun q => nomatch q)
  | x :: xs, [], _, _, h => absurd ((h x).mp (List.mem_cons_self ..)) (fun q => nomatch q)
  | x :: xs, y :: ys, h1, h2, h => by
    obtain ⟨a1, a2⟩ := List.pairwise_cons.mp h1
    obtain ⟨b1, b2⟩ := List.pairwise_cons.mp h2
    have e : x = y := by
      rcases List.mem_cons.mp ((h x).mp (List.mem_cons_self ..)) with q | q
      · exact q
      · rcases List.mem_cons.mp ((h y).mpr (List.mem_cons_self ..)) with q2 | q2
        · exact q2.symm
        · have z1 := b1 x q
          have z2 := a1 y q2
          have := lex_trans _ _ _ z1 z2
          rw [lex_irr] at this
          cases this
    subst e
    have hx : ∀ z, z ∈ xs → lexL x z = true := a1
    rw [ups_eq a2 b2 fun z => ⟨fun hz => by
      rcases List.mem_cons.mp ((h z).mp (List.mem_cons_of_mem _ hz)) with q | q
      · have := a1 z hz
        rw [q, lex_irr] at this
        cases this
      · exact q, fun hz => by
      rcases List.mem_cons.mp ((h z).mpr (List.mem_cons_of_mem _ hz)) with q | q
      · have := b1 z hz
        rw [q, lex_irr] at this
        cases this
      · exact q⟩]
theorem ups_of {xs : List (List Int)} (h : xs.Pairwise fun x y => HT.lexLt y x = false) (nd : xs.Nodup) : Ups xs := by
  refine (h.and nd).imp fun {x y} q => ?_
  obtain ⟨h1, h2⟩ := q
  rw [lexL_eq] at h1
  rcases lex_or x y with z | z | z
  · exact z
  · exact absurd z h2
  · rw [h1] at z; cases z
def sortU (xs : List (List Int)) : Option (List (List Int)) := if xs.length < 64 ∧ (xs.all fun x => !x.isEmpty) = true then some (setS xs) else none
theorem sortU_some {xs ys : List (List Int)} (h : sortU xs = some ys) : xs.length < 64 ∧ (∀ x, x ∈ xs → x ≠ []) ∧ ys = setS xs := by
  unfold sortU at h
  split at h
  · rename_i q
    cases h
    refine ⟨q.1, fun x hx e => ?_, rfl⟩
    have := List.all_eq_true.mp q.2 x hx
    rw [e] at this
    cases this
  · cases h
/-! ### the walk -/
section
variable {X : Cx}
theorem sorted_setU {P : Program} {w : World} {A : Around} {E : Value → Shared → Prop} {s : Shared} {a : Addr} {L : List (Addr × List Int)} {es : Array (Int × Value)} {ep : Nat} {t : SetTable} {Q : Value → Shared → Prop} (R : SetTR P w s.heap a L es ep t) (hh : A.handled = none) (hne : ∀ p ∈ L, p.2 ≠ [])
    (hQ : ∀ s' p (out : Array Value) (c : Nat) (L' : List (Addr × List Int)), (∀ b o, s.heap.get? b = some o → s'.heap.get? b = some o) → s'.gens = s.gens → s'.os = s.os → s.heap.objs.size ≤ p → s'.heap.get? p = some (seqObj "list" out c) →
      out.toList = L'.map (fun q => Value.ref q.1) → L'.Perm L → L'.Pairwise (fun q r => HT.lexLt r.2 q.2 = false) → Q (.ref p) s') : wpAny (model P w) A (call (.builtin "sorted") [.ref a]) Q E s := by
  obtain ⟨o, ho, hex, hd⟩ := R.ob
  have hfew := R.few
  have hsz := R.size
  refine Calls.call_function_entry kind_sorted plain_sorted entry_sorted (args_sorted1 _) (by
    unfold Builtin.«sorted»
    refine wpAny_bind (m := checkCount "sorted" 1 1 _) (wpAny_pure (wpAny_bind (collect_set (A := A.in1) hh ⟨o, ho, hex.1, hd⟩ R.fits (by unfold scanBound; omega) R.tab.ris R.led fun s1 vs k1 hz g1 o1 pm => ?_)))
    rw [R.rows, show (rowsOf P w L).map (·.2) = L.map fun q => Value.ref q.1 by unfold rowsOf; rw [List.map_map]; rfl] at pm
    have hlen : vs.length < 64 := by rw [pm.length_eq, List.length_map]; exact hfew
    have hbig := sizeLine_eq
    refine wpAny_bind (wpAny_newList ?_ (by omega))
    have hoL : (s1.heap.push (seqObj "list" vs.toArray 0)).get? s1.heap.objs.size = some (seqObj "list" vs.toArray 0) := Heap.get?_push_size _ rfl
    have tk : ∀ q ∈ L, TS.TupInts (s1.heap.push (seqObj "list" vs.toArray 0)) (.ref q.1) q.2 := fun q hq => tupInts_of (P := P) (w := w) (isT_keep (R.tup q hq) fun b u e => Heap.get?_push_of_some _ (k1 b u e))
    have tv : ∀ v ∈ vs, TS.TupInts (s1.heap.push (seqObj "list" vs.toArray 0)) v (TS.intsOf (s1.heap.push (seqObj "list" vs.toArray 0)) v) ∧ TS.intsOf (s1.heap.push (seqObj "list" vs.toArray 0)) v ≠ [] := fun v hv => by
      obtain ⟨q, hq, rfl⟩ := List.mem_map.mp (pm.mem_iff.mp hv)
      rw [(tk q hq).ints]
      exact ⟨tk q hq, hne q hq⟩
    refine wpAny_bind (wpAny_holding (wpAny_call_entry slot_list_sort ⟨_, hoL, rfl⟩ entry_list_sort (list_sort_ord (s := { s1 with heap := s1.heap.push (seqObj "list" vs.toArray 0) }) (NtL.swo_lexL (TS.intsOf (s1.heap.push (seqObj "list" vs.toArray 0)))) hoL (by omega)
      (fun h2 => tups_sortable (by omega) tv fun u hu => ?_) fun out hs hb => ⟨_, rfl, ?_⟩) (args_list_sort _)))
    · rw [show u = seqObj "list" vs.toArray 0 from (Option.some.inj (hu.symm.trans hoL))]
      show Value.type "list" ≠ Value.type "tuple"
      decide
    · obtain ⟨c, hc⟩ := sortedHeap_at (vs := vs) (out := out.toArray) hoL
      obtain ⟨L', p1, p2⟩ := L2.perm_lift (fun q : Addr × List Int => Value.ref q.1) (hb.perm.trans pm) L rfl
      refine wpAny_pure ⟨_, rfl, hQ _ s1.heap.objs.size out.toArray c L' (fun b u e => ?_) g1 o1 hz hc (by rw [List.toList_toArray]; exact p2.symm) p1 ?_⟩
      · have q := k1 b u e
        have hlt := Heap.lt_size q
        show (sortedHeap (s1.heap.push (seqObj "list" vs.toArray 0)) s1.heap.objs.size vs out.toArray).get? b = some u
        rw [sortedHeap_old (Nat.ne_of_lt hlt) (by rw [size_push']; exact Nat.lt_succ_of_lt hlt)]
        exact Heap.get?_push_of_some _ q
      · rw [← p2] at hs
        refine List.Pairwise.imp_of_mem (fun {q r} hq hr hle => ?_) (List.pairwise_map.mp hs)
        dsimp only at hle
        rw [(tk q (p1.mem_iff.mp hq)).ints, (tk r (p1.mem_iff.mp hr)).ints] at hle
        exact hle)
def rSortedU (K : PySem.W.Frag) (P : Program) (w : World) : List V → Hp → VK → Prop := fun vs H Q => ∃ (a : Addr) (L : List (Addr × List Int)), vs = [V.ref a] ∧ H a = some (SetTO P w a L) ∧ (∀ p ∈ L, SqT K H p.1 (p.2.map V.int)) ∧ (∀ p ∈ L, p.2 ≠ []) ∧
  ∀ (L' : List (Addr × List Int)) (p : Addr), L'.Perm L → (L'.map (·.2)).Nodup → L'.Pairwise (fun q r => HT.lexLt r.2 q.2 = false) → H p = none → Q (.ref p) (upd H p (.lst (L'.map fun q => V.ref q.1)))
theorem cr_sortedU (hc : X.calm = true) : CallR X (.builtin "sorted") (rSortedU X.K X.prog X.w) := fun pins s σ H vs us Q I r h => by
  obtain ⟨a, L, rfl, ha, hk, hne, q⟩ := h
  obtain ⟨es, ep, t, R⟩ := SetT0.full (show SetT0 X.prog X.w s.heap a L from (I.hok a _ ha).1) fun p hp => I.isT (hk p hp)
  rw [Vals.ref1 r]
  refine sorted_setU R (I.ok.hd hc) hne fun s' p out c L' k g o hp hg hout pm pw => ?_
  have hn : H p = none := I.hok.fresh hp
  have hfew := R.few
  have J := I.call (ch := []) (h' := s'.heap) (g' := s'.gens) (d' := s'.drawn) (t' := s'.toks) (H' := upd H p (.lst (L'.map fun q => V.ref q.1))) (Un.laid k hp hn)
    (I.hok.laid k hp ⟨by rw [List.length_map, pm.length_eq, sizeLine_eq]; omega, out.toList, c, by rw [hout]; exact vals_of_refs L', hg⟩) (by rw [g]; exact I.bare) (fun _ z => nomatch z)
  have e : s' = { s with heap := s'.heap, gens := s'.gens, drawn := s'.drawn, toks := s'.toks } := by
    cases s'
    cases s
    cases o
    rfl
  rw [e]
  exact ⟨.ref p, _, J, rfl, q L' p pm ((pm.map (·.2)).nodup_iff.mpr R.nd) pw hn⟩
end
theorem len_sub {α : Type} [DecidableEq α] : ∀ {xs ys : List α}, xs.Nodup → (∀ x, x ∈ xs → x ∈ ys) → xs.length ≤ ys.length
  | [], ys, _, _ => Nat.zero_le _
  | x :: xs, ys, nd, h => by
    obtain ⟨n1, n2⟩ := List.nodup_cons.mp nd
    have k := len_sub (ys := ys.erase x) n2 fun y hy => (List.mem_erase_of_ne (show y ≠ x from fun e => n1 (by rw [← e]; exact hy))).mpr (h y (List.mem_cons_of_mem _ hy))
    rw [List.length_erase_of_mem (h x (List.mem_cons_self ..))] at k
    have := List.length_pos_of_mem (h x (List.mem_cons_self ..))
    rw [List.length_cons]
    omega
/-! ### the mirror kept -/
theorem keys_of {F : Hp} : ∀ {vs : List V} {xs : List (List Int)}, PV (dTuN dInt) F vs xs → ∃ ks : List (Addr × List Int), vs = ks.map (fun p => V.ref p.1) ∧ xs = ks.map (·.2) ∧ ∀ p, p ∈ ks → (dTuN dInt).rel F (V.ref p.1) p.2
  | _, _, .nil => ⟨[], rfl, rfl, fun p h => nomatch h⟩
  | _, _, .cons (a := v) (b := x) r t => by
    obtain ⟨ks, h1, h2, h3⟩ := keys_of t
    have r' := r
    obtain ⟨a, us, ob, rfl, _⟩ := r
    refine ⟨(a, x) :: ks, by rw [List.map_cons, ← h1], by rw [List.map_cons, ← h2], fun p hp => ?_⟩
    rcases List.mem_cons.mp hp with rfl | hp
    · exact r'
    · exact h3 p hp
theorem pv_keys {F : Hp} : ∀ (L : List (Addr × List Int)), (∀ p, p ∈ L → (dTuN dInt).rel F (V.ref p.1) p.2) → PV (dTuN dInt) F (L.map fun p => V.ref p.1) (L.map (·.2))
  | [], _ => .nil
  | p :: L, h => .cons (h p (List.mem_cons_self ..)) (pv_keys L fun q hq => h q (List.mem_cons_of_mem _ hq))
theorem sq_key {K : PySem.W.Frag} {F H : Hp} (e : Ex F H) {p : Addr × List Int} (h : (dTuN dInt).rel F (V.ref p.1) p.2) : SqT K H p.1 (p.2.map V.int) := by
  obtain ⟨a, us, ob, e1, e2, e3, e4, pv, z⟩ := h
  injection e1 with e1
  subst e1
  rw [ints_of pv] at e2
  exact SqT.rd e (.inr ⟨ob, e2⟩)
section
variable {p : Bool} {E : XK} {XC : Str → Value} {K : PySem.W.Frag} {P : Program} {w : World} {Γ : List Sl} {te : TE}
theorem ev_sortU {T : (R : Type) → (List (List Int) → Env Γ → Res R) → Env Γ → Res R} (h : EvE p E XC Γ te (dLst (dTuN dInt)) T) :
    EvE p E XC Γ (tCB (rSortedU K P w) (tCons (tCB (rSetOfT K P w) (tCons te tNil)) tNil)) (dLst (dTuN dInt)) (fun R k ρ => T R (fun xs ρ => opt (sortU xs) fun z => k z ρ) ρ) := fun B σ F H ρ I R G hG k Q g qq =>
  h B σ F H ρ I R G hG _ _ g fun xs ρ' v F1 H1 I1 e1 r1 g1 => by
    cases hs : sortU xs with
    | none => rw [hs] at g1; exact absurd g1 hG.1
    | some ys =>
    rw [hs] at g1
    obtain ⟨s1, s2, rfl⟩ := sortU_some hs
    obtain ⟨l, vs, rfl, hl, pv, hz⟩ := r1
    obtain ⟨ks, rfl, rfl, hk⟩ := keys_of pv
    rw [List.length_map] at s1
    have fh := I1.fh
    refine ⟨l, ks, rfl, SqL.of (fh l _ hl), fun q hq => sq_key fh (hk q hq), s1, fun a L ha h1 h2 => ?_⟩
    have P1 := Pext.own (o := SetTO P w a L) fh ha
    refine ⟨a, L, rfl, upd_same, fun q hq => sq_key P1.fh (hk q (h1 q hq)), fun q hq => s2 _ (List.mem_map.mpr ⟨q, h1 q hq, rfl⟩), fun L' b pm nd pw hb => ?_⟩
    have hL' : ∀ q, q ∈ L' → q ∈ ks := fun q hq => h1 q (pm.mem_iff.mp hq)
    have P2 := P1.trans (Pext.one (o := .lst (L'.map fun q => V.ref q.1)) P1.fh hb)
    have eq : L'.map (·.2) = setS (ks.map (·.2)) := ups_eq (ups_of (List.pairwise_map.mpr pw) nd) (set_ups _) fun z => by
      rw [set_mem]
      constructor
      · intro hzm
        obtain ⟨q, hq, rfl⟩ := List.mem_map.mp hzm
        exact List.mem_map.mpr ⟨q, hL' q hq, rfl⟩
      · intro hzm
        obtain ⟨q, hq, rfl⟩ := List.mem_map.mp hzm
        obtain ⟨r, hr, er⟩ := List.mem_map.mp (h2 q hq)
        exact List.mem_map.mpr ⟨r, pm.mem_iff.mpr hr, er⟩
    have hlen : (setS (ks.map (·.2))).length ≤ sizeLine := by
      rw [← eq, List.length_map, pm.length_eq]
      have hn := nd
      have hsub : (L'.map (·.2)).length ≤ (ks.map (·.2)).length := len_sub nd fun z hzm => by
        obtain ⟨q, hq, rfl⟩ := List.mem_map.mp hzm
        exact List.mem_map.mpr ⟨q, hL' q hq, rfl⟩
      rw [List.length_map, List.length_map, pm.length_eq] at hsub
      have := sizeLine_eq
      omega
    refine qq _ ρ' (.ref b) _ _ (I1.pext P2) (e1.pext P2) ⟨b, _, rfl, upd_same, ?_, hlen⟩ g1
    have := pv_keys L' fun q hq => (dTuN dInt).ext (hk q (hL' q hq)) P2.ff
    rw [eq] at this
    exact this
end
end PuU
set_option Elab.async false
set_option linter.all false
set_option maxRecDepth 100000
set_option maxHeartbeats 4000000
/-! {k: v for .. in .. for .. in ..}, no conditions -/
namespace PuU
open PySem PySem.Spec PyProof.Rows L2
section
variable {prog : Program} {w : World} {A : Around} {R : Result → Shared → Prop} {s : Shared} {kx vx t0 i0 t1 i1 : Expr} {scope : Scope} {pos : Pos} {it acc : Value} {env : Env} {D : Addr}
abbrev two (kx vx t0 i0 t1 i1 : Expr) (scope : Scope) (pos : Pos) : Expr := .DictComp kx vx [⟨t0, i0, [], 0⟩, ⟨t1, i1, [], 0⟩] scope pos
abbrev Nb (prog : Program) (w : World) (A : Around) (env : Env) (R : Result → Shared → Prop) : Value → Shared → Prop := notedBy (model prog w) A env fun e s' => R (.error e) s'
theorem outer (hs : ∀ x, foldedSetIterable i1 env x = pure x) (I : Nat → Shared → Prop)
    (turn : ∀ n s, I n s → wpAny (model prog w) A (pyNext it) (fun r s1 => match r with
      | none => R (.ok .next) s1
      | some v => wpAny (model prog w) A (letOwnedTupleGo t0 it v) (fun _ s2 => wpAny (model prog w) A (assign t0 env v) (fun _ s3 => wpAny (model prog w) A (eval i1 env) (fun x s4 => wpAny (model prog w) A (pyIter x) (fun j s5 =>
          codeAny (model prog w) A (.compStart (two kx vx t0 i0 t1 i1 scope pos) 1 j acc env) (fun r s6 => (∃ f, r = .ok f) ∧ ∃ m, m < n ∧ I m s6) s5) (Nb prog w A env R) s4) (Nb prog w A env R) s3) (Nb prog w A env R) s2) (Nb prog w A env R) s1) (Nb prog w A env R) s)
    (n : Nat) (h : I n s) : codeAny (model prog w) A (.compLoop (two kx vx t0 i0 t1 i1 scope pos) 0 it acc env) R s := by
  refine codeAny_loop rfl I (fun n s hI => ?_) n h
  show wpAny _ A ((compTurn (two kx vx t0 i0 t1 i1 scope pos) 0 it acc env).onRaise (fun x => do noteFrame x env; theTreesLotGoes x)) _ _ s
  refine wpAny_noted ?_
  show wpAny _ _ (standAt i0.pos >>= fun _ => pyNext it >>= _) _ _ s
  refine wpAny_bind (wpAny_standAt (wpAny_bind (wpAny_mono (turn n s hI) (fun r s1 h1 => ?_) fun _ _ z => z)))
  cases r with
  | none => exact wpAny_pure h1
  | some v =>
    show wpAny _ _ (letOwnedTupleGo t0 it v >>= fun _ => assign t0 env v >>= _) _ _ s1
    refine wpAny_bind (wpAny_mono h1 (fun _ s2 h2 => wpAny_bind (wpAny_mono h2 (fun _ s3 h3 => ?_) fun _ _ z => z)) fun _ _ z => z)
    refine wpAny_bind (wpAny_pure ?_)
    show wpAny _ _ (eval i1 env >>= fun x => standAt i1.pos >>= fun _ => foldedSetIterable i1 env x >>= _) _ _ s3
    refine wpAny_bind (wpAny_mono h3 (fun x s4 h4 => wpAny_bind (wpAny_standAt (wpAny_bind (wpAny_of_eq (hs x) ?_)))) fun _ _ z => z)
    show wpAny _ _ (holding [x] (pyIter x) >>= fun j => runOwn (.compStart (two kx vx t0 i0 t1 i1 scope pos) 1 j acc env) env >>= _) _ _ s4
    refine wpAny_bind (wpAny_holding (wpAny_mono h4 (fun j s5 h5 => wpAny_bind (wpAny_runOwn ?_)) fun _ _ z => z))
    rw [Around.mark_none]
    refine codeAny_mono h5 fun r s6 hr => ?_
    obtain ⟨⟨f, rfl⟩, hm⟩ := hr
    first
      | exact wpAny_pure ⟨rfl, hm⟩
      | exact wpAny_bind (wpAny_pure (wpAny_pure ⟨rfl, hm⟩))
theorem inner (I : Nat → Shared → Prop)
    (turn : ∀ n s, I n s → wpAny (model prog w) A (pyNext it) (fun r s1 => match r with
      | none => R (.ok .next) s1
      | some v => wpAny (model prog w) A (letOwnedTupleGo t1 it v) (fun _ s2 => wpAny (model prog w) A (assign t1 env v) (fun _ s3 => wpAny (model prog w) A (eval kx env) (fun kv s4 => wpAny (model prog w) A (eval vx env) (fun vv s5 =>
          wpAny (model prog w) A (dictSet D kv vv) (fun _ s6 => ∃ m, m < n ∧ I m s6) (Nb prog w A env R) s5) (Nb prog w A env R) s4) (Nb prog w A env R) s3) (Nb prog w A env R) s2) (Nb prog w A env R) s1) (Nb prog w A env R) s)
    (n : Nat) (h : I n s) : codeAny (model prog w) A (.compLoop (two kx vx t0 i0 t1 i1 scope pos) 1 it (.ref D) env) R s := by
  refine codeAny_loop rfl I (fun n s hI => ?_) n h
  show wpAny _ A ((compTurn (two kx vx t0 i0 t1 i1 scope pos) 1 it (.ref D) env).onRaise (fun x => do noteFrame x env; theTreesLotGoes x)) _ _ s
  refine wpAny_noted ?_
  show wpAny _ _ (standAt i1.pos >>= fun _ => pyNext it >>= _) _ _ s
  refine wpAny_bind (wpAny_standAt (wpAny_bind (wpAny_mono (turn n s hI) (fun r s1 h1 => ?_) fun _ _ z => z)))
  cases r with
  | none => exact wpAny_pure h1
  | some v =>
    show wpAny _ _ (letOwnedTupleGo t1 it v >>= fun _ => assign t1 env v >>= _) _ _ s1
    refine wpAny_bind (wpAny_mono h1 (fun _ s2 h2 => wpAny_bind (wpAny_mono h2 (fun _ s3 h3 => ?_) fun _ _ z => z)) fun _ _ z => z)
    refine wpAny_bind (wpAny_pure ?_)
    exact wpAny_bind (wpAny_bind (wpAny_mono h3 (fun kv s4 h4 => wpAny_bind (wpAny_holding (wpAny_mono h4 (fun vv s5 h5 => wpAny_bind (wpAny_standAt (wpAny_holding (wpAny_mono h5 (fun _ s6 h6 => wpAny_pure ⟨rfl, h6⟩) fun _ _ z => z)))) fun _ _ z => z))) fun _ _ z => z))
theorem starts1 (h0 : codeAny (model prog w) A (.compLoop (two kx vx t0 i0 t1 i1 scope pos) 1 it acc env) R s)
    (h : wpAny (model prog w) A (pyIter it) (fun j s' => codeAny (model prog w) A (.compLoop (two kx vx t0 i0 t1 i1 scope pos) 1 j acc env) R s') (Nb prog w A env R) s) :
    codeAny (model prog w) A (.compStart (two kx vx t0 i0 t1 i1 scope pos) 1 it acc env) R s := by
  refine codeAny_of_tree ?_
  show wpAny _ _ ((compStart (two kx vx t0 i0 t1 i1 scope pos) 1 it acc env).onRaise (fun x => do noteFrame x env; standAt theWindowsPlace)) _ _ s
  refine wpAny_notedAt ?_
  unfold compStart
  show wpAny _ _ (ask >>= _) _ _ s
  refine wpAny_bind (wpAny_askSetting (wpAny_ite ?_))
  split
  · first
      | exact wpAny_pure (And.intro rfl h0)
      | exact wpAny_bind (wpAny_pure (wpAny_pure (And.intro rfl h0)))
  · refine wpAny_bind (wpAny_rule ?_)
    show wpAny _ _ (standAt i1.pos >>= _) _ _ s
    exact wpAny_bind (wpAny_standAt (wpAny_bind (wpAny_mono h (fun j s' h' => wpAny_pure (And.intro rfl h')) fun _ _ z => z)))
end
end PuU
set_option Elab.async false
set_option linter.all false
set_option maxRecDepth 100000
set_option maxHeartbeats 4000000
namespace PuU
open PySem PySem.Spec PyProof.Rows L2
/-- the dict D filled by the two loops: W what holds ahead of a turn of the outer one, W1 of the inner one -/
def tDc2 (wi : TI) (g : TG) (wi1 : TI) (g1 : TG) (tk tv : TE) (vs vs1 : List Nat) : TE := fun σ H Q => wi σ H fun J H1 => ∀ D, H1 D = none → ∃ W : Nat → Nat → Hp → Prop, (∃ m, W 0 m (upd H1 D (.dK []))) ∧ ∀ i m H, W i m H →
  (J.stop i H ∧ Q (.ref D) H) ∨ (J.go i H ∧ ∃ Nx : Hp → Prop, (∀ H', Nx H' → ∃ m', m' < m ∧ W (i + 1) m' H') ∧ ∀ x H', J.yld i H x H' → g x (wipe σ vs) H' fun σ2 H2 => wipe σ2 vs = wipe σ vs ∧
    wi1 σ2 H2 fun J1 H4 => ∃ W1 : Nat → Nat → Hp → Prop, (∃ m, W1 0 m H4) ∧ ∀ j k H, W1 j k H →
      (J1.stop j H ∧ Nx H) ∨ (J1.go j H ∧ ∃ Nx1 : Hp → Prop, (∀ H', Nx1 H' → ∃ k', k' < k ∧ W1 (j + 1) k' H') ∧ ∀ x H', J1.yld j H x H' → g1 x (wipe σ2 vs1) H' fun σ3 H5 => wipe σ3 vs1 = wipe σ2 vs1 ∧
        tk σ3 H5 fun y H6 => tv σ3 H6 fun z H7 => ∃ kvs k, y = kV k ∧ H7 D = some (.dK kvs) ∧ kvs.length < sizeLine ∧ Nx1 (upd H7 D (.dK (putK kvs k z)))))
section
variable {X : Cx}
theorem pinned_keep {Y : Cx} {pins : List (Addr × Obj)} {σ : L2.St} {H : Hp} {s : Shared} {fp : List Addr} {h0 : Heap} (I : Inv Y (pins ++ pinsAt fp h0) σ H s) {b : Addr} (hb : b ∈ fp) {o : Obj} (e : h0.get? b = some o) : s.heap.get? b = some o ∧ H b = none :=
  let z := I.pin (b, o) (List.mem_append_right _ (List.mem_append_right _ (mem_pinsAt hb e)))
  ⟨z.1, z.2.1⟩
theorem pe_dc2 {kx vx tg iter tg1 iter1 : Expr} {scope : Scope} {own : List (Str × Nat)} {vs1 : List Nat} {pos : Pos} {wi wi1 : TI} {g g1 : TG} {tk tv : TE} (hc : X.calm = true) (hN : X.N.Nodup) (hi : PI X tg iter wi) (ok : BlkOk X.N X.env.scope scope own) (hv : ∀ i ∈ vs1, i ∈ own.map (·.2))
    (hg : ∀ (s : Shared) (H : Hp) (C : Addr) (cl : List (Str × Addr)) (fp : List Addr), PG (X.blk s H scope (compEnvC scope cl C X.env) fp) tg g)
    (hi1 : ∀ (s : Shared) (H : Hp) (C : Addr) (cl : List (Str × Addr)) (fp : List Addr), PI (X.blk s H scope (compEnvC scope cl C X.env) fp) tg1 iter1 wi1)
    (hg1 : ∀ (s : Shared) (H : Hp) (C : Addr) (cl : List (Str × Addr)) (fp : List Addr), PG (X.blk s H scope (compEnvC scope cl C X.env) fp) tg1 g1)
    (hk : ∀ (s : Shared) (H : Hp) (C : Addr) (cl : List (Str × Addr)) (fp : List Addr), PE (X.blk s H scope (compEnvC scope cl C X.env) fp) kx tk)
    (he : ∀ (s : Shared) (H : Hp) (C : Addr) (cl : List (Str × Addr)) (fp : List Addr), PE (X.blk s H scope (compEnvC scope cl C X.env) fp) vx tv)
    (hs : ∀ x, foldedSetIterable iter X.env x = pure x := by intro _; rfl) (hs1 : ∀ env x, foldedSetIterable iter1 env x = pure x := by intro _ _; rfl) :
    PE X (two kx vx tg iter tg1 iter1 scope pos) (tDc2 wi g wi1 g1 tk tv (own.map (·.2)) vs1) := ⟨fun pins s σ H Q I h => by
  have hfree : ∀ y ∈ scope.names, y.2 = .free → ∃ c, X.env.cells.lookup y.1 = some c := fun y hy e => (ok.free y hy e).elim (fun k => I.ok.has _ (.inl k)) fun k => I.ok.has _ (.inr k)
  rw [arm_eval_DictComp]
  refine wpAny_comprehension_free (use := _) rfl hs (closure_ok hfree) ok.kind (fun y hy e => by rw [ok.uniq y hy, e]) (thn (hi.run pins s σ H _ I h) fun xv s1 hx => thn hx fun itv s2 h2 => ?_)
  obtain ⟨it, fp, tn, J, H2, rfl, I2, T, st2, f2, q⟩ := h2
  refine wpAny_newObj_type (newEnv_comp ?_)
  generalize hD : s2.heap.objs.size = D
  obtain ⟨W, ⟨m0, w0⟩, turn⟩ := q D (I2.hok.fresh (Nat.le_of_eq hD))
  generalize hs3 : ({ s2 with heap := s2.heap.push { cls := .type "dict", data := .dict #[] } } : Shared) = s3
  have h3 : s3.heap = s2.heap.push { cls := .type "dict", data := .dict #[] } := by rw [← hs3]
  have I3 : Inv X pins σ (upd H2 D (.dK [])) s3 := by
    rw [← hs3]
    refine I2.laid (t' := s2.toks) (fun b o e => Heap.get?_push_of_some _ e) (Nat.le_of_eq hD) ?_
    rw [← hD]
    exact dk_empty s2.heap I2.big
  have f3 : ∀ b ∈ fp, FpOk X pins (upd H2 D (.dK [])) b ∧ b < s3.heap.objs.size := fun b hb => by
    obtain ⟨o, e, _⟩ := T.obj _ _ st2 b hb
    have hlt := Heap.lt_size e
    exact ⟨⟨by rw [upd_ne (by rw [← hD]; exact Nat.ne_of_lt hlt)]; exact (f2 b hb).1, (f2 b hb).2⟩, by rw [h3, Heap.size_push]; exact Nat.lt_succ_of_lt hlt⟩
  have st3 : tn 0 s3.heap := T.keep _ _ _ st2 fun b _ o e => by rw [h3]; exact Heap.get?_push_of_some _ e
  have I4 := block_start I3 ok hN f3
  have pg := hg s3 (upd H2 D (.dK [])) s3.heap.objs.size (cellsFrom (s3.heap.objs.size + 1) scope.names (cloFrom X.env.cells scope.names [])) fp
  have pi1 := hi1 s3 (upd H2 D (.dK [])) s3.heap.objs.size (cellsFrom (s3.heap.objs.size + 1) scope.names (cloFrom X.env.cells scope.names [])) fp
  have pg1 := hg1 s3 (upd H2 D (.dK [])) s3.heap.objs.size (cellsFrom (s3.heap.objs.size + 1) scope.names (cloFrom X.env.cells scope.names [])) fp
  have pk := hk s3 (upd H2 D (.dK [])) s3.heap.objs.size (cellsFrom (s3.heap.objs.size + 1) scope.names (cloFrom X.env.cells scope.names [])) fp
  have pv := he s3 (upd H2 D (.dK [])) s3.heap.objs.size (cellsFrom (s3.heap.objs.size + 1) scope.names (cloFrom X.env.cells scope.names [])) fp
  have nfp : ∀ b ∈ fp, (upd H2 D (.dK [])) b = none := fun b hb => (f3 b hb).1.1
  show codeAny _ _ (.compStart (two kx vx tg iter tg1 iter1 scope pos) 0 (.ref it) (.ref D) (compEnvC scope (cellsFrom (s3.heap.objs.size + 1) scope.names (cloFrom X.env.cells scope.names [])) s3.heap.objs.size X.env)) (compPost (model X.prog X.w) X.A X.xe _ _ (.ref D) s3.heap.objs.size) { s3 with heap := pushCells (s3.heap.push { cls := .type "dict", data := .dict #[] }) scope.names }
  generalize hce : compEnvC scope (cellsFrom (s3.heap.objs.size + 1) scope.names (cloFrom X.env.cells scope.names [])) s3.heap.objs.size X.env = ce at I4 pg pk pv pi1 pg1 ⊢
  have cL : ce.locals = s3.heap.objs.size := by rw [← hce]; rfl
  generalize hH3 : upd H2 D (.dK []) = H3 at I3 I4 pg pk pv pi1 pg1 w0 nfp f3
  generalize hs4 : ({ s3 with heap := pushCells (s3.heap.push { cls := .type "dict", data := .dict #[] }) scope.names } : Shared) = s4 at I4 ⊢
  have st4 : tn 0 s4.heap := T.keep _ _ _ st3 fun b _ o e => by rw [← hs4]; exact pushCells_keeps _ _ _ _ (Heap.get?_push_of_some _ e)
  have stat : ∀ {σ' : L2.St} {H' : Hp} {s' : Shared}, Inv (X.blk s3 H3 scope ce fp) [] σ' H' s' → (∀ b ∈ fp, H' b = none) → ∀ b ∈ fp, FpOk (X.blk s3 H3 scope ce fp) [] H' b := fun {σ' H' s'} I' hn b hb =>
    ⟨hn b hb, (I'.ok.exf b hb).1, I'.ok.exfs b hb, .inl hb, fun x c e => (I'.ok.exf b hb).2 x c e, fun p hp => nomatch (show p ∈ ([] : List (Addr × Obj)) from hp)⟩
  have loop : codeAny (model X.prog X.w) X.A (.compLoop (two kx vx tg iter tg1 iter1 scope pos) 0 (.ref it) (.ref D) ce) (compPost (model X.prog X.w) X.A X.xe none (EP X pins σ Q) (.ref D) s3.heap.objs.size) s4 := by
    refine outer (hs1 ce) (fun n s' => ∃ i H', Inv (X.blk s3 H3 scope ce fp) [] (wipe σ (own.map (·.2))) H' s' ∧ tn i s'.heap ∧ (∀ b ∈ fp, H' b = none) ∧ W i n H') ?_ m0 ⟨0, H3, I4, st4, nfp, w0⟩
    rintro n s5 ⟨i, H5, I5, st5, n5, w5⟩
    rcases turn i n H5 w5 with ⟨stop, qq⟩ | ⟨go, Nx, hNx, step⟩
    · refine thnF (T.done (X.blk s3 H3 scope ce fp) rfl rfl rfl hc i [] s5 _ H5 (fun _ _ => False) I5 (stat I5 n5) st5 stop) fun r s6 ⟨hr, I6⟩ => ?_
      subst hr
      have I7 : Inv X pins σ H5 s6 := I3.call' (ch := fp) I6.os I6.base I6.hok I6.bare fun b hb => ⟨(f3 b hb).1.2.2.2.1, (f3 b hb).1.2.1, (f3 b hb).1.2.2.2.2.1, (f3 b hb).1.2.2.2.2.2⟩
      have nC : H5 s3.heap.objs.size = none := cL ▸ (show H5 ce.locals = none from I6.free)
      obtain ⟨m, hn, _⟩ := I6.loc
      have hn : s6.heap.Ns ce.locals m := hn
      rw [cL] at hn
      refine ⟨m, hn, fun h'' sb => ?_⟩
      obtain ⟨x0, x1, x2, x3, x4, x5⟩ := I3.fpOk (Nat.le_refl _) nC
      exact ⟨.ref D, H5, I7.turned (t' := s6.toks) (fun b o hb e => (sb.2 b hb).trans e) x0 x1 x3 x4 x5, rfl, qq⟩
    · refine thnF (T.item (X.blk s3 H3 scope ce fp) rfl rfl rfl hc i [] s5 _ H5 (fun _ _ => False) I5 (stat I5 n5) st5 go) fun r s6 ⟨u, hr, h6⟩ => ?_
      subst hr
      refine thnF h6 fun _ s7 ⟨x, H7, I7, r7, y7, st7, n7⟩ => ?_
      refine thnF (pg.run _ s7 _ H7 x u _ (I7.pinned (stat I7 n7) (T.obj _ _ st7)) r7 (step x H7 y7)) fun _ s8 ⟨σ8, H8, I8, hw8, q8⟩ => ?_
      refine thnF (pi1.run _ s8 σ8 H8 _ I8 q8) fun xv s10 hx => thnF hx fun itv s11 h11 => ?_
      obtain ⟨it1, fp1, tn1, J1, H11, rfl, I11, T1, st11, f11, W1, ⟨m1, w1⟩, turn1⟩ := h11
      have stat1 : ∀ {H' : Hp}, (∀ b ∈ fp1, H' b = none) → ∀ b ∈ fp1, FpOk (X.blk s3 H3 scope ce fp) ([] ++ pinsAt fp s7.heap) H' b := fun hn b hb => ⟨hn b hb, (f11 b hb).2⟩
      have loop1 : codeAny (model X.prog X.w) X.A (.compLoop (two kx vx tg iter tg1 iter1 scope pos) 1 (.ref it1) (.ref D) ce)
          (fun r s' => (∃ f, r = .ok f) ∧ ∃ m, m < n ∧ ∃ i H', Inv (X.blk s3 H3 scope ce fp) [] (wipe σ (own.map (·.2))) H' s' ∧ tn i s'.heap ∧ (∀ b ∈ fp, H' b = none) ∧ W i m H') s11 := by
        refine inner (fun k s' => ∃ j H', Inv (X.blk s3 H3 scope ce fp) ([] ++ pinsAt fp s7.heap) (wipe σ8 vs1) H' s' ∧ tn1 j s'.heap ∧ (∀ b ∈ fp1, H' b = none) ∧ W1 j k H') ?_ m1 ⟨0, H11, I11.weak (wipe_length _ _) (fun j v e => (wipe_some e).1), st11, fun b hb => (f11 b hb).1, w1⟩
        rintro k s12 ⟨j, H12, I12, st12, n12, w12⟩
        rcases turn1 j k H12 w12 with ⟨stop1, nx1⟩ | ⟨go1, Nx1, hNx1, step1⟩
        · refine thnF (T1.done (X.blk s3 H3 scope ce fp) rfl rfl rfl hc j _ s12 (wipe σ8 vs1) H12 (fun _ _ => False) I12 (stat1 n12) st12 stop1) fun r s13 ⟨hr, I13⟩ => ?_
          subst hr
          obtain ⟨m', hm, w'⟩ := hNx H12 nx1
          refine ⟨⟨_, rfl⟩, m', hm, i + 1, H12, (I13.unpinned (pins := [])).weak (by rw [← hw8, wipe_length, wipe_length]) (fun j v e => ?_), T.keep _ _ _ st7 fun b hb o e => (pinned_keep I13 hb e).1, fun b hb => ?_, w'⟩
          · rw [← hw8] at e
            obtain ⟨e1, e2⟩ := wipe_some e
            rw [wipe_out fun z => e2 (hv j z)]
            exact e1
          · obtain ⟨o, e, _⟩ := T.obj _ _ st7 b hb
            exact (pinned_keep I13 hb e).2
        · refine thnF (T1.item (X.blk s3 H3 scope ce fp) rfl rfl rfl hc j _ s12 (wipe σ8 vs1) H12 (fun _ _ => False) I12 (stat1 n12) st12 go1) fun r s13 ⟨u1, hr, h13⟩ => ?_
          subst hr
          refine thnF h13 fun _ s14 ⟨x1, H14, I14, r14, y14, st14, n14⟩ => ?_
          refine thnF (pg1.run _ s14 (wipe σ8 vs1) H14 x1 u1 _ (I14.pinned (stat1 n14) (T1.obj _ _ st14)) r14 (step1 x1 H14 y14)) fun _ s15 ⟨σ15, H15, I15, hw15, q15⟩ => ?_
          refine thnF (pk.run _ s15 σ15 H15 _ I15 q15) fun z s16 ⟨yk, H16, I16, r16, q16⟩ => ?_
          refine thnF (pv.run _ s16 σ15 H16 _ I16 q16) fun z2 s17 ⟨yv, H17, I17, r17, kvs, key, ek, hD17, hz17, nx⟩ => ?_
          subst ek
          refine d_dictSet (X := X.blk s3 H3 scope ce fp) I17 hD17 hz17 r16 r17 fun s18 I18 => ?_
          obtain ⟨m', hm, w'⟩ := hNx1 _ nx
          refine ⟨m', hm, j + 1, _, I18.unpinned.weak (by rw [← hw15, wipe_length]) (fun j v e => by rw [← hw15] at e; exact (wipe_some e).1), T1.keep _ _ _ st14 fun b hb o e => (pinned_keep I18 hb e).1, fun b hb => ?_, w'⟩
          obtain ⟨o, e, _⟩ := T1.obj _ _ st14 b hb
          exact (pinned_keep I18 hb e).2
      exact starts1 loop1 (T1.self X.A 0 _ _ _ st11 loop1)
  exact codeAny_compStart_dict loop (T.self X.A 0 _ _ _ st4 loop)⟩
end
end PuU
set_option Elab.async false
set_option linter.all false
set_option maxRecDepth 100000
set_option maxHeartbeats 4000000
namespace PuU
open PySem L2 Evl Pu
section
variable {p : Bool} {E : XK} {XC : Str → Value} {Γ Γ1 Γ2 : List Sl} {tk tv : TE} {ti ti1 : TI} {tg tg1 : TG} {a c a1 : DCod}
theorem en_dc2 {vs vs1 is is1 : List Nat} {q : Bool} {f : Env Γ → a.α → Env Γ1} {f1 : Env Γ1 → a1.α → Env Γ2} {T0 : (R : Type) → (List a.α → Env Γ → Res R) → Env Γ → Res R} {T1 : (R : Type) → (List a1.α → Env Γ1 → Res R) → Env Γ1 → Res R}
    {Tk : (R : Type) → (Int → Env Γ2 → Res R) → Env Γ2 → Res R} {Tv : (R : Type) → (c.α → Env Γ2 → Res R) → Env Γ2 → Res R}
    (hv : allNo Γ vs = true) (hv1 : allNo Γ1 vs1 = true) (his : ∀ i, i ∈ is → i ∈ vs) (his1 : ∀ i, i ∈ is1 → i ∈ vs1) (hvv : ∀ i, i ∈ vs1 → i ∈ vs) (bk : Bk Γ1 Γ) (bk1 : Bk Γ2 Γ1)
    (h : EvI false E XC Γ ti a T0) (ht : TgE Γ tg a Γ1 f is) (h1 : EvI false E0 XC Γ1 ti1 a1 T1) (ht1 : TgE Γ1 tg1 a1 Γ2 f1 is1) (hk : EvE q E0 XC Γ2 tk dInt Tk) (he : EvE q E0 XC Γ2 tv c Tv) :
    EvE false E XC Γ (tDc2 ti tg ti1 tg1 tk tv vs vs1) (dDict c) (fun R k ρ => T0 R (fun xs ρ => opt (compM (fun x ρ0 => T1 _ (fun ys ρ1 => opt (compL (fun y ρ1 => Tk _ (fun kx ρ2 => Tv _ (fun z ρ3 => .ok (some (kx, z), bk1.f ρ3)) ρ2) (f1 ρ1 y)) ys ρ1) fun zs => .ok (zs.1, bk.f zs.2)) (f ρ0 x)) xs ρ) fun ys => chk (decide (ys.1.length ≤ 16777216)) (k (dmerge [] ys.1) ys.2)) ρ) := fun B σ F H ρ I R G hG k Q g qq => by
  refine h B σ F H ρ I R G hG _ _ g fun xs ρ1 J F1 H1 I1 e1 w g1 hz D hD => ?_
  obtain ⟨Y, w, hy⟩ := w.ex
  generalize hbody0 : (fun (x : a.α) (ρ0 : Env Γ) => T1 _ (fun ys ρ1 => opt (compL (fun y ρ1 => Tk _ (fun kx ρ2 => Tv _ (fun z ρ3 => Res.ok (some (kx, z), bk1.f ρ3)) ρ2) (f1 ρ1 y)) ys ρ1) fun zs => Res.ok (zs.1, bk.f zs.2)) (f ρ0 x)) = body0 at g1
  generalize hcl : compM body0 xs ρ1 = cl at g1
  cases cl with
  | none => exact absurd g1 hG.1
  | some ys =>
  obtain ⟨ys, ρe⟩ := ys
  have g1 : G (chk (decide (ys.length ≤ 16777216)) (k (dmerge [] ys) ρe)) := g1
  have hysl : ys.length ≤ 16777216 := by
    by_cases hh : ys.length ≤ 16777216
    · exact hh
    · rw [decide_eq_false hh] at g1; exact absurd g1 hG.1
  rw [decide_eq_true hysl] at g1
  have g1 : G (k (dmerge [] ys) ρe) := g1
  have hsl := sizeLine_eq
  have S0 : SApart B Γ σ F1 (upd H1 D (.dK [])) ρ1 D := I1.apart hD
  refine go_it (body := fun σ2 H2 Nx => wipe σ2 vs = wipe σ vs ∧ ti1 σ2 H2 fun J1 H4 => ∃ W1 : Nat → Nat → Hp → Prop, (∃ m, W1 0 m H4) ∧ ∀ j k H, W1 j k H →
      (J1.stop j H ∧ Nx H) ∨ (J1.go j H ∧ ∃ Nx1 : Hp → Prop, (∀ H', Nx1 H' → ∃ k', k' < k ∧ W1 (j + 1) k' H') ∧ ∀ x H', J1.yld j H x H' → tg1 x (wipe σ2 vs1) H' fun σ3 H5 => wipe σ3 vs1 = wipe σ2 vs1 ∧
        tk σ3 H5 fun y H6 => tv σ3 H6 fun z H7 => ∃ kvs k, y = kV k ∧ H7 D = some (.dK kvs) ∧ kvs.length < sizeLine ∧ Nx1 (upd H7 D (.dK (putK kvs k z)))))
    w (fun i H' => i ≤ xs.length ∧ ∃ F' ρ0 acc vs' rest, SApart B Γ (wipe σ vs) F' H' ρ0 D ∧ Ex F1 F' ∧ H' D = some (.dK vs') ∧ KVR c F' vs' (dmerge [] acc) ∧ compM body0 (xs.drop i) ρ0 = some (rest, ρe) ∧ ys = acc ++ rest)
    ⟨Nat.zero_le _, F1, ρ1, [], [], ys, S0.wiped hv, Ex.refl _, upd_same, .nil, hcl, rfl⟩ (fun i H' _ ⟨_, F', _, _, _, _, S, e', _⟩ => e'.trans S.inv.fh) ?_ ?_
  · rintro i v H' H2 hi ⟨_, F', ρ0, acc, vs', rest, S, e', hDl, pv, hcl', hys⟩ y
    obtain ⟨F2, x, hx, pp, r⟩ := hy i H' v H2 F' y e' S.inv.fh
    obtain ⟨hlt, hxe⟩ := List.getElem?_eq_some_iff.mp hx
    have ed : xs.drop i = x :: xs.drop (i + 1) := by rw [← hxe]; exact (List.drop_eq_getElem_cons hlt)
    rw [ed] at hcl'
    obtain ⟨o, ρ3, ys', hbody, hrest, hrr⟩ := compM_cons hcl'
    rw [← hbody0] at hbody
    obtain ⟨B2, I2, hfr, back⟩ := S.go hDl
    have I2' := I2.pext pp
    refine ht B2 _ F2 H2 ρ0 v x I2' r _ fun σ3 I3 hag hln => ?_
    have ew3 : wipe σ3 vs = wipe σ vs := wiped_on (B := B) (B2 := B2) (Γ := Γ) (Γx := Γ) (D := D) (o := .dK []) his hag hln
    refine ⟨ew3, ?_⟩
    refine h1 B2 σ3 F2 H2 _ I3 _ (fun r => r = Res.ok (o, ρ3)) (rs0 (fun z => nomatch z) fun n z => nomatch z) _ _ hbody fun xs1 ρ5 J1 F5 H5 I5 e5 w5 g5 hz5 => ?_
    have hup : ∀ {Fz Hz : Hp} {ρz : Env Γ1} {σz : L2.St}, wipe σz vs = wipe σ vs → SApart B Γ1 σz Fz Hz ρz D → SApart B Γ (wipe σ vs) Fz Hz (bk.f ρz) D := fun {Fz Hz ρz σz} ez Sz => by
      have S2 := (bk.apart Sz).wiped hv
      rw [ez] at S2
      exact S2
    obtain ⟨Y1, w5, hy5⟩ := w5.ex
    generalize hbody1 : (fun (y : a1.α) (ρ1 : Env Γ1) => Tk _ (fun kx ρ2 => Tv _ (fun z ρ3 => Res.ok (some (kx, z), bk1.f ρ3)) ρ2) (f1 ρ1 y)) = body1 at g5
    generalize hcl1 : compL body1 xs1 ρ5 = cl1 at g5
    cases cl1 with
    | none => exact absurd g5 (fun z => nomatch z)
    | some zs =>
    obtain ⟨zs, ρz⟩ := zs
    have g5 : Res.ok (zs, bk.f ρz) = Res.ok (o, ρ3) := g5
    obtain ⟨S5, h5⟩ := back _ _ _ _ _ I5
    refine go_it (body := fun σ3' H5 Nx1 => wipe σ3' vs1 = wipe σ3 vs1 ∧ tk σ3' H5 fun y H6 => tv σ3' H6 fun z H7 => ∃ kvs k, y = kV k ∧ H7 D = some (.dK kvs) ∧ kvs.length < sizeLine ∧ Nx1 (upd H7 D (.dK (putK kvs k z))))
      w5 (fun j Hj => j ≤ xs1.length ∧ ∃ Fj ρj acc1 vsj rest1, SApart B Γ1 (wipe σ3 vs1) Fj Hj ρj D ∧ Ex F5 Fj ∧ Hj D = some (.dK vsj) ∧ KVR c Fj vsj (dmerge [] (acc ++ acc1)) ∧ compL body1 (xs1.drop j) ρj = some (rest1, ρz) ∧ zs = acc1 ++ rest1)
      ⟨Nat.zero_le _, F5, ρ5, [], vs', zs, S5.wiped hv1, Ex.refl _, h5, by rw [List.append_nil]; exact pv.ext (pp.ff.trans e5.1), hcl1, rfl⟩ (fun j Hj _ ⟨_, Fj, _, _, _, _, Sj, ej, _⟩ => ej.trans Sj.inv.fh) ?_ ?_
    · rintro j vj Hj Hj' hj ⟨_, Fj, ρj, acc1, vsj, rest1, Sj, ej, hDj, pvj, hclj, hzs⟩ yj
      obtain ⟨F6, y1, hy1, pp1, r6⟩ := hy5 j Hj vj Hj' Fj yj ej Sj.inv.fh
      obtain ⟨hlt1, hye⟩ := List.getElem?_eq_some_iff.mp hy1
      have ed1 : xs1.drop j = y1 :: xs1.drop (j + 1) := by rw [← hye]; exact (List.drop_eq_getElem_cons hlt1)
      rw [ed1] at hclj
      obtain ⟨o1, ρ7, rest2, hb1, hrest1, hrr1⟩ := compL_cons hclj
      rw [← hbody1] at hb1
      obtain ⟨B3, I6, hfr3, back3⟩ := Sj.go hDj
      have I6' := I6.pext pp1
      refine ht1 B3 _ F6 Hj' ρj vj y1 I6' r6 _ fun σ7 I7 hag7 hln7 => ?_
      have ew7 : wipe σ7 vs1 = wipe σ3 vs1 := wiped_on (B := B) (B2 := B3) (Γ := Γ) (Γx := Γ) (D := D) (o := .dK []) his1 hag7 hln7
      refine ⟨ew7, ?_⟩
      refine hk B3 σ7 F6 Hj' _ I7 _ (fun r => r = Res.ok (o1, ρ7)) (rs0 (fun z => nomatch z) fun n z => nomatch z) _ _ hb1 fun kx ρ8 u8 F8 H8 I8 e8 r8 g8 => ?_
      refine he B3 σ7 F8 H8 ρ8 I8 _ (fun r => r = Res.ok (o1, ρ7)) (rs0 (fun z => nomatch z) fun n z => nomatch z) _ _ g8 fun z1 ρ9 u9 F9 H9 I9 e9 r9 g9 => ?_
      cases g9
      have hup1 : SApart B Γ1 (wipe σ3 vs1) F9 H9 (bk1.f ρ9) D ∧ H9 D = some (.dK vsj) := by
        obtain ⟨Sz, hz⟩ := back3 _ _ _ _ _ (bk1.inv I9)
        have S2 := Sz.wiped hv1
        rw [ew7] at S2
        exact ⟨S2, hz⟩
      obtain ⟨S9, h9⟩ := hup1
      have pv9 := pvj.ext ((pp1.ff.trans e8.1).trans e9.1)
      have hzl : (acc ++ acc1).length + 1 ≤ ys.length := by
        cases g5
        rw [hys, hrr, hzs, hrr1]
        simp only [List.length_append, Option.toList, List.length_cons]
        omega
      refine ⟨vsj, .inl kx, r8, h9, ?_, hlt1, F9, _, acc1 ++ [(kx, z1)], _, rest2, S9.upd, ((ej.trans pp1.ff).trans e8.1).trans e9.1, upd_same, ?_, hrest1, ?_⟩
      · have := dmerge_len (acc ++ acc1) []
        have h2 : vsj.length = (dmerge [] (acc ++ acc1)).length := Paired.length pv9
        simp only [List.length_nil, Nat.zero_add] at this
        omega
      · rw [← List.append_assoc, dmerge_snoc]; exact pv9.put r9
      · rw [hzs, hrr1]; simp
    · rintro Hj ⟨_, Fj, ρj, acc1, vsj, rest1, Sj, ej, hDj, pvj, hclj, hzs⟩
      rw [List.drop_length] at hclj
      cases hclj
      rw [List.append_nil] at hzs
      subst hzs
      cases g5
      have Sk : SApart B Γ1 σ3 Fj Hj ρz D := Sj.unwiped hv1
      exact ⟨hlt, Fj, _, acc ++ o, vsj, ys', hup ew3 Sk, ((e'.trans pp.ff).trans e5.1).trans ej, hDj, pvj, hrest, by rw [hys, hrr]; simp⟩
  · rintro H' ⟨_, F', ρ0, acc, vs', rest, S, e', hDl, pv, hcl', hys⟩
    rw [List.drop_length] at hcl'
    cases hcl'
    rw [List.append_nil] at hys
    subst hys
    obtain ⟨L2, r2, w2, hn2, hF2, hB2⟩ := S.unwiped hv
    have w3 : Wd B (upd F' D (.dK vs')) H' L2 := ⟨w2.nd, fun k a ha => by
        obtain ⟨q1, o, q2⟩ := w2.fr k a ha
        have hne2 : a ≠ D := fun z => hn2 k (by rw [← z]; exact ha)
        exact ⟨by rw [upd_ne hne2]; exact q1, o, q2⟩, fun a u hu => by
          by_cases hb : a = D
          · subst hb; rw [upd_same] at hu; cases hu; exact hDl
          · rw [upd_ne hb] at hu; exact w2.fh a u hu, w2.bf.trans (Ex.new hF2), w2.keep, w2.there, fun a u hu => by
          by_cases hb : a = D
          · subst hb; exact .inr hB2
          · rw [upd_ne hb] at hu; exact w2.new a u hu, w2.own, w2.loc, w2.con⟩
    exact qq (dmerge [] ys) ρe (.ref D) (upd F' D (.dK vs')) H' ⟨L2, r2.ext (Ex.new hF2) fun _ _ _ => rfl, w3⟩ ⟨(e1.1.trans e').trans (Ex.new hF2), fun z => nomatch z⟩ ⟨D, vs', rfl, upd_same, pv.ext (Ex.new hF2)⟩ g1
end
end PuU
set_option Elab.async false
set_option linter.all false
set_option maxRecDepth 100000
set_option maxHeartbeats 4000000
namespace PuU
open PySem PySem.Spec PyProof.Rows L2 Evl Pu
/-! ### d.update(e): dicts by whole numbers -/
def rDUpd : V → List V → Hp → VK → Prop := fun x xs H Q => ∃ (a b : Addr) (ks ls : List (Key × V)), x = .ref a ∧ xs = [.ref b] ∧ a ≠ b ∧ H a = some (.dK ks) ∧ H b = some (.dK ls) ∧ ks.length + ls.length ≤ sizeLine ∧ Q .non (upd H a (.dK (mergeK ks ls)))
theorem mt_dupd {X : Cx} : MtR X "dict.update" rDUpd := by
  intro pins s σ H x xs v us Q I rx rv h
  obtain ⟨a, b, ks, ls, rfl, rfl, hab, ea, eb, hz, q⟩ := h
  obtain rfl : v = Value.ref a := rx
  obtain rfl : us = [Value.ref b] := Vals.ref1 rv
  obtain ⟨_, da, va, ra, dda⟩ := dk_of I.hok ea
  obtain ⟨_, db, vb, rb, ddb⟩ := dk_of I.hok eb
  refine call_meetsIn PySem.F.slot_dict_update dda.typeIs PySem.F.entry_dict_update (PySem.F.args_dict_update_2 _ _) (meets_dict_update (mixKind X.prog X.w) a b hab db)
    ⟨va, vb, dda, ddb, by rw [← ra.length, ← rb.length]; exact hz, fun h' d1 d2 hs => ⟨.non, upd H a (.dK (mergeK ks ls)), ?_, rfl, q⟩⟩
  have he : ∃ q, h'.get? a = some q := let ⟨q, _, _, hq, _⟩ := d1; ⟨q, hq⟩
  exact d_write (t' := s.toks) I (by rw [ea]; exact True.intro) hs he (dk_new (Nat.le_trans (length_mergeK ls ks) hz) da (rb.merge ra) d1)
section
variable {p : Bool} {E : XK} {XC : Str → Value} {Rt : Ret} {K : PySem.W.Frag} {Γ ΓL : List Sl} {te : TE} {c : DCod}
theorem kvr_merge {F : Hp} : ∀ {ls : List (Key × V)} {ys : List (Int × c.α)} {ks : List (Key × V)} {xs : List (Int × c.α)}, KVR c F ls ys → KVR c F ks xs → KVR c F (mergeK ks ls) (dmerge xs ys)
  | _, _, _, _, .nil, h => h
  | (.inl i, v) :: ls, (j, y) :: ys, ks, xs, .cons ⟨h1, h2⟩ t, h => by
    cases h1
    exact kvr_merge (ks := putK ks (.inl j) v) (xs := dput xs j y) t (h.put h2)
  | (.inr i, v) :: ls, (j, y) :: ys, ks, xs, .cons ⟨h1, h2⟩ t, h => nomatch h1
theorem en_dnewI : EvN p E XC Γ tDNewK (mDicI c) (fun R k ρ => k [] ρ) := fun B σ F H ρ I R G hG k Q g qq => by
  refine fun l hl => qq [] ρ (.ref l) [l] F H F _ I (Gt.refl I.fh) (Pext.own I.fh hl) ⟨by simp, fun a ha => ?_⟩ ⟨l, [], rfl, rfl, upd_same, .nil⟩ g
  obtain rfl : a = l := by simpa using ha
  exact ⟨hl, none_of I.fh hl, _, upd_same⟩
theorem st_dupd {i : Nat} {k : Kd} (hk : k ≠ .co) (at_ : At Γ i (.m k (mDicI c))) {T : (R : Type) → (List (Int × c.α) → Env Γ → Res R) → Env Γ → Res R} (h : EvE p E XC Γ te (dDict c) T) :
    StE E XC Rt Γ (tDrop (tBM K "dict" rDUpd (tVar i) (tCons te tNil))) Γ ΓL (fun R nx rt bk ct ρ => T R (fun x ρ => chk (decide (List.length (α := Int × c.α) (at_.get ρ) + List.length (α := Int × c.α) x ≤ 16777216)) (nx (at_.put ρ (dmerge (α := c.α) (at_.get ρ) x)))) ρ) := fun B σ F H ρ I R G hG nx rt bk ct D g qn qr qb qc => by
  obtain ⟨l0, ks0, h1, hl0, _⟩ := dici_step hk I at_
  refine ⟨.ref l0, h1, .inr (.inr (.inl ⟨rfl, .inl ⟨ks0, hl0⟩⟩)), h B σ F H ρ I R G hG _ _ g fun x ρ1 u F1 H1 I1 e1 r1 g1 => ?_⟩
  obtain ⟨v, fp, h2, _, hr, nd, hfp, _⟩ := I1.mut at_
  obtain ⟨l, ks, rfl, rfl, hl, pv⟩ := hr
  obtain ⟨l', ks', h2', hl', pv', hs⟩ := dici_step hk I1 at_
  rw [h1] at h2 h2'
  cases h2
  cases h2'
  by_cases hx : List.length (α := Int × c.α) (at_.get ρ1) + List.length (α := Int × c.α) x ≤ 16777216
  · rw [decide_eq_true hx] at g1
    obtain ⟨b, ls, rfl, hb, pb⟩ := r1
    have hne : l0 ≠ b := fun e => by
      have z := (hfp l0 (by simp)).1
      rw [e, hb] at z
      cases z
    have hsz := sizeLine_eq
    refine ⟨l0, b, ks', ls, rfl, rfl, hne, hl', I1.fh b _ hb, ?_, qn _ σ F1 _ (hs _ _ (kvr_merge pb pv')) e1.1 g1⟩
    have z1 := Paired.length pv'
    have z2 := Paired.length pb
    rw [z1, z2, hsz]
    exact hx
  · rw [decide_eq_false hx] at g1
    exact absurd g1 hG.1
end
end PuU
set_option Elab.async false
set_option linter.all false
set_option maxRecDepth 100000
set_option maxHeartbeats 4000000
namespace PuU
open PySem L2 Evl Pu
section
variable {p : Bool} {E : XK} {XC : Str → Value} {Γ Γ1 : List Sl} {tk tv : TE} {tt : TT} {ti : TI} {tg : TG} {a c : DCod}
/-- a dict comprehension with a condition, as a new dict that may change -/
theorem en_dcTN {vs is : List Nat} {q : Bool} {f : Env Γ → a.α → Env Γ1} {T0 : (R : Type) → (List a.α → Env Γ → Res R) → Env Γ → Res R} {Tt : (R : Type) → (Bool → Env Γ1 → Res R) → Env Γ1 → Res R} {Tk : (R : Type) → (Int → Env Γ1 → Res R) → Env Γ1 → Res R} {Tv : (R : Type) → (c.α → Env Γ1 → Res R) → Env Γ1 → Res R}
    (hv : allNo Γ vs = true) (his : ∀ i, i ∈ is → i ∈ vs) (bk : Bk Γ1 Γ) (h : EvI false E XC Γ ti a T0) (ht : TgE Γ tg a Γ1 f is) (hc : EvT q E0 XC Γ1 tt Tt) (hk : EvE q E0 XC Γ1 tk dInt Tk) (he : EvE q E0 XC Γ1 tv c Tv) :
    EvN false E XC Γ (tDc ti tg tt tk tv vs) (mDicI c) (fun R k ρ => T0 R (fun xs ρ => opt (compL (fun x ρ0 => Tt _ (fun b ρ9 => if b = true then Tk _ (fun y ρ1 => Tv _ (fun z ρ2 => .ok (some (y, z), bk.f ρ2)) ρ1) ρ9 else .ok (none, bk.f ρ9)) (f ρ0 x)) xs ρ) fun ys => k (dmerge [] ys.1) ys.2) ρ) := fun B σ F H ρ I R G hG k Q g qq => by
  refine h B σ F H ρ I R G hG _ _ g fun xs ρ1 J F1 H1 I1 e1 w g1 hz D hD => ?_
  obtain ⟨Y, w, hy⟩ := w.ex
  generalize hcl : compL (fun x ρ0 => Tt _ (fun b ρ9 => if b = true then Tk _ (fun y ρ1 => Tv _ (fun z ρ2 => Res.ok (some (y, z), bk.f ρ2)) ρ1) ρ9 else Res.ok (none, bk.f ρ9)) (f ρ0 x)) xs ρ1 = cl at g1
  cases cl with
  | none => exact absurd g1 hG.1
  | some ys =>
  obtain ⟨ys, ρe⟩ := ys
  have g1 : G (k (dmerge [] ys) ρe) := g1
  have S0 : SApart B Γ σ F1 (upd H1 D (.dK [])) ρ1 D := I1.apart hD
  refine dc_it w (g := tg) (tt := tt) (tk := tk) (tv := tv) (vs := vs) (σ := σ) (fun i H' => i ≤ xs.length ∧ ∃ F' ρ0 acc vs' rest, SApart B Γ (wipe σ vs) F' H' ρ0 D ∧ Ex F1 F' ∧ H' D = some (.dK vs') ∧ KVR c F' vs' (dmerge [] acc) ∧ acc.length ≤ i ∧ compL (fun x ρ0 => Tt _ (fun b ρ9 => if b = true then Tk _ (fun y ρ1 => Tv _ (fun z ρ2 => Res.ok (some (y, z), bk.f ρ2)) ρ1) ρ9 else Res.ok (none, bk.f ρ9)) (f ρ0 x)) (xs.drop i) ρ0 = some (rest, ρe) ∧ ys = acc ++ rest)
    ⟨Nat.zero_le _, F1, ρ1, [], [], ys, S0.wiped hv, Ex.refl _, upd_same, .nil, Nat.le_refl _, hcl, rfl⟩ (fun i H' _ ⟨_, F', _, _, _, _, S, e', _⟩ => e'.trans S.inv.fh) ?_ ?_
  · rintro i v H' H2 hi ⟨_, F', ρ0, acc, vs', rest, S, e', hDl, pv, hacc, hcl', hys⟩ y
    obtain ⟨F2, x, hx, pp, r⟩ := hy i H' v H2 F' y e' S.inv.fh
    obtain ⟨hlt, hxe⟩ := List.getElem?_eq_some_iff.mp hx
    have ed : xs.drop i = x :: xs.drop (i + 1) := by rw [← hxe]; exact (List.drop_eq_getElem_cons hlt)
    rw [ed] at hcl'
    obtain ⟨o, ρ3, ys', hbody, hrest, hrr⟩ := compL_cons hcl'
    obtain ⟨B2, I2, hfr, back⟩ := S.go hDl
    have I2' := I2.pext pp
    refine ht B2 _ F2 H2 ρ0 v x I2' r _ fun σ3 I3 hag hln => ?_
    have e3 : wipe σ3 vs = wipe σ vs := wiped_on (B := B) (B2 := B2) (Γ := Γ) (Γx := Γ) (D := D) (o := .dK []) his hag hln
    refine ⟨e3, ?_⟩
    refine hc B2 σ3 F2 H2 _ I3 _ (fun r => r = Res.ok (o, ρ3)) (rs0 (fun z => nomatch z) fun n z => nomatch z) _ _ hbody fun bb ρ9 F9 H9 I9 e9 g9 => ?_
    have hup : ∀ {Fz Hz : Hp} {ρz : Env Γ1}, SInv B2 Γ1 σ3 Fz Hz ρz → SApart B Γ (wipe σ vs) Fz Hz (bk.f ρz) D ∧ Hz D = some (.dK vs') := fun {Fz Hz ρz} Iz => by
      obtain ⟨Sz, hz⟩ := back _ _ _ _ _ (bk.inv Iz)
      have S2 := Sz.wiped hv
      rw [e3] at S2
      exact ⟨S2, hz⟩
    have hsl := sizeLine_eq
    cases bb with
    | true =>
      rw [if_pos rfl] at g9 ⊢
      refine hk B2 σ3 F9 H9 _ I9 _ (fun r => r = Res.ok (o, ρ3)) (rs0 (fun z => nomatch z) fun n z => nomatch z) _ _ g9 fun kx ρ4 u4 F4 H4 I4 e4 r4 g4 => ?_
      refine he B2 σ3 F4 H4 ρ4 I4 _ (fun r => r = Res.ok (o, ρ3)) (rs0 (fun z => nomatch z) fun n z => nomatch z) _ _ g4 fun y ρ5 u F5 H5 I5 e5 r5 g5 => ?_
      cases g5
      obtain ⟨S5, h5⟩ := hup I5
      have pv5 := pv.ext (((pp.ff.trans e9.1).trans e4.1).trans e5.1)
      refine ⟨vs', .inl kx, r4, h5, ?_, hlt, F5, _, acc ++ [(kx, y)], _, ys', S5.upd, (((e'.trans pp.ff).trans e9.1).trans e4.1).trans e5.1, upd_same, ?_, ?_, hrest, ?_⟩
      · have := dmerge_len acc []
        have h2 : vs'.length = (dmerge [] acc).length := Paired.length pv5
        simp only [List.length_nil, Nat.zero_add] at this
        omega
      · rw [dmerge_snoc]; exact pv5.put r5
      · rw [List.length_append]; show _ + 1 ≤ _; omega
      · rw [hys, hrr]; simp
    | false =>
      rw [if_neg (by decide)] at g9 ⊢
      cases g9
      obtain ⟨S5, h5⟩ := hup I9
      exact ⟨hlt, F9, _, acc, vs', ys', S5, (e'.trans pp.ff).trans e9.1, h5, pv.ext (pp.ff.trans e9.1), by omega, hrest, by rw [hys, hrr]; simp⟩
  · rintro H' ⟨_, F', ρ0, acc, vs', rest, S, e', hDl, pv, hacc, hcl', hys⟩
    rw [List.drop_length] at hcl'
    cases hcl'
    rw [List.append_nil] at hys
    subst hys
    obtain ⟨L2, r3, w2, hn2, hF2, hB2⟩ := S.unwiped hv
    have hne : ∀ a, a ≠ D → (fun b => if b = D then none else H' b : Hp) a = H' a := fun a ha => if_neg ha
    have hDn : (fun b => if b = D then none else H' b : Hp) D = none := if_pos rfl
    have w3 : Wd B F' (fun b => if b = D then none else H' b) L2 := ⟨w2.nd, fun k a ha => by
        obtain ⟨q1, o, q2⟩ := w2.fr k a ha
        exact ⟨q1, o, (hne a fun z => hn2 k (z ▸ ha)).trans q2⟩, fun a u hu => (hne a (ne_of_none hu hF2)).trans (w2.fh a u hu), w2.bf, fun a u hu h1 h2 => (hne a (ne_of_none hu hB2)).trans (w2.keep a u hu h1 h2),
        fun a u hu => by
          obtain ⟨o, ho⟩ := w2.there a u hu
          exact ⟨o, (hne a (ne_of_none hu hB2)).trans ho⟩, w2.new, w2.own, w2.loc, w2.con⟩
    have r4 : SRel Γ B.τ σ F' (fun b => if b = D then none else H' b) L2 ρe := r3.ext (Ex.refl _) fun k a ha => hne a fun z => hn2 k (z ▸ ha)
    refine qq (dmerge [] ys) _ (.ref D) [D] F' _ F' H' ⟨L2, r4, w3⟩ ⟨e1.1.trans e', fun z => nomatch z⟩ ⟨fun a o ho => ?_, Ex.refl _, w2.fh, fun a o ho => .inl ho⟩ ⟨by simp, fun a ha => ?_⟩ ⟨D, vs', rfl, rfl, hDl, pv⟩ g1
    · by_cases ha : a = D
      · subst ha
        have ho : (none : Option HO) = some o := hDn.symm.trans ho
        cases ho
      · exact (hne a ha).symm.trans ho
    · have ha : a = D := by simpa using ha
      subst ha
      exact ⟨hDn, hF2, _, hDl⟩
end
end PuU
set_option Elab.async false
set_option linter.all false
set_option maxRecDepth 100000
set_option maxHeartbeats 4000000
/-! zip of a list, a tuple and a list; len(set(t)) of a tuple; k in d, d that is walked -/
namespace PuU
open PySem PySem.Spec PyProof.Rows L2
def Itz3 (K : PySem.W.Frag) (a b c : Addr) : It :=
  ⟨fun i H => ∃ xs ys zs : List V, SqL K H a xs ∧ SqT K H b ys ∧ SqL K H c zs ∧ i < xs.length ∧ i < ys.length ∧ i < zs.length,
    fun i H v H' => ∃ T x y z, v = .ref T ∧ H T = none ∧ H' = upd H T (.tup [x, y, z]) ∧ (∀ xs, SqL K H a xs → xs[i]? = some x) ∧ (∀ ys, SqT K H b ys → ys[i]? = some y) ∧ ∀ zs, SqL K H c zs → zs[i]? = some z,
    fun i H => ∃ xs ys zs : List V, SqL K H a xs ∧ SqT K H b ys ∧ SqL K H c zs ∧ i ≤ xs.length ∧ i ≤ ys.length ∧ i ≤ zs.length ∧ (i = xs.length ∨ i = ys.length ∨ i = zs.length)⟩
theorem cell6 {α : Type} {c z TI TO i1 i2 i3 : α} (h : c ∈ [z, TI, TO, i1, i2, i3]) : c = z ∨ c = TI ∨ c = TO ∨ c = i1 ∨ c = i2 ∨ c = i3 := by simpa using h
theorem turn_zip3 {P : Program} {w : World} {K : PySem.W.Frag} {elts : List Expr} {kk : Nat} {tpos : Pos} {a b c z TI TO i1 i2 i3 : Addr} (S : ZipSep3 z TI TO i1 i2 i3 [i1, a] [i2, b] [i3, c]) (na : a ≠ i1) (nb : b ≠ i2) (nc : c ≠ i3) :
    Turn P w K (.Tuple elts kk tpos) (Itz3 K a b c) [z, TI, TO, i1, i2, i3] z (fun i h => IsZip h z TI TO .none ∧ IsTupOf3 h TI (.ref i1) (.ref i2) (.ref i3) ∧ (∃ x y u, IsTupOf3 h TO x y u) ∧ h.IsListIter i1 a i ∧ h.IsTupleIter i2 b i ∧ h.IsListIter i3 c i) where
  mem := by simp
  obj := fun i h ⟨hz, hTI, ⟨_, _, _, hTO⟩, ⟨o1, e1, _, d1⟩, ⟨o2, e2, _, d2⟩, ⟨o3, e3, _, d3⟩⟩ d hd => by
    rcases cell6 hd with q | q | q | q | q | q
    · rw [q]; exact ⟨_, hz, fun v q => nomatch q⟩
    · rw [q]; exact ⟨_, hTI, fun v q => nomatch q⟩
    · rw [q]; exact ⟨_, hTO, fun v q => nomatch q⟩
    · rw [q]; exact ⟨o1, e1, fun v q => by rw [d1] at q; cases q⟩
    · rw [q]; exact ⟨o2, e2, fun v q => by rw [d2] at q; cases q⟩
    · rw [q]; exact ⟨o3, e3, fun v q => by rw [d3] at q; cases q⟩
  keep := fun i h h' ⟨hz, hTI, ⟨x, y, u, hTO⟩, h1, h2, h3⟩ k => ⟨k z (by simp) _ hz, k TI (by simp) _ hTI, ⟨x, y, u, k TO (by simp) _ hTO⟩, h1.at fun o q => k i1 (by simp) o q, h2.at fun o q => k i2 (by simp) o q, h3.at fun o q => k i3 (by simp) o q⟩
  item := fun X hP hw hK hc i pins s σ H E I hf ⟨hz, hTI, ⟨_, _, _, hTO⟩, h1, h2, h3⟩ ⟨xs, ys, zs, qx, qy, qz, l1, l2, l3⟩ => by
    subst hP hw hK
    obtain ⟨ux, rx, px, _⟩ := I.list qx
    obtain ⟨uy, ry, py, _⟩ := I.tuple qy
    obtain ⟨uz, rz, pz, _⟩ := I.list qz
    have hh := I.ok.hd hc
    have D1 := Draws.list (prog := X.prog) (w := X.w) (A := X.A.in1) hh i1 a na ux.toArray
    have D2 := Draws.tuple (prog := X.prog) (w := X.w) (A := X.A.in1) hh i2 b nb uy.toArray
    have D3 := Draws.list (prog := X.prog) (w := X.w) (A := X.A.in1) hh i3 c nc uz.toArray
    have n1 := rx.length
    have n2 := ry.length
    have n3 := rz.length
    have zl := Heap.lt_size hz
    refine wpAny_pyNext_zipD3_item S D1 D2 D3 hz hTI hTO ⟨h1, px.isList⟩ ⟨h2, py⟩ ⟨h3, pz.isList⟩ (by simp; omega) (by simp; omega) (by simp; omega) fun x1 x2 x3 h' tk e1 e2 e3 z' TO' s1 s2 s3 hT hsz hk => ⟨_, rfl, ?_⟩
    refine wpAny_letOwnedTupleGo_zip (s := { s with heap := h', toks := tk }) z' fun h'' z'' sb => ?_
    obtain ⟨x, hx, r1⟩ : ∃ x, xs[i]? = some x ∧ RelV x x1 := by
      obtain ⟨u, hu, r⟩ := rx.get (List.getElem?_eq_getElem l1)
      refine ⟨_, List.getElem?_eq_getElem l1, ?_⟩
      have : ux[i]? = some x1 := by simpa using e1
      rw [hu] at this
      cases this
      exact r
    obtain ⟨y, hy, r2⟩ : ∃ x, ys[i]? = some x ∧ RelV x x2 := by
      obtain ⟨u, hu, r⟩ := ry.get (List.getElem?_eq_getElem l2)
      refine ⟨_, List.getElem?_eq_getElem l2, ?_⟩
      have : uy[i]? = some x2 := by simpa using e2
      rw [hu] at this
      cases this
      exact r
    obtain ⟨w, hw, r3⟩ : ∃ x, zs[i]? = some x ∧ RelV x x3 := by
      obtain ⟨u, hu, r⟩ := rz.get (List.getElem?_eq_getElem l3)
      refine ⟨_, List.getElem?_eq_getElem l3, ?_⟩
      have : uz[i]? = some x3 := by simpa using e3
      rw [hu] at this
      cases this
      exact r
    have hT2 : h''.get? s.heap.objs.size = some { cls := .type "tuple", data := .seq #[x1, x2, x3] } := (sb.2 _ (Nat.ne_of_gt zl)).trans hT
    have I1 : Inv X pins σ (upd H s.heap.objs.size (.tup [x, y, w])) { s with heap := h'', toks := tk } :=
      I.turnedNew (t' := tk) (ch := [z, TI, TO, i1, i2, i3]) (fun d o hb q => by
        simp only [List.mem_cons, List.not_mem_nil, or_false, not_or] at hb
        exact (sb.2 d hb.1).trans (hk d o hb.1 hb.2.2.1 hb.2.2.2.1 hb.2.2.2.2.1 hb.2.2.2.2.2 q)) hf (Nat.le_refl _) ⟨by show 3 ≤ sizeLine; decide, [x1, x2, x3], .cons r1 (.cons r2 (.cons r3 .nil)), ⟨_, hT2, rfl, _, rfl⟩⟩
    refine ⟨.ref s.heap.objs.size, _, I1, rfl, ⟨_, x, y, w, rfl, I.hok.fresh (Nat.le_refl _), rfl, fun l hl => by rw [I.list_inj hl qx]; exact hx, fun l hl => by rw [I.tuple_inj hl qy]; exact hy, fun l hl => by rw [I.list_inj hl qz]; exact hw⟩,
      ⟨z'', (sb.2 _ S.TIz).trans (hk _ _ S.TIz S.TITO S.TIi1 S.TIi2 S.TIi3 hTI), ⟨x1, x2, x3, (sb.2 _ S.TOz).trans TO'⟩, s1.1.at fun o q => (sb.2 _ (Ne.symm S.zi1)).trans q, s2.1.at fun o q => (sb.2 _ (Ne.symm S.zi2)).trans q, s3.1.at fun o q => (sb.2 _ (Ne.symm S.zi3)).trans q⟩, fun d hd => ?_⟩
    have hlt : d < s.heap.objs.size := by
      rcases cell6 hd with q | q | q | q | q | q
      · rw [q]; exact zl
      · rw [q]; exact Heap.lt_size hTI
      · rw [q]; exact Heap.lt_size hTO
      · rw [q]; obtain ⟨_, e, _⟩ := h1; exact Heap.lt_size e
      · rw [q]; obtain ⟨_, e, _⟩ := h2; exact Heap.lt_size e
      · rw [q]; obtain ⟨_, e, _⟩ := h3; exact Heap.lt_size e
    rw [upd_ne (Nat.ne_of_lt hlt)]
    exact (hf d hd).1
  done := fun X hP hw hK hc i pins s σ H E I hf ⟨hz, hTI, ⟨_, _, _, hTO⟩, h1, h2, h3⟩ ⟨xs, ys, zs, qx, qy, qz, l1, l2, l3, hend⟩ => by
    subst hP hw hK
    obtain ⟨ux, rx, px, _⟩ := I.list qx
    obtain ⟨uy, ry, py, _⟩ := I.tuple qy
    obtain ⟨uz, rz, pz, _⟩ := I.list qz
    have hh := I.ok.hd hc
    have D1 := Draws.list (prog := X.prog) (w := X.w) (A := X.A.in1) hh i1 a na ux.toArray
    have D2 := Draws.tuple (prog := X.prog) (w := X.w) (A := X.A.in1) hh i2 b nb uy.toArray
    have D3 := Draws.list (prog := X.prog) (w := X.w) (A := X.A.in1) hh i3 c nc uz.toArray
    have n1 := rx.length
    have n2 := ry.length
    have n3 := rz.length
    refine wpAny_pyNext_zipD3_end S D1 D2 D3 hz hTI hTO ⟨h1, px.isList⟩ ⟨h2, py⟩ ⟨h3, pz.isList⟩ (by simp; omega) (by simp; omega) (by simp; omega) (by simp; omega) fun h' tk hk => ⟨rfl, I.turnedL (t' := tk) (ch := [z, TI, TO, i1, i2, i3]) (fun d o hb q => ?_) hf⟩
    simp only [List.mem_cons, List.not_mem_nil, or_false, not_or] at hb
    exact hk d o hb.1 hb.2.2.1 hb.2.2.2.1 hb.2.2.2.2.1 hb.2.2.2.2.2 q
  self := fun A i s Q E st h => wpAny_pyIter_zip st.1 h
def iZip3 (K : PySem.W.Frag) (ta : TA) : TI := fun σ H R => ta σ H fun vs H1 => ∃ (a b c : Addr) (xs ys zs : List V), vs = [.ref a, .ref b, .ref c] ∧ SqL K H1 a xs ∧ SqT K H1 b ys ∧ SqL K H1 c zs ∧ R (Itz3 K a b c) H1
theorem pi_zip3 {X : Cx} {K : PySem.W.Frag} {e e2 e3 : Expr} {ta : TA} {p pos tpos : Pos} {elts : List Expr} {kk : Nat} (hg : Gl X "zip") (hm : X.mg "zip" = none) (ha : PA X [e, e2, e3] ta)
    (hs : starEach [e, e2, e3] X.env = (false, eval e X.env) :: starEach [e2, e3] X.env := by rfl) (hpl : (backTo pos (starEach [e2, e3] X.env)).any (·.1) = false := by rfl) (hK : X.K = K := by rfl) :
    PI X (.Tuple elts kk tpos) (.Call (.Name "zip" p) [e, e2, e3] [] pos) (iZip3 K ta) := by
  subst hK
  refine ⟨fun pins s σ H R I h => Call_ (ld_blt I hg hm PyProof.Rows.boot_zip (PyProof.Rows.callWith_type1 (thn (ha.run pos pins s σ H _ I h) fun us s1 ⟨vs, H1, I1, r1, a, b, c, xs, ys, zs, ex, qx, qy, qz, q⟩ => ?_) hs hpl))⟩
  subst ex
  obtain ⟨u1, us1, rfl, r1a, r1⟩ : ∃ u us', us = u :: us' ∧ RelV (.ref a) u ∧ Vals [V.ref b, V.ref c] us' := by cases r1 with | cons r t => exact ⟨_, _, rfl, r, t⟩
  obtain ⟨u2, us2, rfl, r2a, r1⟩ : ∃ u us', us1 = u :: us' ∧ RelV (.ref b) u ∧ Vals [V.ref c] us' := by cases r1 with | cons r t => exact ⟨_, _, rfl, r, t⟩
  obtain rfl := Vals.ref1 r1
  obtain rfl : u1 = Value.ref a := r1a
  obtain rfl : u2 = Value.ref b := r2a
  obtain ⟨ux, rx, px, _⟩ := I1.list qx
  obtain ⟨uy, ry, py, _⟩ := I1.tuple qy
  obtain ⟨uz, rz, pz, _⟩ := I1.list qz
  have la : a < s1.heap.objs.size := px.lt
  have lb : b < s1.heap.objs.size := let ⟨_, e, _⟩ := py; Heap.lt_size e
  have lc : c < s1.heap.objs.size := pz.lt
  refine zip_begins3 (begins_list a ux.toArray) (begins_tuple b uy.toArray) (begins_list c uz.toArray) px.isList py pz.isList fun h' hz hTI hTO g1 g2 g3 hsz hk => wpAny_pyIter_zip hz ?_
  have I2 : Inv X pins σ H1 { s1 with heap := h' } := I1.kept (t' := s1.toks) hk
  refine ⟨s1.heap.objs.size + 5, [s1.heap.objs.size + 5, s1.heap.objs.size + 3, s1.heap.objs.size + 4, s1.heap.objs.size, s1.heap.objs.size + 1, s1.heap.objs.size + 2], _, _, H1, rfl, I2,
    turn_zip3 (zip_sep3 (fp1 := [a]) (fp2 := [b]) (fp3 := [c]) (fun d hd => by rw [List.mem_singleton.mp hd]; exact la) (fun d hd => by rw [List.mem_singleton.mp hd]; exact lb) (fun d hd => by rw [List.mem_singleton.mp hd]; exact lc)) (Nat.ne_of_lt la) (Nat.ne_of_lt (Nat.lt_succ_of_lt lb)) (Nat.ne_of_lt (Nat.lt_succ_of_lt (Nat.lt_succ_of_lt lc))),
    ⟨hz, hTI, ⟨_, _, _, hTO⟩, ⟨_, g1, rfl, rfl⟩, ⟨_, g2, rfl, rfl⟩, ⟨_, g3, rfl, rfl⟩⟩, fun d hd => ?_, q⟩
  have hle : s1.heap.objs.size ≤ d := by
    rcases cell6 hd with q | q | q | q | q | q
    all_goals (rw [q]; first | exact Nat.le_refl _ | exact Nat.le_add_right _ _)
  exact I1.fpOk hle (I1.hok.fresh hle)
end PuU
set_option Elab.async false
set_option linter.all false
set_option maxRecDepth 100000
set_option maxHeartbeats 4000000
namespace PuU
open PySem PySem.Spec PyProof.Rows L2 Evl Pu
section
variable {p : Bool} {E : XK} {XC : Str → Value} {K : PySem.W.Frag} {Γ : List Sl} {te ta tb : TE} {tA : TA} {a b c : DCod}
def zip3 {α β γ : Type} (xs : List α) (ys : List β) (zs : List γ) : List (α × β × γ) := xs.zip (ys.zip zs)
theorem zip3_len {α β γ : Type} (xs : List α) (ys : List β) (zs : List γ) : (zip3 xs ys zs).length = min xs.length (min ys.length zs.length) := by
  unfold zip3
  rw [List.length_zip, List.length_zip]
theorem ei_zip3 {T : (R : Type) → (DEnv [dLst a, dTup b, dLst c] → Env Γ → Res R) → Env Γ → Res R} (h : EvA p E XC Γ tA [dLst a, dTup b, dLst c] T) :
    EvI p E XC Γ (iZip3 K tA) (dP3 a b c) (fun R k ρ => T R (fun x ρ => k (zip3 (α := a.α) (β := b.α) (γ := c.α) x.1 x.2.1 x.2.2.1) ρ) ρ) := fun B σ F H ρ I R G hG k Q g qq =>
  h B σ F H ρ I R G hG _ _ g fun x ρ' vs F' H' I' e r g' => by
    obtain ⟨v1, vs1, rfl, r1, v2, vs2, rfl, r2, v3, vs3, rfl, r3, r4⟩ := r
    have r4 : vs3 = [] := r4
    subst r4
    obtain ⟨l1, us, rfl, h1, p1, z1⟩ := r1
    obtain ⟨l2, ws, rfl, h2, p2, z2⟩ := r2
    obtain ⟨l3, qs, rfl, h3, p3, z3⟩ := r3
    have n1 := p1.length
    have n2 := p2.length
    have n3 := p3.length
    have W : Walks (Itz3 K l1 l2 l3) (dP3 a b c) (zip3 (α := a.α) (β := b.α) (γ := c.α) x.1 x.2.1 x.2.2.1) F' := ⟨fun i H2 v H3 => ∃ T x y z, v = .ref T ∧ H2 T = none ∧ H3 = upd H2 T (.tup [x, y, z]) ∧ us[i]? = some x ∧ ws[i]? = some y ∧ qs[i]? = some z,
      ⟨fun i H2 hi q => ⟨us, ws, qs, SqL.of (q l1 _ h1), SqT.rd q h2, SqL.of (q l3 _ h3), by rw [zip3_len] at hi; omega, by rw [zip3_len] at hi; omega, by rw [zip3_len] at hi; omega⟩,
       fun H2 q => ⟨us, ws, qs, SqL.of (q l1 _ h1), SqT.rd q h2, SqL.of (q l3 _ h3), by rw [zip3_len]; omega, by rw [zip3_len]; omega, by rw [zip3_len]; omega, by rw [zip3_len]; omega⟩,
       fun i H2 v H3 hi q y => by
        obtain ⟨T, x, y, z, e1, e2, e3, e4, e5, e6⟩ := y
        exact ⟨T, x, y, z, e1, e2, e3, e4 _ (SqL.of (q l1 _ h1)), e5 _ (SqT.rd q h2), e6 _ (SqL.of (q l3 _ h3))⟩⟩,
      fun i H2 v H3 F1 y e1 e2 => by
        obtain ⟨T, x, y, z, rfl, hT, rfl, hx, hy, hz⟩ := y
        obtain ⟨x', hx', rx⟩ := p1.get' hx
        obtain ⟨y', hy', ry⟩ := p2.get' hy
        obtain ⟨z', hz', rz⟩ := p3.get' hz
        have P1 := Pext.one (o := .tup [x, y, z]) e2 hT
        refine ⟨_, (x', y', z'), ?_, P1, T, x, y, z, rfl, upd_same, a.ext rx (e1.trans P1.ff), b.ext ry (e1.trans P1.ff), c.ext rz (e1.trans P1.ff)⟩
        unfold zip3
        rw [List.getElem?_zip_eq_some]
        exact ⟨hx', by rw [List.getElem?_zip_eq_some]; exact ⟨hy', hz'⟩⟩⟩
    exact ⟨l1, l2, l3, us, ws, qs, rfl, SqL.of (I'.fh l1 _ h1), SqT.rd I'.fh h2, SqL.of (I'.fh l3 _ h3), qq _ ρ' _ F' H' I' e W g' (by rw [zip3_len]; have z1 : List.length (α := a.α) x.1 ≤ sizeLine := z1; omega)⟩
/-! ### k in d, d that may be walked -/
theorem ev_fin {Ta : (R : Type) → (Int → Env Γ → Res R) → Env Γ → Res R} {Tb : (R : Type) → (List (Int × c.α) → Env Γ → Res R) → Env Γ → Res R} (ha : EvE p E XC Γ ta dInt Ta) (hb : EvE p E XC Γ tb (dDicF c) Tb) :
    EvE p E XC Γ (tDIn ta tb) dBl (fun R k ρ => Ta R (fun x ρ => Tb R (fun y ρ => k (dget y x).isSome ρ) ρ) ρ) := fun B σ F H ρ I R G hG k Q g q =>
  ha B σ F H ρ I R G hG _ _ g fun x ρ1 v F1 H1 I1 e1 r1 g1 => hb B σ F1 H1 ρ1 I1 R G hG _ _ g1 fun y ρ2 w F2 H2 I2 e2 r2 g2 => by
    obtain ⟨l, od, ks, rfl, hl, hk, _⟩ := r2
    obtain ⟨h1, h2⟩ := KVR.get (i := x) hk
    rw [show v = V.int x from r1]
    refine ⟨l, valV ks (.inl x), rfl, .inl ⟨ks, .inl x, .inr ⟨od, I2.fh l _ hl⟩, rfl, rfl⟩, q _ ρ2 _ F2 H2 I2 (e1.trans e2) ?_ g2⟩
    show V.bl _ = V.bl _
    congr 1
    cases hz : dget y x with
    | none => rw [h2 hz]; rfl
    | some z =>
      obtain ⟨u, hu, _⟩ := h1 z hz
      rw [hu]; rfl
end
/-! ### len(set(t)), t a tuple of unlike whole numbers -/
def nodupI : List Int → Bool
  | [] => true
  | x :: xs => !xs.contains x && nodupI xs
theorem nodupI_ok : ∀ {l : List Int}, nodupI l = true → l.Nodup
  | [], _ => List.nodup_nil
  | x :: xs, h => by
    unfold nodupI at h
    obtain ⟨h1, h2⟩ := Bool.and_eq_true_iff.mp h
    refine List.nodup_cons.mpr ⟨fun hm => ?_, nodupI_ok h2⟩
    rw [List.contains_iff_mem.mpr hm] at h1
    cases h1
theorem nodupI_of : ∀ {l : List Int}, l.Nodup → nodupI l = true
  | [], _ => rfl
  | x :: xs, h => by
    obtain ⟨h1, h2⟩ := List.nodup_cons.mp h
    unfold nodupI
    rw [nodupI_of h2, Bool.and_true]
    cases hc : xs.contains x with
    | false => rfl
    | true => exact absurd (List.contains_iff_mem.mp hc) h1
def lenSet (xs : List Int) : Option Int := if xs.length < 1000 ∧ nodupI xs = true then some (xs.length : Int) else none
theorem len_same {α : Type} [DecidableEq α] {xs ys : List α} (n1 : xs.Nodup) (n2 : ys.Nodup) (h : ∀ x, x ∈ xs ↔ x ∈ ys) : xs.length = ys.length :=
  Nat.le_antisymm (len_sub n1 fun x hx => (h x).mp hx) (len_sub n2 fun x hx => (h x).mpr hx)
def tLenSetT (K : PySem.W.Frag) (ta : TE) : TE := fun σ H Q => ta σ H fun x H1 => ∃ (l : Addr) (ns : List Int), x = V.ref l ∧ SqT K H1 l (ns.map V.int) ∧ ns.length < 1000 ∧ ns.Nodup ∧ Q (.int ns.length) H1
theorem pe_lenSetT {X : Cx} {K : PySem.W.Frag} {a : Expr} {ta : TE} {p p2 q pos : Pos} (hc : X.calm = true) (hg : Gl X "len") (hm : X.mg "len" = none) (hg2 : Gl X "set") (hm2 : X.mg "set" = none) (ha : PE X a ta)
    (na : starEach [a] X.env = (false, eval a X.env) :: starEach [] X.env := by rfl) (hK : X.K = K := by rfl) : PE X (.Call (.Name "len" p) [.Call (.Name "set" p2) [a] [] q] [] pos) (tLenSetT K ta) := by
  subst hK
  refine ⟨fun pins s σ H Q I h => Call_ (ld_blt I hg hm PySem.boot_len (PyProof.Rows.callWith_builtin1 (PyProof.Rows.args_cons (Call_ (ld_blt I hg2 hm2 PyProof.Rows.boot_set
    (PyProof.Rows.callWith_type1 (PyProof.Rows.args_cons (thn (ha.run pins s σ H _ I h) fun v s1 ⟨x, H1, I1, r1, l, ns, ex, hq, h1, hnd, q1⟩ => PyProof.Rows.args_nil ?_) na) na rfl))) rfl) rfl rfl))⟩
  subst ex
  cases r1
  obtain ⟨its, r, pl, hz⟩ := I1.tuple hq
  refine call_set_tupI ns (I1.ok.hd hc) pl (by simpa using r.ints) (by unfold scanBound; omega) fun h' tk c R _ hk => PyProof.Rows.args_nil ?_
  obtain ⟨o, es, ep, t, ho, hex, hd, _, hnd2, hmem, _, hf, hn, _⟩ := R
  have hlen : es.size = ns.length := by
    have e1 := len_same hnd2 hnd fun k => by rw [← hmem k, decide_eq_true_iff]
    rw [List.length_map, Array.length_toList] at e1
    exact e1
  have I2 : Inv X pins σ H1 { s1 with heap := h', toks := tk } := I1.kept hk
  exact call_len_set ho hex hd hf (by omega) ⟨.int ns.length, H1, I2.tok _, ⟨_, by rw [hlen]⟩, q1⟩
section
variable {p : Bool} {E : XK} {XC : Str → Value} {K : PySem.W.Frag} {Γ : List Sl} {te : TE}
theorem ev_lenSetT {T : (R : Type) → (List Int → Env Γ → Res R) → Env Γ → Res R} (h : EvE p E XC Γ te (dTup dInt) T) :
    EvE p E XC Γ (tLenSetT K te) dInt (fun R k ρ => T R (fun xs ρ => opt (lenSet xs) fun z => k z ρ) ρ) := fun B σ F H ρ I R G hG k Q g qq =>
  h B σ F H ρ I R G hG _ _ g fun xs ρ' v F1 H1 I1 e1 r1 g1 => by
    by_cases hx : List.length (α := Int) xs < 1000 ∧ nodupI xs = true
    · rw [show lenSet xs = some _ from if_pos hx] at g1
      obtain ⟨l, vs, rfl, hl, pv, hz⟩ := r1
      rw [ints_of pv] at hl
      exact ⟨l, xs, rfl, SqT.rd I1.fh hl, hx.1, nodupI_ok hx.2, qq _ ρ' _ F1 H1 I1 e1 rfl g1⟩
    · rw [show lenSet xs = none from if_neg hx] at g1
      exact absurd g1 hG.1
end
end PuU
set_option Elab.async false
set_option linter.all false
set_option maxRecDepth 100000
set_option maxHeartbeats 4000000
namespace PuU
open PySem PySem.Spec PyProof.Rows L2 Evl Pu
/-! ### three of a kind as a tuple; d.setdefault(k, x); xs[i] += x -/
theorem sb_p3tup {c : DCod} : Sb (dP3 c c c) (dTup c) (fun x => [x.1, x.2.1, x.2.2]) := fun F v x h => by
  obtain ⟨p, u, w, z, rfl, h2, h3, h4, h5⟩ := h
  have hsz := sizeLine_eq
  exact ⟨p, [u, w, z], rfl, .inl h2, .cons h3 (.cons h4 (.cons h5 .nil)), by show 3 ≤ sizeLine; omega⟩
theorem sb_p2tup {c : DCod} : Sb (dP2 c c) (dTup c) (fun x => [x.1, x.2]) := fun F v x h => by
  obtain ⟨p, u, w, rfl, h2, h3, h4⟩ := h
  have hsz := sizeLine_eq
  exact ⟨p, [u, w], rfl, .inl h2, .cons h3 (.cons h4 .nil), by show 2 ≤ sizeLine; omega⟩
/-- what setdefault leaves -/
def dsetd {α : Type} (kvs : List (Int × α)) (k : Int) (x : α) : List (Int × α) := match dget kvs k with
  | some _ => kvs
  | none => dput kvs k x
section
variable {p : Bool} {E : XK} {XC : Str → Value} {Rt : Ret} {K : PySem.W.Frag} {Γ ΓL : List Sl} {te tb : TE} {c : DCod}
theorem st_setd {i : Nat} {k : Kd} (hk : k ≠ .co) (at_ : At Γ i (.m k (mDicI c))) {T : (R : Type) → (c.α → Env Γ → Res R) → Env Γ → Res R} {Ti : (R : Type) → (Int → Env Γ → Res R) → Env Γ → Res R} (hi : EvE p E XC Γ tb dInt Ti) (h : EvE p E XC Γ te c T) :
    StE E XC Rt Γ (tDrop (tDSetd (tVar i) tb te)) Γ ΓL (fun R nx rt bk ct ρ => Ti R (fun j ρ => T R (fun x ρ => chk (decide (List.length (α := Int × c.α) (at_.get ρ) < 16777216)) (nx (at_.put ρ (dsetd (α := c.α) (at_.get ρ) j x)))) ρ) ρ) := fun B σ F H ρ I R G hG nx rt bk ct D g qn qr qb qc => by
  obtain ⟨l0, ks0, h1, hl0, _⟩ := dici_step hk I at_
  refine ⟨.ref l0, h1, l0, rfl, .inl ⟨ks0, .inl hl0⟩, hi B σ F H ρ I R G hG _ _ g fun j ρ1 w F1 H1 I1 e1 r1 g1 => h B σ F1 H1 ρ1 I1 R G hG _ _ g1 fun x ρ2 u F2 H2 I2 e2 r2 g2 => ?_⟩
  obtain ⟨l, ks, h2, hl, pv, hs⟩ := dici_step hk I2 at_
  rw [h1] at h2
  cases h2
  have r1 : w = V.int j := r1
  subst r1
  by_cases hx : List.length (α := Int × c.α) (at_.get ρ2) < 16777216
  · rw [decide_eq_true hx] at g2
    have hsz := sizeLine_eq
    have hpl := Paired.length pv
    obtain ⟨k1, k2⟩ := KVR.get (i := j) pv
    refine ⟨ks, .inl j, hl, rfl, by rw [hsz, hpl]; exact hx, fun v hv => ?_, fun hv => ?_⟩
    · have e : dsetd (α := c.α) (at_.get ρ2) j x = at_.get ρ2 := by
        unfold dsetd
        cases hd : dget (at_.get ρ2) j with
        | some z => rfl
        | none => rw [k2 hd] at hv; cases hv
      have z := hs ks (at_.get ρ2) pv
      rw [upd_self hl, ← e] at z
      exact qn _ σ F2 _ z (e1.1.trans e2.1) g2
    · have e : dsetd (α := c.α) (at_.get ρ2) j x = dput (α := c.α) (at_.get ρ2) j x := by
        unfold dsetd
        cases hd : dget (at_.get ρ2) j with
        | some z =>
          obtain ⟨v, hv2, _⟩ := k1 z hd
          rw [hv2] at hv; cases hv
        | none => rfl
      have z := hs _ _ (pv.put (i := j) r2)
      rw [← e] at z
      exact qn _ σ F2 _ z (e1.1.trans e2.1) g2
  · rw [decide_eq_false hx] at g2
    exact absurd g2 hG.1
/-- xs[i] += e, whole numbers -/
theorem st_augIxM {o : Int → Int → Int} {i : Nat} {k : Kd} (hk : k ≠ .co) (at_ : At Γ i (.m k (mLst dInt))) {Ti T : (R : Type) → (Int → Env Γ → Res R) → Env Γ → Res R} (hi : EvE p E XC Γ tb dInt Ti) (h : EvE p E XC Γ te dInt T) :
    StE E XC Rt Γ (tAugS (tVar i) tb te (rIxL K) (ipI o) rSetL) Γ ΓL (fun R nx rt bk ct ρ => Ti R (fun n ρ => opt (L2.atI (α := Int) (at_.get ρ) n) fun y => T R (fun x ρ => opt (setL (α := Int) (at_.get ρ) n (o y x)) fun xs => nx (at_.put ρ xs)) ρ) ρ) := fun B σ F H ρ I R G hG nx rt bk ct D g qn qr qb qc => by
  obtain ⟨l0, vs0, h1, _⟩ := lst_step hk I at_
  refine ⟨.ref l0, h1, hi B σ F H ρ I R G hG _ _ g fun n ρ1 w F1 H1 I1 e1 r1 g1 => ?_⟩
  obtain ⟨l, vs, h2, hl, pv, hz, hs⟩ := lst_step hk I1 at_
  rw [h1] at h2
  cases h2
  have g1 : G (opt (L2.atI (α := Int) (at_.get ρ1) n) fun y => T R (fun x ρ => opt (setL (α := Int) (at_.get ρ) n (o y x)) fun xs => nx (at_.put ρ xs)) ρ1) := g1
  cases hy : L2.atI (α := Int) (at_.get ρ1) n with
  | none => rw [hy] at g1; exact absurd g1 hG.1
  | some y =>
    rw [hy] at g1
    obtain ⟨vy, hvy, ry⟩ := pv.atI hy
    refine ⟨l0, vs, n, vy, rfl, r1, SqL.of hl, hvy, h B σ F1 H1 ρ1 I1 R G hG _ _ g1 fun x ρ2 u F2 H2 I2 e2 r2 g2 => ?_⟩
    obtain ⟨l2, vs2, h3, hl2, pv2, hz2, hs2⟩ := lst_step hk I2 at_
    rw [h1] at h3
    cases h3
    refine ⟨y, x, ry, r2, ?_⟩
    have g2 : G (opt (match ixN (List.length (α := Int) (at_.get ρ2)) n with
      | some j => some (List.set (α := Int) (at_.get ρ2) j (o y x))
      | none => none) fun xs => nx (at_.put ρ2 xs)) := g2
    rw [← pv2.length] at g2
    cases hj : ixN vs2.length n with
    | none => rw [hj] at g2; exact absurd g2 hG.1
    | some m =>
      rw [hj] at g2
      exact ⟨l0, vs2, n, m, rfl, r1, hl2, hj, qn _ σ F2 _ (hs2 _ _ (PV.set (c := dInt) (x := o y x) (v := V.int (o y x)) rfl m pv2) (Nat.le_trans (Nat.le_of_eq (List.length_set (α := Int))) hz2)) (e1.1.trans e2.1) g2⟩
end
end PuU
set_option Elab.async false
set_option linter.all false
set_option maxRecDepth 100000
set_option maxHeartbeats 4000000
namespace PuU
open PySem PySem.Spec PyProof.Rows L2 Evl Pu
/-! ### list(d.values()) -/
def rValsL : V → Hp → VK → Prop := fun x H Q => ∃ (d : Addr) (kvs : List (Key × V)), x = .ref d ∧ H d = some (.dK kvs) ∧ ∀ l, H l = none → Q (.ref l) (upd H l (.lst (kvs.map (·.2))))
def tValsL (te : TE) : TE := fun σ H Q => te σ H fun x H1 => rValsL x H1 Q
section
variable {X : Cx} {e : Expr} {te : TE} {p apos cpos pos : Pos}
theorem pe_listVals (hc : X.calm = true) (he : PE X e te) (hg : Gl X "list") (hm : X.mg "list" = none) (hv : bootBuiltins "list" = some (.type "list")) (hbase : attributeBase e "values" X.env (eval e X.env) = eval e X.env := by rfl) (hline : (apos.endLine == cpos.line) = true := by rfl)
    (hs : starEach [.Call (.Attribute e "values" apos) [] [] cpos] X.env = (false, eval (.Call (.Attribute e "values" apos) [] [] cpos) X.env) :: starEach [] X.env := by rfl) :
    PE X (.Call (.Name "list" p) [.Call (.Attribute e "values" apos) [] [] cpos] [] pos) (tValsL te) := by
  refine ⟨fun pins s σ H Q I hq => ?_⟩
  refine wpAny_Call_Name_kw (ld_blt I hg hm hv ?_)
  refine PyProof.Rows.callWith_type1 ?_ hs rfl
  rw [hs]
  show wpAny _ _ (spliced ((false, eval (.Call (.Attribute e "values" apos) [] [] cpos) X.env) :: backTo pos (starEach [] X.env))) _ _ s
  refine Calls.spliced_cons ?_
  refine wpAny_Call_method (T := "dict") (id := "dict.values") hbase rfl hline F.plainAttrs_dict F.slot_dict_values F.type_dict_values (thn (he.run pins s σ H _ I hq) fun u s1 ⟨x, H1, I1, rx, d, kvs, ex, hd, q⟩ => ?_)
  subst ex
  obtain rfl : u = Value.ref d := rx
  obtain ⟨hz, hs0, vs, kv, hdo⟩ := I1.hok d _ hd
  obtain ⟨ep, hat⟩ := hdo.dictAt
  have lk : kvs.length = vs.length := Paired.length kv
  have I2 : Inv X pins σ H1 { s1 with heap := s1.heap.push { cls := .type "dict_values", data := .fields #[.ref d] } } := I1.kept (t' := s1.toks) fun b ob q => Heap.get?_push_of_some _ q
  refine ⟨hdo.typeIs, hdo.mapOf.noDict, ?_⟩
  show wpAny _ _ (callWith cpos (.builtin "dict.values") [.ref d] [] []) _ X.xe s1
  refine method_meetsIn F.slot_dict_values F.entry_dict_values rfl (PySem.evalArgs_none ⟨rfl, hdo.typeIs, F.args_dict_values_1 _, _, meets_dict_values (mixKind X.prog X.w) d hs0, ⟨vs, hdo⟩, ?_⟩)
  refine Calls.spliced_nil ?_
  refine PySem.W.kdl_call (PySem.W.kdl_values (knd := mixKind X.prog X.w) (kvs := vs) (ep := ep)) (I1.ok.hd hc) ⟨⟨_, Heap.get?_push_size _ rfl, rfl, rfl⟩, hat.push _⟩ (by omega) fun h' tk acc c hk hS hacc => ?_
  refine ⟨.ref _, upd H1 _ (.lst (kvs.map (·.2))), I2.laid hk (Nat.le_refl _) (show ObjOk X.prog X.w _ _ _ (.lst (kvs.map (·.2))) from ⟨?_, acc.toList, c, ?_, ?_⟩), rfl, q _ (I2.hok.fresh (Nat.le_refl _))⟩
  · rw [List.length_map]; exact hz
  · have el : acc.toList.length = acc.size := by simp
    refine vals_of_at (by rw [List.length_map, el, hacc.1, lk]) fun j x w h1 h2 => ?_
    obtain ⟨k, hky⟩ := hacc.2 j w (by rw [← Array.getElem?_toList]; exact h2)
    rw [List.getElem?_map] at h1
    cases hj : kvs[j]? with
    | none => rw [hj] at h1; cases h1
    | some q0 =>
      rw [hj] at h1
      cases h1
      obtain ⟨y, hy, _, ry⟩ := LiI.paired_get kv hj
      rw [hky] at hy
      cases hy
      exact ry
  · rw [Array.toArray_toList]; exact hS
end
section
variable {p : Bool} {E : XK} {XC : Str → Value} {K : PySem.W.Frag} {Γ : List Sl} {c : DCod}
theorem kvr_vals {F : Hp} : ∀ {ks : List (Key × V)} {xs : List (Int × c.α)}, KVR c F ks xs → PV c F (ks.map (·.2)) (xs.map fun q : Int × c.α => q.2)
  | _, _, .nil => .nil
  | _, _, .cons r t => .cons r.2 (kvr_vals t)
theorem en_valsM {i : Nat} {k : Kd} (at_ : At Γ i (.m k (mDicI c))) : EvN p E XC Γ (tValsL (tVar i)) (mLst c) (fun R kk ρ => chk (decide (List.length (α := Int × c.α) (at_.get ρ) ≤ 16777216)) (kk (List.map (fun q : Int × c.α => q.2) (at_.get ρ)) ρ)) := fun B σ F H ρ I R G hG kk Q g qq => by
  obtain ⟨v, fp, h1, _, hr, _⟩ := I.mut at_
  obtain ⟨l, ks, rfl, rfl, hl, pv⟩ := hr
  have g : G (chk (decide (List.length (α := Int × c.α) (at_.get ρ) ≤ 16777216)) (kk (List.map (fun q : Int × c.α => q.2) (at_.get ρ)) ρ)) := g
  by_cases hx : List.length (α := Int × c.α) (at_.get ρ) ≤ 16777216
  · rw [decide_eq_true hx] at g
    have hsz := sizeLine_eq
    exact ⟨_, h1, l, ks, rfl, hl, fun l2 hl2 => new_list I hl2 (kvr_vals pv) (by have z : List.length (List.map (fun q : Int × c.α => q.2) (at_.get ρ)) = List.length (α := Int × c.α) (at_.get ρ) := List.length_map (as := (at_.get ρ : List (Int × c.α))) _; rw [hsz]; exact Nat.le_trans (Nat.le_of_eq z) hx) (Gt.refl I.fh) g qq⟩
  · rw [decide_eq_false hx] at g
    exact absurd g hG.1
end
end PuU
set_option Elab.async false
set_option linter.all false
set_option maxRecDepth 100000
set_option maxHeartbeats 4000000
namespace PuU
open PySem PySem.Spec PyProof.Rows L2 Evl Pu
/-! ### x in range(n) -/
def rRng1 : List V → Hp → VK → Prop := fun vs H Q => ∃ j, vs = [V.int j] ∧ ∀ p, H p = none → Q (.ref p) (upd H p (.rng 0 j))
def rInRng (neg : Bool) : R2 := fun x y H Q => ∃ i a lo hi, x = V.int i ∧ y = V.ref a ∧ H a = some (.rng lo hi) ∧ Q (.bl (if neg then !decide (lo ≤ i ∧ i < hi) else decide (lo ≤ i ∧ i < hi))) H
section
variable {X : Cx}
theorem cr_range1 : CallR X (.type "range") rRng1 := by
  intro pins s σ H vs us Q I r h
  obtain ⟨j, rfl, q⟩ := h
  obtain ⟨u1, rfl, t, rfl⟩ := vals1 r
  refine call_range_1 ⟨.ref s.heap.objs.size, upd H s.heap.objs.size (.rng 0 j), I.laid (t' := s.toks + 1 + 1) (fun b o e => Heap.get?_push_of_some _ e) (Nat.le_refl _) ?_, rfl, q _ (I.hok.fresh (Nat.le_refl _))⟩
  exact ⟨s.toks, t, s.toks + 1, Heap.get?_push_size _ rfl⟩
theorem op_in_rngN : OpR X (compareOp .In) (rInRng false) := fun pins s σ H x y v u Q I rx ry h => op_in_rng pins s σ H x y v u Q I rx ry h
theorem op_notIn_rngN : OpR X (compareOp .NotIn) (rInRng true) := by
  intro pins s σ H x y v u Q I rx ry h
  obtain ⟨i, a, lo, hi, rfl, rfl, ha, q⟩ := h
  obtain ⟨k, rfl⟩ := rx
  obtain rfl : u = Value.ref a := ry
  obtain ⟨t1, t2, t3, ho⟩ := I.hok a _ ha
  show wpAny _ _ (do return Value.bool (!(← contains (Value.ref a) (Value.int i k)))) _ _ s
  refine wpAny_bind (wpAny_contains_slot (T := "range") ⟨_, ho, rfl⟩ F.slot_range_contains (call_meets F.slot_range_contains ⟨_, ho, rfl⟩ F.entry_range_contains (F.args_range_contains_2 _ _) (q_contains a lo hi i t1 t2 t3 k)
    ⟨ho, wpAny_truthy_bool (wpAny_pure ⟨.bl _, H, I, rfl, ?_⟩)⟩))
  rw [place1]
  exact q
end
abbrev dRng : DCod := ⟨Int × Int, fun F v x => ∃ a, v = .ref a ∧ F a = some (.rng x.1 x.2), fun h e => let ⟨a, h1, h2⟩ := h; ⟨a, h1, e a _ h2⟩⟩
section
variable {p : Bool} {E : XK} {XC : Str → Value} {Γ : List Sl} {te : TE}
theorem ev_rngD {T : (R : Type) → (Int → Env Γ → Res R) → Env Γ → Res R} (h : EvE p E XC Γ te dInt T) : EvE p E XC Γ (tCB rRng1 (tCons te tNil)) dRng (fun R k ρ => T R (fun n ρ => k (0, n) ρ) ρ) := fun B σ F H ρ I R G hG k Q g qq =>
  h B σ F H ρ I R G hG _ _ g fun n ρ' v F' H' I' e r g' => by
    exact ⟨n, congrArg (fun z => [z]) (show v = V.int n from r), fun l hl => qq _ ρ' (.ref l) _ _ (I'.pext (Pext.one I'.fh hl)) (e.pext (Pext.one I'.fh hl)) ⟨l, rfl, upd_same⟩ g'⟩
theorem o_inRng {neg : Bool} : Op2 (rInRng neg) dInt dRng dBl (fun x r => if neg then !decide (r.1 ≤ x ∧ x < r.2) else decide (r.1 ≤ x ∧ x < r.2)) := fun F H v w x y Q e h1 h2 k => by
  obtain ⟨a, rfl, h3⟩ := h2
  exact ⟨x, a, y.1, y.2, h1, rfl, e a _ h3, k _ F H (Pext.refl e) rfl⟩
end
end PuU
namespace Pu
open PySem L2 Evl
section
variable {K : PySem.W.Frag}
theorem o_p30 {a b c : DCod} : Op2P (rIxT K) (dP3 a b c) dInt a (fun x i => if i = 0 then some x.1 else none) := fun F H v w x y z Q e h1 h2 hz k => by
  obtain ⟨p, u1, u2, u3, rfl, g2, g3, g4, g5⟩ := h1
  have hz : (if (y : Int) = 0 then some x.1 else none) = some z := hz
  by_cases hy : (y : Int) = 0
  · rw [if_pos hy] at hz; cases hz
    exact ⟨p, [u1, u2, u3], y, u1, rfl, h2, SqT.of (e p _ g2), by rw [hy]; rfl, k u1 F H (Pext.refl e) g3⟩
  · rw [if_neg hy] at hz; cases hz
theorem o_p31 {a b c : DCod} : Op2P (rIxT K) (dP3 a b c) dInt b (fun x i => if i = 1 then some x.2.1 else none) := fun F H v w x y z Q e h1 h2 hz k => by
  obtain ⟨p, u1, u2, u3, rfl, g2, g3, g4, g5⟩ := h1
  have hz : (if (y : Int) = 1 then some x.2.1 else none) = some z := hz
  by_cases hy : (y : Int) = 1
  · rw [if_pos hy] at hz; cases hz
    exact ⟨p, [u1, u2, u3], y, u2, rfl, h2, SqT.of (e p _ g2), by rw [hy]; rfl, k u2 F H (Pext.refl e) g4⟩
  · rw [if_neg hy] at hz; cases hz
end
end Pu
set_option Elab.async false
set_option linter.all false
set_option maxRecDepth 100000
set_option maxHeartbeats 0
set_option profiler true
set_option profiler.threshold 2000
namespace G
open PySem PySem.Spec PyProof.Rows L2 Evl Pu
def top (i : Nat) : Stmt := PySem.Challenge.pw_pairmart_k49_contracts_with_more_room.main.body.getD i (.Pass ⟨0, 0, 0, 0⟩)
abbrev s_law_flat : Stmt := top 10
theorem sc_law_flat : FnScope ["rows", "found", "row"] ["rows"] (defScope s_law_flat) := ⟨rfl, rfl, rfl, by decide +kernel, rfl, by decide +kernel, by decide +kernel⟩
abbrev s_law_dice : Stmt := top 11
theorem sc_law_dice : FnScope ["cell"] ["cell"] (defScope s_law_dice) := ⟨rfl, rfl, rfl, by decide +kernel, rfl, by decide +kernel, by decide +kernel⟩
abbrev s_law_rounds : Stmt := top 13
theorem sc_law_rounds : FnScope ["script", "most_now", "cells", "cell"] ["script", "most_now"] (defScope s_law_rounds) := ⟨rfl, rfl, rfl, by decide +kernel, rfl, by decide +kernel, by decide +kernel⟩
abbrev s_law_roll : Stmt := top 12
theorem sc_law_roll : FnScope ["dice", "many", "found"] ["dice", "many"] (defScope s_law_roll) := ⟨rfl, rfl, rfl, by decide +kernel, rfl, by decide +kernel, by decide +kernel⟩
abbrev s_law_place : Stmt := top 14
theorem sc_law_place : FnScope ["order", "one"] ["order", "one"] (defScope s_law_place) := ⟨rfl, rfl, rfl, by decide +kernel, rfl, by decide +kernel, by decide +kernel⟩
abbrev s_law_drawn : Stmt := top 15
theorem sc_law_drawn : FnScope ["dice", "ones", "left", "found", "one"] ["dice", "ones"] (defScope s_law_drawn) := ⟨rfl, rfl, rfl, by decide +kernel, rfl, by decide +kernel, by decide +kernel⟩
abbrev s_Wish_init : Stmt := inClass (top 5) 0
theorem sc_Wish_init : FnScope ["self", "order", "place", "one"] ["self", "order"] (defScope s_Wish_init) := ⟨rfl, rfl, rfl, by decide +kernel, rfl, by decide +kernel, by decide +kernel⟩
abbrev s_Wish_best_of : Stmt := inClass (top 5) 6
theorem sc_Wish_best_of : FnScope ["self", "ones", "many", "listed"] ["self", "ones", "many"] (defScope s_Wish_best_of) := ⟨rfl, rfl, rfl, by decide +kernel, rfl, by decide +kernel, by decide +kernel⟩
abbrev s_Deals_check : Stmt := inClass (top 7) 1
theorem sc_Deals_check : FnScope ["self", "wish", "place", "who", "one"] ["self", "wish", "place", "who"] (defScope s_Deals_check) := ⟨rfl, rfl, rfl, by decide +kernel, rfl, by decide +kernel, by decide +kernel⟩
abbrev s_Deals_init : Stmt := inClass (top 7) 0
theorem sc_Deals_init : FnScope ["self", "contracts", "lists", "orders", "seats", "asker", "room", "term", "order", "place", "wishes", "who", "wish"] ["self", "contracts", "lists", "orders", "seats"] (defScope s_Deals_init) := ⟨rfl, rfl, rfl, by decide +kernel, rfl, by decide +kernel, by decide +kernel⟩
abbrev s_Deals_choose : Stmt := inClass (top 7) 2
theorem sc_Deals_choose : FnScope ["self", "room", "ones", "best", "one"] ["self", "room", "ones"] (defScope s_Deals_choose) := ⟨rfl, rfl, rfl, by decide +kernel, rfl, by decide +kernel, by decide +kernel⟩
abbrev s_Deals_kept_by : Stmt := inClass (top 7) 4
theorem sc_Deals_kept_by : FnScope ["self", "made", "room", "one"] ["self", "made"] (defScope s_Deals_kept_by) := ⟨rfl, rfl, rfl, by decide +kernel, rfl, by decide +kernel, by decide +kernel⟩
abbrev s_Deals_of_asker : Stmt := inClass (top 7) 6
theorem sc_Deals_of_asker : FnScope ["self", "taken", "asker", "one"] ["self", "taken", "asker"] (defScope s_Deals_of_asker) := ⟨rfl, rfl, rfl, by decide +kernel, rfl, by decide +kernel, by decide +kernel⟩
abbrev s_Deals_free_asker : Stmt := inClass (top 7) 5
theorem sc_Deals_free_asker : FnScope ["self", "made", "next_ones", "held", "asker", "wish"] ["self", "made", "next_ones"] (defScope s_Deals_free_asker) := ⟨rfl, rfl, rfl, by decide +kernel, rfl, by decide +kernel, by decide +kernel⟩
abbrev s_Deals_offers : Stmt := inClass (top 7) 3
theorem sc_Deals_offers : FnScope ["self", "made", "next_ones", "_", "asker"] ["self"] (defScope s_Deals_offers) := ⟨rfl, rfl, rfl, by decide +kernel, rfl, by decide +kernel, by decide +kernel⟩
abbrev s_as_match : Stmt := top 8
theorem sc_as_match : FnScope ["deals", "taken", "rooms", "one", "asker"] ["deals", "taken"] (defScope s_as_match) := ⟨rfl, rfl, rfl, by decide +kernel, rfl, by decide +kernel, by decide +kernel⟩
abbrev s_law : Stmt := top 16
theorem sc_law : FnScope ["script", "dice", "many", "wide", "contracts", "k", "room", "term", "lists", "one", "orders", "seats", "deals", "taken", "own", "more", "wider", "other", "cut"] ["script"] (defScope s_law) := ⟨rfl, rfl, rfl, by decide +kernel, rfl, by decide +kernel, by decide +kernel⟩
abbrev nm_Wish : List Str := ["order", "ranks"]
abbrev A_Wish := (List Int) × (List (Int × Int)) × Unit
abbrev fs_Wish (K : PySem.W.Frag) : List DCod := [(dTup dInt), (dDict dInt)]
abbrev dI_Wish (K : PySem.W.Frag) : DCod := dIns (He.ga K "Wish") nm_Wish (fs_Wish K)
abbrev nm_Deals : List Str := ["contracts", "lists", "orders", "seats"]
abbrev A_Deals := (List (Int × Int × Int)) × (List A_Wish) × (List A_Wish) × (List Int) × Unit
abbrev fs_Deals (K : PySem.W.Frag) : List DCod := [(dTup (dP3 dInt dInt dInt)), (dTup (dI_Wish K)), (dTup (dI_Wish K)), (dTup dInt)]
abbrev dI_Deals (K : PySem.W.Frag) : DCod := dIns (He.ga K "Deals") nm_Deals (fs_Deals K)
def m_law_flat (a_rows : (List (List (Int × Int × Int)))) : Pu.Res (List (Int × Int × Int)) := let nx5 := fun (r4 : (List (List (Int × Int × Int))) × (List (Int × Int × Int)) × Unit × Unit) => .ok r4.2.1; List.foldr (fun (x1 : (List (Int × Int × Int))) (k2 : (List (List (Int × Int × Int))) × (List (Int × Int × Int)) × Unit × Unit → Res _) (r3 : (List (List (Int × Int × Int))) × (List (Int × Int × Int)) × Unit × Unit) => opt (catL r3.2.1 x1) fun x6 => k2 (r3.1, x6, (), ())) nx5 a_rows (a_rows, [], (), ())
def m_law_dice (a_cell : Int) : Pu.Res (List Int) := let k7 := fun (x8 : Bool) (r9 : Int × Unit) => if x8 = true then .ok [(absI r9.1), (0 : Int), (2 : Int)] else opt (if 0 < (1009 : Int) then some (r9.1 % (1009 : Int)) else none) fun x10 => opt (if CPow (10 : Int) (18 : Int) then some ((10 : Int) ^ ((18 : Int)).toNat) else none) fun x11 => .ok [r9.1, ((1 : Int) + x10), (if (decide (x11 ≤ r9.1)) then (1 : Int) else 0)]; if (decide (((0 : Int) - (10 : Int)) < a_cell)) = true then k7 (decide (a_cell < (10 : Int))) (a_cell, ()) else k7 false (a_cell, ())
def m_law_rounds (a_script : (List Int)) (a_most_now : Int) : Pu.Res (List Int) := let k12 := fun (r13 : (List Int) × Int × (List Int) × Unit × Unit) => oneL r13.2.2.1 fun (x14 : Int) => oneOk (α := (List Int) × (List Int) × Int × (List Int) × Unit × Unit) ((m_law_dice x14).bind fun x16 => .ok (x16, (r13.1, r13.2.1, r13.2.2.1, (), ()))) fun r15 => .ok r15.1; if (decide ((cutL a_script none (some a_most_now)) = [])) = true then k12 (a_script, a_most_now, [(0 : Int)], (), ()) else k12 (a_script, a_most_now, (cutL a_script none (some a_most_now)), (), ())
def m_law_roll (a_dice : (List Int)) (a_many : Int) : Pu.Res (Int × (List Int)) := let k17 := fun (x18 : Bool) (r19 : (List Int) × Int × Unit × Unit) => if x18 = true then opt (L2.atI r19.1 (0 : Int)) fun x20 => opt (if 0 < r19.2.1 then some (x20 % r19.2.1) else none) fun x21 => opt (L2.atI r19.1 (0 : Int)) fun x22 => opt (if CDiv x22 r19.2.1 then some (x22 / r19.2.1) else none) fun x23 => opt (setL r19.1 (0 : Int) x23) fun xs24 => .ok (x21, xs24) else opt (setL r19.1 (2 : Int) (0 : Int)) fun xs25 => opt (L2.atI xs25 (0 : Int)) fun x26 => opt (if CMul x26 (48271 : Int) then some (x26 * (48271 : Int)) else none) fun x27 => opt (L2.atI xs25 (1 : Int)) fun x28 => opt (if CMul x28 (69621 : Int) then some (x28 * (69621 : Int)) else none) fun x29 => opt (if 0 < (2147483647 : Int) then some (((x27 + x29) + (11 : Int)) % (2147483647 : Int)) else none) fun x30 => opt (setL xs25 (0 : Int) x30) fun xs31 => opt (L2.atI xs31 (1 : Int)) fun x32 => opt (setL xs31 (1 : Int) (x32 + (1 : Int))) fun xs33 => opt (L2.atI xs33 (0 : Int)) fun x34 => opt (if CDiv x34 (7 : Int) then some (x34 / (7 : Int)) else none) fun x35 => opt (L2.atI xs33 (0 : Int)) fun x36 => opt (if 0 < r19.2.1 then some ((x35 + x36) % r19.2.1) else none) fun x37 => .ok (x37, xs33); opt (L2.atI a_dice (2 : Int)) fun x38 => if (decide (x38 = (2 : Int))) = true then k17 true (a_dice, a_many, (), ()) else opt (L2.atI a_dice (2 : Int)) fun x39 => if (decide (x39 = (1 : Int))) = true then opt (L2.atI a_dice (0 : Int)) fun x40 => k17 (decide ((0 : Int) < x40)) (a_dice, a_many, (), ()) else k17 false (a_dice, a_many, (), ())
def m_law_place (a_order : (List Int)) (a_one : (Option Int)) : Pu.Res Int := let k41 := fun (x42 : Int) (r43 : (List Int) × (Option Int) × Unit) => .ok x42; if (isIn flOI.dec a_one (a_order.map some)) = true then opt a_one fun x44 => opt (indexL flInt.dec a_order x44) fun x45 => k41 x45 (a_order, a_one, ()) else k41 (a_order.length : Int) (a_order, a_one, ())
def m_law_drawn (a_dice : (List Int)) (a_ones : (List Int)) : Pu.Res ((List Int) × (List Int)) := let nx49 := fun (r48 : (List Int) × (List Int) × (List Int) × (List Int) × Unit × Unit) => .ok (r48.2.2.2.1, r48.1); whl (fun (k46 : (List Int) × (List Int) × (List Int) × (List Int) × Unit × Unit → Res _) (r47 : (List Int) × (List Int) × (List Int) × (List Int) × Unit × Unit) => if (!decide (r47.2.2.1 = [])) = true then (m_law_roll r47.1 (r47.2.2.1.length : Int)).bind fun x50 => opt (L2.atI r47.2.2.1 x50.1) fun x51 => chk (List.contains (α := Int) r47.2.2.1 x51) (let k52 := fun (x53 : (List Int)) (r54 : (List Int) × (List Int) × (List Int) × (List Int) × Int × Unit) => opt (catL r47.2.2.2.1 x53) fun x55 => k46 (r54.1, r54.2.1, r54.2.2.1, x55, (), ()); (m_law_roll x50.2 (4 : Int)).bind fun x56 => if (decide ((0 : Int) < x56.1)) = true then k52 [x51] (x56.2, r47.2.1, (List.erase (α := Int) r47.2.2.1 x51), r47.2.2.2.1, x51, ()) else k52 [] (x56.2, r47.2.1, (List.erase (α := Int) r47.2.2.1 x51), r47.2.2.2.1, x51, ())) else nx49 (r47.1, r47.2.1, r47.2.2.1, r47.2.2.2.1, (), ())) 100000 (a_dice, a_ones, a_ones, [], (), ())
def m_Wish_init (a_order : (List Int)) : Pu.Res A_Wish := opt (compL (β := Int × Int) (S := ((List Int) × Unit) × (List Int) × Unit × Unit × Unit) (fun (x57 : (Int × Int)) r58 => .ok (some (x57.2, x57.1), (r58.1, r58.2.1, (), (), ()))) (enumL (a_order, ()).1) ((a_order, ()), a_order, (), (), ())) fun ys59 => .ok (ys59.2.1.1, (dmerge [] ys59.1), ())
def m_Wish_best_of (a_self : A_Wish) (a_ones : (List Int)) (a_many : Int) : Pu.Res (List Int) := opt (compL (β := Int) (S := A_Wish × (List Int) × Int × Unit × Unit) (fun (x60 : Int) r61 => if (isIn flInt.dec x60 r61.2.1) = true then .ok (some x60, (r61.1, r61.2.1, r61.2.2.1, (), ())) else .ok (none, (r61.1, r61.2.1, r61.2.2.1, (), ()))) a_self.1 (a_self, a_ones, a_many, (), ())) fun ys62 => .ok (cutL ys62.1 none (some ys62.2.2.2.1))
def m_Deals_check (a_self : A_Deals) (a_wish : A_Wish) (a_place : Int) (a_who : Int) : Pu.Res Unit := if (!decide ((a_wish.2.1.length : Int) = (a_wish.1.length : Int))) = true then .exc "BadWish" else opt (compL (β := Bool) (S := A_Deals × A_Wish × Int × Int × Unit × Unit) (fun (x63 : Int) r64 => if true = true then let k66 := fun (x67 : Bool) (r68 : A_Deals × A_Wish × Int × Int × Int × Unit) => .ok (some x67, (r68.1, r68.2.1, r68.2.2.1, r68.2.2.2.1, (), ())); let k69 := fun (x70 : Bool) (r71 : A_Deals × A_Wish × Int × Int × Int × Unit) => if (!x70) = true then k66 true (r71.1, r71.2.1, r71.2.2.1, r71.2.2.2.1, r71.2.2.2.2.1, ()) else opt (L2.atI r71.1.1 r71.2.2.2.2.1) fun x72 => opt (L2.atI [x72.1, x72.2.1, x72.2.2] r71.2.2.1) fun x73 => k66 (!decide (x73 = r71.2.2.2.1)) (r71.1, r71.2.1, r71.2.2.1, r71.2.2.2.1, r71.2.2.2.2.1, ()); if (decide ((0 : Int) ≤ x63)) = true then k69 (decide (x63 < (r64.1.1.length : Int))) (r64.1, r64.2.1, r64.2.2.1, r64.2.2.2.1, x63, ()) else k69 false (r64.1, r64.2.1, r64.2.2.1, r64.2.2.2.1, x63, ()) else .ok (none, (r64.1, r64.2.1, r64.2.2.1, r64.2.2.2.1, (), ()))) a_wish.1 (a_self, a_wish, a_place, a_who, (), ())) fun ys65 => if (ys65.1.any id) = true then .exc "BadWish" else .ok ()
def m_Deals_init (a_contracts : (List (Int × Int × Int))) (a_lists : (List (List Int))) (a_orders : (List (List Int))) (a_seats : (List Int)) : Pu.Res A_Deals := opt (compL (β := (Int × Int × Int)) (S := (Unit) × (List (Int × Int × Int)) × (List (List Int)) × (List (List Int)) × (List Int) × Unit × Unit × Unit × Unit × Unit × Unit × Unit × Unit × Unit) (fun (x74 : (Int × Int × Int)) r75 => if true = true then .ok (some (x74.1, x74.2.1, x74.2.2), (r75.1, r75.2.1, r75.2.2.1, r75.2.2.2.1, r75.2.2.2.2.1, (), (), (), (), (), (), (), (), ())) else .ok (none, (r75.1, r75.2.1, r75.2.2.1, r75.2.2.2.1, r75.2.2.2.2.1, (), (), (), (), (), (), (), (), ()))) a_contracts ((), a_contracts, a_lists, a_orders, a_seats, (), (), (), (), (), (), (), (), ())) fun ys76 => opt (compL (β := A_Wish) (S := ((List (Int × Int × Int)) × Unit) × (List (Int × Int × Int)) × (List (List Int)) × (List (List Int)) × (List Int) × Unit × Unit × Unit × Unit × Unit × Unit × Unit × Unit × Unit) (fun (x77 : (List Int)) r78 => if true = true then (m_Wish_init x77).bind fun x80 => .ok (some (x80), (r78.1, r78.2.1, r78.2.2.1, r78.2.2.2.1, r78.2.2.2.2.1, (), (), (), (), (), (), (), (), ())) else .ok (none, (r78.1, r78.2.1, r78.2.2.1, r78.2.2.2.1, r78.2.2.2.2.1, (), (), (), (), (), (), (), (), ()))) ys76.2.2.2.1 ((ys76.1, ()), ys76.2.2.1, ys76.2.2.2.1, ys76.2.2.2.2.1, ys76.2.2.2.2.2.1, (), (), (), (), (), (), (), (), ())) fun ys79 => opt (compL (β := A_Wish) (S := ((List (Int × Int × Int)) × (List A_Wish) × Unit) × (List (Int × Int × Int)) × (List (List Int)) × (List (List Int)) × (List Int) × Unit × Unit × Unit × Unit × Unit × Unit × Unit × Unit × Unit) (fun (x81 : (List Int)) r82 => if true = true then (m_Wish_init x81).bind fun x84 => .ok (some (x84), (r82.1, r82.2.1, r82.2.2.1, r82.2.2.2.1, r82.2.2.2.2.1, (), (), (), (), (), (), (), (), ())) else .ok (none, (r82.1, r82.2.1, r82.2.2.1, r82.2.2.2.1, r82.2.2.2.2.1, (), (), (), (), (), (), (), (), ()))) ys79.2.2.2.2.1 ((ys79.2.1.1, ys79.1, ()), ys79.2.2.1, ys79.2.2.2.1, ys79.2.2.2.2.1, ys79.2.2.2.2.2.1, (), (), (), (), (), (), (), (), ())) fun ys83 => let nx89 := fun (r88 : ((List (Int × Int × Int)) × (List A_Wish) × (List A_Wish) × (List Int) × Unit) × (List (Int × Int × Int)) × (List (List Int)) × (List (List Int)) × (List Int) × Unit × Unit × Unit × Unit × Unit × Unit × Unit × Unit × Unit) => .ok r88.1; List.foldr (fun (x85 : (Int × (List A_Wish))) (k86 : ((List (Int × Int × Int)) × (List A_Wish) × (List A_Wish) × (List Int) × Unit) × (List (Int × Int × Int)) × (List (List Int)) × (List (List Int)) × (List Int) × Unit × Unit × Unit × Unit × Unit × Unit × Unit × Unit × Unit → Res _) (r87 : ((List (Int × Int × Int)) × (List A_Wish) × (List A_Wish) × (List Int) × Unit) × (List (Int × Int × Int)) × (List (List Int)) × (List (List Int)) × (List Int) × Unit × Unit × Unit × Unit × Unit × Unit × Unit × Unit × Unit) => let nx94 := fun (r93 : ((List (Int × Int × Int)) × (List A_Wish) × (List A_Wish) × (List Int) × Unit) × (List (Int × Int × Int)) × (List (List Int)) × (List (List Int)) × (List Int) × Unit × Unit × Unit × Unit × Int × (List A_Wish) × Unit × Unit × Unit) => k86 (r93.1, r93.2.1, r93.2.2.1, r93.2.2.2.1, r93.2.2.2.2.1, (), (), (), (), (), (), (), (), ()); List.foldr (fun (x90 : (Int × A_Wish)) (k91 : ((List (Int × Int × Int)) × (List A_Wish) × (List A_Wish) × (List Int) × Unit) × (List (Int × Int × Int)) × (List (List Int)) × (List (List Int)) × (List Int) × Unit × Unit × Unit × Unit × Int × (List A_Wish) × Unit × Unit × Unit → Res _) (r92 : ((List (Int × Int × Int)) × (List A_Wish) × (List A_Wish) × (List Int) × Unit) × (List (Int × Int × Int)) × (List (List Int)) × (List (List Int)) × (List Int) × Unit × Unit × Unit × Unit × Int × (List A_Wish) × Unit × Unit × Unit) => (m_Deals_check r92.1 x90.2 r92.2.2.2.2.2.2.2.2.2.1 x90.1).bind fun x95 => k91 (r92.1, r92.2.1, r92.2.2.1, r92.2.2.2.1, r92.2.2.2.2.1, (), (), (), (), r92.2.2.2.2.2.2.2.2.2.1, r92.2.2.2.2.2.2.2.2.2.2.1, (), (), ())) nx94 (enumL x85.2) (r87.1, r87.2.1, r87.2.2.1, r87.2.2.2.1, r87.2.2.2.2.1, (), (), (), (), x85.1, x85.2, (), (), ())) nx89 (enumL [((ys83.2.1.1, ys83.2.1.2.1, ys83.1, ()).1, (ys83.2.1.1, ys83.2.1.2.1, ys83.1, ()).2.1, (ys83.2.1.1, ys83.2.1.2.1, ys83.1, ()).2.2.1, ys83.2.2.2.2.2.1, ()).2.1, ((ys83.2.1.1, ys83.2.1.2.1, ys83.1, ()).1, (ys83.2.1.1, ys83.2.1.2.1, ys83.1, ()).2.1, (ys83.2.1.1, ys83.2.1.2.1, ys83.1, ()).2.2.1, ys83.2.2.2.2.2.1, ()).2.2.1]) (((ys83.2.1.1, ys83.2.1.2.1, ys83.1, ()).1, (ys83.2.1.1, ys83.2.1.2.1, ys83.1, ()).2.1, (ys83.2.1.1, ys83.2.1.2.1, ys83.1, ()).2.2.1, ys83.2.2.2.2.2.1, ()), ys83.2.2.1, ys83.2.2.2.1, ys83.2.2.2.2.1, ys83.2.2.2.2.2.1, (), (), (), (), (), (), (), (), ())
def m_Deals_choose (a_self : A_Deals) (a_room : Int) (a_ones : (List Int)) : Pu.Res (List Int) := opt (L2.atI a_self.2.2.1 a_room) fun x96 => (m_Wish_best_of x96 a_ones (a_self.1.length : Int)).bind fun x97 => let nx102 := fun (r101 : A_Deals × Int × (List Int) × (List (Int × Int)) × Unit × Unit) => chk (decide (List.length (α := Int × Int) r101.2.2.2.1 ≤ 16777216)) (opt (L2.atI r101.1.2.2.2.1 r101.2.1) fun x103 => .ok (cutL (List.map (fun q : Int × Int => q.2) r101.2.2.2.1) none (some x103))); List.foldr (fun (x98 : Int) (k99 : A_Deals × Int × (List Int) × (List (Int × Int)) × Unit × Unit → Res _) (r100 : A_Deals × Int × (List Int) × (List (Int × Int)) × Unit × Unit) => opt (L2.atI r100.1.1 x98) fun x104 => opt (if (0 : Int) = 0 then some x104.1 else none) fun x105 => chk (decide (List.length (α := Int × Int) r100.2.2.2.1 < 16777216)) (k99 (r100.1, r100.2.1, r100.2.2.1, (PuU.dsetd (α := Int) r100.2.2.2.1 x105 x98), (), ()))) nx102 x97 (a_self, a_room, a_ones, ([] : (List (Int × Int))), (), ())
def m_Deals_kept_by (a_self : A_Deals) (a_made : (List Int)) : Pu.Res (List Int) := opt (rng (a_self.2.2.1.length : Int)) fun xs106 => opt (compM (β := Int) (S := A_Deals × (List Int) × Unit × Unit × Unit) (fun (x107 : Int) r108 => if true = true then (m_Deals_choose r108.1 x107 r108.2.1).bind fun x113 => opt (compL (β := Int) (S := A_Deals × (List Int) × Int × Unit × Unit) (fun (x110 : Int) r111 => if true = true then .ok (some x110, (r111.1, r111.2.1, r111.2.2.1, (), ())) else .ok (none, (r111.1, r111.2.1, r111.2.2.1, (), ()))) x113 (r108.1, r108.2.1, x107, (), ())) fun zs112 => .ok (zs112.1, (zs112.2.1, zs112.2.2.1, (), (), ())) else .ok ([], (r108.1, r108.2.1, (), (), ()))) xs106 (a_self, a_made, (), (), ())) fun ys109 => chk (decide (ys109.1.length ≤ 16777216)) (.ok (sortI ys109.1))
def m_Deals_of_asker (a_self : A_Deals) (a_taken : (List Int)) (a_asker : Int) : Pu.Res (Option Int) := let nx118 := fun (r117 : A_Deals × (List Int) × Int × Unit × Unit) => .ok (none : (Option Int)); List.foldr (fun (x114 : Int) (k115 : A_Deals × (List Int) × Int × Unit × Unit → Res _) (r116 : A_Deals × (List Int) × Int × Unit × Unit) => opt (L2.atI r116.1.1 x114) fun x119 => opt (if (0 : Int) = 0 then some x119.1 else none) fun x120 => if (decide (x120 = r116.2.2.1)) = true then .ok (some x114) else k115 (r116.1, r116.2.1, r116.2.2.1, (), ())) nx118 a_taken (a_self, a_taken, a_asker, (), ())
def m_Deals_free_asker (a_self : A_Deals) (a_made : (List Int)) (a_next_ones : (List Int)) : Pu.Res (Option Int) := (m_Deals_kept_by a_self a_made).bind fun x121 => let nx126 := fun (r125 : A_Deals × (List Int) × (List Int) × (List Int) × Unit × Unit × Unit) => .ok (none : (Option Int)); List.foldr (fun (x122 : (Int × A_Wish)) (k123 : A_Deals × (List Int) × (List Int) × (List Int) × Unit × Unit × Unit → Res _) (r124 : A_Deals × (List Int) × (List Int) × (List Int) × Unit × Unit × Unit) => let k127 := fun (x128 : Bool) (r129 : A_Deals × (List Int) × (List Int) × (List Int) × Int × A_Wish × Unit) => if x128 = true then .ok (some r129.2.2.2.2.1) else k123 (r129.1, r129.2.1, r129.2.2.1, r129.2.2.2.1, (), (), ()); opt (L2.atI r124.2.2.1 x122.1) fun x130 => if (decide (x130 < (x122.2.1.length : Int))) = true then (m_Deals_of_asker r124.1 r124.2.2.2.1 x122.1).bind fun x131 => k127 (x131.isNone) (r124.1, r124.2.1, r124.2.2.1, r124.2.2.2.1, x122.1, x122.2, ()) else k127 false (r124.1, r124.2.1, r124.2.2.1, r124.2.2.2.1, x122.1, x122.2, ())) nx126 (enumL a_self.2.1) (a_self, a_made, a_next_ones, x121, (), (), ())
def m_Deals_offers (a_self : A_Deals) : Pu.Res (List Int) := opt (compL (β := Int) (S := A_Deals × (List Int) × Unit × Unit × Unit × Unit) (fun (x132 : A_Wish) r133 => if true = true then .ok (some (0 : Int), (r133.1, r133.2.1, (), (), (), ())) else .ok (none, (r133.1, r133.2.1, (), (), (), ()))) a_self.2.1 (a_self, [], (), (), (), ())) fun ys134 => (m_Deals_free_asker ys134.2.1 ys134.2.2.1 ys134.1).bind fun x135 => let nx139 := fun (r138 : A_Deals × (List Int) × (List Int) × Unit × (Option Int) × Unit) => (m_Deals_kept_by r138.1 r138.2.1).bind fun x140 => .ok x140; whl (fun (k136 : A_Deals × (List Int) × (List Int) × Unit × (Option Int) × Unit → Res _) (r137 : A_Deals × (List Int) × (List Int) × Unit × (Option Int) × Unit) => if (r137.2.2.2.2.1.isSome) = true then opt r137.2.2.2.2.1 fun x141 => opt (L2.atI r137.1.2.1 x141) fun x142 => opt r137.2.2.2.2.1 fun x143 => opt (L2.atI r137.2.2.1 x143) fun x144 => opt (L2.atI x142.1 x144) fun x145 => chk (decide (List.length (α := Int) r137.2.1 < 16777216)) (opt r137.2.2.2.2.1 fun x146 => opt (L2.atI r137.2.2.1 x146) fun x147 => opt (setL r137.2.2.1 x146 (x147 + (1 : Int))) fun xs148 => (m_Deals_free_asker r137.1 (app1 r137.2.1 x145) xs148).bind fun x149 => k136 (r137.1, (app1 r137.2.1 x145), xs148, (), x149, ())) else nx139 (r137.1, r137.2.1, r137.2.2.1, (), r137.2.2.2.2.1, ())) 100000 (ys134.2.1, ys134.2.2.1, ys134.1, (), x135, ())
def m_as_match (a_deals : A_Deals) (a_taken : (List Int)) : Pu.Res (List (Option Int)) := opt (compL (β := Int × Int) (S := A_Deals × (List Int) × Unit × Unit × Unit × Unit) (fun (x150 : Int) r151 => opt (L2.atI r151.1.1 x150) fun x153 => opt (if (0 : Int) = 0 then some x153.1 else none) fun x154 => opt (L2.atI r151.1.1 x150) fun x155 => opt (if (1 : Int) = 1 then some x155.2.1 else none) fun x156 => .ok (some (x154, x156), (r151.1, r151.2.1, (), (), (), ()))) a_taken (a_deals, a_taken, (), (), (), ())) fun ys152 => opt (rng (ys152.2.1.2.1.length : Int)) fun xs157 => opt (compL (β := (Option Int)) (S := A_Deals × (List Int) × (List (Int × Int)) × Unit × Unit × Unit) (fun (x158 : Int) r159 => if true = true then .ok (some (dget r159.2.2.1 x158), (r159.1, r159.2.1, r159.2.2.1, (), (), ())) else .ok (none, (r159.1, r159.2.1, r159.2.2.1, (), (), ()))) xs157 (ys152.2.1, ys152.2.2.1, (dmerge [] ys152.1), (), (), ())) fun ys160 => .ok ys160.1
def m_law_s0 {R : Type} (nx : (List Int) × (List Int) × Int × Int × Unit × Unit × Unit × Unit × Unit × Unit × Unit × Unit × Unit × Unit × Unit × Unit × Unit × Unit × Unit × Unit → Pu.Res R) (rt : Bool → Pu.Res R) (r : (List Int) × (List Int) × Unit × Unit × Unit × Unit × Unit × Unit × Unit × Unit × Unit × Unit × Unit × Unit × Unit × Unit × Unit × Unit × Unit × Unit) : Pu.Res R := (m_law_roll r.2.1 (3 : Int)).bind fun x161 => (m_law_roll x161.2 (2 : Int)).bind fun x162 => nx (r.1, x162.2, (((1 : Int) + x161.1), ((1 : Int) + x162.1)).1, (((1 : Int) + x161.1), ((1 : Int) + x162.1)).2, (), (), (), (), (), (), (), (), (), (), (), (), (), (), (), ())
def m_law_s1 {R : Type} (nx : (List Int) × (List Int) × Int × Int × (List (Int × Int × Int)) × Unit × Unit × Unit × Unit × Unit × Unit × Unit × Unit × Unit × Unit × Unit × Unit × Unit × Unit × Unit → Pu.Res R) (rt : Bool → Pu.Res R) (r : (List Int) × (List Int) × Int × Int × Unit × Unit × Unit × Unit × Unit × Unit × Unit × Unit × Unit × Unit × Unit × Unit × Unit × Unit × Unit × Unit) : Pu.Res R := opt (rng r.2.2.1) fun xs163 => opt (compL (β := (List (Int × Int × Int))) (S := (List Int) × (List Int) × Int × Int × Unit × Unit × Unit × Unit × Unit × Unit × Unit × Unit × Unit × Unit × Unit × Unit × Unit × Unit × Unit × Unit) (fun (x164 : Int) r165 => if true = true then opt (rng r165.2.2.2.1) fun xs167 => opt (compL (β := (List (Int × Int × Int))) (S := (List Int) × (List Int) × Int × Int × Unit × Int × Unit × Unit × Unit × Unit × Unit × Unit × Unit × Unit × Unit × Unit × Unit × Unit × Unit × Unit) (fun (x168 : Int) r169 => if true = true then opt (rng (2 : Int)) fun xs171 => opt (compL (β := (Int × Int × Int)) (S := (List Int) × (List Int) × Int × Int × Unit × Int × Int × Unit × Unit × Unit × Unit × Unit × Unit × Unit × Unit × Unit × Unit × Unit × Unit × Unit) (fun (x172 : Int) r173 => if true = true then .ok (some (r173.2.2.2.2.2.1, r173.2.2.2.2.2.2.1, x172), (r173.1, r173.2.1, r173.2.2.1, r173.2.2.2.1, (), r173.2.2.2.2.2.1, r173.2.2.2.2.2.2.1, (), (), (), (), (), (), (), (), (), (), (), (), ())) else .ok (none, (r173.1, r173.2.1, r173.2.2.1, r173.2.2.2.1, (), r173.2.2.2.2.2.1, r173.2.2.2.2.2.2.1, (), (), (), (), (), (), (), (), (), (), (), (), ()))) xs171 (r169.1, r169.2.1, r169.2.2.1, r169.2.2.2.1, (), r169.2.2.2.2.2.1, x168, (), (), (), (), (), (), (), (), (), (), (), (), ())) fun ys174 => .ok (some ys174.1, (ys174.2.1, ys174.2.2.1, ys174.2.2.2.1, ys174.2.2.2.2.1, (), ys174.2.2.2.2.2.2.1, (), (), (), (), (), (), (), (), (), (), (), (), (), ())) else .ok (none, (r169.1, r169.2.1, r169.2.2.1, r169.2.2.2.1, (), r169.2.2.2.2.2.1, (), (), (), (), (), (), (), (), (), (), (), (), (), ()))) xs167 (r165.1, r165.2.1, r165.2.2.1, r165.2.2.2.1, (), x164, (), (), (), (), (), (), (), (), (), (), (), (), (), ())) fun ys170 => (m_law_flat ys170.1).bind fun x175 => .ok (some x175, (ys170.2.1, ys170.2.2.1, ys170.2.2.2.1, ys170.2.2.2.2.1, (), (), (), (), (), (), (), (), (), (), (), (), (), (), (), ())) else .ok (none, (r165.1, r165.2.1, r165.2.2.1, r165.2.2.2.1, (), (), (), (), (), (), (), (), (), (), (), (), (), (), (), ()))) xs163 (r.1, r.2.1, r.2.2.1, r.2.2.2.1, (), (), (), (), (), (), (), (), (), (), (), (), (), (), (), ())) fun ys166 => (m_law_flat ys166.1).bind fun x176 => nx (ys166.2.1, ys166.2.2.1, ys166.2.2.2.1, ys166.2.2.2.2.1, x176, (), (), (), (), (), (), (), (), (), (), (), (), (), (), ())
def m_law_s2 {R : Type} (nx : (List Int) × (List Int) × Int × Int × (List (Int × Int × Int)) × Unit × Unit × Unit × (List (List Int)) × Unit × Unit × Unit × Unit × Unit × Unit × Unit × Unit × Unit × Unit × Unit → Pu.Res R) (rt : Bool → Pu.Res R) (r : (List Int) × (List Int) × Int × Int × (List (Int × Int × Int)) × Unit × Unit × Unit × Unit × Unit × Unit × Unit × Unit × Unit × Unit × Unit × Unit × Unit × Unit × Unit) : Pu.Res R := opt (rng r.2.2.1) fun xs177 => opt (compL (β := (List Int)) (S := (List Int) × (List Int) × Int × Int × (List (Int × Int × Int)) × Unit × Unit × Unit × Unit × Unit × Unit × Unit × Unit × Unit × Unit × Unit × Unit × Unit × Unit × Unit) (fun (x178 : Int) r179 => if true = true then opt (rng (r179.2.2.2.2.1.length : Int)) fun xs181 => opt (compL (β := Int) (S := (List Int) × (List Int) × Int × Int × (List (Int × Int × Int)) × Int × Unit × Unit × Unit × Unit × Unit × Unit × Unit × Unit × Unit × Unit × Unit × Unit × Unit × Unit) (fun (x182 : Int) r183 => opt (L2.atI r183.2.2.2.2.1 x182) fun x185 => opt (if (0 : Int) = 0 then some x185.1 else none) fun x186 => if (decide (x186 = r183.2.2.2.2.2.1)) = true then .ok (some x182, (r183.1, r183.2.1, r183.2.2.1, r183.2.2.2.1, r183.2.2.2.2.1, r183.2.2.2.2.2.1, (), (), (), (), (), (), (), (), (), (), (), (), (), ())) else .ok (none, (r183.1, r183.2.1, r183.2.2.1, r183.2.2.2.1, r183.2.2.2.2.1, r183.2.2.2.2.2.1, (), (), (), (), (), (), (), (), (), (), (), (), (), ()))) xs181 (r179.1, r179.2.1, r179.2.2.1, r179.2.2.2.1, r179.2.2.2.2.1, x178, (), (), (), (), (), (), (), (), (), (), (), (), (), ())) fun ys184 => (m_law_drawn ys184.2.2.1 ys184.1).bind fun x187 => .ok (some x187.1, (ys184.2.1, x187.2, ys184.2.2.2.1, ys184.2.2.2.2.1, ys184.2.2.2.2.2.1, (), (), (), (), (), (), (), (), (), (), (), (), (), (), ())) else .ok (none, (r179.1, r179.2.1, r179.2.2.1, r179.2.2.2.1, r179.2.2.2.2.1, (), (), (), (), (), (), (), (), (), (), (), (), (), (), ()))) xs177 (r.1, r.2.1, r.2.2.1, r.2.2.2.1, r.2.2.2.2.1, (), (), (), (), (), (), (), (), (), (), (), (), (), (), ())) fun ys180 => nx (ys180.2.1, ys180.2.2.1, ys180.2.2.2.1, ys180.2.2.2.2.1, ys180.2.2.2.2.2.1, (), (), (), ys180.1, (), (), (), (), (), (), (), (), (), (), ())
def m_law_s3 {R : Type} (nx : (List Int) × (List Int) × Int × Int × (List (Int × Int × Int)) × Unit × Unit × Unit × (List (List Int)) × Unit × (List (List Int)) × Unit × Unit × Unit × Unit × Unit × Unit × Unit × Unit × Unit → Pu.Res R) (rt : Bool → Pu.Res R) (r : (List Int) × (List Int) × Int × Int × (List (Int × Int × Int)) × Unit × Unit × Unit × (List (List Int)) × Unit × Unit × Unit × Unit × Unit × Unit × Unit × Unit × Unit × Unit × Unit) : Pu.Res R := opt (rng r.2.2.2.1) fun xs188 => opt (compL (β := (List Int)) (S := (List Int) × (List Int) × Int × Int × (List (Int × Int × Int)) × Unit × Unit × Unit × (List (List Int)) × Unit × Unit × Unit × Unit × Unit × Unit × Unit × Unit × Unit × Unit × Unit) (fun (x189 : Int) r190 => if true = true then opt (rng (r190.2.2.2.2.1.length : Int)) fun xs192 => opt (compL (β := Int) (S := (List Int) × (List Int) × Int × Int × (List (Int × Int × Int)) × Unit × Int × Unit × (List (List Int)) × Unit × Unit × Unit × Unit × Unit × Unit × Unit × Unit × Unit × Unit × Unit) (fun (x193 : Int) r194 => opt (L2.atI r194.2.2.2.2.1 x193) fun x196 => opt (if (1 : Int) = 1 then some x196.2.1 else none) fun x197 => if (decide (x197 = r194.2.2.2.2.2.2.1)) = true then .ok (some x193, (r194.1, r194.2.1, r194.2.2.1, r194.2.2.2.1, r194.2.2.2.2.1, (), r194.2.2.2.2.2.2.1, (), r194.2.2.2.2.2.2.2.2.1, (), (), (), (), (), (), (), (), (), (), ())) else .ok (none, (r194.1, r194.2.1, r194.2.2.1, r194.2.2.2.1, r194.2.2.2.2.1, (), r194.2.2.2.2.2.2.1, (), r194.2.2.2.2.2.2.2.2.1, (), (), (), (), (), (), (), (), (), (), ()))) xs192 (r190.1, r190.2.1, r190.2.2.1, r190.2.2.2.1, r190.2.2.2.2.1, (), x189, (), r190.2.2.2.2.2.2.2.2.1, (), (), (), (), (), (), (), (), (), (), ())) fun ys195 => (m_law_drawn ys195.2.2.1 ys195.1).bind fun x198 => .ok (some x198.1, (ys195.2.1, x198.2, ys195.2.2.2.1, ys195.2.2.2.2.1, ys195.2.2.2.2.2.1, (), (), (), ys195.2.2.2.2.2.2.2.2.2.1, (), (), (), (), (), (), (), (), (), (), ())) else .ok (none, (r190.1, r190.2.1, r190.2.2.1, r190.2.2.2.1, r190.2.2.2.2.1, (), (), (), r190.2.2.2.2.2.2.2.2.1, (), (), (), (), (), (), (), (), (), (), ()))) xs188 (r.1, r.2.1, r.2.2.1, r.2.2.2.1, r.2.2.2.2.1, (), (), (), r.2.2.2.2.2.2.2.2.1, (), (), (), (), (), (), (), (), (), (), ())) fun ys191 => nx (ys191.2.1, ys191.2.2.1, ys191.2.2.2.1, ys191.2.2.2.2.1, ys191.2.2.2.2.2.1, (), (), (), ys191.2.2.2.2.2.2.2.2.2.1, (), ys191.1, (), (), (), (), (), (), (), (), ())
def m_law_s4 {R : Type} (nx : (List Int) × (List Int) × Int × Int × (List (Int × Int × Int)) × Unit × Unit × Unit × (List (List Int)) × Unit × (List (List Int)) × (List Int) × Unit × Unit × Unit × Unit × Unit × Unit × Unit × Unit → Pu.Res R) (rt : Bool → Pu.Res R) (r : (List Int) × (List Int) × Int × Int × (List (Int × Int × Int)) × Unit × Unit × Unit × (List (List Int)) × Unit × (List (List Int)) × Unit × Unit × Unit × Unit × Unit × Unit × Unit × Unit × Unit) : Pu.Res R := opt (rng r.2.2.2.1) fun xs199 => opt (compL (β := Int) (S := (List Int) × (List Int) × Int × Int × (List (Int × Int × Int)) × Unit × Unit × Unit × (List (List Int)) × Unit × (List (List Int)) × Unit × Unit × Unit × Unit × Unit × Unit × Unit × Unit × Unit) (fun (x200 : Int) r201 => if true = true then (m_law_roll r201.2.1 (3 : Int)).bind fun x203 => .ok (some x203.1, (r201.1, x203.2, r201.2.2.1, r201.2.2.2.1, r201.2.2.2.2.1, (), (), (), r201.2.2.2.2.2.2.2.2.1, (), r201.2.2.2.2.2.2.2.2.2.2.1, (), (), (), (), (), (), (), (), ())) else .ok (none, (r201.1, r201.2.1, r201.2.2.1, r201.2.2.2.1, r201.2.2.2.2.1, (), (), (), r201.2.2.2.2.2.2.2.2.1, (), r201.2.2.2.2.2.2.2.2.2.2.1, (), (), (), (), (), (), (), (), ()))) xs199 (r.1, r.2.1, r.2.2.1, r.2.2.2.1, r.2.2.2.2.1, (), (), (), r.2.2.2.2.2.2.2.2.1, (), r.2.2.2.2.2.2.2.2.2.2.1, (), (), (), (), (), (), (), (), ())) fun ys202 => nx (ys202.2.1, ys202.2.2.1, ys202.2.2.2.1, ys202.2.2.2.2.1, ys202.2.2.2.2.2.1, (), (), (), ys202.2.2.2.2.2.2.2.2.2.1, (), ys202.2.2.2.2.2.2.2.2.2.2.2.1, ys202.1, (), (), (), (), (), (), (), ())
def m_law_s5 {R : Type} (nx : (List Int) × (List Int) × Int × Int × (List (Int × Int × Int)) × Unit × Unit × Unit × (List (List Int)) × Unit × (List (List Int)) × (List Int) × A_Deals × Unit × Unit × Unit × Unit × Unit × Unit × Unit → Pu.Res R) (rt : Bool → Pu.Res R) (r : (List Int) × (List Int) × Int × Int × (List (Int × Int × Int)) × Unit × Unit × Unit × (List (List Int)) × Unit × (List (List Int)) × (List Int) × Unit × Unit × Unit × Unit × Unit × Unit × Unit × Unit) : Pu.Res R := (m_Deals_init r.2.2.2.2.1 r.2.2.2.2.2.2.2.2.1 r.2.2.2.2.2.2.2.2.2.2.1 r.2.2.2.2.2.2.2.2.2.2.2.1).bind fun x204 => nx (r.1, r.2.1, r.2.2.1, r.2.2.2.1, r.2.2.2.2.1, (), (), (), r.2.2.2.2.2.2.2.2.1, (), r.2.2.2.2.2.2.2.2.2.2.1, r.2.2.2.2.2.2.2.2.2.2.2.1, (x204), (), (), (), (), (), (), ())
def m_law_s6 {R : Type} (nx : (List Int) × (List Int) × Int × Int × (List (Int × Int × Int)) × Unit × Unit × Unit × (List (List Int)) × Unit × (List (List Int)) × (List Int) × A_Deals × (List Int) × Unit × Unit × Unit × Unit × Unit × Unit → Pu.Res R) (rt : Bool → Pu.Res R) (r : (List Int) × (List Int) × Int × Int × (List (Int × Int × Int)) × Unit × Unit × Unit × (List (List Int)) × Unit × (List (List Int)) × (List Int) × A_Deals × Unit × Unit × Unit × Unit × Unit × Unit × Unit) : Pu.Res R := (m_Deals_offers r.2.2.2.2.2.2.2.2.2.2.2.2.1).bind fun x205 => nx (r.1, r.2.1, r.2.2.1, r.2.2.2.1, r.2.2.2.2.1, (), (), (), r.2.2.2.2.2.2.2.2.1, (), r.2.2.2.2.2.2.2.2.2.2.1, r.2.2.2.2.2.2.2.2.2.2.2.1, r.2.2.2.2.2.2.2.2.2.2.2.2.1, x205, (), (), (), (), (), ())
def m_law_s7 {R : Type} (nx : (List Int) × (List Int) × Int × Int × (List (Int × Int × Int)) × Unit × Unit × Unit × (List (List Int)) × Unit × (List (List Int)) × (List Int) × A_Deals × (List Int) × (List (Option Int)) × Unit × Unit × Unit × Unit × Unit → Pu.Res R) (rt : Bool → Pu.Res R) (r : (List Int) × (List Int) × Int × Int × (List (Int × Int × Int)) × Unit × Unit × Unit × (List (List Int)) × Unit × (List (List Int)) × (List Int) × A_Deals × (List Int) × Unit × Unit × Unit × Unit × Unit × Unit) : Pu.Res R := opt (rng r.2.2.1) fun xs206 => opt (compL (β := (Option Int)) (S := (List Int) × (List Int) × Int × Int × (List (Int × Int × Int)) × Unit × Unit × Unit × (List (List Int)) × Unit × (List (List Int)) × (List Int) × A_Deals × (List Int) × Unit × Unit × Unit × Unit × Unit × Unit) (fun (x207 : Int) r208 => if true = true then (m_Deals_of_asker r208.2.2.2.2.2.2.2.2.2.2.2.2.1 r208.2.2.2.2.2.2.2.2.2.2.2.2.2.1 x207).bind fun x210 => .ok (some x210, (r208.1, r208.2.1, r208.2.2.1, r208.2.2.2.1, r208.2.2.2.2.1, (), (), (), r208.2.2.2.2.2.2.2.2.1, (), r208.2.2.2.2.2.2.2.2.2.2.1, r208.2.2.2.2.2.2.2.2.2.2.2.1, r208.2.2.2.2.2.2.2.2.2.2.2.2.1, r208.2.2.2.2.2.2.2.2.2.2.2.2.2.1, (), (), (), (), (), ())) else .ok (none, (r208.1, r208.2.1, r208.2.2.1, r208.2.2.2.1, r208.2.2.2.2.1, (), (), (), r208.2.2.2.2.2.2.2.2.1, (), r208.2.2.2.2.2.2.2.2.2.2.1, r208.2.2.2.2.2.2.2.2.2.2.2.1, r208.2.2.2.2.2.2.2.2.2.2.2.2.1, r208.2.2.2.2.2.2.2.2.2.2.2.2.2.1, (), (), (), (), (), ()))) xs206 (r.1, r.2.1, r.2.2.1, r.2.2.2.1, r.2.2.2.2.1, (), (), (), r.2.2.2.2.2.2.2.2.1, (), r.2.2.2.2.2.2.2.2.2.2.1, r.2.2.2.2.2.2.2.2.2.2.2.1, r.2.2.2.2.2.2.2.2.2.2.2.2.1, r.2.2.2.2.2.2.2.2.2.2.2.2.2.1, (), (), (), (), (), ())) fun ys209 => nx (ys209.2.1, ys209.2.2.1, ys209.2.2.2.1, ys209.2.2.2.2.1, ys209.2.2.2.2.2.1, (), (), (), ys209.2.2.2.2.2.2.2.2.2.1, (), ys209.2.2.2.2.2.2.2.2.2.2.2.1, ys209.2.2.2.2.2.2.2.2.2.2.2.2.1, ys209.2.2.2.2.2.2.2.2.2.2.2.2.2.1, ys209.2.2.2.2.2.2.2.2.2.2.2.2.2.2.1, ys209.1, (), (), (), (), ())
def m_law_s8 {R : Type} (nx : (List Int) × (List Int) × Int × Int × (List (Int × Int × Int)) × Unit × Int × Unit × (List (List Int)) × Unit × (List (List Int)) × (List Int) × A_Deals × (List Int) × (List (Option Int)) × Unit × Unit × Unit × Unit × Unit → Pu.Res R) (rt : Bool → Pu.Res R) (r : (List Int) × (List Int) × Int × Int × (List (Int × Int × Int)) × Unit × Unit × Unit × (List (List Int)) × Unit × (List (List Int)) × (List Int) × A_Deals × (List Int) × (List (Option Int)) × Unit × Unit × Unit × Unit × Unit) : Pu.Res R := (m_law_roll r.2.1 r.2.2.2.1).bind fun x211 => nx (r.1, x211.2, r.2.2.1, r.2.2.2.1, r.2.2.2.2.1, (), x211.1, (), r.2.2.2.2.2.2.2.2.1, (), r.2.2.2.2.2.2.2.2.2.2.1, r.2.2.2.2.2.2.2.2.2.2.2.1, r.2.2.2.2.2.2.2.2.2.2.2.2.1, r.2.2.2.2.2.2.2.2.2.2.2.2.2.1, r.2.2.2.2.2.2.2.2.2.2.2.2.2.2.1, (), (), (), (), ())
def m_law_s9 {R : Type} (nx : (List Int) × (List Int) × Int × Int × (List (Int × Int × Int)) × Unit × Int × Unit × (List (List Int)) × Unit × (List (List Int)) × (List Int) × A_Deals × (List Int) × (List (Option Int)) × A_Deals × Unit × Unit × Unit × Unit → Pu.Res R) (rt : Bool → Pu.Res R) (r : (List Int) × (List Int) × Int × Int × (List (Int × Int × Int)) × Unit × Int × Unit × (List (List Int)) × Unit × (List (List Int)) × (List Int) × A_Deals × (List Int) × (List (Option Int)) × Unit × Unit × Unit × Unit × Unit) : Pu.Res R := opt (rng r.2.2.2.1) fun xs212 => opt (compL (β := Int) (S := (List Int) × (List Int) × Int × Int × (List (Int × Int × Int)) × Unit × Int × Unit × (List (List Int)) × Unit × (List (List Int)) × (List Int) × A_Deals × (List Int) × (List (Option Int)) × Unit × Unit × Unit × Unit × Unit) (fun (x213 : Int) r214 => if true = true then opt (L2.atI r214.2.2.2.2.2.2.2.2.2.2.2.1 x213) fun x216 => .ok (some (x216 + (if (decide (x213 = r214.2.2.2.2.2.2.1)) then (1 : Int) else 0)), (r214.1, r214.2.1, r214.2.2.1, r214.2.2.2.1, r214.2.2.2.2.1, (), r214.2.2.2.2.2.2.1, (), r214.2.2.2.2.2.2.2.2.1, (), r214.2.2.2.2.2.2.2.2.2.2.1, r214.2.2.2.2.2.2.2.2.2.2.2.1, r214.2.2.2.2.2.2.2.2.2.2.2.2.1, r214.2.2.2.2.2.2.2.2.2.2.2.2.2.1, r214.2.2.2.2.2.2.2.2.2.2.2.2.2.2.1, (), (), (), (), ())) else .ok (none, (r214.1, r214.2.1, r214.2.2.1, r214.2.2.2.1, r214.2.2.2.2.1, (), r214.2.2.2.2.2.2.1, (), r214.2.2.2.2.2.2.2.2.1, (), r214.2.2.2.2.2.2.2.2.2.2.1, r214.2.2.2.2.2.2.2.2.2.2.2.1, r214.2.2.2.2.2.2.2.2.2.2.2.2.1, r214.2.2.2.2.2.2.2.2.2.2.2.2.2.1, r214.2.2.2.2.2.2.2.2.2.2.2.2.2.2.1, (), (), (), (), ()))) xs212 (r.1, r.2.1, r.2.2.1, r.2.2.2.1, r.2.2.2.2.1, (), r.2.2.2.2.2.2.1, (), r.2.2.2.2.2.2.2.2.1, (), r.2.2.2.2.2.2.2.2.2.2.1, r.2.2.2.2.2.2.2.2.2.2.2.1, r.2.2.2.2.2.2.2.2.2.2.2.2.1, r.2.2.2.2.2.2.2.2.2.2.2.2.2.1, r.2.2.2.2.2.2.2.2.2.2.2.2.2.2.1, (), (), (), (), ())) fun ys215 => (m_Deals_init r.2.2.2.2.1 r.2.2.2.2.2.2.2.2.1 r.2.2.2.2.2.2.2.2.2.2.1 ys215.1).bind fun x217 => nx (ys215.2.1, ys215.2.2.1, ys215.2.2.2.1, ys215.2.2.2.2.1, ys215.2.2.2.2.2.1, (), ys215.2.2.2.2.2.2.2.1, (), ys215.2.2.2.2.2.2.2.2.2.1, (), ys215.2.2.2.2.2.2.2.2.2.2.2.1, ys215.2.2.2.2.2.2.2.2.2.2.2.2.1, ys215.2.2.2.2.2.2.2.2.2.2.2.2.2.1, ys215.2.2.2.2.2.2.2.2.2.2.2.2.2.2.1, ys215.2.2.2.2.2.2.2.2.2.2.2.2.2.2.2.1, (x217), (), (), (), ())
def m_law_s10 {R : Type} (nx : (List Int) × (List Int) × Int × Int × (List (Int × Int × Int)) × Unit × Int × Unit × (List (List Int)) × Unit × (List (List Int)) × (List Int) × A_Deals × (List Int) × (List (Option Int)) × A_Deals × (List Int) × Unit × Unit × Unit → Pu.Res R) (rt : Bool → Pu.Res R) (r : (List Int) × (List Int) × Int × Int × (List (Int × Int × Int)) × Unit × Int × Unit × (List (List Int)) × Unit × (List (List Int)) × (List Int) × A_Deals × (List Int) × (List (Option Int)) × A_Deals × Unit × Unit × Unit × Unit) : Pu.Res R := (m_Deals_offers r.2.2.2.2.2.2.2.2.2.2.2.2.2.2.2.1).bind fun x218 => nx (r.1, r.2.1, r.2.2.1, r.2.2.2.1, r.2.2.2.2.1, (), r.2.2.2.2.2.2.1, (), r.2.2.2.2.2.2.2.2.1, (), r.2.2.2.2.2.2.2.2.2.2.1, r.2.2.2.2.2.2.2.2.2.2.2.1, r.2.2.2.2.2.2.2.2.2.2.2.2.1, r.2.2.2.2.2.2.2.2.2.2.2.2.2.1, r.2.2.2.2.2.2.2.2.2.2.2.2.2.2.1, r.2.2.2.2.2.2.2.2.2.2.2.2.2.2.2.1, x218, (), (), ())
def m_law_s11 {R : Type} (nx : (List Int) × (List Int) × Int × Int × (List (Int × Int × Int)) × Unit × Int × Unit × (List (List Int)) × Unit × (List (List Int)) × (List Int) × A_Deals × (List Int) × (List (Option Int)) × A_Deals × (List Int) × Unit × Unit × Unit → Pu.Res R) (rt : Bool → Pu.Res R) (r : (List Int) × (List Int) × Int × Int × (List (Int × Int × Int)) × Unit × Int × Unit × (List (List Int)) × Unit × (List (List Int)) × (List Int) × A_Deals × (List Int) × (List (Option Int)) × A_Deals × (List Int) × Unit × Unit × Unit) : Pu.Res R := opt (rng r.2.2.1) fun xs219 => opt (compL (β := Int) (S := (List Int) × (List Int) × Int × Int × (List (Int × Int × Int)) × Unit × Int × Unit × (List (List Int)) × Unit × (List (List Int)) × (List Int) × A_Deals × (List Int) × (List (Option Int)) × A_Deals × (List Int) × Unit × Unit × Unit) (fun (x220 : Int) r221 => opt (L2.atI r221.2.2.2.2.2.2.2.2.1 x220) fun x223 => (m_Deals_of_asker r221.2.2.2.2.2.2.2.2.2.2.2.2.2.2.2.1 r221.2.2.2.2.2.2.2.2.2.2.2.2.2.2.2.2.1 x220).bind fun x224 => (m_law_place x223 x224).bind fun x225 => opt (L2.atI r221.2.2.2.2.2.2.2.2.1 x220) fun x226 => opt (L2.atI r221.2.2.2.2.2.2.2.2.2.2.2.2.2.2.1 x220) fun x227 => (m_law_place x226 x227).bind fun x228 => if (decide (x228 < x225)) = true then .ok (some x220, (r221.1, r221.2.1, r221.2.2.1, r221.2.2.2.1, r221.2.2.2.2.1, (), r221.2.2.2.2.2.2.1, (), r221.2.2.2.2.2.2.2.2.1, (), r221.2.2.2.2.2.2.2.2.2.2.1, r221.2.2.2.2.2.2.2.2.2.2.2.1, r221.2.2.2.2.2.2.2.2.2.2.2.2.1, r221.2.2.2.2.2.2.2.2.2.2.2.2.2.1, r221.2.2.2.2.2.2.2.2.2.2.2.2.2.2.1, r221.2.2.2.2.2.2.2.2.2.2.2.2.2.2.2.1, r221.2.2.2.2.2.2.2.2.2.2.2.2.2.2.2.2.1, (), (), ())) else .ok (none, (r221.1, r221.2.1, r221.2.2.1, r221.2.2.2.1, r221.2.2.2.2.1, (), r221.2.2.2.2.2.2.1, (), r221.2.2.2.2.2.2.2.2.1, (), r221.2.2.2.2.2.2.2.2.2.2.1, r221.2.2.2.2.2.2.2.2.2.2.2.1, r221.2.2.2.2.2.2.2.2.2.2.2.2.1, r221.2.2.2.2.2.2.2.2.2.2.2.2.2.1, r221.2.2.2.2.2.2.2.2.2.2.2.2.2.2.1, r221.2.2.2.2.2.2.2.2.2.2.2.2.2.2.2.1, r221.2.2.2.2.2.2.2.2.2.2.2.2.2.2.2.2.1, (), (), ()))) xs219 (r.1, r.2.1, r.2.2.1, r.2.2.2.1, r.2.2.2.2.1, (), r.2.2.2.2.2.2.1, (), r.2.2.2.2.2.2.2.2.1, (), r.2.2.2.2.2.2.2.2.2.2.1, r.2.2.2.2.2.2.2.2.2.2.2.1, r.2.2.2.2.2.2.2.2.2.2.2.2.1, r.2.2.2.2.2.2.2.2.2.2.2.2.2.1, r.2.2.2.2.2.2.2.2.2.2.2.2.2.2.1, r.2.2.2.2.2.2.2.2.2.2.2.2.2.2.2.1, r.2.2.2.2.2.2.2.2.2.2.2.2.2.2.2.2.1, (), (), ())) fun ys222 => if (!decide (ys222.1 = [])) = true then rt false else nx (ys222.2.1, ys222.2.2.1, ys222.2.2.2.1, ys222.2.2.2.2.1, ys222.2.2.2.2.2.1, (), ys222.2.2.2.2.2.2.2.1, (), ys222.2.2.2.2.2.2.2.2.2.1, (), ys222.2.2.2.2.2.2.2.2.2.2.2.1, ys222.2.2.2.2.2.2.2.2.2.2.2.2.1, ys222.2.2.2.2.2.2.2.2.2.2.2.2.2.1, ys222.2.2.2.2.2.2.2.2.2.2.2.2.2.2.1, ys222.2.2.2.2.2.2.2.2.2.2.2.2.2.2.2.1, ys222.2.2.2.2.2.2.2.2.2.2.2.2.2.2.2.2.1, ys222.2.2.2.2.2.2.2.2.2.2.2.2.2.2.2.2.2.1, (), (), ())
def m_law_s12 {R : Type} (nx : (List Int) × (List Int) × Int × Int × (List (Int × Int × Int)) × Unit × Int × Unit × (List (List Int)) × Unit × (List (List Int)) × (List Int) × A_Deals × (List Int) × (List (Option Int)) × A_Deals × (List Int) × A_Deals × Unit × Unit → Pu.Res R) (rt : Bool → Pu.Res R) (r : (List Int) × (List Int) × Int × Int × (List (Int × Int × Int)) × Unit × Int × Unit × (List (List Int)) × Unit × (List (List Int)) × (List Int) × A_Deals × (List Int) × (List (Option Int)) × A_Deals × (List Int) × Unit × Unit × Unit) : Pu.Res R := opt (catL r.2.2.2.2.1 [((0 : Int), (0 : Int), (7 : Int))]) fun x229 => (m_Deals_init x229 r.2.2.2.2.2.2.2.2.1 r.2.2.2.2.2.2.2.2.2.2.1 r.2.2.2.2.2.2.2.2.2.2.2.1).bind fun x230 => nx (r.1, r.2.1, r.2.2.1, r.2.2.2.1, r.2.2.2.2.1, (), r.2.2.2.2.2.2.1, (), r.2.2.2.2.2.2.2.2.1, (), r.2.2.2.2.2.2.2.2.2.2.1, r.2.2.2.2.2.2.2.2.2.2.2.1, r.2.2.2.2.2.2.2.2.2.2.2.2.1, r.2.2.2.2.2.2.2.2.2.2.2.2.2.1, r.2.2.2.2.2.2.2.2.2.2.2.2.2.2.1, r.2.2.2.2.2.2.2.2.2.2.2.2.2.2.2.1, r.2.2.2.2.2.2.2.2.2.2.2.2.2.2.2.2.1, (x230), (), ())
def m_law_s13 {R : Type} (nx : (List Int) × (List Int) × Int × Int × (List (Int × Int × Int)) × Unit × Int × Unit × (List (List Int)) × Unit × (List (List Int)) × (List Int) × A_Deals × (List Int) × (List (Option Int)) × A_Deals × (List Int) × A_Deals × Unit × Unit → Pu.Res R) (rt : Bool → Pu.Res R) (r : (List Int) × (List Int) × Int × Int × (List (Int × Int × Int)) × Unit × Int × Unit × (List (List Int)) × Unit × (List (List Int)) × (List Int) × A_Deals × (List Int) × (List (Option Int)) × A_Deals × (List Int) × A_Deals × Unit × Unit) : Pu.Res R := let k231 := fun (x232 : Bool) (r233 : (List Int) × (List Int) × Int × Int × (List (Int × Int × Int)) × Unit × Int × Unit × (List (List Int)) × Unit × (List (List Int)) × (List Int) × A_Deals × (List Int) × (List (Option Int)) × A_Deals × (List Int) × A_Deals × Unit × Unit) => if x232 = true then rt false else nx (r233.1, r233.2.1, r233.2.2.1, r233.2.2.2.1, r233.2.2.2.2.1, (), r233.2.2.2.2.2.2.1, (), r233.2.2.2.2.2.2.2.2.1, (), r233.2.2.2.2.2.2.2.2.2.2.1, r233.2.2.2.2.2.2.2.2.2.2.2.1, r233.2.2.2.2.2.2.2.2.2.2.2.2.1, r233.2.2.2.2.2.2.2.2.2.2.2.2.2.1, r233.2.2.2.2.2.2.2.2.2.2.2.2.2.2.1, r233.2.2.2.2.2.2.2.2.2.2.2.2.2.2.2.1, r233.2.2.2.2.2.2.2.2.2.2.2.2.2.2.2.2.1, r233.2.2.2.2.2.2.2.2.2.2.2.2.2.2.2.2.2.1, (), ()); (m_Deals_offers r.2.2.2.2.2.2.2.2.2.2.2.2.2.2.2.2.2.1).bind fun x234 => if (!decide (x234 = r.2.2.2.2.2.2.2.2.2.2.2.2.2.1)) = true then k231 true (r.1, r.2.1, r.2.2.1, r.2.2.2.1, r.2.2.2.2.1, (), r.2.2.2.2.2.2.1, (), r.2.2.2.2.2.2.2.2.1, (), r.2.2.2.2.2.2.2.2.2.2.1, r.2.2.2.2.2.2.2.2.2.2.2.1, r.2.2.2.2.2.2.2.2.2.2.2.2.1, r.2.2.2.2.2.2.2.2.2.2.2.2.2.1, r.2.2.2.2.2.2.2.2.2.2.2.2.2.2.1, r.2.2.2.2.2.2.2.2.2.2.2.2.2.2.2.1, r.2.2.2.2.2.2.2.2.2.2.2.2.2.2.2.2.1, r.2.2.2.2.2.2.2.2.2.2.2.2.2.2.2.2.2.1, (), ()) else (m_as_match r.2.2.2.2.2.2.2.2.2.2.2.2.2.2.2.2.2.1 r.2.2.2.2.2.2.2.2.2.2.2.2.2.1).bind fun x235 => (m_as_match r.2.2.2.2.2.2.2.2.2.2.2.2.1 r.2.2.2.2.2.2.2.2.2.2.2.2.2.1).bind fun x236 => k231 (!decide (x235 = x236)) (r.1, r.2.1, r.2.2.1, r.2.2.2.1, r.2.2.2.2.1, (), r.2.2.2.2.2.2.1, (), r.2.2.2.2.2.2.2.2.1, (), r.2.2.2.2.2.2.2.2.2.2.1, r.2.2.2.2.2.2.2.2.2.2.2.1, r.2.2.2.2.2.2.2.2.2.2.2.2.1, r.2.2.2.2.2.2.2.2.2.2.2.2.2.1, r.2.2.2.2.2.2.2.2.2.2.2.2.2.2.1, r.2.2.2.2.2.2.2.2.2.2.2.2.2.2.2.1, r.2.2.2.2.2.2.2.2.2.2.2.2.2.2.2.2.1, r.2.2.2.2.2.2.2.2.2.2.2.2.2.2.2.2.2.1, (), ())
def m_law_s14 {R : Type} (nx : (List Int) × (List Int) × Int × Int × (List (Int × Int × Int)) × Int × Int × Unit × (List (List Int)) × Unit × (List (List Int)) × (List Int) × A_Deals × (List Int) × (List (Option Int)) × A_Deals × (List Int) × A_Deals × Unit × Unit → Pu.Res R) (rt : Bool → Pu.Res R) (r : (List Int) × (List Int) × Int × Int × (List (Int × Int × Int)) × Unit × Int × Unit × (List (List Int)) × Unit × (List (List Int)) × (List Int) × A_Deals × (List Int) × (List (Option Int)) × A_Deals × (List Int) × A_Deals × Unit × Unit) : Pu.Res R := (m_law_roll r.2.1 r.2.2.1).bind fun x237 => nx (r.1, x237.2, r.2.2.1, r.2.2.2.1, r.2.2.2.2.1, x237.1, r.2.2.2.2.2.2.1, (), r.2.2.2.2.2.2.2.2.1, (), r.2.2.2.2.2.2.2.2.2.2.1, r.2.2.2.2.2.2.2.2.2.2.2.1, r.2.2.2.2.2.2.2.2.2.2.2.2.1, r.2.2.2.2.2.2.2.2.2.2.2.2.2.1, r.2.2.2.2.2.2.2.2.2.2.2.2.2.2.1, r.2.2.2.2.2.2.2.2.2.2.2.2.2.2.2.1, r.2.2.2.2.2.2.2.2.2.2.2.2.2.2.2.2.1, r.2.2.2.2.2.2.2.2.2.2.2.2.2.2.2.2.2.1, (), ())
def m_law_s15 {R : Type} (nx : (List Int) × (List Int) × Int × Int × (List (Int × Int × Int)) × Int × Int × Unit × (List (List Int)) × Unit × (List (List Int)) × (List Int) × A_Deals × (List Int) × (List (Option Int)) × A_Deals × (List Int) × A_Deals × Unit × Unit → Pu.Res R) (rt : Bool → Pu.Res R) (r : (List Int) × (List Int) × Int × Int × (List (Int × Int × Int)) × Int × Int × Unit × (List (List Int)) × Unit × (List (List Int)) × (List Int) × A_Deals × (List Int) × (List (Option Int)) × A_Deals × (List Int) × A_Deals × Unit × Unit) : Pu.Res R := let k238 := fun (r239 : (List Int) × (List Int) × Int × Int × (List (Int × Int × Int)) × Int × Int × Unit × (List (List Int)) × Unit × (List (List Int)) × (List Int) × A_Deals × (List Int) × (List (Option Int)) × A_Deals × (List Int) × A_Deals × Unit × Unit) => nx (r239.1, r239.2.1, r239.2.2.1, r239.2.2.2.1, r239.2.2.2.2.1, r239.2.2.2.2.2.1, r239.2.2.2.2.2.2.1, (), r239.2.2.2.2.2.2.2.2.1, (), r239.2.2.2.2.2.2.2.2.2.2.1, r239.2.2.2.2.2.2.2.2.2.2.2.1, r239.2.2.2.2.2.2.2.2.2.2.2.2.1, r239.2.2.2.2.2.2.2.2.2.2.2.2.2.1, r239.2.2.2.2.2.2.2.2.2.2.2.2.2.2.1, r239.2.2.2.2.2.2.2.2.2.2.2.2.2.2.2.1, r239.2.2.2.2.2.2.2.2.2.2.2.2.2.2.2.2.1, r239.2.2.2.2.2.2.2.2.2.2.2.2.2.2.2.2.2.1, (), ()); opt (L2.atI r.2.2.2.2.2.2.2.2.2.2.2.2.2.2.1 r.2.2.2.2.2.1) fun x240 => if (x240.isSome) = true then opt (L2.atI r.2.2.2.2.2.2.2.2.1 r.2.2.2.2.2.1) fun x241 => opt (L2.atI r.2.2.2.2.2.2.2.2.1 r.2.2.2.2.2.1) fun x242 => opt (L2.atI r.2.2.2.2.2.2.2.2.2.2.2.2.2.2.1 r.2.2.2.2.2.1) fun x243 => opt x243 fun x244 => opt (indexL flInt.dec x242 x244) fun x245 => opt (catL (cutL r.2.2.2.2.2.2.2.2.1 none (some r.2.2.2.2.2.1)) [(cutL x241 none (some (x245 + (1 : Int))))]) fun x246 => opt (catL x246 (cutL r.2.2.2.2.2.2.2.2.1 (some (r.2.2.2.2.2.1 + (1 : Int))) none)) fun x247 => (m_Deals_init r.2.2.2.2.1 x247 r.2.2.2.2.2.2.2.2.2.2.1 r.2.2.2.2.2.2.2.2.2.2.2.1).bind fun x248 => (m_Deals_offers (x248)).bind fun x249 => if (!decide (x249 = r.2.2.2.2.2.2.2.2.2.2.2.2.2.1)) = true then rt false else k238 (r.1, r.2.1, r.2.2.1, r.2.2.2.1, r.2.2.2.2.1, r.2.2.2.2.2.1, r.2.2.2.2.2.2.1, (), r.2.2.2.2.2.2.2.2.1, (), r.2.2.2.2.2.2.2.2.2.2.1, r.2.2.2.2.2.2.2.2.2.2.2.1, r.2.2.2.2.2.2.2.2.2.2.2.2.1, r.2.2.2.2.2.2.2.2.2.2.2.2.2.1, r.2.2.2.2.2.2.2.2.2.2.2.2.2.2.1, r.2.2.2.2.2.2.2.2.2.2.2.2.2.2.2.1, r.2.2.2.2.2.2.2.2.2.2.2.2.2.2.2.2.1, r.2.2.2.2.2.2.2.2.2.2.2.2.2.2.2.2.2.1, (), ()) else k238 (r.1, r.2.1, r.2.2.1, r.2.2.2.1, r.2.2.2.2.1, r.2.2.2.2.2.1, r.2.2.2.2.2.2.1, (), r.2.2.2.2.2.2.2.2.1, (), r.2.2.2.2.2.2.2.2.2.2.1, r.2.2.2.2.2.2.2.2.2.2.2.1, r.2.2.2.2.2.2.2.2.2.2.2.2.1, r.2.2.2.2.2.2.2.2.2.2.2.2.2.1, r.2.2.2.2.2.2.2.2.2.2.2.2.2.2.1, r.2.2.2.2.2.2.2.2.2.2.2.2.2.2.2.1, r.2.2.2.2.2.2.2.2.2.2.2.2.2.2.2.2.1, r.2.2.2.2.2.2.2.2.2.2.2.2.2.2.2.2.2.1, (), ())
def m_law_s16 {R : Type} (nx : (List Int) × (List Int) × Int × Int × (List (Int × Int × Int)) × Int × Int × Unit × (List (List Int)) × Unit × (List (List Int)) × (List Int) × A_Deals × (List Int) × (List (Option Int)) × A_Deals × (List Int) × A_Deals × Unit × Unit → Pu.Res R) (rt : Bool → Pu.Res R) (r : (List Int) × (List Int) × Int × Int × (List (Int × Int × Int)) × Int × Int × Unit × (List (List Int)) × Unit × (List (List Int)) × (List Int) × A_Deals × (List Int) × (List (Option Int)) × A_Deals × (List Int) × A_Deals × Unit × Unit) : Pu.Res R := (m_as_match r.2.2.2.2.2.2.2.2.2.2.2.2.1 r.2.2.2.2.2.2.2.2.2.2.2.2.2.1).bind fun x250 => opt (compL (β := (Option Int)) (S := (List Int) × (List Int) × Int × Int × (List (Int × Int × Int)) × Int × Int × Unit × (List (List Int)) × Unit × (List (List Int)) × (List Int) × A_Deals × (List Int) × (List (Option Int)) × A_Deals × (List Int) × A_Deals × Unit × Unit) (fun (x251 : (Option Int)) r252 => if true = true then let k254 := fun (x255 : (Option Int)) (r256 : (List Int) × (List Int) × Int × Int × (List (Int × Int × Int)) × Int × Int × Unit × (List (List Int)) × (Option Int) × (List (List Int)) × (List Int) × A_Deals × (List Int) × (List (Option Int)) × A_Deals × (List Int) × A_Deals × Unit × Unit) => .ok (some x255, (r256.1, r256.2.1, r256.2.2.1, r256.2.2.2.1, r256.2.2.2.2.1, r256.2.2.2.2.2.1, r256.2.2.2.2.2.2.1, (), r256.2.2.2.2.2.2.2.2.1, (), r256.2.2.2.2.2.2.2.2.2.2.1, r256.2.2.2.2.2.2.2.2.2.2.2.1, r256.2.2.2.2.2.2.2.2.2.2.2.2.1, r256.2.2.2.2.2.2.2.2.2.2.2.2.2.1, r256.2.2.2.2.2.2.2.2.2.2.2.2.2.2.1, r256.2.2.2.2.2.2.2.2.2.2.2.2.2.2.2.1, r256.2.2.2.2.2.2.2.2.2.2.2.2.2.2.2.2.1, r256.2.2.2.2.2.2.2.2.2.2.2.2.2.2.2.2.2.1, (), ())); if (x251.isNone) = true then k254 (none : (Option Int)) (r252.1, r252.2.1, r252.2.2.1, r252.2.2.2.1, r252.2.2.2.2.1, r252.2.2.2.2.2.1, r252.2.2.2.2.2.2.1, (), r252.2.2.2.2.2.2.2.2.1, x251, r252.2.2.2.2.2.2.2.2.2.2.1, r252.2.2.2.2.2.2.2.2.2.2.2.1, r252.2.2.2.2.2.2.2.2.2.2.2.2.1, r252.2.2.2.2.2.2.2.2.2.2.2.2.2.1, r252.2.2.2.2.2.2.2.2.2.2.2.2.2.2.1, r252.2.2.2.2.2.2.2.2.2.2.2.2.2.2.2.1, r252.2.2.2.2.2.2.2.2.2.2.2.2.2.2.2.2.1, r252.2.2.2.2.2.2.2.2.2.2.2.2.2.2.2.2.2.1, (), ()) else opt x251 fun x257 => opt (L2.atI r252.2.2.2.2.1 x257) fun x258 => opt (if (1 : Int) = 1 then some x258.2.1 else none) fun x259 => k254 (some x259) (r252.1, r252.2.1, r252.2.2.1, r252.2.2.2.1, r252.2.2.2.2.1, r252.2.2.2.2.2.1, r252.2.2.2.2.2.2.1, (), r252.2.2.2.2.2.2.2.2.1, x251, r252.2.2.2.2.2.2.2.2.2.2.1, r252.2.2.2.2.2.2.2.2.2.2.2.1, r252.2.2.2.2.2.2.2.2.2.2.2.2.1, r252.2.2.2.2.2.2.2.2.2.2.2.2.2.1, r252.2.2.2.2.2.2.2.2.2.2.2.2.2.2.1, r252.2.2.2.2.2.2.2.2.2.2.2.2.2.2.2.1, r252.2.2.2.2.2.2.2.2.2.2.2.2.2.2.2.2.1, r252.2.2.2.2.2.2.2.2.2.2.2.2.2.2.2.2.2.1, (), ()) else .ok (none, (r252.1, r252.2.1, r252.2.2.1, r252.2.2.2.1, r252.2.2.2.2.1, r252.2.2.2.2.2.1, r252.2.2.2.2.2.2.1, (), r252.2.2.2.2.2.2.2.2.1, (), r252.2.2.2.2.2.2.2.2.2.2.1, r252.2.2.2.2.2.2.2.2.2.2.2.1, r252.2.2.2.2.2.2.2.2.2.2.2.2.1, r252.2.2.2.2.2.2.2.2.2.2.2.2.2.1, r252.2.2.2.2.2.2.2.2.2.2.2.2.2.2.1, r252.2.2.2.2.2.2.2.2.2.2.2.2.2.2.2.1, r252.2.2.2.2.2.2.2.2.2.2.2.2.2.2.2.2.1, r252.2.2.2.2.2.2.2.2.2.2.2.2.2.2.2.2.2.1, (), ()))) r.2.2.2.2.2.2.2.2.2.2.2.2.2.2.1 (r.1, r.2.1, r.2.2.1, r.2.2.2.1, r.2.2.2.2.1, r.2.2.2.2.2.1, r.2.2.2.2.2.2.1, (), r.2.2.2.2.2.2.2.2.1, (), r.2.2.2.2.2.2.2.2.2.2.1, r.2.2.2.2.2.2.2.2.2.2.2.1, r.2.2.2.2.2.2.2.2.2.2.2.2.1, r.2.2.2.2.2.2.2.2.2.2.2.2.2.1, r.2.2.2.2.2.2.2.2.2.2.2.2.2.2.1, r.2.2.2.2.2.2.2.2.2.2.2.2.2.2.2.1, r.2.2.2.2.2.2.2.2.2.2.2.2.2.2.2.2.1, r.2.2.2.2.2.2.2.2.2.2.2.2.2.2.2.2.2.1, (), ())) fun ys253 => if (!decide (x250 = ys253.1)) = true then rt false else nx (ys253.2.1, ys253.2.2.1, ys253.2.2.2.1, ys253.2.2.2.2.1, ys253.2.2.2.2.2.1, ys253.2.2.2.2.2.2.1, ys253.2.2.2.2.2.2.2.1, (), ys253.2.2.2.2.2.2.2.2.2.1, (), ys253.2.2.2.2.2.2.2.2.2.2.2.1, ys253.2.2.2.2.2.2.2.2.2.2.2.2.1, ys253.2.2.2.2.2.2.2.2.2.2.2.2.2.1, ys253.2.2.2.2.2.2.2.2.2.2.2.2.2.2.1, ys253.2.2.2.2.2.2.2.2.2.2.2.2.2.2.2.1, ys253.2.2.2.2.2.2.2.2.2.2.2.2.2.2.2.2.1, ys253.2.2.2.2.2.2.2.2.2.2.2.2.2.2.2.2.2.1, ys253.2.2.2.2.2.2.2.2.2.2.2.2.2.2.2.2.2.2.1, (), ())
def m_law_s17 {R : Type} (nx : (List Int) × (List Int) × Int × Int × (List (Int × Int × Int)) × Int × Int × Unit × (List (List Int)) × Unit × (List (List Int)) × (List Int) × A_Deals × (List Int) × (List (Option Int)) × A_Deals × (List Int) × A_Deals × Unit × Unit → Pu.Res R) (rt : Bool → Pu.Res R) (r : (List Int) × (List Int) × Int × Int × (List (Int × Int × Int)) × Int × Int × Unit × (List (List Int)) × Unit × (List (List Int)) × (List Int) × A_Deals × (List Int) × (List (Option Int)) × A_Deals × (List Int) × A_Deals × Unit × Unit) : Pu.Res R := let k260 := fun (x261 : Bool) (r262 : (List Int) × (List Int) × Int × Int × (List (Int × Int × Int)) × Int × Int × Unit × (List (List Int)) × Unit × (List (List Int)) × (List Int) × A_Deals × (List Int) × (List (Option Int)) × A_Deals × (List Int) × A_Deals × Unit × Unit) => if x261 = true then rt false else nx (r262.1, r262.2.1, r262.2.2.1, r262.2.2.2.1, r262.2.2.2.2.1, r262.2.2.2.2.2.1, r262.2.2.2.2.2.2.1, (), r262.2.2.2.2.2.2.2.2.1, (), r262.2.2.2.2.2.2.2.2.2.2.1, r262.2.2.2.2.2.2.2.2.2.2.2.1, r262.2.2.2.2.2.2.2.2.2.2.2.2.1, r262.2.2.2.2.2.2.2.2.2.2.2.2.2.1, r262.2.2.2.2.2.2.2.2.2.2.2.2.2.2.1, r262.2.2.2.2.2.2.2.2.2.2.2.2.2.2.2.1, r262.2.2.2.2.2.2.2.2.2.2.2.2.2.2.2.2.1, r262.2.2.2.2.2.2.2.2.2.2.2.2.2.2.2.2.2.1, (), ()); opt (compL (β := Int) (S := (List Int) × (List Int) × Int × Int × (List (Int × Int × Int)) × Int × Int × Unit × (List (List Int)) × Unit × (List (List Int)) × (List Int) × A_Deals × (List Int) × (List (Option Int)) × A_Deals × (List Int) × A_Deals × Unit × Unit) (fun (x263 : Int) r264 => opt (L2.atI r264.2.2.2.2.1 x263) fun x266 => opt (if (0 : Int) = 0 then some x266.1 else none) fun x267 => if (!decide (0 ≤ x267 ∧ x267 < r264.2.2.1)) = true then .ok (some x263, (r264.1, r264.2.1, r264.2.2.1, r264.2.2.2.1, r264.2.2.2.2.1, r264.2.2.2.2.2.1, r264.2.2.2.2.2.2.1, (), r264.2.2.2.2.2.2.2.2.1, (), r264.2.2.2.2.2.2.2.2.2.2.1, r264.2.2.2.2.2.2.2.2.2.2.2.1, r264.2.2.2.2.2.2.2.2.2.2.2.2.1, r264.2.2.2.2.2.2.2.2.2.2.2.2.2.1, r264.2.2.2.2.2.2.2.2.2.2.2.2.2.2.1, r264.2.2.2.2.2.2.2.2.2.2.2.2.2.2.2.1, r264.2.2.2.2.2.2.2.2.2.2.2.2.2.2.2.2.1, r264.2.2.2.2.2.2.2.2.2.2.2.2.2.2.2.2.2.1, (), ())) else .ok (none, (r264.1, r264.2.1, r264.2.2.1, r264.2.2.2.1, r264.2.2.2.2.1, r264.2.2.2.2.2.1, r264.2.2.2.2.2.2.1, (), r264.2.2.2.2.2.2.2.2.1, (), r264.2.2.2.2.2.2.2.2.2.2.1, r264.2.2.2.2.2.2.2.2.2.2.2.1, r264.2.2.2.2.2.2.2.2.2.2.2.2.1, r264.2.2.2.2.2.2.2.2.2.2.2.2.2.1, r264.2.2.2.2.2.2.2.2.2.2.2.2.2.2.1, r264.2.2.2.2.2.2.2.2.2.2.2.2.2.2.2.1, r264.2.2.2.2.2.2.2.2.2.2.2.2.2.2.2.2.1, r264.2.2.2.2.2.2.2.2.2.2.2.2.2.2.2.2.2.1, (), ()))) r.2.2.2.2.2.2.2.2.2.2.2.2.2.1 (r.1, r.2.1, r.2.2.1, r.2.2.2.1, r.2.2.2.2.1, r.2.2.2.2.2.1, r.2.2.2.2.2.2.1, (), r.2.2.2.2.2.2.2.2.1, (), r.2.2.2.2.2.2.2.2.2.2.1, r.2.2.2.2.2.2.2.2.2.2.2.1, r.2.2.2.2.2.2.2.2.2.2.2.2.1, r.2.2.2.2.2.2.2.2.2.2.2.2.2.1, r.2.2.2.2.2.2.2.2.2.2.2.2.2.2.1, r.2.2.2.2.2.2.2.2.2.2.2.2.2.2.2.1, r.2.2.2.2.2.2.2.2.2.2.2.2.2.2.2.2.1, r.2.2.2.2.2.2.2.2.2.2.2.2.2.2.2.2.2.1, (), ())) fun ys265 => if (!decide (ys265.1 = [])) = true then k260 true (ys265.2.1, ys265.2.2.1, ys265.2.2.2.1, ys265.2.2.2.2.1, ys265.2.2.2.2.2.1, ys265.2.2.2.2.2.2.1, ys265.2.2.2.2.2.2.2.1, (), ys265.2.2.2.2.2.2.2.2.2.1, (), ys265.2.2.2.2.2.2.2.2.2.2.2.1, ys265.2.2.2.2.2.2.2.2.2.2.2.2.1, ys265.2.2.2.2.2.2.2.2.2.2.2.2.2.1, ys265.2.2.2.2.2.2.2.2.2.2.2.2.2.2.1, ys265.2.2.2.2.2.2.2.2.2.2.2.2.2.2.2.1, ys265.2.2.2.2.2.2.2.2.2.2.2.2.2.2.2.2.1, ys265.2.2.2.2.2.2.2.2.2.2.2.2.2.2.2.2.2.1, ys265.2.2.2.2.2.2.2.2.2.2.2.2.2.2.2.2.2.2.1, (), ()) else k260 (!decide (ys265.2.2.2.2.2.2.2.2.2.2.2.2.2.2.1 = (sortI ys265.2.2.2.2.2.2.2.2.2.2.2.2.2.2.1))) (ys265.2.1, ys265.2.2.1, ys265.2.2.2.1, ys265.2.2.2.2.1, ys265.2.2.2.2.2.1, ys265.2.2.2.2.2.2.1, ys265.2.2.2.2.2.2.2.1, (), ys265.2.2.2.2.2.2.2.2.2.1, (), ys265.2.2.2.2.2.2.2.2.2.2.2.1, ys265.2.2.2.2.2.2.2.2.2.2.2.2.1, ys265.2.2.2.2.2.2.2.2.2.2.2.2.2.1, ys265.2.2.2.2.2.2.2.2.2.2.2.2.2.2.1, ys265.2.2.2.2.2.2.2.2.2.2.2.2.2.2.2.1, ys265.2.2.2.2.2.2.2.2.2.2.2.2.2.2.2.2.1, ys265.2.2.2.2.2.2.2.2.2.2.2.2.2.2.2.2.2.1, ys265.2.2.2.2.2.2.2.2.2.2.2.2.2.2.2.2.2.2.1, (), ())
def m_law (a_script : (List Int)) : Pu.Res Bool := let nx268 := fun (r269 : (List Int) × (List Int) × Int × Int × (List (Int × Int × Int)) × Int × Int × Unit × (List (List Int)) × Unit × (List (List Int)) × (List Int) × A_Deals × (List Int) × (List (Option Int)) × A_Deals × (List Int) × A_Deals × Unit × Unit) => .ok true; (m_law_rounds a_script (1 : Int)).bind fun x287 => m_law_s0 (fun (r286 : (List Int) × (List Int) × Int × Int × Unit × Unit × Unit × Unit × Unit × Unit × Unit × Unit × Unit × Unit × Unit × Unit × Unit × Unit × Unit × Unit) => m_law_s1 (fun (r285 : (List Int) × (List Int) × Int × Int × (List (Int × Int × Int)) × Unit × Unit × Unit × Unit × Unit × Unit × Unit × Unit × Unit × Unit × Unit × Unit × Unit × Unit × Unit) => m_law_s2 (fun (r284 : (List Int) × (List Int) × Int × Int × (List (Int × Int × Int)) × Unit × Unit × Unit × (List (List Int)) × Unit × Unit × Unit × Unit × Unit × Unit × Unit × Unit × Unit × Unit × Unit) => m_law_s3 (fun (r283 : (List Int) × (List Int) × Int × Int × (List (Int × Int × Int)) × Unit × Unit × Unit × (List (List Int)) × Unit × (List (List Int)) × Unit × Unit × Unit × Unit × Unit × Unit × Unit × Unit × Unit) => m_law_s4 (fun (r282 : (List Int) × (List Int) × Int × Int × (List (Int × Int × Int)) × Unit × Unit × Unit × (List (List Int)) × Unit × (List (List Int)) × (List Int) × Unit × Unit × Unit × Unit × Unit × Unit × Unit × Unit) => m_law_s5 (fun (r281 : (List Int) × (List Int) × Int × Int × (List (Int × Int × Int)) × Unit × Unit × Unit × (List (List Int)) × Unit × (List (List Int)) × (List Int) × A_Deals × Unit × Unit × Unit × Unit × Unit × Unit × Unit) => m_law_s6 (fun (r280 : (List Int) × (List Int) × Int × Int × (List (Int × Int × Int)) × Unit × Unit × Unit × (List (List Int)) × Unit × (List (List Int)) × (List Int) × A_Deals × (List Int) × Unit × Unit × Unit × Unit × Unit × Unit) => m_law_s7 (fun (r279 : (List Int) × (List Int) × Int × Int × (List (Int × Int × Int)) × Unit × Unit × Unit × (List (List Int)) × Unit × (List (List Int)) × (List Int) × A_Deals × (List Int) × (List (Option Int)) × Unit × Unit × Unit × Unit × Unit) => m_law_s8 (fun (r278 : (List Int) × (List Int) × Int × Int × (List (Int × Int × Int)) × Unit × Int × Unit × (List (List Int)) × Unit × (List (List Int)) × (List Int) × A_Deals × (List Int) × (List (Option Int)) × Unit × Unit × Unit × Unit × Unit) => m_law_s9 (fun (r277 : (List Int) × (List Int) × Int × Int × (List (Int × Int × Int)) × Unit × Int × Unit × (List (List Int)) × Unit × (List (List Int)) × (List Int) × A_Deals × (List Int) × (List (Option Int)) × A_Deals × Unit × Unit × Unit × Unit) => m_law_s10 (fun (r276 : (List Int) × (List Int) × Int × Int × (List (Int × Int × Int)) × Unit × Int × Unit × (List (List Int)) × Unit × (List (List Int)) × (List Int) × A_Deals × (List Int) × (List (Option Int)) × A_Deals × (List Int) × Unit × Unit × Unit) => m_law_s11 (fun (r275 : (List Int) × (List Int) × Int × Int × (List (Int × Int × Int)) × Unit × Int × Unit × (List (List Int)) × Unit × (List (List Int)) × (List Int) × A_Deals × (List Int) × (List (Option Int)) × A_Deals × (List Int) × Unit × Unit × Unit) => m_law_s12 (fun (r274 : (List Int) × (List Int) × Int × Int × (List (Int × Int × Int)) × Unit × Int × Unit × (List (List Int)) × Unit × (List (List Int)) × (List Int) × A_Deals × (List Int) × (List (Option Int)) × A_Deals × (List Int) × A_Deals × Unit × Unit) => m_law_s13 (fun (r273 : (List Int) × (List Int) × Int × Int × (List (Int × Int × Int)) × Unit × Int × Unit × (List (List Int)) × Unit × (List (List Int)) × (List Int) × A_Deals × (List Int) × (List (Option Int)) × A_Deals × (List Int) × A_Deals × Unit × Unit) => m_law_s14 (fun (r272 : (List Int) × (List Int) × Int × Int × (List (Int × Int × Int)) × Int × Int × Unit × (List (List Int)) × Unit × (List (List Int)) × (List Int) × A_Deals × (List Int) × (List (Option Int)) × A_Deals × (List Int) × A_Deals × Unit × Unit) => m_law_s15 (fun (r271 : (List Int) × (List Int) × Int × Int × (List (Int × Int × Int)) × Int × Int × Unit × (List (List Int)) × Unit × (List (List Int)) × (List Int) × A_Deals × (List Int) × (List (Option Int)) × A_Deals × (List Int) × A_Deals × Unit × Unit) => m_law_s16 (fun (r270 : (List Int) × (List Int) × Int × Int × (List (Int × Int × Int)) × Int × Int × Unit × (List (List Int)) × Unit × (List (List Int)) × (List Int) × A_Deals × (List Int) × (List (Option Int)) × A_Deals × (List Int) × A_Deals × Unit × Unit) => m_law_s17 nx268 (fun x => .ok x) r270) (fun x => .ok x) r271) (fun x => .ok x) r272) (fun x => .ok x) r273) (fun x => .ok x) r274) (fun x => .ok x) r275) (fun x => .ok x) r276) (fun x => .ok x) r277) (fun x => .ok x) r278) (fun x => .ok x) r279) (fun x => .ok x) r280) (fun x => .ok x) r281) (fun x => .ok x) r282) (fun x => .ok x) r283) (fun x => .ok x) r284) (fun x => .ok x) r285) (fun x => .ok x) r286) (fun x => .ok x) (a_script, x287, (), (), (), (), (), (), (), (), (), (), (), (), (), (), (), (), (), ())
def d_0 : He.DefD := ⟨("_law_flat", none), "_law_flat", "_law_flat", defArgs s_law_flat, defBody s_law_flat, defScope s_law_flat, [], []⟩
def d_1 : He.DefD := ⟨("_law_dice", none), "_law_dice", "_law_dice", defArgs s_law_dice, defBody s_law_dice, defScope s_law_dice, [], []⟩
def d_2 : He.DefD := ⟨("_law_rounds", none), "_law_rounds", "_law_rounds", defArgs s_law_rounds, defBody s_law_rounds, defScope s_law_rounds, [], []⟩
def d_3 : He.DefD := ⟨("_law_roll", none), "_law_roll", "_law_roll", defArgs s_law_roll, defBody s_law_roll, defScope s_law_roll, [], []⟩
def d_4 : He.DefD := ⟨("_law_place", none), "_law_place", "_law_place", defArgs s_law_place, defBody s_law_place, defScope s_law_place, [], []⟩
def d_5 : He.DefD := ⟨("_law_drawn", none), "_law_drawn", "_law_drawn", defArgs s_law_drawn, defBody s_law_drawn, defScope s_law_drawn, [], []⟩
def d_6 : He.DefD := ⟨("Wish", some "__init__"), "__init__", "Wish.__init__", defArgs s_Wish_init, defBody s_Wish_init, defScope s_Wish_init, [], []⟩
def d_7 : He.DefD := ⟨("Wish", some "best_of"), "best_of", "Wish.best_of", defArgs s_Wish_best_of, defBody s_Wish_best_of, defScope s_Wish_best_of, [], []⟩
def d_8 : He.DefD := ⟨("Deals", some "check"), "check", "Deals.check", defArgs s_Deals_check, defBody s_Deals_check, defScope s_Deals_check, [], []⟩
def d_9 : He.DefD := ⟨("Deals", some "__init__"), "__init__", "Deals.__init__", defArgs s_Deals_init, defBody s_Deals_init, defScope s_Deals_init, [], []⟩
def d_10 : He.DefD := ⟨("Deals", some "choose"), "choose", "Deals.choose", defArgs s_Deals_choose, defBody s_Deals_choose, defScope s_Deals_choose, [], []⟩
def d_11 : He.DefD := ⟨("Deals", some "kept_by"), "kept_by", "Deals.kept_by", defArgs s_Deals_kept_by, defBody s_Deals_kept_by, defScope s_Deals_kept_by, [], []⟩
def d_12 : He.DefD := ⟨("Deals", some "of_asker"), "of_asker", "Deals.of_asker", defArgs s_Deals_of_asker, defBody s_Deals_of_asker, defScope s_Deals_of_asker, [], []⟩
def d_13 : He.DefD := ⟨("Deals", some "free_asker"), "free_asker", "Deals.free_asker", defArgs s_Deals_free_asker, defBody s_Deals_free_asker, defScope s_Deals_free_asker, [], []⟩
def d_14 : He.DefD := ⟨("Deals", some "offers"), "offers", "Deals.offers", defArgs s_Deals_offers, defBody s_Deals_offers, defScope s_Deals_offers, [], []⟩
def d_15 : He.DefD := ⟨("as_match", none), "as_match", "as_match", defArgs s_as_match, defBody s_as_match, defScope s_as_match, [], []⟩
def d_16 : He.DefD := ⟨("law", none), "law", "law", defArgs s_law, defBody s_law, defScope s_law, [], []⟩
def fn : List He.DefD := [d_0, d_1, d_2, d_3, d_4, d_5, d_6, d_7, d_8, d_9, d_10, d_11, d_12, d_13, d_14, d_15, d_16]
def fa : List He.Fa := [.free "abs", .free "int", .glo "_law_dice", .free "len", .free "list", .glo "_law_roll", .free "tuple", .cls "Wish", .noat "Wish" "order", .free "enumerate", .noat "Wish" "ranks", .exc "BadWish", .glo "BadWish", .cls "Deals", .noat "Deals" "contracts", .free "any", .mkr "Wish", .glo "Wish", .noat "Deals" "lists", .noat "Deals" "orders", .noat "Deals" "seats", .meth "Deals" "check", .meth "Wish" "best_of", .free "range", .meth "Deals" "choose", .free "sorted", .meth "Deals" "kept_by", .meth "Deals" "of_asker", .meth "Deals" "free_asker", .glo "_law_rounds", .glo "_law_flat", .glo "_law_drawn", .mkr "Deals", .glo "Deals", .meth "Deals" "offers", .glo "_law_place", .glo "as_match", .glo "law"]
section
variable {P : Program} {w : World} {K : PySem.W.Frag} {mg : Str → Option Value} {base : Heap}
theorem ok_law_flat (T : Tx fa fn K mg) : OkF P w K mg base 1 (He.ga K "_law_flat") ["rows"] (spD (xcK K) [(dLst (dLst (dP3 dInt dInt dInt)))] (dLst (dP3 dInt dInt dInt)) (fun x => m_law_flat x.1)) := by
  refine okF (T.c.def_ 0 (d := d_0) rfl) sc_law_flat (lenD rfl) (fun _ _ _ _ _ _ us hl => match us, hl with | [_], _ => rfl) ?_
  intro cdv A outer s H E hr
  refine ⟨_, (pss_cons (ps_set (i := 1) sc_law_flat.nd (by rfl) (by first | exact Or.inl rfl | exact Or.inr rfl) (pe_lst pa_nil)) (pss_cons (ps_for poB (by rfl) (Pu.pi_listK (K := K) (pv 0)) (pg_name (i := 2) sc_law_flat.nd (by rfl) (by first | exact Or.inl rfl | exact Or.inr rfl)) (pss_one (ps_set (i := 1) sc_law_flat.nd (by rfl) (by first | exact Or.inl rfl | exact Or.inr rfl) (pe_op op_cat (pv 1) (pv 2))))) (pss_one (ps_ret (pv 1))))), ?_⟩
  intro vs Q h
  refine run_D (Γe := []) (cs := [(dLst (dLst (dP3 dInt dInt dInt)))]) (n := 2) (T := ?T) rfl ?h ?f vs H Q h
  case h => exact (Pu.st_seq (Pu.st_set (p := false) (.s (.z)) (Pu.freeze (c := (dP3 dInt dInt dInt)) Pu.en_nil)) (Pu.st_seq (Pu.st_for (p := false) (Γ' := [.da (dLst (dLst (dP3 dInt dInt dInt))), .da (dLst (dP3 dInt dInt dInt)), .da (dLst (dP3 dInt dInt dInt))]) (Pu.ei_list (Pu.ev_var .z)) (Pu.tg_name (.s (.s (.z)))) (Pu.st_post (Bk.drop Bk.id (.s (.s (.z)))) (Pu.st_set (p := false) (.s (.z)) (Pu.freeze (c := (dP3 dInt dInt dInt)) (Pu.en_cat (Pu.ev_var (.s (.z))) (Pu.ev_var (.s (.s (.z))))))))) (Pu.st_ret (p := false) prD (Pu.ev_var (.s (.z))))))
  case f => intros; kernel_rfl
theorem ok_law_dice (T : Tx fa fn K mg) : OkF P w K mg base 1 (He.ga K "_law_dice") ["cell"] (spN (xcK K) [dInt] (mLst dInt) (fun x => m_law_dice x.1)) := by
  refine okF (T.c.def_ 1 (d := d_1) rfl) sc_law_dice (lenN rfl) (fun _ _ _ _ _ _ us hl => match us, hl with | [_], _ => rfl) ?_
  intro cdv A outer s H E hr
  refine ⟨_, (pss_cons (ps_if (pt_chain op_lt op_lt (pe_op op_sub pe_int pe_int) (pv 0) pe_int) (pss_one (ps_ret (pe_lst (pa_cons (pe_callB call_abs (by rfl) (T.free 0) (by decide +kernel) (pa_cons (pv 0) pa_nil)) (pa_cons pe_int (pa_cons pe_int pa_nil)))))) pss_nil) (pss_one (ps_ret (pe_lst (pa_cons (pv 0) (pa_cons (pe_op op_add pe_int (pe_op op_mod (pe_callTy call_int1 (by rfl) (T.free 1) (by decide +kernel) (pa_cons (pv 0) pa_nil)) pe_int)) (pa_cons (pe_callTy call_int1 (by rfl) (T.free 1) (by decide +kernel) (pa_cons (pe_cmpR op_ge (pv 0) (pe_op op_pow pe_int pe_int) (nomark _)) pa_nil)) pa_nil))))))), ?_⟩
  intro vs Q h
  refine run_N (Γe := []) (cs := [dInt]) (n := 0) (T := ?T) rfl ?h ?f vs H Q h
  case h => exact (Pu.st_seq (Pu.st_if (p := false) (Pu.et_test (Pu.ev_chain Pu.o_cmp Pu.o_cmp (Pu.ev_op Pu.o_int (Pu.ev_c (c := dInt) (x := 0) fun _ => rfl) (Pu.ev_c (c := dInt) (x := 10) fun _ => rfl)) (Pu.ev_var .z) (Pu.ev_c (c := dInt) (x := 10) fun _ => rfl))) (Pu.st_retNew (p := false) (Pu.en_lst (c := dInt) 3 (by decide) (Pu.ea_cons (Pu.ev_b1 Pu.o_abs (Pu.ev_var .z)) (Pu.ea_cons (Pu.ev_c (c := dInt) (x := 0) fun _ => rfl) (Pu.ea_cons (Pu.ev_c (c := dInt) (x := 2) fun _ => rfl) Pu.ea_nil))))) Pu.st_next) (Pu.st_retNew (p := false) (Pu.en_lst (c := dInt) 3 (by decide) (Pu.ea_cons (Pu.ev_var .z) (Pu.ea_cons (Pu.ev_op Pu.o_int (Pu.ev_c (c := dInt) (x := 1) fun _ => rfl) (Pu.ev_opP Pu.o_mod (Pu.ev_b1 Pu.o_intI (Pu.ev_var .z)) (Pu.ev_c (c := dInt) (x := 1009) fun _ => rfl))) (Pu.ea_cons (Pu.ev_b1 Pu.o_intB (Pu.ev_op Pu.o_cmp (Pu.ev_var .z) (Pu.ev_opP Pu.o_pow (Pu.ev_c (c := dInt) (x := 10) fun _ => rfl) (Pu.ev_c (c := dInt) (x := 18) fun _ => rfl)))) Pu.ea_nil))))))
  case f => intros; kernel_rfl
theorem ok_law_rounds (T : Tx fa fn K mg) : OkF P w K mg base 2 (He.ga K "_law_rounds") ["script", "most_now"] (spN (xcK K) [(dScr K), dInt] (mOne (mLst dInt)) (fun x => m_law_rounds x.1 x.2.1)) := by
  refine okF (T.c.def_ 2 (d := d_2) rfl) sc_law_rounds (lenN rfl) (fun _ _ _ _ _ _ us hl => match us, hl with | [_, _], _ => rfl) ?_
  intro cdv A outer s H E hr
  refine ⟨_, (pss_cons (ps_set (i := 2) sc_law_rounds.nd (by rfl) (by first | exact Or.inl rfl | exact Or.inr rfl) (pe_slice (Pu.sl_listK (K := K)) (pv 0) po_none (po_some (pv 1)))) (pss_cons (ps_if (pt_cmpR (Pu.op_eqDK (K := K) hr.units) (pv 2) (pe_lst pa_nil) (nomark _)) (pss_one (ps_set (i := 2) sc_law_rounds.nd (by rfl) (by first | exact Or.inl rfl | exact Or.inr rfl) (pe_lst (pa_cons pe_int pa_nil)))) pss_nil) (pss_one (ps_ret (pe_lc (own := [("cell", 3)]) (by rfl) sc_law_rounds.nd (Pu.pi_listK (K := K) (pv 2)) (blkOk_by (N := ["script", "most_now", "cells", "cell"]) (sc := defScope s_law_rounds) (by decide +kernel)) (fun _ _ _ _ _ => (pg_name (i := 3) sc_law_rounds.nd (by rfl) (by first | exact Or.inl rfl | exact Or.inr rfl))) (fun _ _ _ _ _ => pts_nil) (fun _ _ _ _ _ => (pcall (ok_law_dice T) hr (by decide) (T.glo 2) passL (pa_cons (pv 3) pa_nil)))))))), ?_⟩
  intro vs Q h
  refine run_N (Γe := []) (cs := [(dScr K), dInt]) (n := 2) (T := ?T) rfl ?h ?f vs H Q h
  case h => exact (Pu.st_seq (Pu.st_set (p := false) (.s (.s (.z))) (Pu.freeze (c := dInt) (Pu.en_slScr (Pu.ev_var .z) Pu.eo_no (Pu.eo_some (Pu.ev_var (.s (.z))))))) (Pu.st_seq (Pu.st_if (p := false) (Pu.et_test (Pu.ev_op (Pu.o_eq (dqLst dqInt) (by decide)) (Pu.ev_var (.s (.s (.z)))) (Pu.freeze Pu.en_nil))) (Pu.st_set (p := false) (.s (.s (.z))) (Pu.freeze (c := dInt) (Pu.en_lst (c := dInt) 1 (by decide) (Pu.ea_cons (Pu.ev_c (c := dInt) (x := 0) fun _ => rfl) Pu.ea_nil)))) Pu.st_next) (Pu.st_retNew (p := false) (Pu.en_lc1 (vs := [3]) (Γ1 := [.da (dScr K), .da dInt, .da (dLst dInt), .da dInt]) (by rfl) (by decide) (Bk.drop Bk.id (.s (.s (.s (.z))))) (Pu.ei_list (Pu.ev_var (.s (.s (.z))))) (Pu.tg_name (.s (.s (.s (.z))))) (Pu.ev_callN (Pu.ea_cons (Pu.ev_var (.s (.s (.s (.z))))) Pu.ea_nil))))))
  case f => intros; kernel_rfl
theorem ok_law_roll (T : Tx fa fn K mg) : OkF P w K mg base 1 (He.ga K "_law_roll") ["dice", "many"] (spM (xcK K) (mLst dInt) [dInt] dInt (fun y x => m_law_roll y x.1)) := by
  refine okF (T.c.def_ 3 (d := d_3) rfl) sc_law_roll (lenM rfl) (fun _ _ _ _ _ _ us hl => match us, hl with | [_, _], _ => rfl) ?_
  intro cdv A outer s H E hr
  refine ⟨_, (pss_cons (ps_if (PW.pt (pw_or (pt_cmpR (Pu.op_eqDK (K := K) hr.units) (pe_ix (Pu.ix_listK (K := K)) (pv 0) pe_int (fun _ _ => rfl)) pe_int (nomark _)) (pw_or1 (PW.pt (pw_and (pt_cmpR (Pu.op_eqDK (K := K) hr.units) (pe_ix (Pu.ix_listK (K := K)) (pv 0) pe_int (fun _ _ => rfl)) pe_int (nomark _)) (pw_and1 (pt_cmpR op_gt (pe_ix (Pu.ix_listK (K := K)) (pv 0) pe_int (fun _ _ => rfl)) pe_int (nomark _)))))))) (pss_cons (ps_set (i := 2) sc_law_roll.nd (by rfl) (by first | exact Or.inl rfl | exact Or.inr rfl) (pe_op op_mod (pe_callTy call_int1 (by rfl) (T.free 1) (by decide +kernel) (pa_cons (pe_ix (Pu.ix_listK (K := K)) (pv 0) pe_int (fun _ _ => rfl)) pa_nil)) (pv 1))) (pss_cons (ps_asg (pe_op op_fdiv (pe_ix (Pu.ix_listK (K := K)) (pv 0) pe_int (fun _ _ => rfl)) (pv 1)) (pg_sub (pv 0) pe_int set_list)) (pss_one (ps_ret (pv 2))))) pss_nil) (pss_cons (ps_asg pe_int (pg_sub (pv 0) pe_int set_list)) (pss_cons (ps_asg (pe_op op_mod (pe_callTy call_int1 (by rfl) (T.free 1) (by decide +kernel) (pa_cons (pe_op op_add (pe_op op_add (pe_op op_mul (pe_ix (Pu.ix_listK (K := K)) (pv 0) pe_int (fun _ _ => rfl)) pe_int) (pe_op op_mul (pe_ix (Pu.ix_listK (K := K)) (pv 0) pe_int (fun _ _ => rfl)) pe_int)) pe_int) pa_nil)) pe_int) (pg_sub (pv 0) pe_int set_list)) (pss_cons (ps_asg (pe_op op_add (pe_ix (Pu.ix_listK (K := K)) (pv 0) pe_int (fun _ _ => rfl)) pe_int) (pg_sub (pv 0) pe_int set_list)) (pss_one (ps_ret (pe_op op_mod (pe_callTy call_int1 (by rfl) (T.free 1) (by decide +kernel) (pa_cons (pe_op op_add (pe_op op_fdiv (pe_ix (Pu.ix_listK (K := K)) (pv 0) pe_int (fun _ _ => rfl)) pe_int) (pe_ix (Pu.ix_listK (K := K)) (pv 0) pe_int (fun _ _ => rfl))) pa_nil)) (pv 1)))))))), ?_⟩
  intro vs Q h
  refine run_M (Γe := []) (cs := [dInt]) (n := 1) (T := ?T) rfl ?h ?f vs H Q h
  case h => exact (Pu.st_seq (Pu.st_if (p := false) (Pu.et_or (Pu.et_test (Pu.ev_op (Pu.o_eq dqInt (by decide)) (Pu.ev_ixM .z (Pu.ev_c (c := dInt) (x := 2) fun _ => rfl)) (Pu.ev_c (c := dInt) (x := 2) fun _ => rfl))) (Pu.et_and (Pu.et_test (Pu.ev_op (Pu.o_eq dqInt (by decide)) (Pu.ev_ixM .z (Pu.ev_c (c := dInt) (x := 2) fun _ => rfl)) (Pu.ev_c (c := dInt) (x := 1) fun _ => rfl))) (Pu.et_test (Pu.ev_op Pu.o_cmp (Pu.ev_ixM .z (Pu.ev_c (c := dInt) (x := 0) fun _ => rfl)) (Pu.ev_c (c := dInt) (x := 0) fun _ => rfl))))) (Pu.st_seq (Pu.st_set (p := false) (.s (.s (.z))) (Pu.ev_opP Pu.o_mod (Pu.ev_b1 Pu.o_intI (Pu.ev_ixM .z (Pu.ev_c (c := dInt) (x := 0) fun _ => rfl))) (Pu.ev_var (.s (.z))))) (Pu.st_seq (Pu.st_setIx (p := false) (by decide) .z (Pu.ev_opP Pu.o_fdiv (Pu.ev_ixM .z (Pu.ev_c (c := dInt) (x := 0) fun _ => rfl)) (Pu.ev_var (.s (.z)))) (Pu.ev_c (c := dInt) (x := 0) fun _ => rfl)) (Pu.st_ret (p := false) (prM .z) (Pu.ev_var (.s (.s (.z))))))) Pu.st_next) (Pu.st_seq (Pu.st_setIx (p := false) (by decide) .z (Pu.ev_c (c := dInt) (x := 0) fun _ => rfl) (Pu.ev_c (c := dInt) (x := 2) fun _ => rfl)) (Pu.st_seq (Pu.st_setIx (p := false) (by decide) .z (Pu.ev_opP Pu.o_mod (Pu.ev_b1 Pu.o_intI (Pu.ev_op Pu.o_int (Pu.ev_op Pu.o_int (Pu.ev_opP Pu.o_mul (Pu.ev_ixM .z (Pu.ev_c (c := dInt) (x := 0) fun _ => rfl)) (Pu.ev_c (c := dInt) (x := 48271) fun _ => rfl)) (Pu.ev_opP Pu.o_mul (Pu.ev_ixM .z (Pu.ev_c (c := dInt) (x := 1) fun _ => rfl)) (Pu.ev_c (c := dInt) (x := 69621) fun _ => rfl))) (Pu.ev_c (c := dInt) (x := 11) fun _ => rfl))) (Pu.ev_c (c := dInt) (x := 2147483647) fun _ => rfl)) (Pu.ev_c (c := dInt) (x := 0) fun _ => rfl)) (Pu.st_seq (Pu.st_setIx (p := false) (by decide) .z (Pu.ev_op Pu.o_int (Pu.ev_ixM .z (Pu.ev_c (c := dInt) (x := 1) fun _ => rfl)) (Pu.ev_c (c := dInt) (x := 1) fun _ => rfl)) (Pu.ev_c (c := dInt) (x := 1) fun _ => rfl)) (Pu.st_ret (p := false) (prM .z) (Pu.ev_opP Pu.o_mod (Pu.ev_b1 Pu.o_intI (Pu.ev_op Pu.o_int (Pu.ev_opP Pu.o_fdiv (Pu.ev_ixM .z (Pu.ev_c (c := dInt) (x := 0) fun _ => rfl)) (Pu.ev_c (c := dInt) (x := 7) fun _ => rfl)) (Pu.ev_ixM .z (Pu.ev_c (c := dInt) (x := 0) fun _ => rfl)))) (Pu.ev_var (.s (.z)))))))))
  case f => intros; kernel_rfl
theorem ok_law_place (T : Tx fa fn K mg) : OkF P w K mg base 1 (He.ga K "_law_place") ["order", "one"] (spD (xcK K) [(dTuN dInt), (dOpt dInt)] dInt (fun x => m_law_place x.1 x.2.1)) := by
  refine okF (T.c.def_ 4 (d := d_4) rfl) sc_law_place (lenD rfl) (fun _ _ _ _ _ _ us hl => match us, hl with | [_, _], _ => rfl) ?_
  intro cdv A outer s H E hr
  refine ⟨_, (pss_one (ps_ret (pe_ifExp (pt_cmpR (Pu.op_in_seqK (K := K)) (pv 1) (pv 0) rfl) (pe_bmT PySem.F.slot_tuple_index PySem.F.type_tuple_index (Pu.mt_indexTK (K := K)) (pv 0) (pa_cons (pv 1) pa_nil)) (pe_callB (Pu.call_lenK (K := K)) (by rfl) (T.free 3) PySem.boot_len (pa_cons (pv 0) pa_nil))))), ?_⟩
  intro vs Q h
  refine run_D (Γe := []) (cs := [(dTuN dInt), (dOpt dInt)]) (n := 0) (T := ?T) rfl ?h ?f vs H Q h
  case h => exact (Pu.st_ret (p := false) prD (Pu.ev_if (Pu.et_test (Pu.ev_op (Pu.o_inT flOI false) (Pu.ev_var (.s (.z))) (Pu.ev_sb Pu.sb_someT (Pu.ev_sb (Pu.sb_tun (c := dInt)) (Pu.ev_var .z))))) (Pu.ev_indexT flInt (Pu.ev_var .z) (Pu.ev_asP (a := dOpt dInt) (b := dInt) (fun x => x) Pu.o_someI (Pu.ev_var (.s (.z))))) (Pu.ev_b1 Pu.o_lenT (Pu.ev_sb (Pu.sb_tun (c := dInt)) (Pu.ev_var .z)))))
  case f => intros; kernel_rfl
theorem ok_law_drawn (T : Tx fa fn K mg) : OkF P w K mg base 2 (He.ga K "_law_drawn") ["dice", "ones"] (spM (xcK K) (mLst dInt) [(dLst dInt)] (dTuN dInt) (fun y x => m_law_drawn y x.1)) := by
  refine okF (T.c.def_ 5 (d := d_5) rfl) sc_law_drawn (lenM rfl) (fun _ _ _ _ _ _ us hl => match us, hl with | [_, _], _ => rfl) ?_
  intro cdv A outer s H E hr
  refine ⟨_, (pss_cons (ps_par (i := 2) (j := 3) rfl sc_law_drawn.nd rfl rfl (by decide) rfl rfl (pa_cons (pe_callTy (Pu.call_list_ofK (K := K)) (by rfl) (T.free 4) (by decide +kernel) (pa_cons (pv 1) pa_nil)) (pa_cons (pe_lst pa_nil) pa_nil)) (by rfl)) (pss_cons (ps_while poB (pt_cmpR (Pu.op_neDK (K := K) hr.units) (pv 2) (pe_lst pa_nil) (nomark _)) (pss_cons (ps_set (i := 4) sc_law_drawn.nd (by rfl) (by first | exact Or.inl rfl | exact Or.inr rfl) (pe_ix (Pu.ix_listK (K := K)) (pv 2) (pcall (ok_law_roll T) hr (by decide) (T.glo 5) pxB (pa_cons (pv 0) (pa_cons (pe_callB (Pu.call_lenK (K := K)) (by rfl) (T.free 3) PySem.boot_len (pa_cons (pv 2) pa_nil)) pa_nil))) (fun _ _ => rfl))) (pss_cons (ps_expr (Pu.pe_bmK (K := K) PySem.F.plainAttrs_list PySem.F.slot_list_remove PySem.F.type_list_remove mt_remove (pv 2) (pa_cons (pv 4) pa_nil))) (pss_one (ps_set (i := 3) sc_law_drawn.nd (by rfl) (by first | exact Or.inl rfl | exact Or.inr rfl) (pe_op op_cat (pv 3) (pe_ifExp (pt_cmpR op_gt (pcall (ok_law_roll T) hr (by decide) (T.glo 5) pxB (pa_cons (pv 0) (pa_cons pe_int pa_nil))) pe_int (nomark _)) (pe_lst (pa_cons (pv 4) pa_nil)) (pe_lst pa_nil)))))))) (pss_one (ps_ret (Pu.pe_tupleNK (K := K) (by rfl) (T.free 6) (pv 3)))))), ?_⟩
  intro vs Q h
  refine run_M (Γe := []) (cs := [(dLst dInt)]) (n := 3) (T := ?T) rfl ?h ?f vs H Q h
  case h => exact (Pu.st_seq (Pu.st_parND (p := false) (.s (.s (.z))) (.s (.s (.s (.z)))) (Pu.en_listS rfl (Pu.ev_sb (Pu.sb_lstS (c := dInt)) (Pu.ev_var (.s (.z))))) (Pu.freeze (c := dInt) Pu.en_nil)) (Pu.st_seq (Pu.st_while (p := false) 100000 (Pu.et_frz (Γ' := [.da (dLst dInt), .da (dLst dInt), .da (dLst dInt), .da (dLst dInt), .no]) (.m Pu.fzL (.da (.m Pu.fzL (.da (.no .nil))))) (Pu.et_test (Pu.ev_op (Pu.o_ne (dqLst dqInt) (by decide)) (Pu.ev_var (.s (.s (.z)))) (Pu.freeze Pu.en_nil)))) (Pu.st_post (Bk.drop Bk.id (.s (.s (.s (.s (.z)))))) (Pu.st_seq (Pu.st_set (p := false) (.s (.s (.s (.s (.z))))) (Pu.ev_ixM (.s (.s (.z))) (Pu.ev_callM (k := .pa) (by decide) .z (Pu.ea_cons (Pu.ev_lenM (.s (.s (.z)))) Pu.ea_nil)))) (Pu.st_seq (Pu.st_rem (p := false) (by decide) (.s (.s (.z))) (Pu.ev_var (.s (.s (.s (.s (.z))))))) (Pu.st_set (p := false) (.s (.s (.s (.z)))) (Pu.freeze (c := dInt) (Pu.en_cat (Pu.ev_var (.s (.s (.s (.z))))) (Pu.ev_if (Pu.et_test (Pu.ev_op Pu.o_cmp (Pu.ev_callM (k := .pa) (by decide) .z (Pu.ea_cons (Pu.ev_c (c := dInt) (x := 4) fun _ => rfl) Pu.ea_nil)) (Pu.ev_c (c := dInt) (x := 0) fun _ => rfl))) (Pu.freeze (c := dInt) (Pu.en_lst (c := dInt) 1 (by decide) (Pu.ea_cons (Pu.ev_var (.s (.s (.s (.s (.z)))))) Pu.ea_nil))) (Pu.freeze (c := dInt) Pu.en_nil))))))))) (Pu.st_ret (p := false) (prM .z) (Pu.ev_1 Pu.o_tupNL (Pu.ev_var (.s (.s (.s (.z)))))))))
  case f => intros; kernel_rfl
theorem ok_Wish_init (T : Tx fa fn K mg) : OkF P w K mg base 1 (He.ma K (He.ga K "Wish") "__init__") ["self", "order"] (spI (xcK K) (He.ga K "Wish") nm_Wish ((fs_Wish K).map Sl.da) [(dTup dInt)] (fun x => m_Wish_init x.1)) := by
  refine okF (T.c.def_ 6 (d := d_6) rfl) sc_Wish_init (lenI rfl) (fun _ _ _ _ _ _ us hl => match us, hl with | [_, _], _ => rfl) ?_
  intro cdv A outer s H E hr
  refine ⟨_, (pss_cons (Pu.ps_fldK (K := K) (pv 0) (Pu.pe_tupleNK (K := K) (by rfl) (T.free 6) (pv 1)) rfl) (pss_one (Pu.ps_fldK (K := K) (pv 0) (pe_dc (own := [("place", 2), ("one", 3)]) (by rfl) sc_Wish_init.nd (Pu.pi_enumTK (K := K) (by rfl) (T.free 9) (pa_cons (Pu.pe_fldK (K := K) (pv 0) (by rfl)) pa_nil)) (blkOk_by (N := ["self", "order", "place", "one"]) (sc := defScope s_Wish_init) (by decide +kernel)) (fun _ _ _ _ _ => (Pu.pg_tupK (K := K) (n := 2) (by rfl) (pgs_cons (pg_name (i := 2) sc_Wish_init.nd (by rfl) (by first | exact Or.inl rfl | exact Or.inr rfl)) (pgs_cons (pg_name (i := 3) sc_Wish_init.nd (by rfl) (by first | exact Or.inl rfl | exact Or.inr rfl)) pgs_nil)))) (fun _ _ _ _ _ => pts_nil) (fun _ _ _ _ _ => (pv 3)) (fun _ _ _ _ _ => (pv 2))) rfl))), ?_⟩
  intro vs Q h
  refine run_I (Γe := [.m .pa (mObj (He.ga K "Wish") nm_Wish ((fs_Wish K).map Sl.da)), .da (dTup dInt), .no, .no]) (cs := [(dTup dInt)]) (n := 2) (T := ?T) rfl .z ?h ?f vs H Q h
  case h => exact (Pu.st_seq (Pu.st_fldD (p := false) (k := .pa) (names := []) (Γf := []) (f := "order") (by decide) .z (T.cls 7) (T.noat 8) (by decide +kernel) (by decide) (Pu.ev_1 Pu.o_tupNT (Pu.ev_var (.s (.z))))) (Pu.st_fldD (p := false) (k := .pa) (names := ["order"]) (Γf := [.da (dTup dInt)]) (f := "ranks") (by decide) .z (T.cls 7) (T.noat 10) (by decide +kernel) (by decide) (Pu.en_dc (q := false) (vs := [2, 3]) (Γ1 := [.m .pa (mObj (He.ga K "Wish") ["order"] [.da (dTup dInt)]), .da (dTup dInt), .da dInt, .da dInt]) (by rfl) (by decide) (Bk.drop (Bk.drop Bk.id (.s (.s (.z)))) (.s (.s (.s (.z))))) (Pu.ei_enumT (Pu.ea_cons (Pu.ev_fldM .z .z rfl (T.cls 7) (T.noat 8)) Pu.ea_nil)) (Pu.tg_p2 (Pu.tg_name (.s (.s (.z)))) (Pu.tg_name (.s (.s (.s (.z)))))) (Pu.ev_var (.s (.s (.s (.z))))) (Pu.ev_var (.s (.s (.z)))))))
  case f => intros; kernel_rfl
theorem ok_Wish_best_of (T : Tx fa fn K mg) : OkF P w K mg base 1 (He.ma K (He.ga K "Wish") "best_of") ["self", "ones", "many"] (spD (xcK K) [(dI_Wish K), (dLst dInt), dInt] (dTup dInt) (fun x => m_Wish_best_of x.1 x.2.1 x.2.2.1)) := by
  refine okF (T.c.def_ 7 (d := d_7) rfl) sc_Wish_best_of (lenD rfl) (fun _ _ _ _ _ _ us hl => match us, hl with | [_, _, _], _ => rfl) ?_
  intro cdv A outer s H E hr
  refine ⟨_, (pss_one (ps_ret (Pu.pe_tupleNK (K := K) (by rfl) (T.free 6) (pe_slice (Pu.sl_listK (K := K)) (pe_lc (own := [("listed", 3)]) (by rfl) sc_Wish_best_of.nd (Pu.pi_tupK (K := K) (Pu.pe_fldK (K := K) (pv 0) (by rfl))) (blkOk_by (N := ["self", "ones", "many", "listed"]) (sc := defScope s_Wish_best_of) (by decide +kernel)) (fun _ _ _ _ _ => (pg_name (i := 3) sc_Wish_best_of.nd (by rfl) (by first | exact Or.inl rfl | exact Or.inr rfl))) (fun _ _ _ _ _ => pts_one (pt_cmpR (Pu.op_in_seqK (K := K)) (pv 3) (pv 1) rfl)) (fun _ _ _ _ _ => (pv 3))) po_none (po_some (pv 2)))))), ?_⟩
  intro vs Q h
  refine run_D (Γe := []) (cs := [(dI_Wish K), (dLst dInt), dInt]) (n := 1) (T := ?T) rfl ?h ?f vs H Q h
  case h => exact (Pu.st_ret (p := false) prD (Pu.ev_sb (Pu.sb_tun (c := dInt)) (Pu.ev_1 Pu.o_tupNL (Pu.freeze (c := dInt) (Pu.en_slL (Pu.freeze (c := dInt) (Pu.en_lc (q := false) (vs := [3]) (Γ0 := [.da (dI_Wish K), .da (dLst dInt), .da dInt, .no]) (Γ1 := [.da (dI_Wish K), .da (dLst dInt), .da dInt, .da dInt]) Hd.id (by rfl) (by decide) (Bk.drop Bk.id (.s (.s (.s (.z))))) (Pu.ei_tup (Pu.ev_fld (names := nm_Wish) (fs := fs_Wish K) (T.cls 7) (T.noat 8) .z (Pu.ev_var .z))) (Pu.tg_name (.s (.s (.s (.z))))) (Pu.et_test (Pu.ev_op (Pu.o_inL flInt false) (Pu.ev_var (.s (.s (.s (.z))))) (Pu.ev_var (.s (.z))))) (Pu.ev_var (.s (.s (.s (.z))))))) Pu.eo_no (Pu.eo_some (Pu.ev_var (.s (.s (.z))))))))))
  case f => intros; kernel_rfl
theorem ok_Deals_check (T : Tx fa fn K mg) : OkF P w K mg base 1 (He.ma K (He.ga K "Deals") "check") ["self", "wish", "place", "who"] (spD (xcK K) [(dI_Deals K), (dI_Wish K), dInt, dInt] dNon (fun x => m_Deals_check x.1 x.2.1 x.2.2.1 x.2.2.2.1)) := by
  refine okF (T.c.def_ 8 (d := d_8) rfl) sc_Deals_check (lenD rfl) (fun _ _ _ _ _ _ us hl => match us, hl with | [_, _, _, _], _ => rfl) ?_
  intro cdv A outer s H E hr
  refine ⟨_, (pss_cons (ps_if (pt_cmpR (Pu.op_neDK (K := K) hr.units) (pe_callB call_lenD (by rfl) (T.free 3) PySem.boot_len (pa_cons (Pu.pe_fldK (K := K) (pv 1) (by rfl)) pa_nil)) (pe_callB (Pu.call_lenK (K := K)) (by rfl) (T.free 3) PySem.boot_len (pa_cons (Pu.pe_fldK (K := K) (pv 1) (by rfl)) pa_nil)) (nomark _)) (pss_one (ps_raise rfl (takes_of rfl rfl rfl rfl) (let X := He.exc_ok (T.c.fact 11 (f := .exc "BadWish") rfl); pmk_own PySem.F.excBase_ValueError X.1 (T.glo 12) X.2.1 (raises_own X.2.2.1 X.2.2.2) rfl))) pss_nil) (pss_one (ps_if (pt_val (pe_callB (Pu.cr_anyK (K := K) (by rfl)) (by rfl) (T.free 15) (by decide +kernel) (pa_cons (pe_lc (own := [("one", 4)]) (by rfl) sc_Deals_check.nd (Pu.pi_tupK (K := K) (Pu.pe_fldK (K := K) (pv 1) (by rfl))) (blkOk_by (N := ["self", "wish", "place", "who", "one"]) (sc := defScope s_Deals_check) (by decide +kernel)) (fun _ _ _ _ _ => (pg_name (i := 4) sc_Deals_check.nd (by rfl) (by first | exact Or.inl rfl | exact Or.inr rfl))) (fun _ _ _ _ _ => pts_nil) (fun _ _ _ _ _ => (pe_or (pe_not (pe_chain op_le op_lt pe_int (pv 4) (pe_callB (Pu.call_lenK (K := K)) (by rfl) (T.free 3) PySem.boot_len (pa_cons (Pu.pe_fldK (K := K) (pv 0) (by rfl)) pa_nil)))) (pe_one (pe_cmpR (Pu.op_neDK (K := K) hr.units) (pe_ix (Pu.ix_tupK (K := K)) (pe_ix (Pu.ix_tupK (K := K)) (Pu.pe_fldK (K := K) (pv 0) (by rfl)) (pv 4) (fun _ _ => rfl)) (pv 2) (fun _ _ => rfl)) (pv 3) (nomark _)))))) pa_nil))) (pss_one (ps_raise rfl (takes_of rfl rfl rfl rfl) (let X := He.exc_ok (T.c.fact 11 (f := .exc "BadWish") rfl); pmk_own PySem.F.excBase_ValueError X.1 (T.glo 12) X.2.1 (raises_own X.2.2.1 X.2.2.2) rfl))) pss_nil))), ?_⟩
  intro vs Q h
  refine run_DN (Γe := [.da (dI_Deals K), .da (dI_Wish K), .da dInt, .da dInt, .no]) (cs := [(dI_Deals K), (dI_Wish K), dInt, dInt]) (n := 1) (T := ?T) rfl ?h ?f vs H Q h
  case h => exact (Pu.st_seq (Pu.st_if (p := false) (Pu.et_test (Pu.ev_op (Pu.o_ne dqInt (by decide)) (Pu.ev_b1 Pu.o_lenD (Pu.ev_fld (names := nm_Wish) (fs := fs_Wish K) (T.cls 7) (T.noat 10) (.s (by decide +kernel) (.z)) (Pu.ev_var (.s (.z))))) (Pu.ev_b1 Pu.o_lenT (Pu.ev_fld (names := nm_Wish) (fs := fs_Wish K) (T.cls 7) (T.noat 8) .z (Pu.ev_var (.s (.z))))))) (Pu.st_raise (n := "BadWish")) Pu.st_next) (Pu.st_if (p := false) (Pu.et_B (Pu.ev_b1 Pu.o_any (Pu.freeze (c := dBl) (Pu.en_lc (q := false) (vs := [4]) (Γ0 := [.da (dI_Deals K), .da (dI_Wish K), .da dInt, .da dInt, .no]) (Γ1 := [.da (dI_Deals K), .da (dI_Wish K), .da dInt, .da dInt, .da dInt]) Hd.id (by rfl) (by decide) (Bk.drop Bk.id (.s (.s (.s (.s (.z)))))) (Pu.ei_tup (Pu.ev_fld (names := nm_Wish) (fs := fs_Wish K) (T.cls 7) (T.noat 8) .z (Pu.ev_var (.s (.z))))) (Pu.tg_name (.s (.s (.s (.s (.z)))))) Pu.pts_et (Pu.ev_or (Pu.ev_not (Pu.ev_chain Pu.o_cmp Pu.o_cmp (Pu.ev_c (c := dInt) (x := 0) fun _ => rfl) (Pu.ev_var (.s (.s (.s (.s (.z)))))) (Pu.ev_b1 Pu.o_lenT (Pu.ev_fld (names := nm_Deals) (fs := fs_Deals K) (T.cls 13) (T.noat 14) .z (Pu.ev_var .z))))) (Pu.ev_op (Pu.o_ne dqInt (by decide)) (Pu.ev_opP Pu.o_ixT (Pu.ev_sb (PuU.sb_p3tup (c := dInt)) (Pu.ev_opP Pu.o_ixT (Pu.ev_fld (names := nm_Deals) (fs := fs_Deals K) (T.cls 13) (T.noat 14) .z (Pu.ev_var .z)) (Pu.ev_var (.s (.s (.s (.s (.z)))))))) (Pu.ev_var (.s (.s (.z))))) (Pu.ev_var (.s (.s (.s (.z))))))))))) (Pu.st_raise (n := "BadWish")) Pu.st_next))
  case f => intros; kernel_rfl
theorem ok_Deals_init (T : Tx fa fn K mg) : OkF P w K mg base 3 (He.ma K (He.ga K "Deals") "__init__") ["self", "contracts", "lists", "orders", "seats"] (spI (xcK K) (He.ga K "Deals") nm_Deals ((fs_Deals K).map Sl.da) [(dLst (dP3 dInt dInt dInt)), (dLst (dTup dInt)), (dLst (dTup dInt)), (dLst dInt)] (fun x => m_Deals_init x.1 x.2.1 x.2.2.1 x.2.2.2.1)) := by
  refine okF (T.c.def_ 9 (d := d_9) rfl) sc_Deals_init (lenI rfl) (fun _ _ _ _ _ _ us hl => match us, hl with | [_, _, _, _, _], _ => rfl) ?_
  intro cdv A outer s H E hr
  refine ⟨_, (pss_cons (Pu.ps_fldK (K := K) (pv 0) (Pu.pe_tupleNK (K := K) (by rfl) (T.free 6) (pe_lc (own := [("asker", 5), ("room", 6), ("term", 7)]) (by rfl) sc_Deals_init.nd (Pu.pi_listK (K := K) (pv 1)) (blkOk_by (N := ["self", "contracts", "lists", "orders", "seats", "asker", "room", "term", "order", "place", "wishes", "who", "wish"]) (sc := defScope s_Deals_init) (by decide +kernel)) (fun _ _ _ _ _ => (Pu.pg_tupK (K := K) (n := 3) (by rfl) (pgs_cons (pg_name (i := 5) sc_Deals_init.nd (by rfl) (by first | exact Or.inl rfl | exact Or.inr rfl)) (pgs_cons (pg_name (i := 6) sc_Deals_init.nd (by rfl) (by first | exact Or.inl rfl | exact Or.inr rfl)) (pgs_cons (pg_name (i := 7) sc_Deals_init.nd (by rfl) (by first | exact Or.inl rfl | exact Or.inr rfl)) pgs_nil))))) (fun _ _ _ _ _ => pts_nil) (fun _ _ _ _ _ => (pe_tup (pa_cons (pv 5) (pa_cons (pv 6) (pa_cons (pv 7) pa_nil))))))) rfl) (pss_cons (Pu.ps_fldK (K := K) (pv 0) (Pu.pe_tupleNK (K := K) (by rfl) (T.free 6) (pe_lc (own := [("order", 8)]) (by rfl) sc_Deals_init.nd (Pu.pi_listK (K := K) (pv 2)) (blkOk_by (N := ["self", "contracts", "lists", "orders", "seats", "asker", "room", "term", "order", "place", "wishes", "who", "wish"]) (sc := defScope s_Deals_init) (by decide +kernel)) (fun _ _ _ _ _ => (pg_name (i := 8) sc_Deals_init.nd (by rfl) (by first | exact Or.inl rfl | exact Or.inr rfl))) (fun _ _ _ _ _ => pts_nil) (fun _ _ _ _ _ => (pmake (ok_Wish_init T) hr (by decide) (T.mkr 16) (T.glo 17) passL (pa_cons (pv 8) pa_nil))))) rfl) (pss_cons (Pu.ps_fldK (K := K) (pv 0) (Pu.pe_tupleNK (K := K) (by rfl) (T.free 6) (pe_lc (own := [("order", 8)]) (by rfl) sc_Deals_init.nd (Pu.pi_listK (K := K) (pv 3)) (blkOk_by (N := ["self", "contracts", "lists", "orders", "seats", "asker", "room", "term", "order", "place", "wishes", "who", "wish"]) (sc := defScope s_Deals_init) (by decide +kernel)) (fun _ _ _ _ _ => (pg_name (i := 8) sc_Deals_init.nd (by rfl) (by first | exact Or.inl rfl | exact Or.inr rfl))) (fun _ _ _ _ _ => pts_nil) (fun _ _ _ _ _ => (pmake (ok_Wish_init T) hr (by decide) (T.mkr 16) (T.glo 17) passL (pa_cons (pv 8) pa_nil))))) rfl) (pss_cons (Pu.ps_fldK (K := K) (pv 0) (Pu.pe_tupleNK (K := K) (by rfl) (T.free 6) (pv 4)) rfl) (pss_one (ps_for poB (by rfl) (Pu.pi_enumTK (K := K) (by rfl) (T.free 9) (pa_cons (pe_tup (pa_cons (Pu.pe_fldK (K := K) (pv 0) (by rfl)) (pa_cons (Pu.pe_fldK (K := K) (pv 0) (by rfl)) pa_nil))) pa_nil)) (Pu.pg_tupK (K := K) (n := 2) (by rfl) (pgs_cons (pg_name (i := 9) sc_Deals_init.nd (by rfl) (by first | exact Or.inl rfl | exact Or.inr rfl)) (pgs_cons (pg_name (i := 10) sc_Deals_init.nd (by rfl) (by first | exact Or.inl rfl | exact Or.inr rfl)) pgs_nil))) (pss_one (ps_for poB (by rfl) (Pu.pi_enumTK (K := K) (by rfl) (T.free 9) (pa_cons (pv 10) pa_nil)) (Pu.pg_tupK (K := K) (n := 2) (by rfl) (pgs_cons (pg_name (i := 11) sc_Deals_init.nd (by rfl) (by first | exact Or.inl rfl | exact Or.inr rfl)) (pgs_cons (pg_name (i := 12) sc_Deals_init.nd (by rfl) (by first | exact Or.inl rfl | exact Or.inr rfl)) pgs_nil))) (pss_one (ps_expr (pmeth (ok_Deals_check T) hr (by decide) (T.cls 13) (T.meth 21) pxB (pv 0) (pa_cons (pv 12) (pa_cons (pv 9) (pa_cons (pv 11) pa_nil)))))))))))))), ?_⟩
  intro vs Q h
  refine run_I (Γe := [.m .pa (mObj (He.ga K "Deals") nm_Deals ((fs_Deals K).map Sl.da)), .da (dLst (dP3 dInt dInt dInt)), .da (dLst (dTup dInt)), .da (dLst (dTup dInt)), .da (dLst dInt), .no, .no, .no, .no, .no, .no, .no, .no]) (cs := [(dLst (dP3 dInt dInt dInt)), (dLst (dTup dInt)), (dLst (dTup dInt)), (dLst dInt)]) (n := 8) (T := ?T) rfl .z ?h ?f vs H Q h
  case h => exact (Pu.st_seq (Pu.st_fldD (p := false) (k := .pa) (names := []) (Γf := []) (f := "contracts") (by decide) .z (T.cls 13) (T.noat 14) (by decide +kernel) (by decide) (Pu.ev_sb (Pu.sb_tun (c := (dP3 dInt dInt dInt))) (Pu.ev_1 Pu.o_tupNL (Pu.freeze (c := (dP3 dInt dInt dInt)) (Pu.en_lc (q := false) (vs := [5, 6, 7]) (Γ0 := [.m .pa (mObj (He.ga K "Deals") [] []), .da (dLst (dP3 dInt dInt dInt)), .da (dLst (dTup dInt)), .da (dLst (dTup dInt)), .da (dLst dInt), .no, .no, .no, .no, .no, .no, .no, .no]) (Γ1 := [.m .pa (mObj (He.ga K "Deals") [] []), .da (dLst (dP3 dInt dInt dInt)), .da (dLst (dTup dInt)), .da (dLst (dTup dInt)), .da (dLst dInt), .da dInt, .da dInt, .da dInt, .no, .no, .no, .no, .no]) Hd.id (by rfl) (by decide) (Bk.drop (Bk.drop (Bk.drop Bk.id (.s (.s (.s (.s (.s (.z))))))) (.s (.s (.s (.s (.s (.s (.z)))))))) (.s (.s (.s (.s (.s (.s (.s (.z))))))))) (Pu.ei_list (Pu.ev_var (.s (.z)))) (Pu.tg_p3 (Pu.tg_name (.s (.s (.s (.s (.s (.z))))))) (Pu.tg_name (.s (.s (.s (.s (.s (.s (.z)))))))) (Pu.tg_name (.s (.s (.s (.s (.s (.s (.s (.z)))))))))) Pu.pts_et (Pu.ev_p3 (Pu.ea_cons (Pu.ev_var (.s (.s (.s (.s (.s (.z))))))) (Pu.ea_cons (Pu.ev_var (.s (.s (.s (.s (.s (.s (.z)))))))) (Pu.ea_cons (Pu.ev_var (.s (.s (.s (.s (.s (.s (.s (.z))))))))) Pu.ea_nil))))))))) (Pu.st_seq (Pu.st_fldD (p := false) (k := .pa) (names := ["contracts"]) (Γf := [.da (dTup (dP3 dInt dInt dInt))]) (f := "lists") (by decide) .z (T.cls 13) (T.noat 18) (by decide +kernel) (by decide) (Pu.ev_sb (Pu.sb_tun (c := (dI_Wish K))) (Pu.ev_1 Pu.o_tupNL (Pu.freeze (c := (dI_Wish K)) (Pu.en_lc (q := false) (vs := [8]) (Γ0 := [.m .pa (mObj (He.ga K "Deals") ["contracts"] [.da (dTup (dP3 dInt dInt dInt))]), .da (dLst (dP3 dInt dInt dInt)), .da (dLst (dTup dInt)), .da (dLst (dTup dInt)), .da (dLst dInt), .no, .no, .no, .no, .no, .no, .no, .no]) (Γ1 := [.m .pa (mObj (He.ga K "Deals") ["contracts"] [.da (dTup (dP3 dInt dInt dInt))]), .da (dLst (dP3 dInt dInt dInt)), .da (dLst (dTup dInt)), .da (dLst (dTup dInt)), .da (dLst dInt), .no, .no, .no, .da (dTup dInt), .no, .no, .no, .no]) Hd.id (by rfl) (by decide) (Bk.drop Bk.id (.s (.s (.s (.s (.s (.s (.s (.s (.z)))))))))) (Pu.ei_list (Pu.ev_var (.s (.s (.z))))) (Pu.tg_name (.s (.s (.s (.s (.s (.s (.s (.s (.z)))))))))) Pu.pts_et (Pu.freezeO (fs := fs_Wish K) (Pu.en_make (Pu.ea_cons (Pu.ev_var (.s (.s (.s (.s (.s (.s (.s (.s (.z)))))))))) Pu.ea_nil)))))))) (Pu.st_seq (Pu.st_fldD (p := false) (k := .pa) (names := ["contracts", "lists"]) (Γf := [.da (dTup (dP3 dInt dInt dInt)), .da (dTup (dI_Wish K))]) (f := "orders") (by decide) .z (T.cls 13) (T.noat 19) (by decide +kernel) (by decide) (Pu.ev_sb (Pu.sb_tun (c := (dI_Wish K))) (Pu.ev_1 Pu.o_tupNL (Pu.freeze (c := (dI_Wish K)) (Pu.en_lc (q := false) (vs := [8]) (Γ0 := [.m .pa (mObj (He.ga K "Deals") ["contracts", "lists"] [.da (dTup (dP3 dInt dInt dInt)), .da (dTup (dI_Wish K))]), .da (dLst (dP3 dInt dInt dInt)), .da (dLst (dTup dInt)), .da (dLst (dTup dInt)), .da (dLst dInt), .no, .no, .no, .no, .no, .no, .no, .no]) (Γ1 := [.m .pa (mObj (He.ga K "Deals") ["contracts", "lists"] [.da (dTup (dP3 dInt dInt dInt)), .da (dTup (dI_Wish K))]), .da (dLst (dP3 dInt dInt dInt)), .da (dLst (dTup dInt)), .da (dLst (dTup dInt)), .da (dLst dInt), .no, .no, .no, .da (dTup dInt), .no, .no, .no, .no]) Hd.id (by rfl) (by decide) (Bk.drop Bk.id (.s (.s (.s (.s (.s (.s (.s (.s (.z)))))))))) (Pu.ei_list (Pu.ev_var (.s (.s (.s (.z)))))) (Pu.tg_name (.s (.s (.s (.s (.s (.s (.s (.s (.z)))))))))) Pu.pts_et (Pu.freezeO (fs := fs_Wish K) (Pu.en_make (Pu.ea_cons (Pu.ev_var (.s (.s (.s (.s (.s (.s (.s (.s (.z)))))))))) Pu.ea_nil)))))))) (Pu.st_seq (Pu.st_fldD (p := false) (k := .pa) (names := ["contracts", "lists", "orders"]) (Γf := [.da (dTup (dP3 dInt dInt dInt)), .da (dTup (dI_Wish K)), .da (dTup (dI_Wish K))]) (f := "seats") (by decide) .z (T.cls 13) (T.noat 20) (by decide +kernel) (by decide) (Pu.ev_sb (Pu.sb_tun (c := dInt)) (Pu.ev_1 Pu.o_tupNL (Pu.ev_var (.s (.s (.s (.s (.z))))))))) (Pu.st_for (p := false) (Γ' := [.m .pa (mObj (He.ga K "Deals") ["contracts", "lists", "orders", "seats"] [.da (dTup (dP3 dInt dInt dInt)), .da (dTup (dI_Wish K)), .da (dTup (dI_Wish K)), .da (dTup dInt)]), .da (dLst (dP3 dInt dInt dInt)), .da (dLst (dTup dInt)), .da (dLst (dTup dInt)), .da (dLst dInt), .no, .no, .no, .no, .da dInt, .da (dTup (dI_Wish K)), .no, .no]) (Pu.ei_enumT (Pu.ea_cons (Pu.ev_tup (c := (dTup (dI_Wish K))) 2 (by decide) (Pu.ea_cons (Pu.ev_fldM .z (.s (.z)) rfl (T.cls 13) (T.noat 18)) (Pu.ea_cons (Pu.ev_fldM .z (.s (.s (.z))) rfl (T.cls 13) (T.noat 19)) Pu.ea_nil))) Pu.ea_nil)) (Pu.tg_p2 (Pu.tg_name (.s (.s (.s (.s (.s (.s (.s (.s (.s (.z))))))))))) (Pu.tg_name (.s (.s (.s (.s (.s (.s (.s (.s (.s (.s (.z))))))))))))) (Pu.st_post (Bk.drop (Bk.drop Bk.id (.s (.s (.s (.s (.s (.s (.s (.s (.s (.s (.z)))))))))))) (.s (.s (.s (.s (.s (.s (.s (.s (.s (.z))))))))))) (Pu.st_for (p := false) (Γ' := [.m .pa (mObj (He.ga K "Deals") ["contracts", "lists", "orders", "seats"] [.da (dTup (dP3 dInt dInt dInt)), .da (dTup (dI_Wish K)), .da (dTup (dI_Wish K)), .da (dTup dInt)]), .da (dLst (dP3 dInt dInt dInt)), .da (dLst (dTup dInt)), .da (dLst (dTup dInt)), .da (dLst dInt), .no, .no, .no, .no, .da dInt, .da (dTup (dI_Wish K)), .da dInt, .da (dI_Wish K)]) (Pu.ei_enumT (Pu.ea_cons (Pu.ev_var (.s (.s (.s (.s (.s (.s (.s (.s (.s (.s (.z)))))))))))) Pu.ea_nil)) (Pu.tg_p2 (Pu.tg_name (.s (.s (.s (.s (.s (.s (.s (.s (.s (.s (.s (.z))))))))))))) (Pu.tg_name (.s (.s (.s (.s (.s (.s (.s (.s (.s (.s (.s (.s (.z))))))))))))))) (Pu.st_post (Bk.drop (Bk.drop Bk.id (.s (.s (.s (.s (.s (.s (.s (.s (.s (.s (.s (.s (.z)))))))))))))) (.s (.s (.s (.s (.s (.s (.s (.s (.s (.s (.s (.z))))))))))))) (Pu.st_expr (p := false) (Pu.ev_frz (Γ' := [.da (dI_Deals K), .da (dLst (dP3 dInt dInt dInt)), .da (dLst (dTup dInt)), .da (dLst (dTup dInt)), .da (dLst dInt), .no, .no, .no, .no, .da dInt, .da (dTup (dI_Wish K)), .da dInt, .da (dI_Wish K)]) (.m (Pu.fzO (fs := fs_Deals K) (.da (.da (.da (.da .nil))))) (.da (.da (.da (.da (.no (.no (.no (.no (.da (.da (.da (.da .nil))))))))))))) Pu.und_non (Pu.ev_meth (nm := "check") (names := nm_Deals) (by decide +kernel) (Pu.ev_var .z) (Pu.ea_cons (Pu.ev_var (.s (.s (.s (.s (.s (.s (.s (.s (.s (.s (.s (.s (.z)))))))))))))) (Pu.ea_cons (Pu.ev_var (.s (.s (.s (.s (.s (.s (.s (.s (.s (.z))))))))))) (Pu.ea_cons (Pu.ev_var (.s (.s (.s (.s (.s (.s (.s (.s (.s (.s (.s (.z))))))))))))) Pu.ea_nil))))))))))))))
  case f => intros; kernel_rfl
theorem ok_Deals_choose (T : Tx fa fn K mg) : OkF P w K mg base 2 (He.ma K (He.ga K "Deals") "choose") ["self", "room", "ones"] (spD (xcK K) [(dI_Deals K), dInt, (dLst dInt)] (dTup dInt) (fun x => m_Deals_choose x.1 x.2.1 x.2.2.1)) := by
  refine okF (T.c.def_ 10 (d := d_10) rfl) sc_Deals_choose (lenD rfl) (fun _ _ _ _ _ _ us hl => match us, hl with | [_, _, _], _ => rfl) ?_
  intro cdv A outer s H E hr
  refine ⟨_, (pss_cons (ps_set (i := 3) sc_Deals_choose.nd (by rfl) (by first | exact Or.inl rfl | exact Or.inr rfl) pe_dnewK) (pss_cons (ps_for poB (by rfl) (Pu.pi_tupK (K := K) (pmeth (ok_Wish_best_of T) hr (by decide) (T.cls 7) (T.meth 22) pxB (pe_ix (Pu.ix_tupK (K := K)) (Pu.pe_fldK (K := K) (pv 0) (by rfl)) (pv 1) (fun _ _ => rfl)) (pa_cons (pv 2) (pa_cons (pe_callB (Pu.call_lenK (K := K)) (by rfl) (T.free 3) PySem.boot_len (pa_cons (Pu.pe_fldK (K := K) (pv 0) (by rfl)) pa_nil)) pa_nil)))) (pg_name (i := 4) sc_Deals_choose.nd (by rfl) (by first | exact Or.inl rfl | exact Or.inr rfl)) (pss_one (ps_expr (pe_dsetd (pv 3) (pe_ix (Pu.ix_tupK (K := K)) (pe_ix (Pu.ix_tupK (K := K)) (Pu.pe_fldK (K := K) (pv 0) (by rfl)) (pv 4) (fun _ _ => rfl)) pe_int (fun _ _ => rfl)) (pv 4) ⟨by rfl, by rfl, by rfl, by rfl⟩)))) (pss_one (ps_ret (Pu.pe_tupleNK (K := K) (by rfl) (T.free 6) (pe_slice (Pu.sl_listK (K := K)) (PuU.pe_listVals (by rfl) (pv 3) (by rfl) (T.free 4) (by decide +kernel)) po_none (po_some (pe_ix (Pu.ix_tupK (K := K)) (Pu.pe_fldK (K := K) (pv 0) (by rfl)) (pv 1) (fun _ _ => rfl))))))))), ?_⟩
  intro vs Q h
  refine run_D (Γe := []) (cs := [(dI_Deals K), dInt, (dLst dInt)]) (n := 2) (T := ?T) rfl ?h ?f vs H Q h
  case h => exact (Pu.st_seq (Pu.st_setN (p := false) (.s (.s (.s (.z)))) (PuU.en_dnewI (c := dInt))) (Pu.st_seq (Pu.st_for (p := false) (Γ' := [.da (dI_Deals K), .da dInt, .da (dLst dInt), .m .lo (mDicI dInt), .da dInt]) (Pu.ei_tup (Pu.ev_meth (nm := "best_of") (names := nm_Wish) (by decide +kernel) (Pu.ev_opP Pu.o_ixT (Pu.ev_fld (names := nm_Deals) (fs := fs_Deals K) (T.cls 13) (T.noat 19) (.s (by decide +kernel) (.s (by decide +kernel) (.z))) (Pu.ev_var .z)) (Pu.ev_var (.s (.z)))) (Pu.ea_cons (Pu.ev_var (.s (.s (.z)))) (Pu.ea_cons (Pu.ev_b1 Pu.o_lenT (Pu.ev_fld (names := nm_Deals) (fs := fs_Deals K) (T.cls 13) (T.noat 14) .z (Pu.ev_var .z))) Pu.ea_nil)))) (Pu.tg_name (.s (.s (.s (.s (.z)))))) (Pu.st_post (Bk.drop Bk.id (.s (.s (.s (.s (.z)))))) (PuU.st_setd (p := false) (by decide) (.s (.s (.s (.z)))) (Pu.ev_opP Pu.o_p30 (Pu.ev_opP Pu.o_ixT (Pu.ev_fld (names := nm_Deals) (fs := fs_Deals K) (T.cls 13) (T.noat 14) .z (Pu.ev_var .z)) (Pu.ev_var (.s (.s (.s (.s (.z))))))) (Pu.ev_c (c := dInt) (x := 0) fun _ => rfl)) (Pu.ev_var (.s (.s (.s (.s (.z))))))))) (Pu.st_ret (p := false) prD (Pu.ev_sb (Pu.sb_tun (c := dInt)) (Pu.ev_1 Pu.o_tupNL (Pu.freeze (c := dInt) (Pu.en_slL (Pu.freeze (c := dInt) (PuU.en_valsM (.s (.s (.s (.z)))))) Pu.eo_no (Pu.eo_some (Pu.ev_opP Pu.o_ixT (Pu.ev_fld (names := nm_Deals) (fs := fs_Deals K) (T.cls 13) (T.noat 20) (.s (by decide +kernel) (.s (by decide +kernel) (.s (by decide +kernel) (.z)))) (Pu.ev_var .z)) (Pu.ev_var (.s (.z))))))))))))
  case f => intros; kernel_rfl
theorem ok_Deals_kept_by (T : Tx fa fn K mg) : OkF P w K mg base 3 (He.ma K (He.ga K "Deals") "kept_by") ["self", "made"] (spD (xcK K) [(dI_Deals K), (dLst dInt)] (dTup dInt) (fun x => m_Deals_kept_by x.1 x.2.1)) := by
  refine okF (T.c.def_ 11 (d := d_11) rfl) sc_Deals_kept_by (lenD rfl) (fun _ _ _ _ _ _ us hl => match us, hl with | [_, _], _ => rfl) ?_
  intro cdv A outer s H E hr
  refine ⟨_, (pss_one (ps_ret (Pu.pe_tupleNK (K := K) (by rfl) (T.free 6) (pe_callB (Pu.cr_sortedIK (K := K)) (by rfl) (T.free 25) (by decide +kernel) (pa_cons (pe_lc2 (own := [("room", 2), ("one", 3)]) (vs1 := [3]) (by rfl) sc_Deals_kept_by.nd (pi_range1 (by rfl) (T.free 23) (pa_cons (pe_callB (Pu.call_lenK (K := K)) (by rfl) (T.free 3) PySem.boot_len (pa_cons (Pu.pe_fldK (K := K) (pv 0) (by rfl)) pa_nil)) pa_nil)) (blkOk_by (N := ["self", "made", "room", "one"]) (sc := defScope s_Deals_kept_by) (by decide +kernel)) (by decide) (fun _ _ _ _ _ => (pg_name (i := 2) sc_Deals_kept_by.nd (by rfl) (by first | exact Or.inl rfl | exact Or.inr rfl))) (fun _ _ _ _ _ => pts_nil) (fun _ _ _ _ _ => (Pu.pi_tupK (K := K) (pmeth (ok_Deals_choose T) hr (by decide) (T.cls 13) (T.meth 24) passL (pv 0) (pa_cons (pv 2) (pa_cons (pv 1) pa_nil))))) (fun _ _ _ _ _ => (pg_name (i := 3) sc_Deals_kept_by.nd (by rfl) (by first | exact Or.inl rfl | exact Or.inr rfl))) (fun _ _ _ _ _ => pts_nil) (fun _ _ _ _ _ => (pv 3))) pa_nil))))), ?_⟩
  intro vs Q h
  refine run_D (Γe := []) (cs := [(dI_Deals K), (dLst dInt)]) (n := 2) (T := ?T) rfl ?h ?f vs H Q h
  case h => exact (Pu.st_ret (p := false) prD (Pu.ev_sb (Pu.sb_tun (c := dInt)) (Pu.ev_1 Pu.o_tupNL (Pu.ev_b1 Pu.o_sortS (Pu.freeze (c := dInt) (Pu.en_lc2 (q := false) (vs := [2, 3]) (vs1 := [3]) (Γ0 := [.da (dI_Deals K), .da (dLst dInt), .no, .no]) (Γ1 := [.da (dI_Deals K), .da (dLst dInt), .da dInt, .no]) (Γ2 := [.da (dI_Deals K), .da (dLst dInt), .da dInt, .da dInt]) Hd.id (by rfl) (by rfl) (by decide) (by decide) (by decide) (Bk.drop Bk.id (.s (.s (.z)))) (Bk.drop Bk.id (.s (.s (.s (.z))))) (Pu.ei_rng1 (Pu.ea_cons (Pu.ev_b1 Pu.o_lenT (Pu.ev_fld (names := nm_Deals) (fs := fs_Deals K) (T.cls 13) (T.noat 19) (.s (by decide +kernel) (.s (by decide +kernel) (.z))) (Pu.ev_var .z))) Pu.ea_nil)) (Pu.tg_name (.s (.s (.z)))) Pu.pts_et (Pu.ei_tup (Pu.ev_meth (nm := "choose") (names := nm_Deals) (by decide +kernel) (Pu.ev_var .z) (Pu.ea_cons (Pu.ev_var (.s (.s (.z)))) (Pu.ea_cons (Pu.ev_var (.s (.z))) Pu.ea_nil)))) (Pu.tg_name (.s (.s (.s (.z))))) Pu.pts_et (Pu.ev_var (.s (.s (.s (.z)))))))))))
  case f => intros; kernel_rfl
theorem ok_Deals_of_asker (T : Tx fa fn K mg) : OkF P w K mg base 1 (He.ma K (He.ga K "Deals") "of_asker") ["self", "taken", "asker"] (spD (xcK K) [(dI_Deals K), (dTup dInt), dInt] (dOpt dInt) (fun x => m_Deals_of_asker x.1 x.2.1 x.2.2.1)) := by
  refine okF (T.c.def_ 12 (d := d_12) rfl) sc_Deals_of_asker (lenD rfl) (fun _ _ _ _ _ _ us hl => match us, hl with | [_, _, _], _ => rfl) ?_
  intro cdv A outer s H E hr
  refine ⟨_, (pss_cons (ps_for poB (by rfl) (Pu.pi_tupK (K := K) (pv 1)) (pg_name (i := 3) sc_Deals_of_asker.nd (by rfl) (by first | exact Or.inl rfl | exact Or.inr rfl)) (pss_one (ps_if (pt_cmpR (Pu.op_eqDK (K := K) hr.units) (pe_ix (Pu.ix_tupK (K := K)) (pe_ix (Pu.ix_tupK (K := K)) (Pu.pe_fldK (K := K) (pv 0) (by rfl)) (pv 3) (fun _ _ => rfl)) pe_int (fun _ _ => rfl)) (pv 2) (nomark _)) (pss_one (ps_ret (pv 3))) pss_nil))) (pss_one (ps_ret pe_non))), ?_⟩
  intro vs Q h
  refine run_D (Γe := []) (cs := [(dI_Deals K), (dTup dInt), dInt]) (n := 1) (T := ?T) rfl ?h ?f vs H Q h
  case h => exact (Pu.st_seq (Pu.st_for (p := false) (Γ' := [.da (dI_Deals K), .da (dTup dInt), .da dInt, .da dInt]) (Pu.ei_tup (Pu.ev_var (.s (.z)))) (Pu.tg_name (.s (.s (.s (.z))))) (Pu.st_post (Bk.drop Bk.id (.s (.s (.s (.z))))) (Pu.st_if (p := false) (Pu.et_test (Pu.ev_op (Pu.o_eq dqInt (by decide)) (Pu.ev_opP Pu.o_p30 (Pu.ev_opP Pu.o_ixT (Pu.ev_fld (names := nm_Deals) (fs := fs_Deals K) (T.cls 13) (T.noat 14) .z (Pu.ev_var .z)) (Pu.ev_var (.s (.s (.s (.z)))))) (Pu.ev_c (c := dInt) (x := 0) fun _ => rfl)) (Pu.ev_var (.s (.s (.z)))))) (Pu.st_ret (p := false) prD (Pu.ev_as (a := dInt) (b := dOpt dInt) some someI (Pu.ev_var (.s (.s (.s (.z))))))) Pu.st_next))) (Pu.st_ret (p := false) prD (Pu.ev_as (b := (dOpt dInt)) (fun _ => none) noneI (Pu.ev_c (c := dNon) (x := ()) fun _ => rfl))))
  case f => intros; kernel_rfl
theorem ok_Deals_free_asker (T : Tx fa fn K mg) : OkF P w K mg base 4 (He.ma K (He.ga K "Deals") "free_asker") ["self", "made", "next_ones"] (spD (xcK K) [(dI_Deals K), (dLst dInt), (dLst dInt)] (dOpt dInt) (fun x => m_Deals_free_asker x.1 x.2.1 x.2.2.1)) := by
  refine okF (T.c.def_ 13 (d := d_13) rfl) sc_Deals_free_asker (lenD rfl) (fun _ _ _ _ _ _ us hl => match us, hl with | [_, _, _], _ => rfl) ?_
  intro cdv A outer s H E hr
  refine ⟨_, (pss_cons (ps_set (i := 3) sc_Deals_free_asker.nd (by rfl) (by first | exact Or.inl rfl | exact Or.inr rfl) (pmeth (ok_Deals_kept_by T) hr (by decide) (T.cls 13) (T.meth 26) pxB (pv 0) (pa_cons (pv 1) pa_nil))) (pss_cons (ps_for poB (by rfl) (Pu.pi_enumTK (K := K) (by rfl) (T.free 9) (pa_cons (Pu.pe_fldK (K := K) (pv 0) (by rfl)) pa_nil)) (Pu.pg_tupK (K := K) (n := 2) (by rfl) (pgs_cons (pg_name (i := 4) sc_Deals_free_asker.nd (by rfl) (by first | exact Or.inl rfl | exact Or.inr rfl)) (pgs_cons (pg_name (i := 5) sc_Deals_free_asker.nd (by rfl) (by first | exact Or.inl rfl | exact Or.inr rfl)) pgs_nil))) (pss_one (ps_if (PW.pt (pw_and (pt_cmpR op_lt (pe_ix (Pu.ix_listK (K := K)) (pv 2) (pv 4) (fun _ _ => rfl)) (pe_callB (Pu.call_lenK (K := K)) (by rfl) (T.free 3) PySem.boot_len (pa_cons (Pu.pe_fldK (K := K) (pv 5) (by rfl)) pa_nil)) (nomark _)) (pw_and1 (pt_cmpR op_isN (pmeth (ok_Deals_of_asker T) hr (by decide) (T.cls 13) (T.meth 27) pxB (pv 0) (pa_cons (pv 3) (pa_cons (pv 4) pa_nil))) pe_non (nomark _))))) (pss_one (ps_ret (pv 4))) pss_nil))) (pss_one (ps_ret pe_non)))), ?_⟩
  intro vs Q h
  refine run_D (Γe := []) (cs := [(dI_Deals K), (dLst dInt), (dLst dInt)]) (n := 3) (T := ?T) rfl ?h ?f vs H Q h
  case h => exact (Pu.st_seq (Pu.st_set (p := false) (.s (.s (.s (.z)))) (Pu.ev_meth (nm := "kept_by") (names := nm_Deals) (by decide +kernel) (Pu.ev_var .z) (Pu.ea_cons (Pu.ev_var (.s (.z))) Pu.ea_nil))) (Pu.st_seq (Pu.st_for (p := false) (Γ' := [.da (dI_Deals K), .da (dLst dInt), .da (dLst dInt), .da (dTup dInt), .da dInt, .da (dI_Wish K)]) (Pu.ei_enumT (Pu.ea_cons (Pu.ev_fld (names := nm_Deals) (fs := fs_Deals K) (T.cls 13) (T.noat 18) (.s (by decide +kernel) (.z)) (Pu.ev_var .z)) Pu.ea_nil)) (Pu.tg_p2 (Pu.tg_name (.s (.s (.s (.s (.z)))))) (Pu.tg_name (.s (.s (.s (.s (.s (.z)))))))) (Pu.st_post (Bk.drop (Bk.drop Bk.id (.s (.s (.s (.s (.s (.z))))))) (.s (.s (.s (.s (.z)))))) (Pu.st_if (p := false) (Pu.et_and (Pu.et_test (Pu.ev_op Pu.o_cmp (Pu.ev_opP Pu.o_ixL (Pu.ev_var (.s (.s (.z)))) (Pu.ev_var (.s (.s (.s (.s (.z))))))) (Pu.ev_b1 Pu.o_lenT (Pu.ev_fld (names := nm_Wish) (fs := fs_Wish K) (T.cls 7) (T.noat 8) .z (Pu.ev_var (.s (.s (.s (.s (.s (.z))))))))))) (Pu.et_test (Pu.ev_op Pu.o_isN (Pu.ev_meth (nm := "of_asker") (names := nm_Deals) (by decide +kernel) (Pu.ev_var .z) (Pu.ea_cons (Pu.ev_var (.s (.s (.s (.z))))) (Pu.ea_cons (Pu.ev_var (.s (.s (.s (.s (.z)))))) Pu.ea_nil))) (Pu.ev_c (c := dNon) (x := ()) fun _ => rfl)))) (Pu.st_ret (p := false) prD (Pu.ev_as (a := dInt) (b := dOpt dInt) some someI (Pu.ev_var (.s (.s (.s (.s (.z)))))))) Pu.st_next))) (Pu.st_ret (p := false) prD (Pu.ev_as (b := (dOpt dInt)) (fun _ => none) noneI (Pu.ev_c (c := dNon) (x := ()) fun _ => rfl)))))
  case f => intros; kernel_rfl
theorem ok_Deals_offers (T : Tx fa fn K mg) : OkF P w K mg base 5 (He.ma K (He.ga K "Deals") "offers") ["self"] (spD (xcK K) [(dI_Deals K)] (dTup dInt) (fun x => m_Deals_offers x.1)) := by
  refine okF (T.c.def_ 14 (d := d_14) rfl) sc_Deals_offers (lenD rfl) (fun _ _ _ _ _ _ us hl => match us, hl with | [_], _ => rfl) ?_
  intro cdv A outer s H E hr
  refine ⟨_, (pss_cons (ps_set (i := 1) sc_Deals_offers.nd (by rfl) (by first | exact Or.inl rfl | exact Or.inr rfl) (pe_lst pa_nil)) (pss_cons (ps_setLc (i := 2) (own := [("_", 3)]) (by rfl) sc_Deals_offers.nd rfl rfl (sw_true rfl rfl rfl (by decide +kernel)) (Pu.pi_tupK (K := K) (Pu.pe_fldK (K := K) (pv 0) (by rfl))) (blkOk_by (N := ["self", "made", "next_ones", "_", "asker"]) (sc := defScope s_Deals_offers) (by decide +kernel)) (fun _ _ _ _ _ => (pg_name (i := 3) sc_Deals_offers.nd (by rfl) (by first | exact Or.inl rfl | exact Or.inr rfl))) (fun _ _ _ _ _ => pts_nil) (fun _ _ _ _ _ => pe_int)) (pss_cons (ps_set (i := 4) sc_Deals_offers.nd (by rfl) (by first | exact Or.inl rfl | exact Or.inr rfl) (pmeth (ok_Deals_free_asker T) hr (by decide) (T.cls 13) (T.meth 28) pxB (pv 0) (pa_cons (pv 1) (pa_cons (pv 2) pa_nil)))) (pss_cons (ps_while poB (pt_cmpR op_notN (pv 4) pe_non (nomark _)) (pss_cons (ps_expr (Pu.pe_bmK (K := K) PySem.F.plainAttrs_list PySem.F.slot_list_append PySem.F.type_list_append mt_append (pv 1) (pa_cons (pe_ix (Pu.ix_tupK (K := K)) (Pu.pe_fldK (K := K) (pe_ix (Pu.ix_tupK (K := K)) (Pu.pe_fldK (K := K) (pv 0) (by rfl)) (pv 4) (fun _ _ => rfl)) (by rfl)) (pe_ix (Pu.ix_listK (K := K)) (pv 2) (pv 4) (fun _ _ => rfl)) (fun _ _ => rfl)) pa_nil))) (pss_cons (ps_augS (pv 2) (pv 4) (Pu.pget_listK (K := K)) pe_int ip_add set_list) (pss_one (ps_set (i := 4) sc_Deals_offers.nd (by rfl) (by first | exact Or.inl rfl | exact Or.inr rfl) (pmeth (ok_Deals_free_asker T) hr (by decide) (T.cls 13) (T.meth 28) pxB (pv 0) (pa_cons (pv 1) (pa_cons (pv 2) pa_nil)))))))) (pss_one (ps_ret (pmeth (ok_Deals_kept_by T) hr (by decide) (T.cls 13) (T.meth 26) pxB (pv 0) (pa_cons (pv 1) pa_nil)))))))), ?_⟩
  intro vs Q h
  refine run_D (Γe := []) (cs := [(dI_Deals K)]) (n := 4) (T := ?T) rfl ?h ?f vs H Q h
  case h => exact (Pu.st_seq (Pu.st_setN (p := false) (.s (.z)) Pu.en_nil) (Pu.st_seq (Pu.st_setN (p := false) (.s (.s (.z))) (Pu.en_lc (q := false) (vs := [3]) (Γ0 := [.da (dI_Deals K), .m .lo (mLst dInt), .no, .no, .no]) (Γ1 := [.da (dI_Deals K), .m .lo (mLst dInt), .no, .da (dI_Wish K), .no]) Hd.id (by rfl) (by decide) (Bk.drop Bk.id (.s (.s (.s (.z))))) (Pu.ei_tup (Pu.ev_fld (names := nm_Deals) (fs := fs_Deals K) (T.cls 13) (T.noat 18) (.s (by decide +kernel) (.z)) (Pu.ev_var .z))) (Pu.tg_name (.s (.s (.s (.z))))) Pu.pts_et (Pu.ev_c (c := dInt) (x := 0) fun _ => rfl))) (Pu.st_seq (Pu.st_set (p := false) (.s (.s (.s (.s (.z))))) (Pu.ev_frz (Γ' := [.da (dI_Deals K), .da (dLst dInt), .da (dLst dInt), .no, .no]) (.da (.m Pu.fzL (.m Pu.fzL (.no (.no .nil))))) (Pu.und_opt Pu.und_int) (Pu.ev_meth (nm := "free_asker") (names := nm_Deals) (by decide +kernel) (Pu.ev_var .z) (Pu.ea_cons (Pu.ev_var (.s (.z))) (Pu.ea_cons (Pu.ev_var (.s (.s (.z)))) Pu.ea_nil))))) (Pu.st_seq (Pu.st_while (p := false) 100000 (Pu.et_test (Pu.ev_op Pu.o_notN (Pu.ev_var (.s (.s (.s (.s (.z)))))) (Pu.ev_c (c := dNon) (x := ()) fun _ => rfl))) (Pu.st_seq (Pu.st_app (p := false) (by decide) (.s (.z)) (Pu.ev_opP Pu.o_ixT (Pu.ev_fld (names := nm_Wish) (fs := fs_Wish K) (T.cls 7) (T.noat 8) .z (Pu.ev_opP Pu.o_ixT (Pu.ev_fld (names := nm_Deals) (fs := fs_Deals K) (T.cls 13) (T.noat 18) (.s (by decide +kernel) (.z)) (Pu.ev_var .z)) (Pu.ev_asP (a := dOpt dInt) (b := dInt) (fun x => x) Pu.o_someI (Pu.ev_var (.s (.s (.s (.s (.z))))))))) (Pu.ev_ixM (.s (.s (.z))) (Pu.ev_asP (a := dOpt dInt) (b := dInt) (fun x => x) Pu.o_someI (Pu.ev_var (.s (.s (.s (.s (.z)))))))))) (Pu.st_seq (PuU.st_augIxM (p := false) (by decide) (.s (.s (.z))) (Pu.ev_asP (a := dOpt dInt) (b := dInt) (fun x => x) Pu.o_someI (Pu.ev_var (.s (.s (.s (.s (.z))))))) (Pu.ev_c (c := dInt) (x := 1) fun _ => rfl)) (Pu.st_set (p := false) (.s (.s (.s (.s (.z))))) (Pu.ev_frz (Γ' := [.da (dI_Deals K), .da (dLst dInt), .da (dLst dInt), .no, .da (dOpt dInt)]) (.da (.m Pu.fzL (.m Pu.fzL (.no (.da .nil))))) (Pu.und_opt Pu.und_int) (Pu.ev_meth (nm := "free_asker") (names := nm_Deals) (by decide +kernel) (Pu.ev_var .z) (Pu.ea_cons (Pu.ev_var (.s (.z))) (Pu.ea_cons (Pu.ev_var (.s (.s (.z)))) Pu.ea_nil)))))))) (Pu.st_ret (p := false) prD (Pu.ev_frz (Γ' := [.da (dI_Deals K), .da (dLst dInt), .da (dLst dInt), .no, .da (dOpt dInt)]) (.da (.m Pu.fzL (.m Pu.fzL (.no (.da .nil))))) (Pu.und_tup Pu.und_int) (Pu.ev_meth (nm := "kept_by") (names := nm_Deals) (by decide +kernel) (Pu.ev_var .z) (Pu.ea_cons (Pu.ev_var (.s (.z))) Pu.ea_nil))))))))
  case f => intros; kernel_rfl
theorem ok_as_match (T : Tx fa fn K mg) : OkF P w K mg base 1 (He.ga K "as_match") ["deals", "taken"] (spD (xcK K) [(dI_Deals K), (dTup dInt)] (dTuN (dOpt dInt)) (fun x => m_as_match x.1 x.2.1)) := by
  refine okF (T.c.def_ 15 (d := d_15) rfl) sc_as_match (lenD rfl) (fun _ _ _ _ _ _ us hl => match us, hl with | [_, _], _ => rfl) ?_
  intro cdv A outer s H E hr
  refine ⟨_, (pss_cons (ps_set (i := 2) sc_as_match.nd (by rfl) (by first | exact Or.inl rfl | exact Or.inr rfl) (pe_dc (own := [("one", 3)]) (by rfl) sc_as_match.nd (Pu.pi_tupK (K := K) (pv 1)) (blkOk_by (N := ["deals", "taken", "rooms", "one", "asker"]) (sc := defScope s_as_match) (by decide +kernel)) (fun _ _ _ _ _ => (pg_name (i := 3) sc_as_match.nd (by rfl) (by first | exact Or.inl rfl | exact Or.inr rfl))) (fun _ _ _ _ _ => pts_nil) (fun _ _ _ _ _ => (pe_ix (Pu.ix_tupK (K := K)) (pe_ix (Pu.ix_tupK (K := K)) (Pu.pe_fldK (K := K) (pv 0) (by rfl)) (pv 3) (fun _ _ => rfl)) pe_int (fun _ _ => rfl))) (fun _ _ _ _ _ => (pe_ix (Pu.ix_tupK (K := K)) (pe_ix (Pu.ix_tupK (K := K)) (Pu.pe_fldK (K := K) (pv 0) (by rfl)) (pv 3) (fun _ _ => rfl)) pe_int (fun _ _ => rfl))))) (pss_one (ps_ret (Pu.pe_tupleNK (K := K) (by rfl) (T.free 6) (pe_lc (own := [("asker", 4)]) (by rfl) sc_as_match.nd (pi_range1 (by rfl) (T.free 23) (pa_cons (pe_callB (Pu.call_lenK (K := K)) (by rfl) (T.free 3) PySem.boot_len (pa_cons (Pu.pe_fldK (K := K) (pv 0) (by rfl)) pa_nil)) pa_nil)) (blkOk_by (N := ["deals", "taken", "rooms", "one", "asker"]) (sc := defScope s_as_match) (by decide +kernel)) (fun _ _ _ _ _ => (pg_name (i := 4) sc_as_match.nd (by rfl) (by first | exact Or.inl rfl | exact Or.inr rfl))) (fun _ _ _ _ _ => pts_nil) (fun _ _ _ _ _ => (pe_dg1 (hu_of hr) (pv 2) (pv 4)))))))), ?_⟩
  intro vs Q h
  refine run_D (Γe := []) (cs := [(dI_Deals K), (dTup dInt)]) (n := 3) (T := ?T) rfl ?h ?f vs H Q h
  case h => exact (Pu.st_seq (Pu.st_set (p := false) (.s (.s (.z))) (Pu.en_dc (q := false) (vs := [3]) (Γ1 := [.da (dI_Deals K), .da (dTup dInt), .no, .da dInt, .no]) (by rfl) (by decide) (Bk.drop Bk.id (.s (.s (.s (.z))))) (Pu.ei_tup (Pu.ev_var (.s (.z)))) (Pu.tg_name (.s (.s (.s (.z))))) (Pu.ev_opP Pu.o_p30 (Pu.ev_opP Pu.o_ixT (Pu.ev_fld (names := nm_Deals) (fs := fs_Deals K) (T.cls 13) (T.noat 14) .z (Pu.ev_var .z)) (Pu.ev_var (.s (.s (.s (.z)))))) (Pu.ev_c (c := dInt) (x := 0) fun _ => rfl)) (Pu.ev_opP Pu.o_p31 (Pu.ev_opP Pu.o_ixT (Pu.ev_fld (names := nm_Deals) (fs := fs_Deals K) (T.cls 13) (T.noat 14) .z (Pu.ev_var .z)) (Pu.ev_var (.s (.s (.s (.z)))))) (Pu.ev_c (c := dInt) (x := 1) fun _ => rfl)))) (Pu.st_ret (p := false) prD (Pu.ev_1 Pu.o_tupNL (Pu.freeze (c := (dOpt dInt)) (Pu.en_lc (q := false) (vs := [4]) (Γ0 := [.da (dI_Deals K), .da (dTup dInt), .da (dDict dInt), .no, .no]) (Γ1 := [.da (dI_Deals K), .da (dTup dInt), .da (dDict dInt), .no, .da dInt]) Hd.id (by rfl) (by decide) (Bk.drop Bk.id (.s (.s (.s (.s (.z)))))) (Pu.ei_rng1 (Pu.ea_cons (Pu.ev_b1 Pu.o_lenT (Pu.ev_fld (names := nm_Deals) (fs := fs_Deals K) (T.cls 13) (T.noat 18) (.s (by decide +kernel) (.z)) (Pu.ev_var .z))) Pu.ea_nil)) (Pu.tg_name (.s (.s (.s (.s (.z)))))) Pu.pts_et (Pu.ev_dget1 (Pu.ev_var (.s (.s (.z)))) (Pu.ev_var (.s (.s (.s (.s (.z))))))))))))
  case f => intros; kernel_rfl
theorem law_s0 (T : Tx fa fn K mg) {cdv : Value} {A : Around} {outer : List PySem.Env} {s : Shared} {H : Hp} {E : XK} (hr : Room 5 (A.deeper (envOfC "law" (defScope s_law) s.heap.objs.size (He.ga K "law") cdv))) :
    ∃ ts, PS (cxOf (L2.CX P w) P w K mg base ["script", "dice", "many", "wide", "contracts", "k", "room", "term", "lists", "one", "orders", "seats", "deals", "taken", "own", "more", "wider", "other", "cut"] "law" (defScope s_law) (He.ga K "law") cdv A outer s H E) ((forBody (defBody s_law) 0).getD 0 (.Pass ⟨0, 0, 0, 0⟩)) ts ∧ StE E (xcK K) (retD dBl) [.da (dScr K), .m .lo (mLst dInt), .no, .no, .no, .no, .no, .no, .no, .no, .no, .no, .no, .no, .no, .no, .no, .no, .no] ts [.da (dScr K), .m .lo (mLst dInt), .da dInt, .da dInt, .no, .no, .no, .no, .no, .no, .no, .no, .no, .no, .no, .no, .no, .no, .no] [.da (dScr K), .m .lo (mLst dInt), .da dInt, .da dInt, .da (dLst (dP3 dInt dInt dInt)), .da dInt, .da dInt, .no, .da (dLst (dTuN dInt)), .no, .da (dLst (dTuN dInt)), .da (dLst dInt), .da (dI_Deals K), .da (dTup dInt), .da (dLst (dOpt dInt)), .da (dI_Deals K), .da (dTup dInt), .da (dI_Deals K), .no] (fun R nx rt bk ct ρ => m_law_s0 nx (fun x => rt x ()) ρ) := by
  refine ⟨_, (ps_asg (pe_tup (pa_cons (pe_op op_add pe_int (pcall (ok_law_roll T) hr (by decide) (T.glo 5) pxB (pa_cons (pv 1) (pa_cons pe_int pa_nil)))) (pa_cons (pe_op op_add pe_int (pcall (ok_law_roll T) hr (by decide) (T.glo 5) pxB (pa_cons (pv 1) (pa_cons pe_int pa_nil)))) pa_nil))) (Pu.pg_tupK (K := K) (n := 2) (by rfl) (pgs_cons (pg_name (i := 2) sc_law.nd (by rfl) (by first | exact Or.inl rfl | exact Or.inr rfl)) (pgs_cons (pg_name (i := 3) sc_law.nd (by rfl) (by first | exact Or.inl rfl | exact Or.inr rfl)) pgs_nil)))), ?_⟩
  refine StE.as (T := ?T) ?h ?f
  case h => exact (Pu.st_asg (p := false) (Pu.ev_p2 (Pu.ea_cons (Pu.ev_op Pu.o_int (Pu.ev_c (c := dInt) (x := 1) fun _ => rfl) (Pu.ev_callM (k := .lo) (by decide) (.s (.z)) (Pu.ea_cons (Pu.ev_c (c := dInt) (x := 3) fun _ => rfl) Pu.ea_nil))) (Pu.ea_cons (Pu.ev_op Pu.o_int (Pu.ev_c (c := dInt) (x := 1) fun _ => rfl) (Pu.ev_callM (k := .lo) (by decide) (.s (.z)) (Pu.ea_cons (Pu.ev_c (c := dInt) (x := 2) fun _ => rfl) Pu.ea_nil))) Pu.ea_nil))) (Pu.tg_p2 (Pu.tg_name (.s (.s (.z)))) (Pu.tg_name (.s (.s (.s (.z)))))))
  case f => kernel_rfl
theorem law_s1 (T : Tx fa fn K mg) {cdv : Value} {A : Around} {outer : List PySem.Env} {s : Shared} {H : Hp} {E : XK} (hr : Room 5 (A.deeper (envOfC "law" (defScope s_law) s.heap.objs.size (He.ga K "law") cdv))) :
    ∃ ts, PS (cxOf (L2.CX P w) P w K mg base ["script", "dice", "many", "wide", "contracts", "k", "room", "term", "lists", "one", "orders", "seats", "deals", "taken", "own", "more", "wider", "other", "cut"] "law" (defScope s_law) (He.ga K "law") cdv A outer s H E) ((forBody (defBody s_law) 0).getD 1 (.Pass ⟨0, 0, 0, 0⟩)) ts ∧ StE E (xcK K) (retD dBl) [.da (dScr K), .m .lo (mLst dInt), .da dInt, .da dInt, .no, .no, .no, .no, .no, .no, .no, .no, .no, .no, .no, .no, .no, .no, .no] ts [.da (dScr K), .m .lo (mLst dInt), .da dInt, .da dInt, .da (dLst (dP3 dInt dInt dInt)), .no, .no, .no, .no, .no, .no, .no, .no, .no, .no, .no, .no, .no, .no] [.da (dScr K), .m .lo (mLst dInt), .da dInt, .da dInt, .da (dLst (dP3 dInt dInt dInt)), .da dInt, .da dInt, .no, .da (dLst (dTuN dInt)), .no, .da (dLst (dTuN dInt)), .da (dLst dInt), .da (dI_Deals K), .da (dTup dInt), .da (dLst (dOpt dInt)), .da (dI_Deals K), .da (dTup dInt), .da (dI_Deals K), .no] (fun R nx rt bk ct ρ => m_law_s1 nx (fun x => rt x ()) ρ) := by
  refine ⟨_, (ps_set (i := 4) sc_law.nd (by rfl) (by first | exact Or.inl rfl | exact Or.inr rfl) (pcall (ok_law_flat T) hr (by decide) (T.glo 30) pxB (pa_cons (pe_lc (own := [("k", 5)]) (by rfl) sc_law.nd (pi_range1 (by rfl) (T.free 23) (pa_cons (pv 2) pa_nil)) (blkOk_by (N := ["script", "dice", "many", "wide", "contracts", "k", "room", "term", "lists", "one", "orders", "seats", "deals", "taken", "own", "more", "wider", "other", "cut"]) (sc := defScope s_law) (by decide +kernel)) (fun _ _ _ _ _ => (pg_name (i := 5) sc_law.nd (by rfl) (by first | exact Or.inl rfl | exact Or.inr rfl))) (fun _ _ _ _ _ => pts_nil) (fun _ _ _ _ _ => (pcall (ok_law_flat T) hr (by decide) (T.glo 30) passL (pa_cons (pe_lc (own := [("room", 6)]) (by rfl) sc_law.nd (pi_range1 (by rfl) (T.free 23) (pa_cons (pv 3) pa_nil)) (blkOk_by (N := ["script", "dice", "many", "wide", "contracts", "k", "room", "term", "lists", "one", "orders", "seats", "deals", "taken", "own", "more", "wider", "other", "cut"]) (by kernel_rfl)) (fun _ _ _ _ _ => (pg_name (i := 6) sc_law.nd (by rfl) (by first | exact Or.inl rfl | exact Or.inr rfl))) (fun _ _ _ _ _ => pts_nil) (fun _ _ _ _ _ => (pe_lc (own := [("term", 7)]) (by rfl) sc_law.nd (pi_range1 (by rfl) (T.free 23) (pa_cons pe_int pa_nil)) (blkOk_by (N := ["script", "dice", "many", "wide", "contracts", "k", "room", "term", "lists", "one", "orders", "seats", "deals", "taken", "own", "more", "wider", "other", "cut"]) (by kernel_rfl)) (fun _ _ _ _ _ => (pg_name (i := 7) sc_law.nd (by rfl) (by first | exact Or.inl rfl | exact Or.inr rfl))) (fun _ _ _ _ _ => pts_nil) (fun _ _ _ _ _ => (pe_tup (pa_cons (pv 5) (pa_cons (pv 6) (pa_cons (pv 7) pa_nil)))))))) pa_nil)))) pa_nil))), ?_⟩
  refine StE.as (T := ?T) ?h ?f
  case h => exact (Pu.st_set (p := false) (.s (.s (.s (.s (.z))))) (Pu.ev_call (Pu.ea_cons (Pu.freeze (c := (dLst (dP3 dInt dInt dInt))) (Pu.en_lc (q := false) (vs := [5]) (Γ0 := [.da (dScr K), .m .lo (mLst dInt), .da dInt, .da dInt, .no, .no, .no, .no, .no, .no, .no, .no, .no, .no, .no, .no, .no, .no, .no]) (Γ1 := [.da (dScr K), .m .lo (mLst dInt), .da dInt, .da dInt, .no, .da dInt, .no, .no, .no, .no, .no, .no, .no, .no, .no, .no, .no, .no, .no]) Hd.id (by rfl) (by decide) (Bk.drop Bk.id (.s (.s (.s (.s (.s (.z))))))) (Pu.ei_rng1 (Pu.ea_cons (Pu.ev_var (.s (.s (.z)))) Pu.ea_nil)) (Pu.tg_name (.s (.s (.s (.s (.s (.z))))))) Pu.pts_et (Pu.ev_call (Pu.ea_cons (Pu.freeze (c := (dLst (dP3 dInt dInt dInt))) (Pu.en_lc (q := false) (vs := [6]) (Γ0 := [.da (dScr K), .m .lo (mLst dInt), .da dInt, .da dInt, .no, .da dInt, .no, .no, .no, .no, .no, .no, .no, .no, .no, .no, .no, .no, .no]) (Γ1 := [.da (dScr K), .m .lo (mLst dInt), .da dInt, .da dInt, .no, .da dInt, .da dInt, .no, .no, .no, .no, .no, .no, .no, .no, .no, .no, .no, .no]) Hd.id (by rfl) (by decide) (Bk.drop Bk.id (.s (.s (.s (.s (.s (.s (.z)))))))) (Pu.ei_rng1 (Pu.ea_cons (Pu.ev_var (.s (.s (.s (.z))))) Pu.ea_nil)) (Pu.tg_name (.s (.s (.s (.s (.s (.s (.z)))))))) Pu.pts_et (Pu.freeze (c := (dP3 dInt dInt dInt)) (Pu.en_lc (q := false) (vs := [7]) (Γ0 := [.da (dScr K), .m .lo (mLst dInt), .da dInt, .da dInt, .no, .da dInt, .da dInt, .no, .no, .no, .no, .no, .no, .no, .no, .no, .no, .no, .no]) (Γ1 := [.da (dScr K), .m .lo (mLst dInt), .da dInt, .da dInt, .no, .da dInt, .da dInt, .da dInt, .no, .no, .no, .no, .no, .no, .no, .no, .no, .no, .no]) Hd.id (by rfl) (by decide) (Bk.drop Bk.id (.s (.s (.s (.s (.s (.s (.s (.z))))))))) (Pu.ei_rng1 (Pu.ea_cons (Pu.ev_c (c := dInt) (x := 2) fun _ => rfl) Pu.ea_nil)) (Pu.tg_name (.s (.s (.s (.s (.s (.s (.s (.z))))))))) Pu.pts_et (Pu.ev_p3 (Pu.ea_cons (Pu.ev_var (.s (.s (.s (.s (.s (.z))))))) (Pu.ea_cons (Pu.ev_var (.s (.s (.s (.s (.s (.s (.z)))))))) (Pu.ea_cons (Pu.ev_var (.s (.s (.s (.s (.s (.s (.s (.z))))))))) Pu.ea_nil)))))))) Pu.ea_nil)))) Pu.ea_nil)))
  case f => kernel_rfl
theorem law_s2 (T : Tx fa fn K mg) {cdv : Value} {A : Around} {outer : List PySem.Env} {s : Shared} {H : Hp} {E : XK} (hr : Room 5 (A.deeper (envOfC "law" (defScope s_law) s.heap.objs.size (He.ga K "law") cdv))) :
    ∃ ts, PS (cxOf (L2.CX P w) P w K mg base ["script", "dice", "many", "wide", "contracts", "k", "room", "term", "lists", "one", "orders", "seats", "deals", "taken", "own", "more", "wider", "other", "cut"] "law" (defScope s_law) (He.ga K "law") cdv A outer s H E) ((forBody (defBody s_law) 0).getD 2 (.Pass ⟨0, 0, 0, 0⟩)) ts ∧ StE E (xcK K) (retD dBl) [.da (dScr K), .m .lo (mLst dInt), .da dInt, .da dInt, .da (dLst (dP3 dInt dInt dInt)), .no, .no, .no, .no, .no, .no, .no, .no, .no, .no, .no, .no, .no, .no] ts [.da (dScr K), .m .lo (mLst dInt), .da dInt, .da dInt, .da (dLst (dP3 dInt dInt dInt)), .no, .no, .no, .da (dLst (dTuN dInt)), .no, .no, .no, .no, .no, .no, .no, .no, .no, .no] [.da (dScr K), .m .lo (mLst dInt), .da dInt, .da dInt, .da (dLst (dP3 dInt dInt dInt)), .da dInt, .da dInt, .no, .da (dLst (dTuN dInt)), .no, .da (dLst (dTuN dInt)), .da (dLst dInt), .da (dI_Deals K), .da (dTup dInt), .da (dLst (dOpt dInt)), .da (dI_Deals K), .da (dTup dInt), .da (dI_Deals K), .no] (fun R nx rt bk ct ρ => m_law_s2 nx (fun x => rt x ()) ρ) := by
  refine ⟨_, (ps_set (i := 8) sc_law.nd (by rfl) (by first | exact Or.inl rfl | exact Or.inr rfl) (pe_lc (own := [("k", 5)]) (by rfl) sc_law.nd (pi_range1 (by rfl) (T.free 23) (pa_cons (pv 2) pa_nil)) (blkOk_by (N := ["script", "dice", "many", "wide", "contracts", "k", "room", "term", "lists", "one", "orders", "seats", "deals", "taken", "own", "more", "wider", "other", "cut"]) (sc := defScope s_law) (by decide +kernel)) (fun _ _ _ _ _ => (pg_name (i := 5) sc_law.nd (by rfl) (by first | exact Or.inl rfl | exact Or.inr rfl))) (fun _ _ _ _ _ => pts_nil) (fun _ _ _ _ _ => (pcall (ok_law_drawn T) hr (by decide) (T.glo 31) passL (pa_cons (pv 1) (pa_cons (pe_lc (own := [("one", 9)]) (by rfl) sc_law.nd (pi_range1 (by rfl) (T.free 23) (pa_cons (pe_callB (Pu.call_lenK (K := K)) (by rfl) (T.free 3) PySem.boot_len (pa_cons (pv 4) pa_nil)) pa_nil)) (blkOk_by (N := ["script", "dice", "many", "wide", "contracts", "k", "room", "term", "lists", "one", "orders", "seats", "deals", "taken", "own", "more", "wider", "other", "cut"]) (by kernel_rfl)) (fun _ _ _ _ _ => (pg_name (i := 9) sc_law.nd (by rfl) (by first | exact Or.inl rfl | exact Or.inr rfl))) (fun _ _ _ _ _ => pts_one (pt_cmpR (Pu.op_eqDK (K := K) hr.units) (pe_ix (Pu.ix_tupK (K := K)) (pe_ix (Pu.ix_listK (K := K)) (pv 4) (pv 9) (fun _ _ => rfl)) pe_int (fun _ _ => rfl)) (pv 5) (nomark _))) (fun _ _ _ _ _ => (pv 9))) pa_nil)))))), ?_⟩
  refine StE.as (T := ?T) ?h ?f
  case h => exact (Pu.st_set (p := false) (.s (.s (.s (.s (.s (.s (.s (.s (.z))))))))) (Pu.freeze (c := (dTuN dInt)) (Pu.en_lc (q := false) (vs := [5]) (Γ0 := [.da (dScr K), .m .lo (mLst dInt), .da dInt, .da dInt, .da (dLst (dP3 dInt dInt dInt)), .no, .no, .no, .no, .no, .no, .no, .no, .no, .no, .no, .no, .no, .no]) (Γ1 := [.da (dScr K), .m .lo (mLst dInt), .da dInt, .da dInt, .da (dLst (dP3 dInt dInt dInt)), .da dInt, .no, .no, .no, .no, .no, .no, .no, .no, .no, .no, .no, .no, .no]) Hd.id (by rfl) (by decide) (Bk.drop Bk.id (.s (.s (.s (.s (.s (.z))))))) (Pu.ei_rng1 (Pu.ea_cons (Pu.ev_var (.s (.s (.z)))) Pu.ea_nil)) (Pu.tg_name (.s (.s (.s (.s (.s (.z))))))) Pu.pts_et (Pu.ev_callM (k := .lo) (by decide) (.s (.z)) (Pu.ea_cons (Pu.freeze (c := dInt) (Pu.en_lc (q := false) (vs := [9]) (Γ0 := [.da (dScr K), .m .lo (mLst dInt), .da dInt, .da dInt, .da (dLst (dP3 dInt dInt dInt)), .da dInt, .no, .no, .no, .no, .no, .no, .no, .no, .no, .no, .no, .no, .no]) (Γ1 := [.da (dScr K), .m .lo (mLst dInt), .da dInt, .da dInt, .da (dLst (dP3 dInt dInt dInt)), .da dInt, .no, .no, .no, .da dInt, .no, .no, .no, .no, .no, .no, .no, .no, .no]) Hd.id (by rfl) (by decide) (Bk.drop Bk.id (.s (.s (.s (.s (.s (.s (.s (.s (.s (.z))))))))))) (Pu.ei_rng1 (Pu.ea_cons (Pu.ev_b1 Pu.o_lenL (Pu.ev_var (.s (.s (.s (.s (.z))))))) Pu.ea_nil)) (Pu.tg_name (.s (.s (.s (.s (.s (.s (.s (.s (.s (.z))))))))))) (Pu.et_test (Pu.ev_op (Pu.o_eq dqInt (by decide)) (Pu.ev_opP Pu.o_p30 (Pu.ev_opP Pu.o_ixL (Pu.ev_var (.s (.s (.s (.s (.z)))))) (Pu.ev_var (.s (.s (.s (.s (.s (.s (.s (.s (.s (.z)))))))))))) (Pu.ev_c (c := dInt) (x := 0) fun _ => rfl)) (Pu.ev_var (.s (.s (.s (.s (.s (.z))))))))) (Pu.ev_var (.s (.s (.s (.s (.s (.s (.s (.s (.s (.z))))))))))))) Pu.ea_nil)))))
  case f => kernel_rfl
theorem law_s3 (T : Tx fa fn K mg) {cdv : Value} {A : Around} {outer : List PySem.Env} {s : Shared} {H : Hp} {E : XK} (hr : Room 5 (A.deeper (envOfC "law" (defScope s_law) s.heap.objs.size (He.ga K "law") cdv))) :
    ∃ ts, PS (cxOf (L2.CX P w) P w K mg base ["script", "dice", "many", "wide", "contracts", "k", "room", "term", "lists", "one", "orders", "seats", "deals", "taken", "own", "more", "wider", "other", "cut"] "law" (defScope s_law) (He.ga K "law") cdv A outer s H E) ((forBody (defBody s_law) 0).getD 3 (.Pass ⟨0, 0, 0, 0⟩)) ts ∧ StE E (xcK K) (retD dBl) [.da (dScr K), .m .lo (mLst dInt), .da dInt, .da dInt, .da (dLst (dP3 dInt dInt dInt)), .no, .no, .no, .da (dLst (dTuN dInt)), .no, .no, .no, .no, .no, .no, .no, .no, .no, .no] ts [.da (dScr K), .m .lo (mLst dInt), .da dInt, .da dInt, .da (dLst (dP3 dInt dInt dInt)), .no, .no, .no, .da (dLst (dTuN dInt)), .no, .da (dLst (dTuN dInt)), .no, .no, .no, .no, .no, .no, .no, .no] [.da (dScr K), .m .lo (mLst dInt), .da dInt, .da dInt, .da (dLst (dP3 dInt dInt dInt)), .da dInt, .da dInt, .no, .da (dLst (dTuN dInt)), .no, .da (dLst (dTuN dInt)), .da (dLst dInt), .da (dI_Deals K), .da (dTup dInt), .da (dLst (dOpt dInt)), .da (dI_Deals K), .da (dTup dInt), .da (dI_Deals K), .no] (fun R nx rt bk ct ρ => m_law_s3 nx (fun x => rt x ()) ρ) := by
  refine ⟨_, (ps_setLc (i := 10) (own := [("room", 6)]) (by rfl) sc_law.nd rfl rfl (sw_true rfl rfl rfl (by decide +kernel)) (pi_range1 (by rfl) (T.free 23) (pa_cons (pv 3) pa_nil)) (blkOk_by (N := ["script", "dice", "many", "wide", "contracts", "k", "room", "term", "lists", "one", "orders", "seats", "deals", "taken", "own", "more", "wider", "other", "cut"]) (sc := defScope s_law) (by decide +kernel)) (fun _ _ _ _ _ => (pg_name (i := 6) sc_law.nd (by rfl) (by first | exact Or.inl rfl | exact Or.inr rfl))) (fun _ _ _ _ _ => pts_nil) (fun _ _ _ _ _ => (pcall (ok_law_drawn T) hr (by decide) (T.glo 31) passL (pa_cons (pv 1) (pa_cons (pe_lc (own := [("one", 9)]) (by rfl) sc_law.nd (pi_range1 (by rfl) (T.free 23) (pa_cons (pe_callB (Pu.call_lenK (K := K)) (by rfl) (T.free 3) PySem.boot_len (pa_cons (pv 4) pa_nil)) pa_nil)) (blkOk_by (N := ["script", "dice", "many", "wide", "contracts", "k", "room", "term", "lists", "one", "orders", "seats", "deals", "taken", "own", "more", "wider", "other", "cut"]) (by kernel_rfl)) (fun _ _ _ _ _ => (pg_name (i := 9) sc_law.nd (by rfl) (by first | exact Or.inl rfl | exact Or.inr rfl))) (fun _ _ _ _ _ => pts_one (pt_cmpR (Pu.op_eqDK (K := K) hr.units) (pe_ix (Pu.ix_tupK (K := K)) (pe_ix (Pu.ix_listK (K := K)) (pv 4) (pv 9) (fun _ _ => rfl)) pe_int (fun _ _ => rfl)) (pv 6) (nomark _))) (fun _ _ _ _ _ => (pv 9))) pa_nil))))), ?_⟩
  refine StE.as (T := ?T) ?h ?f
  case h => exact (Pu.st_set (p := false) (.s (.s (.s (.s (.s (.s (.s (.s (.s (.s (.z))))))))))) (Pu.freeze (c := (dTuN dInt)) (Pu.en_lc (q := false) (vs := [6]) (Γ0 := [.da (dScr K), .m .lo (mLst dInt), .da dInt, .da dInt, .da (dLst (dP3 dInt dInt dInt)), .no, .no, .no, .da (dLst (dTuN dInt)), .no, .no, .no, .no, .no, .no, .no, .no, .no, .no]) (Γ1 := [.da (dScr K), .m .lo (mLst dInt), .da dInt, .da dInt, .da (dLst (dP3 dInt dInt dInt)), .no, .da dInt, .no, .da (dLst (dTuN dInt)), .no, .no, .no, .no, .no, .no, .no, .no, .no, .no]) Hd.id (by rfl) (by decide) (Bk.drop Bk.id (.s (.s (.s (.s (.s (.s (.z)))))))) (Pu.ei_rng1 (Pu.ea_cons (Pu.ev_var (.s (.s (.s (.z))))) Pu.ea_nil)) (Pu.tg_name (.s (.s (.s (.s (.s (.s (.z)))))))) Pu.pts_et (Pu.ev_callM (k := .lo) (by decide) (.s (.z)) (Pu.ea_cons (Pu.freeze (c := dInt) (Pu.en_lc (q := false) (vs := [9]) (Γ0 := [.da (dScr K), .m .lo (mLst dInt), .da dInt, .da dInt, .da (dLst (dP3 dInt dInt dInt)), .no, .da dInt, .no, .da (dLst (dTuN dInt)), .no, .no, .no, .no, .no, .no, .no, .no, .no, .no]) (Γ1 := [.da (dScr K), .m .lo (mLst dInt), .da dInt, .da dInt, .da (dLst (dP3 dInt dInt dInt)), .no, .da dInt, .no, .da (dLst (dTuN dInt)), .da dInt, .no, .no, .no, .no, .no, .no, .no, .no, .no]) Hd.id (by rfl) (by decide) (Bk.drop Bk.id (.s (.s (.s (.s (.s (.s (.s (.s (.s (.z))))))))))) (Pu.ei_rng1 (Pu.ea_cons (Pu.ev_b1 Pu.o_lenL (Pu.ev_var (.s (.s (.s (.s (.z))))))) Pu.ea_nil)) (Pu.tg_name (.s (.s (.s (.s (.s (.s (.s (.s (.s (.z))))))))))) (Pu.et_test (Pu.ev_op (Pu.o_eq dqInt (by decide)) (Pu.ev_opP Pu.o_p31 (Pu.ev_opP Pu.o_ixL (Pu.ev_var (.s (.s (.s (.s (.z)))))) (Pu.ev_var (.s (.s (.s (.s (.s (.s (.s (.s (.s (.z)))))))))))) (Pu.ev_c (c := dInt) (x := 1) fun _ => rfl)) (Pu.ev_var (.s (.s (.s (.s (.s (.s (.z)))))))))) (Pu.ev_var (.s (.s (.s (.s (.s (.s (.s (.s (.s (.z))))))))))))) Pu.ea_nil)))))
  case f => kernel_rfl
theorem law_s4 (T : Tx fa fn K mg) {cdv : Value} {A : Around} {outer : List PySem.Env} {s : Shared} {H : Hp} {E : XK} (hr : Room 5 (A.deeper (envOfC "law" (defScope s_law) s.heap.objs.size (He.ga K "law") cdv))) :
    ∃ ts, PS (cxOf (L2.CX P w) P w K mg base ["script", "dice", "many", "wide", "contracts", "k", "room", "term", "lists", "one", "orders", "seats", "deals", "taken", "own", "more", "wider", "other", "cut"] "law" (defScope s_law) (He.ga K "law") cdv A outer s H E) ((forBody (defBody s_law) 0).getD 4 (.Pass ⟨0, 0, 0, 0⟩)) ts ∧ StE E (xcK K) (retD dBl) [.da (dScr K), .m .lo (mLst dInt), .da dInt, .da dInt, .da (dLst (dP3 dInt dInt dInt)), .no, .no, .no, .da (dLst (dTuN dInt)), .no, .da (dLst (dTuN dInt)), .no, .no, .no, .no, .no, .no, .no, .no] ts [.da (dScr K), .m .lo (mLst dInt), .da dInt, .da dInt, .da (dLst (dP3 dInt dInt dInt)), .no, .no, .no, .da (dLst (dTuN dInt)), .no, .da (dLst (dTuN dInt)), .da (dLst dInt), .no, .no, .no, .no, .no, .no, .no] [.da (dScr K), .m .lo (mLst dInt), .da dInt, .da dInt, .da (dLst (dP3 dInt dInt dInt)), .da dInt, .da dInt, .no, .da (dLst (dTuN dInt)), .no, .da (dLst (dTuN dInt)), .da (dLst dInt), .da (dI_Deals K), .da (dTup dInt), .da (dLst (dOpt dInt)), .da (dI_Deals K), .da (dTup dInt), .da (dI_Deals K), .no] (fun R nx rt bk ct ρ => m_law_s4 nx (fun x => rt x ()) ρ) := by
  refine ⟨_, (ps_set (i := 11) sc_law.nd (by rfl) (by first | exact Or.inl rfl | exact Or.inr rfl) (pe_lc (own := [("room", 6)]) (by rfl) sc_law.nd (pi_range1 (by rfl) (T.free 23) (pa_cons (pv 3) pa_nil)) (blkOk_by (N := ["script", "dice", "many", "wide", "contracts", "k", "room", "term", "lists", "one", "orders", "seats", "deals", "taken", "own", "more", "wider", "other", "cut"]) (sc := defScope s_law) (by decide +kernel)) (fun _ _ _ _ _ => (pg_name (i := 6) sc_law.nd (by rfl) (by first | exact Or.inl rfl | exact Or.inr rfl))) (fun _ _ _ _ _ => pts_nil) (fun _ _ _ _ _ => (pcall (ok_law_roll T) hr (by decide) (T.glo 5) passL (pa_cons (pv 1) (pa_cons pe_int pa_nil)))))), ?_⟩
  refine StE.as (T := ?T) ?h ?f
  case h => exact (Pu.st_set (p := false) (.s (.s (.s (.s (.s (.s (.s (.s (.s (.s (.s (.z)))))))))))) (Pu.freeze (c := dInt) (Pu.en_lc (q := false) (vs := [6]) (Γ0 := [.da (dScr K), .m .lo (mLst dInt), .da dInt, .da dInt, .da (dLst (dP3 dInt dInt dInt)), .no, .no, .no, .da (dLst (dTuN dInt)), .no, .da (dLst (dTuN dInt)), .no, .no, .no, .no, .no, .no, .no, .no]) (Γ1 := [.da (dScr K), .m .lo (mLst dInt), .da dInt, .da dInt, .da (dLst (dP3 dInt dInt dInt)), .no, .da dInt, .no, .da (dLst (dTuN dInt)), .no, .da (dLst (dTuN dInt)), .no, .no, .no, .no, .no, .no, .no, .no]) Hd.id (by rfl) (by decide) (Bk.drop Bk.id (.s (.s (.s (.s (.s (.s (.z)))))))) (Pu.ei_rng1 (Pu.ea_cons (Pu.ev_var (.s (.s (.s (.z))))) Pu.ea_nil)) (Pu.tg_name (.s (.s (.s (.s (.s (.s (.z)))))))) Pu.pts_et (Pu.ev_callM (k := .lo) (by decide) (.s (.z)) (Pu.ea_cons (Pu.ev_c (c := dInt) (x := 3) fun _ => rfl) Pu.ea_nil)))))
  case f => kernel_rfl
theorem law_s5 (T : Tx fa fn K mg) {cdv : Value} {A : Around} {outer : List PySem.Env} {s : Shared} {H : Hp} {E : XK} (hr : Room 5 (A.deeper (envOfC "law" (defScope s_law) s.heap.objs.size (He.ga K "law") cdv))) :
    ∃ ts, PS (cxOf (L2.CX P w) P w K mg base ["script", "dice", "many", "wide", "contracts", "k", "room", "term", "lists", "one", "orders", "seats", "deals", "taken", "own", "more", "wider", "other", "cut"] "law" (defScope s_law) (He.ga K "law") cdv A outer s H E) ((forBody (defBody s_law) 0).getD 5 (.Pass ⟨0, 0, 0, 0⟩)) ts ∧ StE E (xcK K) (retD dBl) [.da (dScr K), .m .lo (mLst dInt), .da dInt, .da dInt, .da (dLst (dP3 dInt dInt dInt)), .no, .no, .no, .da (dLst (dTuN dInt)), .no, .da (dLst (dTuN dInt)), .da (dLst dInt), .no, .no, .no, .no, .no, .no, .no] ts [.da (dScr K), .m .lo (mLst dInt), .da dInt, .da dInt, .da (dLst (dP3 dInt dInt dInt)), .no, .no, .no, .da (dLst (dTuN dInt)), .no, .da (dLst (dTuN dInt)), .da (dLst dInt), .da (dI_Deals K), .no, .no, .no, .no, .no, .no] [.da (dScr K), .m .lo (mLst dInt), .da dInt, .da dInt, .da (dLst (dP3 dInt dInt dInt)), .da dInt, .da dInt, .no, .da (dLst (dTuN dInt)), .no, .da (dLst (dTuN dInt)), .da (dLst dInt), .da (dI_Deals K), .da (dTup dInt), .da (dLst (dOpt dInt)), .da (dI_Deals K), .da (dTup dInt), .da (dI_Deals K), .no] (fun R nx rt bk ct ρ => m_law_s5 nx (fun x => rt x ()) ρ) := by
  refine ⟨_, (ps_set (i := 12) sc_law.nd (by rfl) (by first | exact Or.inl rfl | exact Or.inr rfl) (pmake (ok_Deals_init T) hr (by decide) (T.mkr 32) (T.glo 33) pxB (pa_cons (pv 4) (pa_cons (pv 8) (pa_cons (pv 10) (pa_cons (pv 11) pa_nil)))))), ?_⟩
  refine StE.as (T := ?T) ?h ?f
  case h => exact (Pu.st_set (p := false) (.s (.s (.s (.s (.s (.s (.s (.s (.s (.s (.s (.s (.z))))))))))))) (Pu.freezeO (fs := fs_Deals K) (Pu.en_make (Pu.ea_cons (Pu.ev_var (.s (.s (.s (.s (.z)))))) (Pu.ea_cons (Pu.ev_sb (Pu.sb_lstTun (c := dInt)) (Pu.ev_var (.s (.s (.s (.s (.s (.s (.s (.s (.z))))))))))) (Pu.ea_cons (Pu.ev_sb (Pu.sb_lstTun (c := dInt)) (Pu.ev_var (.s (.s (.s (.s (.s (.s (.s (.s (.s (.s (.z))))))))))))) (Pu.ea_cons (Pu.ev_var (.s (.s (.s (.s (.s (.s (.s (.s (.s (.s (.s (.z))))))))))))) Pu.ea_nil)))))))
  case f => kernel_rfl
theorem law_s6 (T : Tx fa fn K mg) {cdv : Value} {A : Around} {outer : List PySem.Env} {s : Shared} {H : Hp} {E : XK} (hr : Room 5 (A.deeper (envOfC "law" (defScope s_law) s.heap.objs.size (He.ga K "law") cdv))) :
    ∃ ts, PS (cxOf (L2.CX P w) P w K mg base ["script", "dice", "many", "wide", "contracts", "k", "room", "term", "lists", "one", "orders", "seats", "deals", "taken", "own", "more", "wider", "other", "cut"] "law" (defScope s_law) (He.ga K "law") cdv A outer s H E) ((forBody (defBody s_law) 0).getD 6 (.Pass ⟨0, 0, 0, 0⟩)) ts ∧ StE E (xcK K) (retD dBl) [.da (dScr K), .m .lo (mLst dInt), .da dInt, .da dInt, .da (dLst (dP3 dInt dInt dInt)), .no, .no, .no, .da (dLst (dTuN dInt)), .no, .da (dLst (dTuN dInt)), .da (dLst dInt), .da (dI_Deals K), .no, .no, .no, .no, .no, .no] ts [.da (dScr K), .m .lo (mLst dInt), .da dInt, .da dInt, .da (dLst (dP3 dInt dInt dInt)), .no, .no, .no, .da (dLst (dTuN dInt)), .no, .da (dLst (dTuN dInt)), .da (dLst dInt), .da (dI_Deals K), .da (dTup dInt), .no, .no, .no, .no, .no] [.da (dScr K), .m .lo (mLst dInt), .da dInt, .da dInt, .da (dLst (dP3 dInt dInt dInt)), .da dInt, .da dInt, .no, .da (dLst (dTuN dInt)), .no, .da (dLst (dTuN dInt)), .da (dLst dInt), .da (dI_Deals K), .da (dTup dInt), .da (dLst (dOpt dInt)), .da (dI_Deals K), .da (dTup dInt), .da (dI_Deals K), .no] (fun R nx rt bk ct ρ => m_law_s6 nx (fun x => rt x ()) ρ) := by
  refine ⟨_, (ps_set (i := 13) sc_law.nd (by rfl) (by first | exact Or.inl rfl | exact Or.inr rfl) (pmeth0 (ok_Deals_offers T) hr (by decide) (T.cls 13) (T.meth 34) pxB (pv 12))), ?_⟩
  refine StE.as (T := ?T) ?h ?f
  case h => exact (Pu.st_set (p := false) (.s (.s (.s (.s (.s (.s (.s (.s (.s (.s (.s (.s (.s (.z)))))))))))))) (Pu.ev_meth (nm := "offers") (names := nm_Deals) (by decide +kernel) (Pu.ev_var (.s (.s (.s (.s (.s (.s (.s (.s (.s (.s (.s (.s (.z)))))))))))))) Pu.ea_nil))
  case f => kernel_rfl
theorem law_s7 (T : Tx fa fn K mg) {cdv : Value} {A : Around} {outer : List PySem.Env} {s : Shared} {H : Hp} {E : XK} (hr : Room 5 (A.deeper (envOfC "law" (defScope s_law) s.heap.objs.size (He.ga K "law") cdv))) :
    ∃ ts, PS (cxOf (L2.CX P w) P w K mg base ["script", "dice", "many", "wide", "contracts", "k", "room", "term", "lists", "one", "orders", "seats", "deals", "taken", "own", "more", "wider", "other", "cut"] "law" (defScope s_law) (He.ga K "law") cdv A outer s H E) ((forBody (defBody s_law) 0).getD 7 (.Pass ⟨0, 0, 0, 0⟩)) ts ∧ StE E (xcK K) (retD dBl) [.da (dScr K), .m .lo (mLst dInt), .da dInt, .da dInt, .da (dLst (dP3 dInt dInt dInt)), .no, .no, .no, .da (dLst (dTuN dInt)), .no, .da (dLst (dTuN dInt)), .da (dLst dInt), .da (dI_Deals K), .da (dTup dInt), .no, .no, .no, .no, .no] ts [.da (dScr K), .m .lo (mLst dInt), .da dInt, .da dInt, .da (dLst (dP3 dInt dInt dInt)), .no, .no, .no, .da (dLst (dTuN dInt)), .no, .da (dLst (dTuN dInt)), .da (dLst dInt), .da (dI_Deals K), .da (dTup dInt), .da (dLst (dOpt dInt)), .no, .no, .no, .no] [.da (dScr K), .m .lo (mLst dInt), .da dInt, .da dInt, .da (dLst (dP3 dInt dInt dInt)), .da dInt, .da dInt, .no, .da (dLst (dTuN dInt)), .no, .da (dLst (dTuN dInt)), .da (dLst dInt), .da (dI_Deals K), .da (dTup dInt), .da (dLst (dOpt dInt)), .da (dI_Deals K), .da (dTup dInt), .da (dI_Deals K), .no] (fun R nx rt bk ct ρ => m_law_s7 nx (fun x => rt x ()) ρ) := by
  refine ⟨_, (ps_set (i := 14) sc_law.nd (by rfl) (by first | exact Or.inl rfl | exact Or.inr rfl) (pe_lc (own := [("k", 5)]) (by rfl) sc_law.nd (pi_range1 (by rfl) (T.free 23) (pa_cons (pv 2) pa_nil)) (blkOk_by (N := ["script", "dice", "many", "wide", "contracts", "k", "room", "term", "lists", "one", "orders", "seats", "deals", "taken", "own", "more", "wider", "other", "cut"]) (sc := defScope s_law) (by decide +kernel)) (fun _ _ _ _ _ => (pg_name (i := 5) sc_law.nd (by rfl) (by first | exact Or.inl rfl | exact Or.inr rfl))) (fun _ _ _ _ _ => pts_nil) (fun _ _ _ _ _ => (pmeth (ok_Deals_of_asker T) hr (by decide) (T.cls 13) (T.meth 27) passL (pv 12) (pa_cons (pv 13) (pa_cons (pv 5) pa_nil)))))), ?_⟩
  refine StE.as (T := ?T) ?h ?f
  case h => exact (Pu.st_set (p := false) (.s (.s (.s (.s (.s (.s (.s (.s (.s (.s (.s (.s (.s (.s (.z))))))))))))))) (Pu.freeze (c := (dOpt dInt)) (Pu.en_lc (q := false) (vs := [5]) (Γ0 := [.da (dScr K), .m .lo (mLst dInt), .da dInt, .da dInt, .da (dLst (dP3 dInt dInt dInt)), .no, .no, .no, .da (dLst (dTuN dInt)), .no, .da (dLst (dTuN dInt)), .da (dLst dInt), .da (dI_Deals K), .da (dTup dInt), .no, .no, .no, .no, .no]) (Γ1 := [.da (dScr K), .m .lo (mLst dInt), .da dInt, .da dInt, .da (dLst (dP3 dInt dInt dInt)), .da dInt, .no, .no, .da (dLst (dTuN dInt)), .no, .da (dLst (dTuN dInt)), .da (dLst dInt), .da (dI_Deals K), .da (dTup dInt), .no, .no, .no, .no, .no]) Hd.id (by rfl) (by decide) (Bk.drop Bk.id (.s (.s (.s (.s (.s (.z))))))) (Pu.ei_rng1 (Pu.ea_cons (Pu.ev_var (.s (.s (.z)))) Pu.ea_nil)) (Pu.tg_name (.s (.s (.s (.s (.s (.z))))))) Pu.pts_et (Pu.ev_meth (nm := "of_asker") (names := nm_Deals) (by decide +kernel) (Pu.ev_var (.s (.s (.s (.s (.s (.s (.s (.s (.s (.s (.s (.s (.z)))))))))))))) (Pu.ea_cons (Pu.ev_var (.s (.s (.s (.s (.s (.s (.s (.s (.s (.s (.s (.s (.s (.z))))))))))))))) (Pu.ea_cons (Pu.ev_var (.s (.s (.s (.s (.s (.z))))))) Pu.ea_nil))))))
  case f => kernel_rfl
theorem law_s8 (T : Tx fa fn K mg) {cdv : Value} {A : Around} {outer : List PySem.Env} {s : Shared} {H : Hp} {E : XK} (hr : Room 5 (A.deeper (envOfC "law" (defScope s_law) s.heap.objs.size (He.ga K "law") cdv))) :
    ∃ ts, PS (cxOf (L2.CX P w) P w K mg base ["script", "dice", "many", "wide", "contracts", "k", "room", "term", "lists", "one", "orders", "seats", "deals", "taken", "own", "more", "wider", "other", "cut"] "law" (defScope s_law) (He.ga K "law") cdv A outer s H E) ((forBody (defBody s_law) 0).getD 8 (.Pass ⟨0, 0, 0, 0⟩)) ts ∧ StE E (xcK K) (retD dBl) [.da (dScr K), .m .lo (mLst dInt), .da dInt, .da dInt, .da (dLst (dP3 dInt dInt dInt)), .no, .no, .no, .da (dLst (dTuN dInt)), .no, .da (dLst (dTuN dInt)), .da (dLst dInt), .da (dI_Deals K), .da (dTup dInt), .da (dLst (dOpt dInt)), .no, .no, .no, .no] ts [.da (dScr K), .m .lo (mLst dInt), .da dInt, .da dInt, .da (dLst (dP3 dInt dInt dInt)), .no, .da dInt, .no, .da (dLst (dTuN dInt)), .no, .da (dLst (dTuN dInt)), .da (dLst dInt), .da (dI_Deals K), .da (dTup dInt), .da (dLst (dOpt dInt)), .no, .no, .no, .no] [.da (dScr K), .m .lo (mLst dInt), .da dInt, .da dInt, .da (dLst (dP3 dInt dInt dInt)), .da dInt, .da dInt, .no, .da (dLst (dTuN dInt)), .no, .da (dLst (dTuN dInt)), .da (dLst dInt), .da (dI_Deals K), .da (dTup dInt), .da (dLst (dOpt dInt)), .da (dI_Deals K), .da (dTup dInt), .da (dI_Deals K), .no] (fun R nx rt bk ct ρ => m_law_s8 nx (fun x => rt x ()) ρ) := by
  refine ⟨_, (ps_set (i := 6) sc_law.nd (by rfl) (by first | exact Or.inl rfl | exact Or.inr rfl) (pcall (ok_law_roll T) hr (by decide) (T.glo 5) pxB (pa_cons (pv 1) (pa_cons (pv 3) pa_nil)))), ?_⟩
  refine StE.as (T := ?T) ?h ?f
  case h => exact (Pu.st_set (p := false) (.s (.s (.s (.s (.s (.s (.z))))))) (Pu.ev_callM (k := .lo) (by decide) (.s (.z)) (Pu.ea_cons (Pu.ev_var (.s (.s (.s (.z))))) Pu.ea_nil)))
  case f => kernel_rfl
theorem law_s9 (T : Tx fa fn K mg) {cdv : Value} {A : Around} {outer : List PySem.Env} {s : Shared} {H : Hp} {E : XK} (hr : Room 5 (A.deeper (envOfC "law" (defScope s_law) s.heap.objs.size (He.ga K "law") cdv))) :
    ∃ ts, PS (cxOf (L2.CX P w) P w K mg base ["script", "dice", "many", "wide", "contracts", "k", "room", "term", "lists", "one", "orders", "seats", "deals", "taken", "own", "more", "wider", "other", "cut"] "law" (defScope s_law) (He.ga K "law") cdv A outer s H E) ((forBody (defBody s_law) 0).getD 9 (.Pass ⟨0, 0, 0, 0⟩)) ts ∧ StE E (xcK K) (retD dBl) [.da (dScr K), .m .lo (mLst dInt), .da dInt, .da dInt, .da (dLst (dP3 dInt dInt dInt)), .no, .da dInt, .no, .da (dLst (dTuN dInt)), .no, .da (dLst (dTuN dInt)), .da (dLst dInt), .da (dI_Deals K), .da (dTup dInt), .da (dLst (dOpt dInt)), .no, .no, .no, .no] ts [.da (dScr K), .m .lo (mLst dInt), .da dInt, .da dInt, .da (dLst (dP3 dInt dInt dInt)), .no, .da dInt, .no, .da (dLst (dTuN dInt)), .no, .da (dLst (dTuN dInt)), .da (dLst dInt), .da (dI_Deals K), .da (dTup dInt), .da (dLst (dOpt dInt)), .da (dI_Deals K), .no, .no, .no] [.da (dScr K), .m .lo (mLst dInt), .da dInt, .da dInt, .da (dLst (dP3 dInt dInt dInt)), .da dInt, .da dInt, .no, .da (dLst (dTuN dInt)), .no, .da (dLst (dTuN dInt)), .da (dLst dInt), .da (dI_Deals K), .da (dTup dInt), .da (dLst (dOpt dInt)), .da (dI_Deals K), .da (dTup dInt), .da (dI_Deals K), .no] (fun R nx rt bk ct ρ => m_law_s9 nx (fun x => rt x ()) ρ) := by
  refine ⟨_, (ps_set (i := 15) sc_law.nd (by rfl) (by first | exact Or.inl rfl | exact Or.inr rfl) (pmake (ok_Deals_init T) hr (by decide) (T.mkr 32) (T.glo 33) pxB (pa_cons (pv 4) (pa_cons (pv 8) (pa_cons (pv 10) (pa_cons (pe_lc (own := [("k", 5)]) (by rfl) sc_law.nd (pi_range1 (by rfl) (T.free 23) (pa_cons (pv 3) pa_nil)) (blkOk_by (N := ["script", "dice", "many", "wide", "contracts", "k", "room", "term", "lists", "one", "orders", "seats", "deals", "taken", "own", "more", "wider", "other", "cut"]) (sc := defScope s_law) (by decide +kernel)) (fun _ _ _ _ _ => (pg_name (i := 5) sc_law.nd (by rfl) (by first | exact Or.inl rfl | exact Or.inr rfl))) (fun _ _ _ _ _ => pts_nil) (fun _ _ _ _ _ => (pe_op op_add (pe_ix (Pu.ix_listK (K := K)) (pv 11) (pv 5) (fun _ _ => rfl)) (pe_callTy call_int1 (by rfl) (T.free 1) (by decide +kernel) (pa_cons (pe_cmpR (Pu.op_eqDK (K := K) hr.units) (pv 5) (pv 6) (nomark _)) pa_nil))))) pa_nil)))))), ?_⟩
  refine StE.as (T := ?T) ?h ?f
  case h => exact (Pu.st_set (p := false) (.s (.s (.s (.s (.s (.s (.s (.s (.s (.s (.s (.s (.s (.s (.s (.z)))))))))))))))) (Pu.freezeO (fs := fs_Deals K) (Pu.en_make (Pu.ea_cons (Pu.ev_var (.s (.s (.s (.s (.z)))))) (Pu.ea_cons (Pu.ev_sb (Pu.sb_lstTun (c := dInt)) (Pu.ev_var (.s (.s (.s (.s (.s (.s (.s (.s (.z))))))))))) (Pu.ea_cons (Pu.ev_sb (Pu.sb_lstTun (c := dInt)) (Pu.ev_var (.s (.s (.s (.s (.s (.s (.s (.s (.s (.s (.z))))))))))))) (Pu.ea_cons (Pu.freeze (c := dInt) (Pu.en_lc (q := false) (vs := [5]) (Γ0 := [.da (dScr K), .m .lo (mLst dInt), .da dInt, .da dInt, .da (dLst (dP3 dInt dInt dInt)), .no, .da dInt, .no, .da (dLst (dTuN dInt)), .no, .da (dLst (dTuN dInt)), .da (dLst dInt), .da (dI_Deals K), .da (dTup dInt), .da (dLst (dOpt dInt)), .no, .no, .no, .no]) (Γ1 := [.da (dScr K), .m .lo (mLst dInt), .da dInt, .da dInt, .da (dLst (dP3 dInt dInt dInt)), .da dInt, .da dInt, .no, .da (dLst (dTuN dInt)), .no, .da (dLst (dTuN dInt)), .da (dLst dInt), .da (dI_Deals K), .da (dTup dInt), .da (dLst (dOpt dInt)), .no, .no, .no, .no]) Hd.id (by rfl) (by decide) (Bk.drop Bk.id (.s (.s (.s (.s (.s (.z))))))) (Pu.ei_rng1 (Pu.ea_cons (Pu.ev_var (.s (.s (.s (.z))))) Pu.ea_nil)) (Pu.tg_name (.s (.s (.s (.s (.s (.z))))))) Pu.pts_et (Pu.ev_op Pu.o_int (Pu.ev_opP Pu.o_ixL (Pu.ev_var (.s (.s (.s (.s (.s (.s (.s (.s (.s (.s (.s (.z))))))))))))) (Pu.ev_var (.s (.s (.s (.s (.s (.z)))))))) (Pu.ev_b1 Pu.o_intB (Pu.ev_op (Pu.o_eq dqInt (by decide)) (Pu.ev_var (.s (.s (.s (.s (.s (.z))))))) (Pu.ev_var (.s (.s (.s (.s (.s (.s (.z))))))))))))) Pu.ea_nil)))))))
  case f => kernel_rfl
theorem law_s10 (T : Tx fa fn K mg) {cdv : Value} {A : Around} {outer : List PySem.Env} {s : Shared} {H : Hp} {E : XK} (hr : Room 5 (A.deeper (envOfC "law" (defScope s_law) s.heap.objs.size (He.ga K "law") cdv))) :
    ∃ ts, PS (cxOf (L2.CX P w) P w K mg base ["script", "dice", "many", "wide", "contracts", "k", "room", "term", "lists", "one", "orders", "seats", "deals", "taken", "own", "more", "wider", "other", "cut"] "law" (defScope s_law) (He.ga K "law") cdv A outer s H E) ((forBody (defBody s_law) 0).getD 10 (.Pass ⟨0, 0, 0, 0⟩)) ts ∧ StE E (xcK K) (retD dBl) [.da (dScr K), .m .lo (mLst dInt), .da dInt, .da dInt, .da (dLst (dP3 dInt dInt dInt)), .no, .da dInt, .no, .da (dLst (dTuN dInt)), .no, .da (dLst (dTuN dInt)), .da (dLst dInt), .da (dI_Deals K), .da (dTup dInt), .da (dLst (dOpt dInt)), .da (dI_Deals K), .no, .no, .no] ts [.da (dScr K), .m .lo (mLst dInt), .da dInt, .da dInt, .da (dLst (dP3 dInt dInt dInt)), .no, .da dInt, .no, .da (dLst (dTuN dInt)), .no, .da (dLst (dTuN dInt)), .da (dLst dInt), .da (dI_Deals K), .da (dTup dInt), .da (dLst (dOpt dInt)), .da (dI_Deals K), .da (dTup dInt), .no, .no] [.da (dScr K), .m .lo (mLst dInt), .da dInt, .da dInt, .da (dLst (dP3 dInt dInt dInt)), .da dInt, .da dInt, .no, .da (dLst (dTuN dInt)), .no, .da (dLst (dTuN dInt)), .da (dLst dInt), .da (dI_Deals K), .da (dTup dInt), .da (dLst (dOpt dInt)), .da (dI_Deals K), .da (dTup dInt), .da (dI_Deals K), .no] (fun R nx rt bk ct ρ => m_law_s10 nx (fun x => rt x ()) ρ) := by
  refine ⟨_, (ps_set (i := 16) sc_law.nd (by rfl) (by first | exact Or.inl rfl | exact Or.inr rfl) (pmeth0 (ok_Deals_offers T) hr (by decide) (T.cls 13) (T.meth 34) pxB (pv 15))), ?_⟩
  refine StE.as (T := ?T) ?h ?f
  case h => exact (Pu.st_set (p := false) (.s (.s (.s (.s (.s (.s (.s (.s (.s (.s (.s (.s (.s (.s (.s (.s (.z))))))))))))))))) (Pu.ev_meth (nm := "offers") (names := nm_Deals) (by decide +kernel) (Pu.ev_var (.s (.s (.s (.s (.s (.s (.s (.s (.s (.s (.s (.s (.s (.s (.s (.z))))))))))))))))) Pu.ea_nil))
  case f => kernel_rfl
theorem law_s11 (T : Tx fa fn K mg) {cdv : Value} {A : Around} {outer : List PySem.Env} {s : Shared} {H : Hp} {E : XK} (hr : Room 5 (A.deeper (envOfC "law" (defScope s_law) s.heap.objs.size (He.ga K "law") cdv))) :
    ∃ ts, PS (cxOf (L2.CX P w) P w K mg base ["script", "dice", "many", "wide", "contracts", "k", "room", "term", "lists", "one", "orders", "seats", "deals", "taken", "own", "more", "wider", "other", "cut"] "law" (defScope s_law) (He.ga K "law") cdv A outer s H E) ((forBody (defBody s_law) 0).getD 11 (.Pass ⟨0, 0, 0, 0⟩)) ts ∧ StE E (xcK K) (retD dBl) [.da (dScr K), .m .lo (mLst dInt), .da dInt, .da dInt, .da (dLst (dP3 dInt dInt dInt)), .no, .da dInt, .no, .da (dLst (dTuN dInt)), .no, .da (dLst (dTuN dInt)), .da (dLst dInt), .da (dI_Deals K), .da (dTup dInt), .da (dLst (dOpt dInt)), .da (dI_Deals K), .da (dTup dInt), .no, .no] ts [.da (dScr K), .m .lo (mLst dInt), .da dInt, .da dInt, .da (dLst (dP3 dInt dInt dInt)), .no, .da dInt, .no, .da (dLst (dTuN dInt)), .no, .da (dLst (dTuN dInt)), .da (dLst dInt), .da (dI_Deals K), .da (dTup dInt), .da (dLst (dOpt dInt)), .da (dI_Deals K), .da (dTup dInt), .no, .no] [.da (dScr K), .m .lo (mLst dInt), .da dInt, .da dInt, .da (dLst (dP3 dInt dInt dInt)), .da dInt, .da dInt, .no, .da (dLst (dTuN dInt)), .no, .da (dLst (dTuN dInt)), .da (dLst dInt), .da (dI_Deals K), .da (dTup dInt), .da (dLst (dOpt dInt)), .da (dI_Deals K), .da (dTup dInt), .da (dI_Deals K), .no] (fun R nx rt bk ct ρ => m_law_s11 nx (fun x => rt x ()) ρ) := by
  refine ⟨_, (ps_if (pt_cmpR (Pu.op_neDK (K := K) hr.units) (pe_lc (own := [("k", 5)]) (by rfl) sc_law.nd (pi_range1 (by rfl) (T.free 23) (pa_cons (pv 2) pa_nil)) (blkOk_by (N := ["script", "dice", "many", "wide", "contracts", "k", "room", "term", "lists", "one", "orders", "seats", "deals", "taken", "own", "more", "wider", "other", "cut"]) (sc := defScope s_law) (by decide +kernel)) (fun _ _ _ _ _ => (pg_name (i := 5) sc_law.nd (by rfl) (by first | exact Or.inl rfl | exact Or.inr rfl))) (fun _ _ _ _ _ => pts_one (pt_cmpR op_gt (pcall (ok_law_place T) hr (by decide) (T.glo 35) passL (pa_cons (pe_ix (Pu.ix_listK (K := K)) (pv 8) (pv 5) (fun _ _ => rfl)) (pa_cons (pmeth (ok_Deals_of_asker T) hr (by decide) (T.cls 13) (T.meth 27) passL (pv 15) (pa_cons (pv 16) (pa_cons (pv 5) pa_nil))) pa_nil))) (pcall (ok_law_place T) hr (by decide) (T.glo 35) passL (pa_cons (pe_ix (Pu.ix_listK (K := K)) (pv 8) (pv 5) (fun _ _ => rfl)) (pa_cons (pe_ix (Pu.ix_listK (K := K)) (pv 14) (pv 5) (fun _ _ => rfl)) pa_nil))) (nomark _))) (fun _ _ _ _ _ => (pv 5))) (pe_lst pa_nil) (nomark _)) (pss_one (ps_ret pe_bl)) pss_nil), ?_⟩
  refine StE.as (T := ?T) ?h ?f
  case h => exact (Pu.st_if (p := false) (Pu.et_test (Pu.ev_op (Pu.o_ne (dqLst dqInt) (by decide)) (Pu.freeze (c := dInt) (Pu.en_lc (q := false) (vs := [5]) (Γ0 := [.da (dScr K), .m .lo (mLst dInt), .da dInt, .da dInt, .da (dLst (dP3 dInt dInt dInt)), .no, .da dInt, .no, .da (dLst (dTuN dInt)), .no, .da (dLst (dTuN dInt)), .da (dLst dInt), .da (dI_Deals K), .da (dTup dInt), .da (dLst (dOpt dInt)), .da (dI_Deals K), .da (dTup dInt), .no, .no]) (Γ1 := [.da (dScr K), .m .lo (mLst dInt), .da dInt, .da dInt, .da (dLst (dP3 dInt dInt dInt)), .da dInt, .da dInt, .no, .da (dLst (dTuN dInt)), .no, .da (dLst (dTuN dInt)), .da (dLst dInt), .da (dI_Deals K), .da (dTup dInt), .da (dLst (dOpt dInt)), .da (dI_Deals K), .da (dTup dInt), .no, .no]) Hd.id (by rfl) (by decide) (Bk.drop Bk.id (.s (.s (.s (.s (.s (.z))))))) (Pu.ei_rng1 (Pu.ea_cons (Pu.ev_var (.s (.s (.z)))) Pu.ea_nil)) (Pu.tg_name (.s (.s (.s (.s (.s (.z))))))) (Pu.et_test (Pu.ev_op Pu.o_cmp (Pu.ev_call (Pu.ea_cons (Pu.ev_opP Pu.o_ixL (Pu.ev_var (.s (.s (.s (.s (.s (.s (.s (.s (.z)))))))))) (Pu.ev_var (.s (.s (.s (.s (.s (.z)))))))) (Pu.ea_cons (Pu.ev_meth (nm := "of_asker") (names := nm_Deals) (by decide +kernel) (Pu.ev_var (.s (.s (.s (.s (.s (.s (.s (.s (.s (.s (.s (.s (.s (.s (.s (.z))))))))))))))))) (Pu.ea_cons (Pu.ev_var (.s (.s (.s (.s (.s (.s (.s (.s (.s (.s (.s (.s (.s (.s (.s (.s (.z)))))))))))))))))) (Pu.ea_cons (Pu.ev_var (.s (.s (.s (.s (.s (.z))))))) Pu.ea_nil))) Pu.ea_nil))) (Pu.ev_call (Pu.ea_cons (Pu.ev_opP Pu.o_ixL (Pu.ev_var (.s (.s (.s (.s (.s (.s (.s (.s (.z)))))))))) (Pu.ev_var (.s (.s (.s (.s (.s (.z)))))))) (Pu.ea_cons (Pu.ev_opP Pu.o_ixL (Pu.ev_var (.s (.s (.s (.s (.s (.s (.s (.s (.s (.s (.s (.s (.s (.s (.z)))))))))))))))) (Pu.ev_var (.s (.s (.s (.s (.s (.z)))))))) Pu.ea_nil))))) (Pu.ev_var (.s (.s (.s (.s (.s (.z))))))))) (Pu.freeze Pu.en_nil))) (Pu.st_ret (p := false) prD (Pu.ev_c (c := dBl) (x := false) fun _ => rfl)) Pu.st_next)
  case f => kernel_rfl
theorem law_s12 (T : Tx fa fn K mg) {cdv : Value} {A : Around} {outer : List PySem.Env} {s : Shared} {H : Hp} {E : XK} (hr : Room 5 (A.deeper (envOfC "law" (defScope s_law) s.heap.objs.size (He.ga K "law") cdv))) :
    ∃ ts, PS (cxOf (L2.CX P w) P w K mg base ["script", "dice", "many", "wide", "contracts", "k", "room", "term", "lists", "one", "orders", "seats", "deals", "taken", "own", "more", "wider", "other", "cut"] "law" (defScope s_law) (He.ga K "law") cdv A outer s H E) ((forBody (defBody s_law) 0).getD 12 (.Pass ⟨0, 0, 0, 0⟩)) ts ∧ StE E (xcK K) (retD dBl) [.da (dScr K), .m .lo (mLst dInt), .da dInt, .da dInt, .da (dLst (dP3 dInt dInt dInt)), .no, .da dInt, .no, .da (dLst (dTuN dInt)), .no, .da (dLst (dTuN dInt)), .da (dLst dInt), .da (dI_Deals K), .da (dTup dInt), .da (dLst (dOpt dInt)), .da (dI_Deals K), .da (dTup dInt), .no, .no] ts [.da (dScr K), .m .lo (mLst dInt), .da dInt, .da dInt, .da (dLst (dP3 dInt dInt dInt)), .no, .da dInt, .no, .da (dLst (dTuN dInt)), .no, .da (dLst (dTuN dInt)), .da (dLst dInt), .da (dI_Deals K), .da (dTup dInt), .da (dLst (dOpt dInt)), .da (dI_Deals K), .da (dTup dInt), .da (dI_Deals K), .no] [.da (dScr K), .m .lo (mLst dInt), .da dInt, .da dInt, .da (dLst (dP3 dInt dInt dInt)), .da dInt, .da dInt, .no, .da (dLst (dTuN dInt)), .no, .da (dLst (dTuN dInt)), .da (dLst dInt), .da (dI_Deals K), .da (dTup dInt), .da (dLst (dOpt dInt)), .da (dI_Deals K), .da (dTup dInt), .da (dI_Deals K), .no] (fun R nx rt bk ct ρ => m_law_s12 nx (fun x => rt x ()) ρ) := by
  refine ⟨_, (ps_set (i := 17) sc_law.nd (by rfl) (by first | exact Or.inl rfl | exact Or.inr rfl) (pmake (ok_Deals_init T) hr (by decide) (T.mkr 32) (T.glo 33) pxB (pa_cons (pe_op op_cat (pv 4) (pe_lst (pa_cons (pe_tup (pa_cons pe_int (pa_cons pe_int (pa_cons pe_int pa_nil)))) pa_nil))) (pa_cons (pv 8) (pa_cons (pv 10) (pa_cons (pv 11) pa_nil)))))), ?_⟩
  refine StE.as (T := ?T) ?h ?f
  case h => exact (Pu.st_set (p := false) (.s (.s (.s (.s (.s (.s (.s (.s (.s (.s (.s (.s (.s (.s (.s (.s (.s (.z)))))))))))))))))) (Pu.freezeO (fs := fs_Deals K) (Pu.en_make (Pu.ea_cons (Pu.freeze (c := (dP3 dInt dInt dInt)) (Pu.en_cat (Pu.ev_var (.s (.s (.s (.s (.z)))))) (Pu.freeze (c := (dP3 dInt dInt dInt)) (Pu.en_lst (c := (dP3 dInt dInt dInt)) 1 (by decide) (Pu.ea_cons (Pu.ev_p3 (Pu.ea_cons (Pu.ev_c (c := dInt) (x := 0) fun _ => rfl) (Pu.ea_cons (Pu.ev_c (c := dInt) (x := 0) fun _ => rfl) (Pu.ea_cons (Pu.ev_c (c := dInt) (x := 7) fun _ => rfl) Pu.ea_nil)))) Pu.ea_nil))))) (Pu.ea_cons (Pu.ev_sb (Pu.sb_lstTun (c := dInt)) (Pu.ev_var (.s (.s (.s (.s (.s (.s (.s (.s (.z))))))))))) (Pu.ea_cons (Pu.ev_sb (Pu.sb_lstTun (c := dInt)) (Pu.ev_var (.s (.s (.s (.s (.s (.s (.s (.s (.s (.s (.z))))))))))))) (Pu.ea_cons (Pu.ev_var (.s (.s (.s (.s (.s (.s (.s (.s (.s (.s (.s (.z))))))))))))) Pu.ea_nil)))))))
  case f => kernel_rfl
theorem law_s13 (T : Tx fa fn K mg) {cdv : Value} {A : Around} {outer : List PySem.Env} {s : Shared} {H : Hp} {E : XK} (hr : Room 5 (A.deeper (envOfC "law" (defScope s_law) s.heap.objs.size (He.ga K "law") cdv))) :
    ∃ ts, PS (cxOf (L2.CX P w) P w K mg base ["script", "dice", "many", "wide", "contracts", "k", "room", "term", "lists", "one", "orders", "seats", "deals", "taken", "own", "more", "wider", "other", "cut"] "law" (defScope s_law) (He.ga K "law") cdv A outer s H E) ((forBody (defBody s_law) 0).getD 13 (.Pass ⟨0, 0, 0, 0⟩)) ts ∧ StE E (xcK K) (retD dBl) [.da (dScr K), .m .lo (mLst dInt), .da dInt, .da dInt, .da (dLst (dP3 dInt dInt dInt)), .no, .da dInt, .no, .da (dLst (dTuN dInt)), .no, .da (dLst (dTuN dInt)), .da (dLst dInt), .da (dI_Deals K), .da (dTup dInt), .da (dLst (dOpt dInt)), .da (dI_Deals K), .da (dTup dInt), .da (dI_Deals K), .no] ts [.da (dScr K), .m .lo (mLst dInt), .da dInt, .da dInt, .da (dLst (dP3 dInt dInt dInt)), .no, .da dInt, .no, .da (dLst (dTuN dInt)), .no, .da (dLst (dTuN dInt)), .da (dLst dInt), .da (dI_Deals K), .da (dTup dInt), .da (dLst (dOpt dInt)), .da (dI_Deals K), .da (dTup dInt), .da (dI_Deals K), .no] [.da (dScr K), .m .lo (mLst dInt), .da dInt, .da dInt, .da (dLst (dP3 dInt dInt dInt)), .da dInt, .da dInt, .no, .da (dLst (dTuN dInt)), .no, .da (dLst (dTuN dInt)), .da (dLst dInt), .da (dI_Deals K), .da (dTup dInt), .da (dLst (dOpt dInt)), .da (dI_Deals K), .da (dTup dInt), .da (dI_Deals K), .no] (fun R nx rt bk ct ρ => m_law_s13 nx (fun x => rt x ()) ρ) := by
  refine ⟨_, (ps_if (PW.pt (pw_or (pt_cmpR (Pu.op_neDK (K := K) hr.units) (pmeth0 (ok_Deals_offers T) hr (by decide) (T.cls 13) (T.meth 34) pxB (pv 17)) (pv 13) (nomark _)) (pw_or1 (pt_cmpR (Pu.op_neDK (K := K) hr.units) (pcall (ok_as_match T) hr (by decide) (T.glo 36) pxB (pa_cons (pv 17) (pa_cons (pv 13) pa_nil))) (pcall (ok_as_match T) hr (by decide) (T.glo 36) pxB (pa_cons (pv 12) (pa_cons (pv 13) pa_nil))) (nomark _))))) (pss_one (ps_ret pe_bl)) pss_nil), ?_⟩
  refine StE.as (T := ?T) ?h ?f
  case h => exact (Pu.st_if (p := false) (Pu.et_or (Pu.et_test (Pu.ev_op (Pu.o_ne (dqTup dqInt) (by decide)) (Pu.ev_meth (nm := "offers") (names := nm_Deals) (by decide +kernel) (Pu.ev_var (.s (.s (.s (.s (.s (.s (.s (.s (.s (.s (.s (.s (.s (.s (.s (.s (.s (.z))))))))))))))))))) Pu.ea_nil) (Pu.ev_var (.s (.s (.s (.s (.s (.s (.s (.s (.s (.s (.s (.s (.s (.z))))))))))))))))) (Pu.et_test (Pu.ev_op (Pu.o_ne (dqTup dqOI) (by decide)) (Pu.ev_sb (Pu.sb_tun (c := (dOpt dInt))) (Pu.ev_call (Pu.ea_cons (Pu.ev_var (.s (.s (.s (.s (.s (.s (.s (.s (.s (.s (.s (.s (.s (.s (.s (.s (.s (.z))))))))))))))))))) (Pu.ea_cons (Pu.ev_var (.s (.s (.s (.s (.s (.s (.s (.s (.s (.s (.s (.s (.s (.z))))))))))))))) Pu.ea_nil)))) (Pu.ev_sb (Pu.sb_tun (c := (dOpt dInt))) (Pu.ev_call (Pu.ea_cons (Pu.ev_var (.s (.s (.s (.s (.s (.s (.s (.s (.s (.s (.s (.s (.z)))))))))))))) (Pu.ea_cons (Pu.ev_var (.s (.s (.s (.s (.s (.s (.s (.s (.s (.s (.s (.s (.s (.z))))))))))))))) Pu.ea_nil))))))) (Pu.st_ret (p := false) prD (Pu.ev_c (c := dBl) (x := false) fun _ => rfl)) Pu.st_next)
  case f => kernel_rfl
theorem law_s14 (T : Tx fa fn K mg) {cdv : Value} {A : Around} {outer : List PySem.Env} {s : Shared} {H : Hp} {E : XK} (hr : Room 5 (A.deeper (envOfC "law" (defScope s_law) s.heap.objs.size (He.ga K "law") cdv))) :
    ∃ ts, PS (cxOf (L2.CX P w) P w K mg base ["script", "dice", "many", "wide", "contracts", "k", "room", "term", "lists", "one", "orders", "seats", "deals", "taken", "own", "more", "wider", "other", "cut"] "law" (defScope s_law) (He.ga K "law") cdv A outer s H E) ((forBody (defBody s_law) 0).getD 14 (.Pass ⟨0, 0, 0, 0⟩)) ts ∧ StE E (xcK K) (retD dBl) [.da (dScr K), .m .lo (mLst dInt), .da dInt, .da dInt, .da (dLst (dP3 dInt dInt dInt)), .no, .da dInt, .no, .da (dLst (dTuN dInt)), .no, .da (dLst (dTuN dInt)), .da (dLst dInt), .da (dI_Deals K), .da (dTup dInt), .da (dLst (dOpt dInt)), .da (dI_Deals K), .da (dTup dInt), .da (dI_Deals K), .no] ts [.da (dScr K), .m .lo (mLst dInt), .da dInt, .da dInt, .da (dLst (dP3 dInt dInt dInt)), .da dInt, .da dInt, .no, .da (dLst (dTuN dInt)), .no, .da (dLst (dTuN dInt)), .da (dLst dInt), .da (dI_Deals K), .da (dTup dInt), .da (dLst (dOpt dInt)), .da (dI_Deals K), .da (dTup dInt), .da (dI_Deals K), .no] [.da (dScr K), .m .lo (mLst dInt), .da dInt, .da dInt, .da (dLst (dP3 dInt dInt dInt)), .da dInt, .da dInt, .no, .da (dLst (dTuN dInt)), .no, .da (dLst (dTuN dInt)), .da (dLst dInt), .da (dI_Deals K), .da (dTup dInt), .da (dLst (dOpt dInt)), .da (dI_Deals K), .da (dTup dInt), .da (dI_Deals K), .no] (fun R nx rt bk ct ρ => m_law_s14 nx (fun x => rt x ()) ρ) := by
  refine ⟨_, (ps_set (i := 5) sc_law.nd (by rfl) (by first | exact Or.inl rfl | exact Or.inr rfl) (pcall (ok_law_roll T) hr (by decide) (T.glo 5) pxB (pa_cons (pv 1) (pa_cons (pv 2) pa_nil)))), ?_⟩
  refine StE.as (T := ?T) ?h ?f
  case h => exact (Pu.st_set (p := false) (.s (.s (.s (.s (.s (.z)))))) (Pu.ev_callM (k := .lo) (by decide) (.s (.z)) (Pu.ea_cons (Pu.ev_var (.s (.s (.z)))) Pu.ea_nil)))
  case f => kernel_rfl
theorem law_s15 (T : Tx fa fn K mg) {cdv : Value} {A : Around} {outer : List PySem.Env} {s : Shared} {H : Hp} {E : XK} (hr : Room 5 (A.deeper (envOfC "law" (defScope s_law) s.heap.objs.size (He.ga K "law") cdv))) :
    ∃ ts, PS (cxOf (L2.CX P w) P w K mg base ["script", "dice", "many", "wide", "contracts", "k", "room", "term", "lists", "one", "orders", "seats", "deals", "taken", "own", "more", "wider", "other", "cut"] "law" (defScope s_law) (He.ga K "law") cdv A outer s H E) ((forBody (defBody s_law) 0).getD 15 (.Pass ⟨0, 0, 0, 0⟩)) ts ∧ StE E (xcK K) (retD dBl) [.da (dScr K), .m .lo (mLst dInt), .da dInt, .da dInt, .da (dLst (dP3 dInt dInt dInt)), .da dInt, .da dInt, .no, .da (dLst (dTuN dInt)), .no, .da (dLst (dTuN dInt)), .da (dLst dInt), .da (dI_Deals K), .da (dTup dInt), .da (dLst (dOpt dInt)), .da (dI_Deals K), .da (dTup dInt), .da (dI_Deals K), .no] ts [.da (dScr K), .m .lo (mLst dInt), .da dInt, .da dInt, .da (dLst (dP3 dInt dInt dInt)), .da dInt, .da dInt, .no, .da (dLst (dTuN dInt)), .no, .da (dLst (dTuN dInt)), .da (dLst dInt), .da (dI_Deals K), .da (dTup dInt), .da (dLst (dOpt dInt)), .da (dI_Deals K), .da (dTup dInt), .da (dI_Deals K), .no] [.da (dScr K), .m .lo (mLst dInt), .da dInt, .da dInt, .da (dLst (dP3 dInt dInt dInt)), .da dInt, .da dInt, .no, .da (dLst (dTuN dInt)), .no, .da (dLst (dTuN dInt)), .da (dLst dInt), .da (dI_Deals K), .da (dTup dInt), .da (dLst (dOpt dInt)), .da (dI_Deals K), .da (dTup dInt), .da (dI_Deals K), .no] (fun R nx rt bk ct ρ => m_law_s15 nx (fun x => rt x ()) ρ) := by
  refine ⟨_, (ps_if (pt_cmpR op_notN (pe_ix (Pu.ix_listK (K := K)) (pv 14) (pv 5) (fun _ _ => rfl)) pe_non (nomark _)) (pss_cons (ps_set (i := 18) sc_law.nd (by rfl) (by first | exact Or.inl rfl | exact Or.inr rfl) (pe_op op_cat (pe_op op_cat (pe_slice (Pu.sl_listK (K := K)) (pv 8) po_none (po_some (pv 5))) (pe_lst (pa_cons (pe_slice (Pu.sl_tupAK (K := K)) (pe_ix (Pu.ix_listK (K := K)) (pv 8) (pv 5) (fun _ _ => rfl)) po_none (po_some (pe_op op_add (pe_bmT PySem.F.slot_tuple_index PySem.F.type_tuple_index (Pu.mt_indexTK (K := K)) (pe_ix (Pu.ix_listK (K := K)) (pv 8) (pv 5) (fun _ _ => rfl)) (pa_cons (pe_ix (Pu.ix_listK (K := K)) (pv 14) (pv 5) (fun _ _ => rfl)) pa_nil)) pe_int))) pa_nil))) (pe_slice (Pu.sl_listK (K := K)) (pv 8) (po_some (pe_op op_add (pv 5) pe_int)) po_none))) (pss_one (ps_if (pt_cmpR (Pu.op_neDK (K := K) hr.units) (pmeth0 (ok_Deals_offers T) hr (by decide) (T.cls 13) (T.meth 34) pxB (pmake (ok_Deals_init T) hr (by decide) (T.mkr 32) (T.glo 33) pxB (pa_cons (pv 4) (pa_cons (pv 18) (pa_cons (pv 10) (pa_cons (pv 11) pa_nil)))))) (pv 13) (nomark _)) (pss_one (ps_ret pe_bl)) pss_nil))) pss_nil), ?_⟩
  refine StE.as (T := ?T) ?h ?f
  case h => exact (Pu.st_if (p := false) (Pu.et_test (Pu.ev_op Pu.o_notN (Pu.ev_opP Pu.o_ixL (Pu.ev_var (.s (.s (.s (.s (.s (.s (.s (.s (.s (.s (.s (.s (.s (.s (.z)))))))))))))))) (Pu.ev_var (.s (.s (.s (.s (.s (.z)))))))) (Pu.ev_c (c := dNon) (x := ()) fun _ => rfl))) (Pu.st_post (Bk.drop Bk.id (.s (.s (.s (.s (.s (.s (.s (.s (.s (.s (.s (.s (.s (.s (.s (.s (.s (.s (.z)))))))))))))))))))) (Pu.st_seq (Pu.st_set (p := false) (.s (.s (.s (.s (.s (.s (.s (.s (.s (.s (.s (.s (.s (.s (.s (.s (.s (.s (.z))))))))))))))))))) (Pu.freeze (c := (dTup dInt)) (Pu.en_cat (Pu.freeze (c := (dTup dInt)) (Pu.en_cat (Pu.ev_sb (Pu.sb_lstTun (c := dInt)) (Pu.freeze (c := (dTuN dInt)) (Pu.en_slL (Pu.ev_var (.s (.s (.s (.s (.s (.s (.s (.s (.z)))))))))) Pu.eo_no (Pu.eo_some (Pu.ev_var (.s (.s (.s (.s (.s (.z))))))))))) (Pu.freeze (c := (dTup dInt)) (Pu.en_lst (c := (dTup dInt)) 1 (by decide) (Pu.ea_cons (Pu.ev_slT (Pu.ev_sb (Pu.sb_tun (c := dInt)) (Pu.ev_opP Pu.o_ixL (Pu.ev_var (.s (.s (.s (.s (.s (.s (.s (.s (.z)))))))))) (Pu.ev_var (.s (.s (.s (.s (.s (.z))))))))) Pu.eo_no (Pu.eo_some (Pu.ev_op Pu.o_int (Pu.ev_indexT flInt (Pu.ev_opP Pu.o_ixL (Pu.ev_var (.s (.s (.s (.s (.s (.s (.s (.s (.z)))))))))) (Pu.ev_var (.s (.s (.s (.s (.s (.z)))))))) (Pu.ev_asP (a := dOpt dInt) (b := dInt) (fun x => x) Pu.o_someI (Pu.ev_opP Pu.o_ixL (Pu.ev_var (.s (.s (.s (.s (.s (.s (.s (.s (.s (.s (.s (.s (.s (.s (.z)))))))))))))))) (Pu.ev_var (.s (.s (.s (.s (.s (.z)))))))))) (Pu.ev_c (c := dInt) (x := 1) fun _ => rfl)))) Pu.ea_nil))))) (Pu.ev_sb (Pu.sb_lstTun (c := dInt)) (Pu.freeze (c := (dTuN dInt)) (Pu.en_slL (Pu.ev_var (.s (.s (.s (.s (.s (.s (.s (.s (.z)))))))))) (Pu.eo_some (Pu.ev_op Pu.o_int (Pu.ev_var (.s (.s (.s (.s (.s (.z))))))) (Pu.ev_c (c := dInt) (x := 1) fun _ => rfl))) Pu.eo_no)))))) (Pu.st_if (p := false) (Pu.et_test (Pu.ev_op (Pu.o_ne (dqTup dqInt) (by decide)) (Pu.ev_meth (nm := "offers") (names := nm_Deals) (by decide +kernel) (Pu.freezeO (fs := fs_Deals K) (Pu.en_make (Pu.ea_cons (Pu.ev_var (.s (.s (.s (.s (.z)))))) (Pu.ea_cons (Pu.ev_var (.s (.s (.s (.s (.s (.s (.s (.s (.s (.s (.s (.s (.s (.s (.s (.s (.s (.s (.z)))))))))))))))))))) (Pu.ea_cons (Pu.ev_sb (Pu.sb_lstTun (c := dInt)) (Pu.ev_var (.s (.s (.s (.s (.s (.s (.s (.s (.s (.s (.z))))))))))))) (Pu.ea_cons (Pu.ev_var (.s (.s (.s (.s (.s (.s (.s (.s (.s (.s (.s (.z))))))))))))) Pu.ea_nil)))))) Pu.ea_nil) (Pu.ev_var (.s (.s (.s (.s (.s (.s (.s (.s (.s (.s (.s (.s (.s (.z))))))))))))))))) (Pu.st_ret (p := false) prD (Pu.ev_c (c := dBl) (x := false) fun _ => rfl)) Pu.st_next))) Pu.st_next)
  case f => kernel_rfl
theorem law_s16 (T : Tx fa fn K mg) {cdv : Value} {A : Around} {outer : List PySem.Env} {s : Shared} {H : Hp} {E : XK} (hr : Room 5 (A.deeper (envOfC "law" (defScope s_law) s.heap.objs.size (He.ga K "law") cdv))) :
    ∃ ts, PS (cxOf (L2.CX P w) P w K mg base ["script", "dice", "many", "wide", "contracts", "k", "room", "term", "lists", "one", "orders", "seats", "deals", "taken", "own", "more", "wider", "other", "cut"] "law" (defScope s_law) (He.ga K "law") cdv A outer s H E) ((forBody (defBody s_law) 0).getD 16 (.Pass ⟨0, 0, 0, 0⟩)) ts ∧ StE E (xcK K) (retD dBl) [.da (dScr K), .m .lo (mLst dInt), .da dInt, .da dInt, .da (dLst (dP3 dInt dInt dInt)), .da dInt, .da dInt, .no, .da (dLst (dTuN dInt)), .no, .da (dLst (dTuN dInt)), .da (dLst dInt), .da (dI_Deals K), .da (dTup dInt), .da (dLst (dOpt dInt)), .da (dI_Deals K), .da (dTup dInt), .da (dI_Deals K), .no] ts [.da (dScr K), .m .lo (mLst dInt), .da dInt, .da dInt, .da (dLst (dP3 dInt dInt dInt)), .da dInt, .da dInt, .no, .da (dLst (dTuN dInt)), .no, .da (dLst (dTuN dInt)), .da (dLst dInt), .da (dI_Deals K), .da (dTup dInt), .da (dLst (dOpt dInt)), .da (dI_Deals K), .da (dTup dInt), .da (dI_Deals K), .no] [.da (dScr K), .m .lo (mLst dInt), .da dInt, .da dInt, .da (dLst (dP3 dInt dInt dInt)), .da dInt, .da dInt, .no, .da (dLst (dTuN dInt)), .no, .da (dLst (dTuN dInt)), .da (dLst dInt), .da (dI_Deals K), .da (dTup dInt), .da (dLst (dOpt dInt)), .da (dI_Deals K), .da (dTup dInt), .da (dI_Deals K), .no] (fun R nx rt bk ct ρ => m_law_s16 nx (fun x => rt x ()) ρ) := by
  refine ⟨_, (ps_if (pt_cmpR (Pu.op_neDK (K := K) hr.units) (pcall (ok_as_match T) hr (by decide) (T.glo 36) pxB (pa_cons (pv 12) (pa_cons (pv 13) pa_nil))) (Pu.pe_tupleNK (K := K) (by rfl) (T.free 6) (pe_lc (own := [("one", 9)]) (by rfl) sc_law.nd (Pu.pi_listK (K := K) (pv 14)) (blkOk_by (N := ["script", "dice", "many", "wide", "contracts", "k", "room", "term", "lists", "one", "orders", "seats", "deals", "taken", "own", "more", "wider", "other", "cut"]) (sc := defScope s_law) (by decide +kernel)) (fun _ _ _ _ _ => (pg_name (i := 9) sc_law.nd (by rfl) (by first | exact Or.inl rfl | exact Or.inr rfl))) (fun _ _ _ _ _ => pts_nil) (fun _ _ _ _ _ => (pe_ifExp (pt_cmpR op_isN (pv 9) pe_non (nomark _)) pe_non (pe_ix (Pu.ix_tupK (K := K)) (pe_ix (Pu.ix_listK (K := K)) (pv 4) (pv 9) (fun _ _ => rfl)) pe_int (fun _ _ => rfl)))))) (nomark _)) (pss_one (ps_ret pe_bl)) pss_nil), ?_⟩
  refine StE.as (T := ?T) ?h ?f
  case h => exact (Pu.st_if (p := false) (Pu.et_test (Pu.ev_op (Pu.o_ne (dqTup dqOI) (by decide)) (Pu.ev_sb (Pu.sb_tun (c := (dOpt dInt))) (Pu.ev_call (Pu.ea_cons (Pu.ev_var (.s (.s (.s (.s (.s (.s (.s (.s (.s (.s (.s (.s (.z)))))))))))))) (Pu.ea_cons (Pu.ev_var (.s (.s (.s (.s (.s (.s (.s (.s (.s (.s (.s (.s (.s (.z))))))))))))))) Pu.ea_nil)))) (Pu.ev_sb (Pu.sb_tun (c := (dOpt dInt))) (Pu.ev_1 Pu.o_tupNL (Pu.freeze (c := (dOpt dInt)) (Pu.en_lc (q := false) (vs := [9]) (Γ0 := [.da (dScr K), .m .lo (mLst dInt), .da dInt, .da dInt, .da (dLst (dP3 dInt dInt dInt)), .da dInt, .da dInt, .no, .da (dLst (dTuN dInt)), .no, .da (dLst (dTuN dInt)), .da (dLst dInt), .da (dI_Deals K), .da (dTup dInt), .da (dLst (dOpt dInt)), .da (dI_Deals K), .da (dTup dInt), .da (dI_Deals K), .no]) (Γ1 := [.da (dScr K), .m .lo (mLst dInt), .da dInt, .da dInt, .da (dLst (dP3 dInt dInt dInt)), .da dInt, .da dInt, .no, .da (dLst (dTuN dInt)), .da (dOpt dInt), .da (dLst (dTuN dInt)), .da (dLst dInt), .da (dI_Deals K), .da (dTup dInt), .da (dLst (dOpt dInt)), .da (dI_Deals K), .da (dTup dInt), .da (dI_Deals K), .no]) Hd.id (by rfl) (by decide) (Bk.drop Bk.id (.s (.s (.s (.s (.s (.s (.s (.s (.s (.z))))))))))) (Pu.ei_list (Pu.ev_var (.s (.s (.s (.s (.s (.s (.s (.s (.s (.s (.s (.s (.s (.s (.z))))))))))))))))) (Pu.tg_name (.s (.s (.s (.s (.s (.s (.s (.s (.s (.z))))))))))) Pu.pts_et (Pu.ev_if (Pu.et_test (Pu.ev_op Pu.o_isN (Pu.ev_var (.s (.s (.s (.s (.s (.s (.s (.s (.s (.z))))))))))) (Pu.ev_c (c := dNon) (x := ()) fun _ => rfl))) (Pu.ev_as (b := (dOpt dInt)) (fun _ => none) noneI (Pu.ev_c (c := dNon) (x := ()) fun _ => rfl)) (Pu.ev_as (a := dInt) (b := dOpt dInt) some someI (Pu.ev_opP Pu.o_p31 (Pu.ev_opP Pu.o_ixL (Pu.ev_var (.s (.s (.s (.s (.z)))))) (Pu.ev_asP (a := dOpt dInt) (b := dInt) (fun x => x) Pu.o_someI (Pu.ev_var (.s (.s (.s (.s (.s (.s (.s (.s (.s (.z))))))))))))) (Pu.ev_c (c := dInt) (x := 1) fun _ => rfl)))))))))) (Pu.st_ret (p := false) prD (Pu.ev_c (c := dBl) (x := false) fun _ => rfl)) Pu.st_next)
  case f => kernel_rfl
theorem law_s17 (T : Tx fa fn K mg) {cdv : Value} {A : Around} {outer : List PySem.Env} {s : Shared} {H : Hp} {E : XK} (hr : Room 5 (A.deeper (envOfC "law" (defScope s_law) s.heap.objs.size (He.ga K "law") cdv))) :
    ∃ ts, PS (cxOf (L2.CX P w) P w K mg base ["script", "dice", "many", "wide", "contracts", "k", "room", "term", "lists", "one", "orders", "seats", "deals", "taken", "own", "more", "wider", "other", "cut"] "law" (defScope s_law) (He.ga K "law") cdv A outer s H E) ((forBody (defBody s_law) 0).getD 17 (.Pass ⟨0, 0, 0, 0⟩)) ts ∧ StE E (xcK K) (retD dBl) [.da (dScr K), .m .lo (mLst dInt), .da dInt, .da dInt, .da (dLst (dP3 dInt dInt dInt)), .da dInt, .da dInt, .no, .da (dLst (dTuN dInt)), .no, .da (dLst (dTuN dInt)), .da (dLst dInt), .da (dI_Deals K), .da (dTup dInt), .da (dLst (dOpt dInt)), .da (dI_Deals K), .da (dTup dInt), .da (dI_Deals K), .no] ts [.da (dScr K), .m .lo (mLst dInt), .da dInt, .da dInt, .da (dLst (dP3 dInt dInt dInt)), .da dInt, .da dInt, .no, .da (dLst (dTuN dInt)), .no, .da (dLst (dTuN dInt)), .da (dLst dInt), .da (dI_Deals K), .da (dTup dInt), .da (dLst (dOpt dInt)), .da (dI_Deals K), .da (dTup dInt), .da (dI_Deals K), .no] [.da (dScr K), .m .lo (mLst dInt), .da dInt, .da dInt, .da (dLst (dP3 dInt dInt dInt)), .da dInt, .da dInt, .no, .da (dLst (dTuN dInt)), .no, .da (dLst (dTuN dInt)), .da (dLst dInt), .da (dI_Deals K), .da (dTup dInt), .da (dLst (dOpt dInt)), .da (dI_Deals K), .da (dTup dInt), .da (dI_Deals K), .no] (fun R nx rt bk ct ρ => m_law_s17 nx (fun x => rt x ()) ρ) := by
  refine ⟨_, (ps_if (PW.pt (pw_or (pt_cmpR (Pu.op_neDK (K := K) hr.units) (pe_lc (own := [("one", 9)]) (by rfl) sc_law.nd (Pu.pi_tupK (K := K) (pv 13)) (blkOk_by (N := ["script", "dice", "many", "wide", "contracts", "k", "room", "term", "lists", "one", "orders", "seats", "deals", "taken", "own", "more", "wider", "other", "cut"]) (sc := defScope s_law) (by decide +kernel)) (fun _ _ _ _ _ => (pg_name (i := 9) sc_law.nd (by rfl) (by first | exact Or.inl rfl | exact Or.inr rfl))) (fun _ _ _ _ _ => pts_one (pt_cmpR PuU.op_notIn_rngN (pe_ix (Pu.ix_tupK (K := K)) (pe_ix (Pu.ix_listK (K := K)) (pv 4) (pv 9) (fun _ _ => rfl)) pe_int (fun _ _ => rfl)) (pe_callTy PuU.cr_range1 (by rfl) (T.free 23) (by decide +kernel) (pa_cons (pv 2) pa_nil)) rfl)) (fun _ _ _ _ _ => (pv 9))) (pe_lst pa_nil) (nomark _)) (pw_or1 (pt_cmpR (Pu.op_neDK (K := K) hr.units) (pe_callTy (Pu.call_list_ofK (K := K)) (by rfl) (T.free 4) (by decide +kernel) (pa_cons (pv 13) pa_nil)) (pe_callB (Pu.cr_sortedTIK (K := K)) (by rfl) (T.free 25) (by decide +kernel) (pa_cons (pv 13) pa_nil)) (nomark _))))) (pss_one (ps_ret pe_bl)) pss_nil), ?_⟩
  refine StE.as (T := ?T) ?h ?f
  case h => exact (Pu.st_if (p := false) (Pu.et_or (Pu.et_test (Pu.ev_op (Pu.o_ne (dqLst dqInt) (by decide)) (Pu.freeze (c := dInt) (Pu.en_lc (q := false) (vs := [9]) (Γ0 := [.da (dScr K), .m .lo (mLst dInt), .da dInt, .da dInt, .da (dLst (dP3 dInt dInt dInt)), .da dInt, .da dInt, .no, .da (dLst (dTuN dInt)), .no, .da (dLst (dTuN dInt)), .da (dLst dInt), .da (dI_Deals K), .da (dTup dInt), .da (dLst (dOpt dInt)), .da (dI_Deals K), .da (dTup dInt), .da (dI_Deals K), .no]) (Γ1 := [.da (dScr K), .m .lo (mLst dInt), .da dInt, .da dInt, .da (dLst (dP3 dInt dInt dInt)), .da dInt, .da dInt, .no, .da (dLst (dTuN dInt)), .da dInt, .da (dLst (dTuN dInt)), .da (dLst dInt), .da (dI_Deals K), .da (dTup dInt), .da (dLst (dOpt dInt)), .da (dI_Deals K), .da (dTup dInt), .da (dI_Deals K), .no]) Hd.id (by rfl) (by decide) (Bk.drop Bk.id (.s (.s (.s (.s (.s (.s (.s (.s (.s (.z))))))))))) (Pu.ei_tup (Pu.ev_var (.s (.s (.s (.s (.s (.s (.s (.s (.s (.s (.s (.s (.s (.z)))))))))))))))) (Pu.tg_name (.s (.s (.s (.s (.s (.s (.s (.s (.s (.z))))))))))) (Pu.et_test (Pu.ev_op (PuU.o_inRng (neg := true)) (Pu.ev_opP Pu.o_p30 (Pu.ev_opP Pu.o_ixL (Pu.ev_var (.s (.s (.s (.s (.z)))))) (Pu.ev_var (.s (.s (.s (.s (.s (.s (.s (.s (.s (.z)))))))))))) (Pu.ev_c (c := dInt) (x := 0) fun _ => rfl)) (PuU.ev_rngD (Pu.ev_var (.s (.s (.z))))))) (Pu.ev_var (.s (.s (.s (.s (.s (.s (.s (.s (.s (.z))))))))))))) (Pu.freeze Pu.en_nil))) (Pu.et_test (Pu.ev_op (Pu.o_ne (dqLst dqInt) (by decide)) (Pu.freeze (c := dInt) (Pu.en_listS rfl (Pu.ev_sb (Pu.sb_tupS (c := dInt)) (Pu.ev_var (.s (.s (.s (.s (.s (.s (.s (.s (.s (.s (.s (.s (.s (.z)))))))))))))))))) (Pu.ev_b1 Pu.o_sortTI (Pu.ev_var (.s (.s (.s (.s (.s (.s (.s (.s (.s (.s (.s (.s (.s (.z))))))))))))))))))) (Pu.st_ret (p := false) prD (Pu.ev_c (c := dBl) (x := false) fun _ => rfl)) Pu.st_next)
  case f => kernel_rfl
theorem ok_law (T : Tx fa fn K mg) {fd : FuncData} (F : FunD K "law" "law" (defArgs s_law) (defBody s_law) (defScope s_law) [] [] (He.ga K "law") fd) : FnOk P w K mg base (L2.CX P w) 6 (He.ga K "law") fd ["script"] (spD (xcK K) [(dScr K)] dBl (fun x => m_law x.1)) := by
  refine okF2 F sc_law (lenD rfl) ?_
  intro cdv A outer s H E hr
  obtain ⟨ts0, p0, e0⟩ := law_s0 (P := P) (w := w) (base := base) T (outer := outer) (H := H) (E := E) hr
  obtain ⟨ts1, p1, e1⟩ := law_s1 (P := P) (w := w) (base := base) T (outer := outer) (H := H) (E := E) hr
  obtain ⟨ts2, p2, e2⟩ := law_s2 (P := P) (w := w) (base := base) T (outer := outer) (H := H) (E := E) hr
  obtain ⟨ts3, p3, e3⟩ := law_s3 (P := P) (w := w) (base := base) T (outer := outer) (H := H) (E := E) hr
  obtain ⟨ts4, p4, e4⟩ := law_s4 (P := P) (w := w) (base := base) T (outer := outer) (H := H) (E := E) hr
  obtain ⟨ts5, p5, e5⟩ := law_s5 (P := P) (w := w) (base := base) T (outer := outer) (H := H) (E := E) hr
  obtain ⟨ts6, p6, e6⟩ := law_s6 (P := P) (w := w) (base := base) T (outer := outer) (H := H) (E := E) hr
  obtain ⟨ts7, p7, e7⟩ := law_s7 (P := P) (w := w) (base := base) T (outer := outer) (H := H) (E := E) hr
  obtain ⟨ts8, p8, e8⟩ := law_s8 (P := P) (w := w) (base := base) T (outer := outer) (H := H) (E := E) hr
  obtain ⟨ts9, p9, e9⟩ := law_s9 (P := P) (w := w) (base := base) T (outer := outer) (H := H) (E := E) hr
  obtain ⟨ts10, p10, e10⟩ := law_s10 (P := P) (w := w) (base := base) T (outer := outer) (H := H) (E := E) hr
  obtain ⟨ts11, p11, e11⟩ := law_s11 (P := P) (w := w) (base := base) T (outer := outer) (H := H) (E := E) hr
  obtain ⟨ts12, p12, e12⟩ := law_s12 (P := P) (w := w) (base := base) T (outer := outer) (H := H) (E := E) hr
  obtain ⟨ts13, p13, e13⟩ := law_s13 (P := P) (w := w) (base := base) T (outer := outer) (H := H) (E := E) hr
  obtain ⟨ts14, p14, e14⟩ := law_s14 (P := P) (w := w) (base := base) T (outer := outer) (H := H) (E := E) hr
  obtain ⟨ts15, p15, e15⟩ := law_s15 (P := P) (w := w) (base := base) T (outer := outer) (H := H) (E := E) hr
  obtain ⟨ts16, p16, e16⟩ := law_s16 (P := P) (w := w) (base := base) T (outer := outer) (H := H) (E := E) hr
  obtain ⟨ts17, p17, e17⟩ := law_s17 (P := P) (w := w) (base := base) T (outer := outer) (H := H) (E := E) hr
  refine ⟨_, (pss_cons (ps_for poB (by rfl) (Pu.pi_listK (K := K) (pcall (ok_law_rounds T) hr (by decide) (T.glo 29) pxB (pa_cons (pv 0) (pa_cons pe_int pa_nil)))) (pg_name (i := 1) sc_law.nd (by rfl) (by first | exact Or.inl rfl | exact Or.inr rfl)) (pss_cons p0 (pss_cons p1 (pss_cons p2 (pss_cons p3 (pss_cons p4 (pss_cons p5 (pss_cons p6 (pss_cons p7 (pss_cons p8 (pss_cons p9 (pss_cons p10 (pss_cons p11 (pss_cons p12 (pss_cons p13 (pss_cons p14 (pss_cons p15 (pss_cons p16 (pss_one p17))))))))))))))))))) (pss_one (ps_ret pe_bl))), ?_⟩
  intro vs Q h
  refine run_D (Γe := []) (cs := [(dScr K)]) (n := 18) (T := ?T) rfl ?h ?f vs H Q h
  case h => exact (Pu.st_seq (Pu.st_for1 (p := false) (Γ2 := [.da (dScr K), .m .lo (mLst dInt), .da dInt, .da dInt, .da (dLst (dP3 dInt dInt dInt)), .da dInt, .da dInt, .no, .da (dLst (dTuN dInt)), .no, .da (dLst (dTuN dInt)), .da (dLst dInt), .da (dI_Deals K), .da (dTup dInt), .da (dLst (dOpt dInt)), .da (dI_Deals K), .da (dTup dInt), .da (dI_Deals K), .no]) (.s (.z)) (Pu.ev_callN (Pu.ea_cons (Pu.ev_var .z) (Pu.ea_cons (Pu.ev_c (c := dInt) (x := 1) fun _ => rfl) Pu.ea_nil))) (Pu.st_seq e0 (Pu.st_seq e1 (Pu.st_seq e2 (Pu.st_seq e3 (Pu.st_seq e4 (Pu.st_seq e5 (Pu.st_seq e6 (Pu.st_seq e7 (Pu.st_seq e8 (Pu.st_seq e9 (Pu.st_seq e10 (Pu.st_seq e11 (Pu.st_seq e12 (Pu.st_seq e13 (Pu.st_seq e14 (Pu.st_seq e15 (Pu.st_seq e16 e17)))))))))))))))))) (Pu.st_ret (p := false) prD (Pu.ev_c (c := dBl) (x := true) fun _ => rfl)))
  case f => intros; kernel_rfl
def lawLevel : Nat := 6
def lawFact : Nat := 37
def lawDef : Nat := 16
end
end G
/-! Deferred asking, by itself: no interpreter here. -/
namespace Da
theorem len_of_sub {α : Type} [DecidableEq α] : ∀ {xs ys : List α}, xs.Nodup → (∀ x, x ∈ xs → x ∈ ys) → xs.length ≤ ys.length
  | [], ys, _, _ => Nat.zero_le _
  | x :: xs, ys, nd, h => by
    have hx := h x (List.mem_cons_self ..)
    have nd' := List.nodup_cons.mp nd
    have k := len_of_sub (xs := xs) (ys := ys.erase x) nd'.2 fun y hy => by
      have hne : y ≠ x := fun e => nd'.1 (e ▸ hy)
      exact (List.mem_erase_of_ne hne).mpr (h y (List.mem_cons_of_mem _ hy))
    have e := List.length_erase_of_mem hx
    have hpos : 0 < ys.length := List.length_pos_of_mem hx
    rw [List.length_cons]
    omega
/-- r stands ahead of r' in a list -/
def Ahead (l : List Int) (r r' : Int) : Prop := r ∈ l ∧ r' ∈ l ∧ l.idxOf r < l.idxOf r'
theorem ahead_or {l : List Int} {r r' : Int} (h : r ∈ l) (h' : r' ∈ l) (hne : r ≠ r') : Ahead l r r' ∨ Ahead l r' r := by
  rcases Nat.lt_trichotomy (l.idxOf r) (l.idxOf r') with k | k | k
  · exact .inl ⟨h, h', k⟩
  · exfalso
    have h1 := List.getElem_idxOf (List.idxOf_lt_length_iff.mpr h)
    have h2 := List.getElem_idxOf (List.idxOf_lt_length_iff.mpr h')
    apply hne
    rw [← h1, ← h2]
    congr 1
  · exact .inr ⟨h', h, k⟩
theorem ahead_irr {l : List Int} {r : Int} : ¬ Ahead l r r := fun h => Nat.lt_irrefl _ h.2.2
theorem ahead_asym {l : List Int} {r r' : Int} (h : Ahead l r r') : ¬ Ahead l r' r := fun k => Nat.lt_asymm h.2.2 k.2.2
/-- lists, orders, seats -/
structure Mk where
  L : Int → List Int
  O : Int → List Int
  q : Int → Nat
  /-- who asks -/
  A : Int → Prop
/-- a state: who holds what, who was refused by what -/
structure St where
  held : Int → Option Int
  ref : Int → Int → Prop
/-- what holds on the way -/
structure Way (M : Mk) (s : St) : Prop where
  ask : ∀ a r, s.held a = some r → M.A a ∧ r ∈ M.L a ∧ ∀ r', Ahead (M.L a) r' r → s.ref a r'
  pre : ∀ a r, s.ref a r → M.A a ∧ r ∈ M.L a ∧ ∀ r', Ahead (M.L a) r' r → s.ref a r'
  not : ∀ a r, s.held a = some r → ¬ s.ref a r
  likes : ∀ a r, s.held a = some r → a ∈ M.O r
  cap : ∀ r (hs : List Int), hs.Nodup → (∀ a, a ∈ hs → s.held a = some r) → hs.length ≤ M.q r
  just : ∀ a r, s.ref a r → a ∈ M.O r → (∃ hs : List Int, hs.Nodup ∧ hs.length = M.q r ∧ ∀ b, b ∈ hs → s.held b = some r) ∧ ∀ b, s.held b = some r → Ahead (M.O r) b a
/-- nobody asks any more -/
def Done (M : Mk) (s : St) : Prop := ∀ a, M.A a → s.held a = none → ∀ r, r ∈ M.L a → s.ref a r
theorem holds_or {M : Mk} {s : St} (w : Way M s) (d : Done M s) {a r : Int} (ha : M.A a) (hr : r ∈ M.L a) (k : ∀ r', Ahead (M.L a) r' r → s.ref a r') : s.held a = some r ∨ s.ref a r := by
  cases h : s.held a with
  | none => exact .inr (d a ha h r hr)
  | some r' =>
    obtain ⟨_, h1, h2⟩ := w.ask a r' h
    by_cases e : r' = r
    · exact .inl (by rw [e])
    · rcases ahead_or h1 hr e with z | z
      · exact absurd (k r' z) (w.not a r' h)
      · exact .inr (h2 r z)
/-- M has fewer askers, more rooms, more seats than N -/
structure Wider (M N : Mk) (rooms : Int → Prop) : Prop where
  ask : ∀ a, M.A a → N.A a
  list : ∀ a r, M.A a → (r ∈ N.L a ↔ r ∈ M.L a ∧ rooms r)
  ahead : ∀ a r r', M.A a → Ahead (N.L a) r r' → Ahead (M.L a) r r'
  seats : ∀ r, rooms r → N.q r ≤ M.q r
  lists : ∀ a r, M.A a → rooms r → (a ∈ M.O r ↔ a ∈ N.O r)
  order : ∀ a b r, M.A a → M.A b → rooms r → Ahead (M.O r) a b → Ahead (N.O r) a b
/-- who stands at a room and is refused there, when the one asks -/
structure Refused (M : Mk) (s : St) (r x : Int) (ins : List Int) : Prop where
  nd : ins.Nodup
  more : M.q r < ins.length
  mem : x ∈ ins
  who : ∀ b, b ∈ ins → M.A b ∧ r ∈ M.L b ∧ b ∈ M.O r ∧ ∀ r', Ahead (M.L b) r' r → s.ref b r'
  worst : ∀ b, b ∈ ins → b ≠ x → Ahead (M.O r) b x
/-- whom the one market refuses on its way, the other, at its end, has refused, too -/
theorem refused_too {M N : Mk} {rooms : Int → Prop} (W : Wider M N rooms) {s t : St} (w : Way N t) (d : Done N t) (ih : ∀ a r, rooms r → s.ref a r → t.ref a r) {r x : Int} {ins : List Int} (hr : rooms r) (f : Refused M s r x ins) : t.ref x r := by
  have all : ∀ b, b ∈ ins → t.held b = some r ∨ t.ref b r := fun b hb => by
    obtain ⟨h1, h2, h3, h4⟩ := f.who b hb
    refine holds_or w d (W.ask b h1) ((W.list b r h1).mpr ⟨h2, hr⟩) fun r' hr' => ?_
    have hm := (W.list b r' h1).mp hr'.1
    exact ih b r' hm.2 (h4 r' (W.ahead b r' r h1 hr'))
  rcases all x f.mem with hx | hx
  · exfalso
    -- not all of them have a seat there
    have hex : ∃ b, b ∈ ins ∧ t.held b ≠ some r := by
      apply Classical.byContradiction
      intro hn
      have hall : ∀ b, b ∈ ins → t.held b = some r := fun b hb => Classical.byContradiction fun z => hn ⟨b, hb, z⟩
      have h1 := w.cap r ins f.nd hall
      have h2 := W.seats r hr
      have h3 := f.more
      omega
    obtain ⟨b, hb, hbn⟩ := hex
    obtain ⟨h1, h2, h3, h4⟩ := f.who b hb
    have hbr : t.ref b r := (all b hb).resolve_left hbn
    have hne : b ≠ x := fun e => hbn (e ▸ hx)
    have hbo : b ∈ N.O r := (W.lists b r h1 hr).mp h3
    have k1 := (w.just b r hbr hbo).2 x hx
    have k2 := W.order b x r h1 (f.who x f.mem).1 hr (f.worst b hb hne)
    exact ahead_asym k1 k2
  · exact hx
/-- as much where the room doesn't list the one who asks -/
theorem refused_too' {M N : Mk} {rooms : Int → Prop} (W : Wider M N rooms) {s t : St} (w : Way N t) (d : Done N t) (ih : ∀ a r, rooms r → s.ref a r → t.ref a r) {r x : Int} (hr : rooms r) (h1 : M.A x) (h2 : r ∈ M.L x) (h3 : x ∉ M.O r) (h4 : ∀ r', Ahead (M.L x) r' r → s.ref x r') : t.ref x r := by
  have := holds_or w d (W.ask x h1) ((W.list x r h1).mpr ⟨h2, hr⟩) fun r' hr' => ih x r' ((W.list x r' h1).mp hr'.1).2 (h4 r' (W.ahead x r' r h1 hr'))
  refine this.resolve_left fun e => h3 ((W.lists x r h1 hr).mpr (w.likes x r e))
end Da
namespace Da
theorem ahead_trans {l : List Int} {a b c : Int} (h : Ahead l a b) (k : Ahead l b c) : Ahead l a c := ⟨h.1, k.2.1, Nat.lt_trans h.2.2 k.2.2⟩
def put (f : Int → Option Int) (a : Int) (v : Option Int) : Int → Option Int := fun b => if b = a then v else f b
def add (R : Int → Int → Prop) (x r : Int) : Int → Int → Prop := fun b r' => R b r' ∨ (b = x ∧ r' = r)
/-- a may ask r next -/
structure Next (M : Mk) (s : St) (a r : Int) : Prop where
  who : M.A a
  bare : s.held a = none
  room : r ∈ M.L a
  new : ¬ s.ref a r
  pre : ∀ r', Ahead (M.L a) r' r → s.ref a r'
/-- all who hold r -/
def Holds (s : St) (r : Int) (hs : List Int) : Prop := hs.Nodup ∧ ∀ b, b ∈ hs ↔ s.held b = some r
inductive Run (M : Mk) : St → Prop where
  | start : Run M ⟨fun _ => none, fun _ _ => False⟩
  | unlisted {s : St} {a r : Int} (h : Run M s) (n : Next M s a r) (no : a ∉ M.O r) : Run M ⟨s.held, add s.ref a r⟩
  | taken {s : St} {a r : Int} {hs : List Int} (h : Run M s) (n : Next M s a r) (li : a ∈ M.O r) (H : Holds s r hs) (free : hs.length < M.q r) : Run M ⟨put s.held a (some r), s.ref⟩
  | refused {s : St} {a r x : Int} {hs : List Int} (h : Run M s) (n : Next M s a r) (li : a ∈ M.O r) (H : Holds s r hs) (full : M.q r ≤ hs.length) (mem : x = a ∨ x ∈ hs) (worst : ∀ b, (b = a ∨ b ∈ hs) → b ≠ x → Ahead (M.O r) b x) :
      Run M ⟨put (put s.held a (some r)) x none, add s.ref x r⟩
theorem put_eq {f : Int → Option Int} {a : Int} {v : Option Int} : put f a v a = v := if_pos rfl
theorem put_ne {f : Int → Option Int} {a b : Int} {v : Option Int} (h : b ≠ a) : put f a v b = f b := if_neg h
theorem Run.way {M : Mk} {s : St} (h : Run M s) : Way M s := by
  induction h with
  | start => exact ⟨fun a r e => (nomatch e), fun a r e => (e : False).elim, fun a r e => (nomatch e), fun a r e => (nomatch e), fun r hs _ h => by
      cases hs with
      | nil => exact Nat.zero_le _
      | cons b hs => exact (nomatch h b (List.mem_cons_self ..)), fun a r e => (e : False).elim⟩
  | @unlisted s a r h n no w =>
    refine ⟨fun b r' e => ?_, fun b r' e => ?_, fun b r' e z => ?_, w.likes, w.cap, fun b r' e li => ?_⟩
    · obtain ⟨h1, h2, h3⟩ := w.ask b r' e
      exact ⟨h1, h2, fun r2 k => .inl (h3 r2 k)⟩
    · rcases e with e | ⟨rfl, rfl⟩
      · obtain ⟨h1, h2, h3⟩ := w.pre b r' e
        exact ⟨h1, h2, fun r2 k => .inl (h3 r2 k)⟩
      · exact ⟨n.who, n.room, fun r2 k => .inl (n.pre r2 k)⟩
    · rcases z with z | ⟨rfl, rfl⟩
      · exact w.not b r' e z
      · have e : s.held b = some r' := e
        rw [n.bare] at e; cases e
    · rcases e with e | ⟨rfl, rfl⟩
      · exact w.just b r' e li
      · exact absurd li no
  | @taken s a r hs h n li H free w =>
    have hold : ∀ b r', put s.held a (some r) b = some r' → (b = a ∧ r' = r) ∨ (b ≠ a ∧ s.held b = some r') := fun b r' e => by
      by_cases z : b = a
      · subst z
        rw [put_eq] at e
        cases e
        exact .inl ⟨rfl, rfl⟩
      · rw [put_ne z] at e
        exact .inr ⟨z, e⟩
    have keep : ∀ b r', s.held b = some r' → put s.held a (some r) b = some r' := fun b r' e => by
      have z : b ≠ a := fun z => by rw [z, n.bare] at e; cases e
      rw [put_ne z]; exact e
    refine ⟨fun b r' e => ?_, w.pre, fun b r' e z => ?_, fun b r' e => ?_, fun r' ks nd k => ?_, fun b r' e lb => ?_⟩
    · rcases hold b r' e with ⟨rfl, rfl⟩ | ⟨_, e⟩
      · exact ⟨n.who, n.room, n.pre⟩
      · exact w.ask b r' e
    · rcases hold b r' e with ⟨rfl, rfl⟩ | ⟨_, e⟩
      · exact n.new z
      · exact w.not b r' e z
    · rcases hold b r' e with ⟨rfl, rfl⟩ | ⟨_, e⟩
      · exact li
      · exact w.likes b r' e
    · by_cases er : r' = r
      · subst er
        have := len_of_sub (xs := ks) (ys := a :: hs) nd fun b hb => by
          rcases hold b r' (k b hb) with ⟨rfl, _⟩ | ⟨_, e⟩
          · exact List.mem_cons_self ..
          · exact List.mem_cons_of_mem _ ((H.2 b).mpr e)
        rw [List.length_cons] at this
        omega
      · refine w.cap r' ks nd fun b hb => ?_
        rcases hold b r' (k b hb) with ⟨_, e⟩ | ⟨_, e⟩
        · exact absurd e er
        · exact e
    · obtain ⟨⟨ks, k1, k2, k3⟩, k4⟩ := w.just b r' e lb
      refine ⟨⟨ks, k1, k2, fun c hc => keep c r' (k3 c hc)⟩, fun c hc => ?_⟩
      rcases hold c r' hc with ⟨rfl, rfl⟩ | ⟨_, e2⟩
      · exfalso
        have := len_of_sub (xs := ks) (ys := hs) k1 fun b hb => (H.2 b).mpr (k3 b hb)
        omega
      · exact k4 c e2
  | @refused s a r x hs h n li H full mem worst w =>
    have hlen : hs.length = M.q r := Nat.le_antisymm (w.cap r hs H.1 fun b hb => (H.2 b).mp hb) full
    have ha : a ∉ hs := fun z => by
      have := (H.2 a).mp z
      rw [n.bare] at this; cases this
    have hold : ∀ b r', put (put s.held a (some r)) x none b = some r' → b ≠ x ∧ ((b = a ∧ r' = r) ∨ (b ≠ a ∧ s.held b = some r')) := fun b r' e => by
      by_cases z : b = x
      · subst z; rw [put_eq] at e; cases e
      · rw [put_ne z] at e
        refine ⟨z, ?_⟩
        by_cases z2 : b = a
        · subst z2
          rw [put_eq] at e
          cases e
          exact .inl ⟨rfl, rfl⟩
        · rw [put_ne z2] at e
          exact .inr ⟨z2, e⟩
    have keep : ∀ b r', b ≠ x → s.held b = some r' → put (put s.held a (some r)) x none b = some r' := fun b r' hx e => by
      have z : b ≠ a := fun z => by rw [z, n.bare] at e; cases e
      rw [put_ne hx, put_ne z]; exact e
    have xroom : M.A x ∧ r ∈ M.L x ∧ (∀ r', Ahead (M.L x) r' r → s.ref x r') ∧ x ∈ M.O r := by
      rcases mem with e | e
      · subst e; exact ⟨n.who, n.room, n.pre, li⟩
      · have e := (H.2 x).mp e
        obtain ⟨h1, h2, h3⟩ := w.ask x r e
        exact ⟨h1, h2, h3, w.likes x r e⟩
    refine ⟨fun b r' e => ?_, fun b r' e => ?_, fun b r' e z => ?_, fun b r' e => ?_, fun r' ks nd k => ?_, fun b r' e lb => ?_⟩
    · obtain ⟨_, q⟩ := hold b r' e
      rcases q with ⟨rfl, rfl⟩ | ⟨_, e⟩
      · exact ⟨n.who, n.room, fun r2 k => .inl (n.pre r2 k)⟩
      · obtain ⟨h1, h2, h3⟩ := w.ask b r' e
        exact ⟨h1, h2, fun r2 k => .inl (h3 r2 k)⟩
    · rcases e with e | ⟨rfl, rfl⟩
      · obtain ⟨h1, h2, h3⟩ := w.pre b r' e
        exact ⟨h1, h2, fun r2 k => .inl (h3 r2 k)⟩
      · exact ⟨xroom.1, xroom.2.1, fun r2 k => .inl (xroom.2.2.1 r2 k)⟩
    · obtain ⟨hx, q⟩ := hold b r' e
      rcases z with z | ⟨z, _⟩
      · rcases q with ⟨rfl, rfl⟩ | ⟨_, e⟩
        · exact n.new z
        · exact w.not b r' e z
      · exact hx z
    · obtain ⟨_, q⟩ := hold b r' e
      rcases q with ⟨rfl, rfl⟩ | ⟨_, e⟩
      · exact li
      · exact w.likes b r' e
    · by_cases er : r' = r
      · subst er
        have hxm : x ∈ a :: hs := by
          rcases mem with e | e
          · rw [e]; exact List.mem_cons_self ..
          · exact List.mem_cons_of_mem _ e
        have := len_of_sub (xs := ks) (ys := (a :: hs).erase x) nd fun b hb => by
          obtain ⟨hx, q⟩ := hold b r' (k b hb)
          refine (List.mem_erase_of_ne hx).mpr ?_
          rcases q with ⟨rfl, _⟩ | ⟨_, e⟩
          · exact List.mem_cons_self ..
          · exact List.mem_cons_of_mem _ ((H.2 b).mpr e)
        rw [List.length_erase_of_mem hxm, List.length_cons] at this
        omega
      · refine w.cap r' ks nd fun b hb => ?_
        obtain ⟨_, q⟩ := hold b r' (k b hb)
        rcases q with ⟨_, e⟩ | ⟨_, e⟩
        · exact absurd e er
        · exact e
    · -- the holders of r: all but x of those before and a
      have now : ∃ ks : List Int, ks.Nodup ∧ ks.length = M.q r ∧ ∀ b, b ∈ ks → put (put s.held a (some r)) x none b = some r := by
        have nd : (a :: hs).Nodup := List.nodup_cons.mpr ⟨ha, H.1⟩
        have hxm : x ∈ a :: hs := by
          rcases mem with e | e
          · rw [e]; exact List.mem_cons_self ..
          · exact List.mem_cons_of_mem _ e
        refine ⟨(a :: hs).erase x, nd.erase x, by rw [List.length_erase_of_mem hxm, List.length_cons]; omega, fun b hb => ?_⟩
        have hb2 := (List.Nodup.mem_erase_iff nd).mp hb
        rcases List.mem_cons.mp hb2.2 with e | e
        · subst e; rw [put_ne hb2.1, put_eq]
        · exact keep b r hb2.1 ((H.2 b).mp e)
      have better : ∀ b, put (put s.held a (some r)) x none b = some r → Ahead (M.O r) b x := fun b hb => by
        obtain ⟨hx, q⟩ := hold b r hb
        rcases q with ⟨e, _⟩ | ⟨_, e⟩
        · exact worst b (.inl e) hx
        · exact worst b (.inr ((H.2 b).mpr e)) hx
      rcases e with e | ⟨rfl, rfl⟩
      · obtain ⟨⟨ks, k1, k2, k3⟩, k4⟩ := w.just b r' e lb
        by_cases er : r' = r
        · subst er
          refine ⟨now, fun c hc => ?_⟩
          obtain ⟨hx, q⟩ := hold c r' hc
          rcases q with ⟨rfl, _⟩ | ⟨_, e2⟩
          · have hxh : x ∈ hs := by
              rcases mem with e3 | e3
              · exact absurd e3.symm hx
              · exact e3
            exact ahead_trans (better c hc) (k4 x ((H.2 x).mp hxh))
          · exact k4 c e2
        · refine ⟨⟨ks, k1, k2, fun c hc => ?_⟩, fun c hc => ?_⟩
          · refine keep c r' (fun z => ?_) (k3 c hc)
            have hc2 := k3 c hc
            rcases mem with e3 | e3
            · rw [z, e3, n.bare] at hc2; cases hc2
            · rw [z, (H.2 x).mp e3] at hc2
              cases hc2
              exact er rfl
          · obtain ⟨_, q⟩ := hold c r' hc
            rcases q with ⟨_, e3⟩ | ⟨_, e3⟩
            · exact absurd e3 er
            · exact k4 c e3
      · exact ⟨now, better⟩
/-- the runs of the one market refuse no more than the other's end does -/
theorem run_ref {M N : Mk} {rooms : Int → Prop} (W : Wider M N rooms) {t : St} (w : Way N t) (d : Done N t) {s : St} (h : Run M s) : ∀ a r, rooms r → s.ref a r → t.ref a r := by
  induction h with
  | start => intro a r _ e; exact (e : False).elim
  | @unlisted s a r h n no ih =>
    intro b r' hr e
    rcases e with e | ⟨rfl, rfl⟩
    · exact ih b r' hr e
    · exact refused_too' W w d ih hr n.who n.room no n.pre
  | @taken s a r hs h n li H free ih => exact ih
  | @refused s a r x hs h n li H full mem worst ih =>
    intro b r' hr e
    rcases e with e | ⟨rfl, rfl⟩
    · exact ih b r' hr e
    · have ha : a ∉ hs := fun z => by
        have := (H.2 a).mp z
        rw [n.bare] at this; cases this
      refine refused_too W w d ih hr (ins := a :: hs) ⟨List.nodup_cons.mpr ⟨ha, H.1⟩, by rw [List.length_cons]; omega, ?_, fun c hc => ?_, fun c hc hne => worst c (List.mem_cons.mp hc) hne⟩
      · rcases mem with e | e
        · rw [e]; exact List.mem_cons_self ..
        · exact List.mem_cons_of_mem _ e
      · rcases List.mem_cons.mp hc with e | e
        · subst e; exact ⟨n.who, n.room, li, n.pre⟩
        · have e := (H.2 c).mp e
          obtain ⟨h1, h2, h3⟩ := h.way.ask c r' e
          exact ⟨h1, h2, h.way.likes c r' e, h3⟩
end Da
namespace Da
theorem Wider.refl {M : Mk} : Wider M M (fun _ => True) := ⟨fun _ h => h, fun _ _ _ => ⟨fun h => ⟨h, True.intro⟩, fun h => h.1⟩, fun _ _ _ _ h => h, fun _ _ => Nat.le_refl _, fun _ _ _ _ => Iff.rfl, fun _ _ _ _ _ _ h => h⟩
/-- what the narrower market gives an asker, the wider one gives, or better -/
theorem no_worse {M N : Mk} {rooms : Int → Prop} (W : Wider M N rooms) {s t : St} (hs : Run M s) (ds : Done M s) (ht : Run N t) (dt : Done N t) {a r' : Int} (ha : M.A a) (h : t.held a = some r') : ∃ r, s.held a = some r ∧ (r = r' ∨ Ahead (M.L a) r r') := by
  have wt := ht.way
  have ws := hs.way
  obtain ⟨_, h1, h2⟩ := wt.ask a r' h
  obtain ⟨h3, h4⟩ := (W.list a r' ha).mp h1
  have hn : ¬ s.ref a r' := fun z => wt.not a r' h (run_ref W wt dt hs a r' h4 z)
  cases e : s.held a with
  | none => exact absurd (ds a ha e r' h3) hn
  | some r =>
    refine ⟨r, rfl, ?_⟩
    obtain ⟨_, k1, k2⟩ := ws.ask a r e
    by_cases er : r = r'
    · exact .inl er
    · rcases ahead_or k1 h3 er with z | z
      · exact .inr z
      · exact absurd (k2 r' z) hn
/-- the end is the same, whatever the order of asking -/
theorem same_end {M : Mk} {s t : St} (hs : Run M s) (ds : Done M s) (ht : Run M t) (dt : Done M t) : (∀ a r, s.ref a r ↔ t.ref a r) ∧ s.held = t.held := by
  have h1 : ∀ a r, s.ref a r ↔ t.ref a r := fun a r => ⟨run_ref Wider.refl ht.way dt hs a r True.intro, run_ref Wider.refl hs.way ds ht a r True.intro⟩
  have go : ∀ {s t : St}, Run M s → Run M t → Done M t → (∀ a r, s.ref a r ↔ t.ref a r) → ∀ a r, s.held a = some r → t.held a = some r := fun {s t} hs ht dt hr a r e => by
    obtain ⟨k0, k1, k2⟩ := hs.way.ask a r e
    refine (holds_or ht.way dt k0 k1 fun r' z => (hr a r').mp (k2 r' z)).resolve_right fun z => hs.way.not a r e ((hr a r).mpr z)
  refine ⟨h1, funext fun a => ?_⟩
  cases e : s.held a with
  | some r => exact (go hs ht dt h1 a r e).symm
  | none =>
    cases e2 : t.held a with
    | none => rfl
    | some r =>
      have := go ht hs ds (fun a r => (h1 a r).symm) a r e2
      rw [e] at this; cases this
/-- with more who ask no room has fewer -/
theorem no_fewer {M N : Mk} (W : Wider M N (fun _ => True)) {s t : St} (hs : Run M s) (ht : Run N t) (dt : Done N t) {r : Int} (hq : M.q r ≤ N.q r) {ks ls : List Int} (nd : ks.Nodup) (hk : ∀ b, b ∈ ks → s.held b = some r) (hl : Holds t r ls) : ks.length ≤ ls.length := by
  by_cases hall : ∀ b, b ∈ ks → t.held b = some r
  · exact len_of_sub nd fun b hb => (hl.2 b).mpr (hall b hb)
  · have hex : ∃ b, b ∈ ks ∧ t.held b ≠ some r := Classical.byContradiction fun hn => hall fun b hb => Classical.byContradiction fun z => hn ⟨b, hb, z⟩
    obtain ⟨b, hb, hn⟩ := hex
    obtain ⟨k0, k1, k2⟩ := hs.way.ask b r (hk b hb)
    have hr : t.ref b r := (holds_or ht.way dt (W.ask b k0) ((W.list b r k0).mpr ⟨k1, True.intro⟩) fun r' z => run_ref W ht.way dt hs b r' True.intro (k2 r' (W.ahead b r' r k0 z))).resolve_left hn
    have li : b ∈ N.O r := (W.lists b r k0 True.intro).mp (hs.way.likes b r (hk b hb))
    obtain ⟨ms, m1, m2, m3⟩ := (ht.way.just b r hr li).1
    have c1 := hs.way.cap r ks nd hk
    have c2 := len_of_sub (xs := ms) (ys := ls) m1 fun c hc => (hl.2 c).mpr (m3 c hc)
    omega
end Da
namespace Da
/-- a matching in which no pair would rather be together -/
structure Stable (M : Mk) (h : Int → Option Int) : Prop where
  want : ∀ a r, h a = some r → M.A a ∧ r ∈ M.L a ∧ a ∈ M.O r
  cap : ∀ r (hs : List Int), hs.Nodup → (∀ a, a ∈ hs → h a = some r) → hs.length ≤ M.q r
  calm : ∀ a r, M.A a → r ∈ M.L a → a ∈ M.O r → (∀ r', h a = some r' → Ahead (M.L a) r r') → (∃ hs : List Int, hs.Nodup ∧ hs.length = M.q r ∧ ∀ b, b ∈ hs → h b = some r) ∧ ∀ b, h b = some r → Ahead (M.O r) b a
theorem end_stable {M : Mk} {s : St} (hs : Run M s) (ds : Done M s) : Stable M s.held := by
  have w := hs.way
  refine ⟨fun a r e => ?_, w.cap, fun a r ha hr ho k => ?_⟩
  · obtain ⟨h1, h2, _⟩ := w.ask a r e
    exact ⟨h1, h2, w.likes a r e⟩
  · refine w.just a r ?_ ho
    cases e : s.held a with
    | none => exact ds a ha e r hr
    | some r' => exact (w.ask a r' e).2.2 r (k r' e)
/-- no room refuses whom a stable matching gives it -/
theorem ref_never {M : Mk} {s : St} (hs : Run M s) {h : Int → Option Int} (S : Stable M h) : ∀ a r, s.ref a r → h a ≠ some r := by
  induction hs with
  | start => intro a r e; exact (e : False).elim
  | @unlisted s a r _ n no ih =>
    intro b r' e
    rcases e with e | ⟨rfl, rfl⟩
    · exact ih b r' e
    · exact fun z => no (S.want _ _ z).2.2
  | @taken s a r hs _ n li H free ih => exact ih
  | @refused s a r x hs hrun n li H full mem worst ih =>
    intro b r' e
    rcases e with e | ⟨rfl, rfl⟩
    · exact ih b r' e
    · intro hx
      have ha : a ∉ hs := fun z => by
        have := (H.2 a).mp z
        rw [n.bare] at this; cases this
      have who : ∀ c, c ∈ a :: hs → M.A c ∧ r' ∈ M.L c ∧ c ∈ M.O r' ∧ ∀ r2, Ahead (M.L c) r2 r' → s.ref c r2 := fun c hc => by
        rcases List.mem_cons.mp hc with e | e
        · subst e; exact ⟨n.who, n.room, li, n.pre⟩
        · have e := (H.2 c).mp e
          obtain ⟨h1, h2, h3⟩ := hrun.way.ask c r' e
          exact ⟨h1, h2, hrun.way.likes c r' e, h3⟩
      have hex : ∃ c, c ∈ a :: hs ∧ h c ≠ some r' := by
        apply Classical.byContradiction
        intro hn
        have h1 := S.cap r' (a :: hs) (List.nodup_cons.mpr ⟨ha, H.1⟩) fun c hc => Classical.byContradiction fun z => hn ⟨c, hc, z⟩
        rw [List.length_cons] at h1
        omega
      obtain ⟨c, hc, hcn⟩ := hex
      obtain ⟨h1, h2, h3, h4⟩ := who c hc
      have hne : c ≠ b := fun e => hcn (e ▸ hx)
      have k1 := (S.calm c r' h1 h2 h3 fun r2 e2 => by
        have hr2 := (S.want c r2 e2).2.1
        have hne2 : r' ≠ r2 := fun e => hcn (by rw [e2, e])
        rcases ahead_or h2 hr2 hne2 with z | z
        · exact z
        · exact absurd e2 (ih c r2 (h4 r2 z))).2 b hx
      exact ahead_asym k1 (worst c (List.mem_cons.mp hc) hne)
/-- the end of asking is the best of what any stable matching gives -/
theorem best {M : Mk} {s : St} (hs : Run M s) (ds : Done M s) {h : Int → Option Int} (S : Stable M h) {a r' : Int} (e : h a = some r') : ∃ r, s.held a = some r ∧ (r = r' ∨ Ahead (M.L a) r r') := by
  obtain ⟨h1, h2, _⟩ := S.want a r' e
  cases k : s.held a with
  | none => exact absurd e (ref_never hs S a r' (ds a h1 k r' h2))
  | some r =>
    refine ⟨r, rfl, ?_⟩
    obtain ⟨_, k1, k2⟩ := hs.way.ask a r k
    by_cases er : r = r'
    · exact .inl er
    · rcases ahead_or k1 h2 er with z | z
      · exact .inr z
      · exact absurd e (ref_never hs S a r' (k2 r' z))
/-- a room has, by asking, no more than in any stable matching -/
theorem no_more {M : Mk} {s : St} (hs : Run M s) (ds : Done M s) {h : Int → Option Int} (S : Stable M h) {r : Int} {ks ls : List Int} (nd : ks.Nodup) (hk : ∀ b, b ∈ ks → s.held b = some r) (hl : ∀ b, h b = some r → b ∈ ls) : ks.length ≤ ls.length := by
  by_cases hall : ∀ b, b ∈ ks → h b = some r
  · exact len_of_sub nd fun b hb => hl b (hall b hb)
  · have hex : ∃ b, b ∈ ks ∧ h b ≠ some r := Classical.byContradiction fun hn => hall fun b hb => Classical.byContradiction fun z => hn ⟨b, hb, z⟩
    obtain ⟨b, hb, hn⟩ := hex
    obtain ⟨k0, k1, k2⟩ := hs.way.ask b r (hk b hb)
    obtain ⟨ms, m1, m2, m3⟩ := (S.calm b r k0 k1 (hs.way.likes b r (hk b hb)) fun r' e => by
      obtain ⟨r2, g1, g2⟩ := best hs ds S e
      rw [hk b hb] at g1
      cases g1
      rcases g2 with g2 | g2
      · exact absurd (g2 ▸ e) hn
      · exact g2).1
    have c1 := hs.way.cap r ks nd hk
    have c2 := len_of_sub (xs := ms) (ys := ls) m1 fun c hc => hl c (m3 c hc)
    omega
end Da
namespace Da
def cnt (as : List Int) (f : Int → Option Int) (r : Int) : Nat := (as.filter fun a => decide (f a = some r)).length
theorem sum_zero : ∀ (rs : List Int) (g : Int → Nat), (∀ r, r ∈ rs → g r = 0) → (rs.map g).sum = 0
  | [], _, _ => rfl
  | r :: rs, g, h => by
    rw [List.map_cons, List.sum_cons, h r (List.mem_cons_self ..), sum_zero rs g fun x hx => h x (List.mem_cons_of_mem _ hx)]
theorem sum_one : ∀ (rs : List Int) (o : Option Int), rs.Nodup → (∀ r, o = some r → r ∈ rs) → (rs.map fun r => if o = some r then 1 else 0).sum = if o.isSome then 1 else 0
  | rs, none, _, _ => by
    rw [sum_zero rs _ fun r _ => if_neg (fun z => nomatch z)]
    rfl
  | [], some x, _, h => nomatch h x rfl
  | r :: rs, some x, nd, h => by
    have nd' := List.nodup_cons.mp nd
    rw [List.map_cons, List.sum_cons]
    by_cases e : x = r
    · subst e
      rw [if_pos rfl, sum_zero rs _ fun y hy => if_neg fun z => nd'.1 (by cases z; exact hy)]
      rfl
    · have hx : x ∈ rs := (List.mem_cons.mp (h x rfl)).resolve_left e
      rw [if_neg (fun z => e (by cases z; rfl)), sum_one rs (some x) nd'.2 fun y hy => by cases hy; exact hx]
      simp
theorem sum_add : ∀ (rs : List Int) (g k : Int → Nat), (rs.map fun r => g r + k r).sum = (rs.map g).sum + (rs.map k).sum
  | [], _, _ => rfl
  | r :: rs, g, k => by
    simp only [List.map_cons, List.sum_cons, sum_add rs g k]
    omega
/-- rooms' counts together: who has a room -/
theorem sum_cnt {rs : List Int} (nd : rs.Nodup) {f : Int → Option Int} : ∀ (as : List Int), (∀ a r, a ∈ as → f a = some r → r ∈ rs) → (rs.map fun r => cnt as f r).sum = (as.filter fun a => (f a).isSome).length
  | [], _ => sum_zero rs _ fun _ _ => rfl
  | a :: as, h => by
    have ih := sum_cnt nd as fun b r hb => h b r (List.mem_cons_of_mem _ hb)
    have e : (fun r => cnt (a :: as) f r) = fun r => (if f a = some r then 1 else 0) + cnt as f r := funext fun r => by
      unfold cnt
      by_cases z : f a = some r
      · rw [List.filter_cons_of_pos (by simpa using z), if_pos z, List.length_cons]; omega
      · rw [List.filter_cons_of_neg (by simpa using z), if_neg z]; omega
    rw [e, sum_add, ih, sum_one rs (f a) nd fun r hr => h a r (List.mem_cons_self ..) hr]
    cases z : f a with
    | none => rw [List.filter_cons_of_neg (by rw [z]; simp)]; simp
    | some x => rw [List.filter_cons_of_pos (by rw [z]; rfl), List.length_cons]; simp; omega
theorem sum_le : ∀ (rs : List Int) (g k : Int → Nat), (∀ r, g r ≤ k r) → (rs.map g).sum ≤ (rs.map k).sum
  | [], _, _, _ => Nat.le_refl _
  | r :: rs, g, k, h => by
    rw [List.map_cons, List.map_cons, List.sum_cons, List.sum_cons]
    exact Nat.add_le_add (h r) (sum_le rs g k h)
theorem filter_le (p q : Int → Bool) : ∀ (as : List Int), (∀ a, a ∈ as → p a = true → q a = true) → (as.filter p).length ≤ (as.filter q).length
  | [], _ => Nat.le_refl _
  | a :: as, h => by
    have ih := filter_le p q as fun b hb => h b (List.mem_cons_of_mem _ hb)
    cases hp : p a with
    | false =>
      rw [List.filter_cons_of_neg (by rw [hp]; simp)]
      cases hq : q a with
      | false => rw [List.filter_cons_of_neg (by rw [hq]; simp)]; exact ih
      | true => rw [List.filter_cons_of_pos hq, List.length_cons]; omega
    | true =>
      rw [List.filter_cons_of_pos hp, List.filter_cons_of_pos (h a (List.mem_cons_self ..) hp), List.length_cons, List.length_cons]
      omega
theorem filter_same (p q : Int → Bool) : ∀ (as : List Int), (∀ a, a ∈ as → p a = true → q a = true) → (as.filter q).length ≤ (as.filter p).length → ∀ a, a ∈ as → q a = true → p a = true
  | [], _, _, a, ha, _ => nomatch ha
  | b :: as, h, hl, a, ha, hq => by
    have hle := filter_le p q as fun c hc => h c (List.mem_cons_of_mem _ hc)
    have hb : p b = true ∨ q b = false := by
      cases hp : p b with
      | true => exact .inl rfl
      | false =>
        cases hqb : q b with
        | false => exact .inr rfl
        | true =>
          rw [List.filter_cons_of_pos hqb, List.filter_cons_of_neg (by rw [hp]; simp), List.length_cons] at hl
          omega
    have hl' : (as.filter q).length ≤ (as.filter p).length := by
      rcases hb with hp | hn
      · rw [List.filter_cons_of_pos hp, List.filter_cons_of_pos (h b (List.mem_cons_self ..) hp), List.length_cons, List.length_cons] at hl
        omega
      · have hp : p b = false := Bool.eq_false_iff.mpr fun z => by rw [h b (List.mem_cons_self ..) z] at hn; cases hn
        rw [List.filter_cons_of_neg (by rw [hn]; simp), List.filter_cons_of_neg (by rw [hp]; simp)] at hl
        exact hl
    rcases List.mem_cons.mp ha with e | e
    · subst e
      rcases hb with z | z
      · exact z
      · rw [z] at hq; cases hq
    · exact filter_same p q as (fun c hc => h c (List.mem_cons_of_mem _ hc)) hl' a e hq
/-- the same askers have a room in each stable matching as by asking -/
theorem rural {M : Mk} {s : St} (hs : Run M s) (ds : Done M s) {h : Int → Option Int} (S : Stable M h) {as rs : List Int} (na : as.Nodup) (nr : rs.Nodup) (ha : ∀ a, M.A a → a ∈ as) (hr : ∀ a r, M.A a → r ∈ M.L a → r ∈ rs) (a : Int) :
    (s.held a).isSome = true ↔ (h a).isSome = true := by
  have w := hs.way
  have up : ∀ b, (h b).isSome = true → (s.held b).isSome = true := fun b e => by
    cases k : h b with
    | none => rw [k] at e; cases e
    | some r =>
      obtain ⟨r2, g, _⟩ := best hs ds S k
      rw [g]; rfl
  refine ⟨fun e => ?_, up a⟩
  have e1 := sum_cnt nr (f := s.held) as fun b r _ k => let ⟨h1, h2, _⟩ := w.ask b r k; hr b r h1 h2
  have e2 := sum_cnt nr (f := h) as fun b r _ k => let ⟨h1, h2, _⟩ := S.want b r k; hr b r h1 h2
  have le : ∀ r, cnt as s.held r ≤ cnt as h r := fun r => no_more hs ds S (na.filter _) (fun b hb => by simpa using (List.mem_filter.mp hb).2) fun b hb => List.mem_filter.mpr ⟨ha b (S.want b r hb).1, by simpa using hb⟩
  have tot := sum_le rs _ _ le
  rw [e1, e2] at tot
  have ma : a ∈ as := by
    cases k : s.held a with
    | none => rw [k] at e; cases e
    | some r => exact ha a (w.ask a r k).1
  exact filter_same (fun b => (h b).isSome) (fun b => (s.held b).isSome) as (fun b _ z => up b z) tot a ma e
end Da
namespace Da
open Classical
theorem flt_le {α : Type} (p q : α → Bool) : ∀ (as : List α), (∀ a, a ∈ as → p a = true → q a = true) → (as.filter p).length ≤ (as.filter q).length
  | [], _ => Nat.le_refl _
  | a :: as, h => by
    have ih := flt_le p q as fun b hb => h b (List.mem_cons_of_mem _ hb)
    cases hp : p a with
    | false =>
      rw [List.filter_cons_of_neg (by rw [hp]; simp)]
      cases hq : q a with
      | false => rw [List.filter_cons_of_neg (by rw [hq]; simp)]; exact ih
      | true => rw [List.filter_cons_of_pos hq, List.length_cons]; omega
    | true =>
      rw [List.filter_cons_of_pos hp, List.filter_cons_of_pos (h a (List.mem_cons_self ..) hp), List.length_cons, List.length_cons]
      omega
theorem flt_lt {α : Type} (p q : α → Bool) : ∀ (as : List α), (∀ a, a ∈ as → p a = true → q a = true) → ∀ x, x ∈ as → q x = true → p x = false → (as.filter p).length < (as.filter q).length
  | [], _, x, hx, _, _ => nomatch hx
  | a :: as, h, x, hx, hq, hp => by
    rcases List.mem_cons.mp hx with e | e
    · subst e
      rw [List.filter_cons_of_neg (by rw [hp]; simp), List.filter_cons_of_pos hq, List.length_cons]
      have := flt_le p q as fun b hb => h b (List.mem_cons_of_mem _ hb)
      omega
    · have ih := flt_lt p q as (fun b hb => h b (List.mem_cons_of_mem _ hb)) x e hq hp
      cases hpa : p a with
      | false =>
        rw [List.filter_cons_of_neg (by rw [hpa]; simp)]
        cases hqa : q a with
        | false => rw [List.filter_cons_of_neg (by rw [hqa]; simp)]; exact ih
        | true => rw [List.filter_cons_of_pos hqa, List.length_cons]; omega
      | true =>
        rw [List.filter_cons_of_pos hpa, List.filter_cons_of_pos (h a (List.mem_cons_self ..) hpa), List.length_cons, List.length_cons]
        omega
/-- one of some stands last in a list -/
theorem last_of {l : List Int} : ∀ (xs : List Int), xs ≠ [] → (∀ x, x ∈ xs → x ∈ l) → ∃ x, x ∈ xs ∧ ∀ b, b ∈ xs → b ≠ x → Ahead l b x
  | [], h, _ => absurd rfl h
  | [x], _, _ => ⟨x, List.mem_cons_self .., fun b hb hne => by
      rcases List.mem_cons.mp hb with e | e
      · exact absurd e hne
      · cases e⟩
  | x :: y :: xs, _, hm => by
    obtain ⟨z, hz, k⟩ := last_of (y :: xs) (fun e => nomatch e) fun b hb => hm b (List.mem_cons_of_mem _ hb)
    by_cases e : x = z
    · refine ⟨z, List.mem_cons_of_mem _ hz, fun b hb hne => ?_⟩
      rcases List.mem_cons.mp hb with e2 | e2
      · exact absurd (e2.trans e) hne
      · exact k b e2 hne
    · rcases ahead_or (hm x (List.mem_cons_self ..)) (hm z (List.mem_cons_of_mem _ hz)) e with q | q
      · refine ⟨z, List.mem_cons_of_mem _ hz, fun b hb hne => ?_⟩
        rcases List.mem_cons.mp hb with e2 | e2
        · rw [e2]; exact q
        · exact k b e2 hne
      · refine ⟨x, List.mem_cons_self .., fun b hb hne => ?_⟩
        rcases List.mem_cons.mp hb with e2 | e2
        · exact absurd e2 hne
        · by_cases e3 : b = z
          · rw [e3]; exact q
          · exact ahead_trans (k b e2 e3) q
/-- the first of some in a list -/
theorem first_of {l : List Int} {P : Int → Prop} (h : ∃ r, r ∈ l ∧ P r) : ∃ r, r ∈ l ∧ P r ∧ ∀ r', Ahead l r' r → ¬ P r' := by
  have go : ∀ n r, r ∈ l → P r → l.idxOf r ≤ n → ∃ r, r ∈ l ∧ P r ∧ ∀ r', Ahead l r' r → ¬ P r' := by
    intro n
    induction n with
    | zero => exact fun r hr hp hn => ⟨r, hr, hp, fun r' k _ => by have := k.2.2; omega⟩
    | succ n ih =>
      intro r hr hp hn
      by_cases z : ∃ r', Ahead l r' r ∧ P r'
      · obtain ⟨r', k, hp'⟩ := z
        exact ih r' k.1 hp' (by have := k.2.2; omega)
      · exact ⟨r, hr, hp, fun r' k hp' => z ⟨r', k, hp'⟩⟩
  obtain ⟨r, hr, hp⟩ := h
  exact go _ r hr hp (Nat.le_refl _)
section
variable {M : Mk} {as rs : List Int}
noncomputable def refs (as rs : List Int) (s : St) : Nat := ((as.flatMap fun a => rs.map fun r => (a, r)).filter fun p => decide (s.ref p.1 p.2)).length
def helds (as : List Int) (s : St) : Nat := (as.filter fun a => (s.held a).isSome).length
theorem mem_pairs {a r : Int} (ha : a ∈ as) (hr : r ∈ rs) : (a, r) ∈ as.flatMap fun a => rs.map fun r => (a, r) := List.mem_flatMap.mpr ⟨a, ha, List.mem_map.mpr ⟨r, hr, rfl⟩⟩
theorem refs_add {s : St} {h : Int → Option Int} {x r : Int} (hx : x ∈ as) (hr : r ∈ rs) (hn : ¬ s.ref x r) : refs as rs s < refs as rs ⟨h, add s.ref x r⟩ :=
  flt_lt _ _ _ (fun p _ k => decide_eq_true (.inl (of_decide_eq_true k))) (x, r) (mem_pairs hx hr) (decide_eq_true (.inr ⟨rfl, rfl⟩)) (decide_eq_false hn)
/-- some step, where one may still ask -/
theorem step_on (ha : ∀ a, M.A a → a ∈ as) (hr : ∀ a r, M.A a → r ∈ M.L a → r ∈ rs) (na : as.Nodup) {s : St} (hs : Run M s) (nd : ¬ Done M s) : ∃ s', Run M s' ∧ (refs as rs s < refs as rs s' ∨ (refs as rs s = refs as rs s' ∧ helds as s < helds as s')) := by
  have hex : ∃ a, M.A a ∧ s.held a = none ∧ ∃ r, r ∈ M.L a ∧ ¬ s.ref a r := by
    apply byContradiction
    intro z
    exact nd fun a h1 h2 r h3 => byContradiction fun h4 => z ⟨a, h1, h2, r, h3, h4⟩
  obtain ⟨a, h1, h2, h3⟩ := hex
  obtain ⟨r, k1, k2, k3⟩ := first_of h3
  have n : Next M s a r := ⟨h1, h2, k1, k2, fun r' k => byContradiction (k3 r' k)⟩
  have w := hs.way
  by_cases li : a ∈ M.O r
  · have H : Holds s r (as.filter fun b => decide (s.held b = some r)) := ⟨na.filter _, fun b => ⟨fun hb => by simpa using (List.mem_filter.mp hb).2, fun hb => List.mem_filter.mpr ⟨ha b (w.ask b r hb).1, by simpa using hb⟩⟩⟩
    by_cases free : (as.filter fun b => decide (s.held b = some r)).length < M.q r
    · refine ⟨_, .taken hs n li H free, .inr ⟨rfl, ?_⟩⟩
      refine flt_lt _ _ _ (fun b _ k => ?_) a (ha a h1) (by show (put s.held a (some r) a).isSome = true; rw [put_eq]; rfl) (by show (s.held a).isSome = false; rw [h2]; rfl)
      show (put s.held a (some r) b).isSome = true
      by_cases e : b = a
      · rw [e, put_eq]; rfl
      · rw [put_ne e]; exact k
    · obtain ⟨x, hx, worst⟩ := last_of (l := M.O r) (a :: as.filter fun b => decide (s.held b = some r)) (fun e => nomatch e) fun b hb => by
        rcases List.mem_cons.mp hb with e | e
        · rw [e]; exact li
        · exact w.likes b r ((H.2 b).mp e)
      have xin : x ∈ as ∧ ¬ s.ref x r := by
        rcases List.mem_cons.mp hx with e | e
        · rw [e]; exact ⟨ha a h1, k2⟩
        · have e := (H.2 x).mp e
          exact ⟨ha x (w.ask x r e).1, w.not x r e⟩
      exact ⟨_, .refused hs n li H (Nat.le_of_not_lt free) (List.mem_cons.mp hx) (fun b hb => worst b (List.mem_cons.mpr hb)), .inl (refs_add xin.1 (hr a r h1 k1) xin.2)⟩
  · exact ⟨_, .unlisted hs n li, .inl (refs_add (ha a h1) (hr a r h1 k1) k2)⟩
/-- asking comes to an end -/
theorem ends (ha : ∀ a, M.A a → a ∈ as) (hr : ∀ a r, M.A a → r ∈ M.L a → r ∈ rs) (na : as.Nodup) : ∃ s, Run M s ∧ Done M s := by
  have top : ∀ s, refs as rs s ≤ (as.flatMap fun a => rs.map fun r => (a, r)).length := fun s => List.length_filter_le ..
  have top2 : ∀ s, helds as s ≤ as.length := fun s => List.length_filter_le ..
  have go : ∀ n s, Run M s → (as.length + 1) * ((as.flatMap fun a => rs.map fun r => (a, r)).length - refs as rs s) + (as.length - helds as s) ≤ n → ∃ s, Run M s ∧ Done M s := by
    intro n
    induction n with
    | zero =>
      intro s hs hn
      by_cases d : Done M s
      · exact ⟨s, hs, d⟩
      · obtain ⟨s', hs', k⟩ := step_on ha hr na hs d
        have t1 := top s'
        have t2 := top2 s'
        have z : (as.length + 1) * ((as.flatMap fun a => rs.map fun r => (a, r)).length - refs as rs s) = 0 := by omega
        have z2 : (as.flatMap fun a => rs.map fun r => (a, r)).length - refs as rs s = 0 := by
          rcases Nat.mul_eq_zero.mp z with q | q
          · omega
          · exact q
        exfalso
        omega
    | succ n ih =>
      intro s hs hn
      by_cases d : Done M s
      · exact ⟨s, hs, d⟩
      · obtain ⟨s', hs', k⟩ := step_on ha hr na hs d
        refine ih s' hs' ?_
        have t1 := top s'
        have t2 := top2 s'
        have t3 := top2 s
        rcases k with k | ⟨k1, k2⟩
        · have h1 : (as.flatMap fun a => rs.map fun r => (a, r)).length - refs as rs s' + 1 ≤ (as.flatMap fun a => rs.map fun r => (a, r)).length - refs as rs s := by omega
          have h2 := Nat.mul_le_mul_left (as.length + 1) h1
          rw [Nat.mul_add, Nat.mul_one] at h2
          omega
        · rw [← k1]
          omega
  exact go _ _ .start (Nat.le_refl _)
end
end Da
namespace Da
theorem idx_ne {x a : Int} {l : List Int} (h : x ≠ a) : (x :: l).idxOf a = l.idxOf a + 1 := by
  rw [List.idxOf_cons]
  have : (x == a) = false := by simpa using h
  rw [this]; rfl
theorem idx_filter {P : Int → Bool} {a b : Int} (pa : P a = true) (pb : P b = true) : ∀ (l : List Int), a ∈ l → b ∈ l → ((l.filter P).idxOf a < (l.filter P).idxOf b ↔ l.idxOf a < l.idxOf b)
  | [], h, _ => nomatch h
  | x :: l, ha, hb => by
    by_cases ea : a = x
    · subst ea
      rw [List.filter_cons_of_pos pa, List.idxOf_cons_self, List.idxOf_cons_self]
      by_cases eb : b = a
      · subst eb; rw [List.idxOf_cons_self, List.idxOf_cons_self]
      · rw [idx_ne (fun e => eb e.symm), idx_ne (fun e => eb e.symm)]
        exact ⟨fun _ => Nat.succ_pos _, fun _ => Nat.succ_pos _⟩
    · have ha' : a ∈ l := (List.mem_cons.mp ha).resolve_left ea
      by_cases eb : b = x
      · subst eb
        rw [List.filter_cons_of_pos pb, List.idxOf_cons_self, List.idxOf_cons_self]
        exact ⟨fun h => absurd h (Nat.not_lt_zero _), fun h => absurd h (Nat.not_lt_zero _)⟩
      · have hb' : b ∈ l := (List.mem_cons.mp hb).resolve_left eb
        have ih := idx_filter pa pb l ha' hb'
        rw [idx_ne (fun e => ea e.symm), idx_ne (fun e => eb e.symm)]
        by_cases px : P x = true
        · rw [List.filter_cons_of_pos px, idx_ne (fun e => ea e.symm), idx_ne (fun e => eb e.symm)]
          omega
        · rw [List.filter_cons_of_neg px]
          omega
theorem ahead_filter {P : Int → Bool} {l : List Int} {a b : Int} : Ahead (l.filter P) a b ↔ Ahead l a b ∧ P a = true ∧ P b = true := by
  constructor
  · rintro ⟨h1, h2, h3⟩
    obtain ⟨h1, p1⟩ := List.mem_filter.mp h1
    obtain ⟨h2, p2⟩ := List.mem_filter.mp h2
    exact ⟨⟨h1, h2, (idx_filter p1 p2 l h1 h2).mp h3⟩, p1, p2⟩
  · rintro ⟨⟨h1, h2, h3⟩, p1, p2⟩
    exact ⟨List.mem_filter.mpr ⟨h1, p1⟩, List.mem_filter.mpr ⟨h2, p2⟩, (idx_filter p1 p2 l h1 h2).mpr h3⟩
/-- N is M with k put up in the order of r0 -/
structure Up (M N : Mk) (k r0 : Int) : Prop where
  A : ∀ a, N.A a ↔ M.A a
  L : N.L = M.L
  q : N.q = M.q
  other : ∀ r, r ≠ r0 → N.O r = M.O r
  mem : ∀ a, a ≠ k → (a ∈ N.O r0 ↔ a ∈ M.O r0)
  first : ∀ a, a ∈ N.O r0 → a ≠ k → Ahead (N.O r0) k a
  listed : k ∈ N.O r0
  order : ∀ a b, a ≠ k → b ≠ k → Ahead (M.O r0) a b → Ahead (N.O r0) a b
def cutL (M : Mk) (k : Int) (l : List Int) : Mk := ⟨fun a => if a = k then l else M.L a, M.O, M.q, M.A⟩
theorem cut_k {M : Mk} {k : Int} {l : List Int} : (cutL M k l).L k = l := if_pos rfl
theorem cut_ne {M : Mk} {k a : Int} {l : List Int} (h : a ≠ k) : (cutL M k l).L a = M.L a := if_neg h
theorem put_up {M N : Mk} {k r0 : Int} (U : Up M N k r0) {as rs : List Int} (na : as.Nodup) (nr : rs.Nodup) (ha : ∀ a, M.A a → a ∈ as) (hr : ∀ a r, M.A a → r ∈ M.L a → r ∈ rs) {s t : St} (hs : Run M s) (ds : Done M s) (ht : Run N t) (dt : Done N t) {r1 : Int} (e : s.held k = some r1) :
    ∃ r2, t.held k = some r2 ∧ (r2 = r1 ∨ Ahead (M.L k) r2 r1) := by
  have Ss := end_stable hs ds
  obtain ⟨k0, k1, k2⟩ := Ss.want k r1 e
  have memN : ∀ a r, a ∈ M.O r → a ∈ N.O r := fun a r h => by
    by_cases er : r = r0
    · subst er
      by_cases ea : a = k
      · rw [ea]; exact U.listed
      · exact (U.mem a ea).mpr h
    · rw [U.other r er]; exact h
  have memM : ∀ a r, a ≠ k → a ∈ N.O r → a ∈ M.O r := fun a r ea h => by
    by_cases er : r = r0
    · subst er; exact (U.mem a ea).mp h
    · rw [U.other r er] at h; exact h
  have ordN : ∀ a b r, a ≠ k → a ∈ N.O r → Ahead (M.O r) b a → Ahead (N.O r) b a := fun a b r ea hm h => by
    by_cases er : r = r0
    · subst er
      by_cases eb : b = k
      · rw [eb]; exact U.first a hm ea
      · exact U.order b a eb ea h
    · rw [U.other r er]; exact h
  -- k's list is its room alone
  have S1 : Stable (cutL N k [r1]) s.held := by
    refine ⟨fun a r h => ?_, fun r hs nd h => by show _ ≤ N.q r; rw [U.q]; exact Ss.cap r hs nd h, fun a r hA hL hO hp => ?_⟩
    · obtain ⟨h1, h2, h3⟩ := Ss.want a r h
      refine ⟨(U.A a).mpr h1, ?_, memN a r h3⟩
      by_cases ea : a = k
      · subst ea
        rw [e] at h
        cases h
        rw [cut_k]; exact List.mem_cons_self ..
      · rw [cut_ne ea, U.L]; exact h2
    · by_cases ea : a = k
      · exfalso
        subst ea
        rw [cut_k] at hL hp
        have er : r = r1 := by simpa using hL
        subst er
        exact ahead_irr (hp r e)
      · rw [cut_ne ea, U.L] at hL hp
        have hO' := memM a r ea hO
        obtain ⟨h1, h2⟩ := Ss.calm a r ((U.A a).mp hA) hL hO' hp
        refine ⟨?_, fun b hb => ordN a b r ea hO (h2 b hb)⟩
        obtain ⟨ks, q1, q2, q3⟩ := h1
        exact ⟨ks, q1, by show _ = N.q r; rw [U.q]; exact q2, q3⟩
  -- k's list cut behind it
  let p := (M.L k).filter fun r => decide (r = r1) || decide ((M.L k).idxOf r < (M.L k).idxOf r1)
  have hp1 : r1 ∈ p := List.mem_filter.mpr ⟨k1, by simp⟩
  have fin : ∀ l : List Int, (∀ r, r ∈ l → r ∈ M.L k) → ∃ u, Run (cutL N k l) u ∧ Done (cutL N k l) u := fun l hl => ends (as := as) (rs := rs) (fun a h => ha a ((U.A a).mp h)) (fun a r h h2 => by
    by_cases ea : a = k
    · subst ea; rw [cut_k] at h2; exact hr a r k0 (hl r h2)
    · rw [cut_ne ea, U.L] at h2; exact hr a r ((U.A a).mp h) h2) na
  obtain ⟨u, hu, du⟩ := fin p fun r h => (List.mem_filter.mp h).1
  obtain ⟨v, hv, dv⟩ := fin [r1] fun r h => by
    have : r = r1 := by simpa using h
    rw [this]; exact k1
  have Su := end_stable hu du
  have ruralN : ∀ h, Stable (cutL N k [r1]) h → ((v.held k).isSome = true ↔ (h k).isSome = true) := fun h S => rural hv dv S na nr (fun a h => ha a ((U.A a).mp h)) (fun a r h h2 => by
    by_cases ea : a = k
    · subst ea
      rw [cut_k] at h2
      have : r = r1 := by simpa using h2
      rw [this]; exact hr a r1 k0 k1
    · rw [cut_ne ea, U.L] at h2; exact hr a r ((U.A a).mp h) h2) k
  have got : ∃ r2, u.held k = some r2 := by
    cases z : u.held k with
    | some r2 => exact ⟨r2, rfl⟩
    | none =>
      exfalso
      have S2 : Stable (cutL N k [r1]) u.held := by
        refine ⟨fun a r h => ?_, Su.cap, fun a r hA hL hO hq => ?_⟩
        · obtain ⟨h1, h2, h3⟩ := Su.want a r h
          by_cases ea : a = k
          · rw [ea, z] at h; cases h
          · rw [cut_ne ea] at h2
            exact ⟨h1, by rw [cut_ne ea]; exact h2, h3⟩
        · by_cases ea : a = k
          · subst ea
            rw [cut_k] at hL
            have er : r = r1 := by simpa using hL
            subst er
            exact Su.calm a r hA (by rw [cut_k]; exact hp1) hO fun r' h => by rw [z] at h; cases h
          · rw [cut_ne ea] at hL hq
            exact Su.calm a r hA (by rw [cut_ne ea]; exact hL) hO (by rw [cut_ne ea]; exact hq)
      have q1 := (ruralN _ S1).mpr (by rw [e]; rfl)
      have q2 := (ruralN _ S2).mp q1
      rw [z] at q2; cases q2
  obtain ⟨r2, hr2⟩ := got
  obtain ⟨_, g2, _⟩ := Su.want k r2 hr2
  rw [cut_k] at g2
  obtain ⟨g3, g4⟩ := List.mem_filter.mp g2
  have g5 : r2 = r1 ∨ Ahead (M.L k) r2 r1 := by
    rcases (Bool.or_eq_true _ _).mp g4 with q | q
    · exact .inl (of_decide_eq_true q)
    · exact .inr ⟨g3, k1, of_decide_eq_true q⟩
  -- it is stable with the whole list, too
  have S3 : Stable N u.held := by
    refine ⟨fun a r h => ?_, Su.cap, fun a r hA hL hO hq => ?_⟩
    · obtain ⟨h1, h2, h3⟩ := Su.want a r h
      refine ⟨h1, ?_, h3⟩
      by_cases ea : a = k
      · subst ea
        rw [cut_k] at h2
        rw [U.L]; exact (List.mem_filter.mp h2).1
      · rw [cut_ne ea] at h2; exact h2
    · by_cases ea : a = k
      · subst ea
        have q := hq r2 hr2
        rw [U.L] at q
        have hin : (decide (r = r1) || decide ((M.L a).idxOf r < (M.L a).idxOf r1)) = true := by
          rw [Bool.or_eq_true]
          right
          refine decide_eq_true ?_
          rcases g5 with z | z
          · rw [← z]; exact q.2.2
          · exact Nat.lt_trans q.2.2 z.2.2
        refine Su.calm a r hA (by rw [cut_k]; exact List.mem_filter.mpr ⟨q.1, hin⟩) hO fun r' h => ?_
        rw [hr2] at h
        cases h
        rw [cut_k]
        exact ahead_filter.mpr ⟨q, hin, g4⟩
      · exact Su.calm a r hA (by rw [cut_ne ea]; exact hL) hO (by rw [cut_ne ea]; exact hq)
  obtain ⟨r3, h3, h4⟩ := best ht dt S3 hr2
  refine ⟨r3, h3, ?_⟩
  rw [U.L] at h4
  rcases h4 with z | z
  · rw [z]; exact g5
  · rcases g5 with y | y
    · exact .inr (y ▸ z)
    · exact .inr (ahead_trans z y)
end Da
namespace Da
theorem idx_at : ∀ (l : List Int) (n : Nat) (r : Int), l.Nodup → l[n]? = some r → l.idxOf r = n
  | [], n, r, _, h => nomatch h
  | x :: l, 0, r, _, h => by
    have e : x = r := by simpa using h
    subst e
    exact List.idxOf_cons_self
  | x :: l, n + 1, r, nd, h => by
    have h' : l[n]? = some r := by simpa using h
    have nd' := List.nodup_cons.mp nd
    have hm : r ∈ l := List.mem_of_getElem? h'
    have hne : x ≠ r := fun e => nd'.1 (e ▸ hm)
    rw [idx_ne hne, idx_at l n r nd'.2 h']
theorem idx_inj {l : List Int} {a b : Int} (ha : a ∈ l) (hb : b ∈ l) (e : l.idxOf a = l.idxOf b) : a = b := by
  have h1 := List.getElem_idxOf (List.idxOf_lt_length_iff.mpr ha)
  have h2 := List.getElem_idxOf (List.idxOf_lt_length_iff.mpr hb)
  rw [← h1, ← h2]
  congr 1
/-- what is known by how far each has asked and by who holds what -/
def sta (M : Mk) (nx : Int → Nat) (hd : Int → Option Int) : St := ⟨hd, fun a r => M.A a ∧ r ∈ M.L a ∧ (M.L a).idxOf r < nx a ∧ hd a ≠ some r⟩
def bump (nx : Int → Nat) (a : Int) : Int → Nat := fun b => if b = a then nx b + 1 else nx b
theorem bump_eq {nx : Int → Nat} {a : Int} : bump nx a a = nx a + 1 := if_pos rfl
theorem bump_ne {nx : Int → Nat} {a b : Int} (h : b ≠ a) : bump nx a b = nx b := if_neg h
structure Inv (M : Mk) (nx : Int → Nat) (hd : Int → Option Int) : Prop where
  run : Run M (sta M nx hd)
  last : ∀ a r, hd a = some r → r ∈ M.L a ∧ (M.L a).idxOf r + 1 = nx a
theorem inv0 {M : Mk} : Inv M (fun _ => 0) (fun _ => none) := by
  refine ⟨?_, fun a r e => nomatch e⟩
  have e : sta M (fun _ => 0) (fun _ => none) = ⟨fun _ => none, fun _ _ => False⟩ := by
    unfold sta
    congr 1
    funext a r
    exact propext ⟨fun h => absurd h.2.2.1 (Nat.not_lt_zero _), fun h => h.elim⟩
  rw [e]
  exact .start
section
variable {M : Mk} {nx : Int → Nat} {hd : Int → Option Int} {a r x : Int}
theorem next_of (nd : (M.L a).Nodup) (ha : M.A a) (hb : hd a = none) (hr : (M.L a)[nx a]? = some r) : Next M (sta M nx hd) a r := by
  have hi := idx_at _ _ _ nd hr
  have hm : r ∈ M.L a := List.mem_of_getElem? hr
  refine ⟨ha, hb, hm, fun h => ?_, fun r' k => ⟨ha, k.1, ?_, ?_⟩⟩
  · have := h.2.2.1; omega
  · have := k.2.2; omega
  · rw [hb]; exact fun h => nomatch h
theorem step_unlisted (I : Inv M nx hd) (nd : (M.L a).Nodup) (ha : M.A a) (hb : hd a = none) (hr : (M.L a)[nx a]? = some r) (no : a ∉ M.O r) : Inv M (bump nx a) hd := by
  have hi := idx_at _ _ _ nd hr
  have hm : r ∈ M.L a := List.mem_of_getElem? hr
  refine ⟨?_, fun b r' e => ?_⟩
  · have e : sta M (bump nx a) hd = ⟨hd, add (sta M nx hd).ref a r⟩ := by
      unfold sta add
      congr 1
      funext b r'
      apply propext
      by_cases hba : b = a
      · subst hba
        rw [bump_eq]
        constructor
        · rintro ⟨h1, h2, h3, h4⟩
          by_cases e : (M.L b).idxOf r' < nx b
          · exact .inl ⟨h1, h2, e, h4⟩
          · exact .inr ⟨rfl, idx_inj h2 hm (by omega)⟩
        · rintro (⟨h1, h2, h3, h4⟩ | ⟨_, rfl⟩)
          · exact ⟨h1, h2, by omega, h4⟩
          · exact ⟨ha, hm, by omega, by rw [hb]; exact fun h => nomatch h⟩
      · rw [bump_ne hba]
        exact ⟨fun h => .inl h, fun h => h.elim id fun k => absurd k.1 hba⟩
    rw [e]
    exact .unlisted I.run (next_of nd ha hb hr) no
  · obtain ⟨h1, h2⟩ := I.last b r' e
    have hba : b ≠ a := fun k => by rw [k, hb] at e; cases e
    exact ⟨h1, by rw [bump_ne hba]; exact h2⟩
theorem step_taken (I : Inv M nx hd) (nd : (M.L a).Nodup) (ha : M.A a) (hb : hd a = none) (hr : (M.L a)[nx a]? = some r) (li : a ∈ M.O r) {hs : List Int} (H : Holds (sta M nx hd) r hs) (free : hs.length < M.q r) :
    Inv M (bump nx a) (put hd a (some r)) := by
  have hi := idx_at _ _ _ nd hr
  have hm : r ∈ M.L a := List.mem_of_getElem? hr
  refine ⟨?_, fun b r' e => ?_⟩
  · have e : sta M (bump nx a) (put hd a (some r)) = ⟨put hd a (some r), (sta M nx hd).ref⟩ := by
      unfold sta
      congr 1
      funext b r'
      apply propext
      by_cases hba : b = a
      · subst hba
        rw [bump_eq, put_eq]
        constructor
        · rintro ⟨h1, h2, h3, h4⟩
          refine ⟨h1, h2, ?_, by rw [hb]; exact fun h => nomatch h⟩
          have : (M.L b).idxOf r' ≠ nx b := fun e => h4 (by rw [idx_inj h2 hm (by omega)])
          omega
        · rintro ⟨h1, h2, h3, h4⟩
          refine ⟨h1, h2, by omega, fun e => ?_⟩
          have e : r = r' := by injection e
          rw [← e] at h3
          omega
      · rw [bump_ne hba, put_ne hba]
    rw [e]
    exact .taken I.run (next_of nd ha hb hr) li H free
  · by_cases hba : b = a
    · subst hba
      rw [put_eq] at e
      have e : r = r' := by injection e
      subst e
      exact ⟨hm, by rw [bump_eq, hi]⟩
    · rw [put_ne hba] at e
      rw [bump_ne hba]
      exact I.last b r' e
theorem step_refused (I : Inv M nx hd) (nd : (M.L a).Nodup) (ha : M.A a) (hb : hd a = none) (hr : (M.L a)[nx a]? = some r) (li : a ∈ M.O r) {hs : List Int} (H : Holds (sta M nx hd) r hs) (full : M.q r ≤ hs.length) (mem : x = a ∨ x ∈ hs)
    (worst : ∀ b, (b = a ∨ b ∈ hs) → (M.O r).idxOf b ≤ (M.O r).idxOf x) : Inv M (bump nx a) (put (put hd a (some r)) x none) := by
  have hi := idx_at _ _ _ nd hr
  have hm : r ∈ M.L a := List.mem_of_getElem? hr
  have hl : ∀ b, (b = a ∨ b ∈ hs) → b ∈ M.O r := fun b h => by
    rcases h with rfl | h
    · exact li
    · exact I.run.way.likes b r ((H.2 b).mp h)
  refine ⟨?_, fun b r' e => ?_⟩
  · have e : sta M (bump nx a) (put (put hd a (some r)) x none) = ⟨put (put hd a (some r)) x none, add (sta M nx hd).ref x r⟩ := by
      unfold sta add
      congr 1
      funext b r'
      apply propext
      by_cases hbx : b = x
      · subst hbx
        rw [put_eq]
        by_cases hba : b = a
        · subst hba
          rw [bump_eq]
          constructor
          · rintro ⟨h1, h2, h3, h4⟩
            by_cases e : (M.L b).idxOf r' < nx b
            · exact .inl ⟨h1, h2, e, by rw [hb]; exact h4⟩
            · exact .inr ⟨rfl, idx_inj h2 hm (by omega)⟩
          · rintro (⟨h1, h2, h3, h4⟩ | ⟨_, rfl⟩)
            · exact ⟨h1, h2, by omega, fun h => nomatch h⟩
            · exact ⟨ha, hm, by omega, fun h => nomatch h⟩
        · rw [bump_ne hba]
          have hbh : hd b = some r := (H.2 b).mp (mem.resolve_left hba)
          obtain ⟨k1, k2⟩ := I.last b r hbh
          have kA := (I.run.way.ask b r hbh).1
          constructor
          · rintro ⟨h1, h2, h3, h4⟩
            by_cases e : r' = r
            · exact .inr ⟨rfl, e⟩
            · exact .inl ⟨h1, h2, h3, by rw [hbh]; exact fun h => e (by injection h with h; exact h.symm)⟩
          · rintro (⟨h1, h2, h3, h4⟩ | ⟨_, rfl⟩)
            · exact ⟨h1, h2, h3, fun h => nomatch h⟩
            · exact ⟨kA, k1, by omega, fun h => nomatch h⟩
      · rw [put_ne hbx]
        by_cases hba : b = a
        · subst hba
          rw [bump_eq, put_eq]
          constructor
          · rintro ⟨h1, h2, h3, h4⟩
            refine .inl ⟨h1, h2, ?_, by rw [hb]; exact fun h => nomatch h⟩
            have : (M.L b).idxOf r' ≠ nx b := fun e => h4 (by rw [idx_inj h2 hm (by omega)])
            omega
          · rintro (⟨h1, h2, h3, h4⟩ | ⟨k, _⟩)
            · refine ⟨h1, h2, by omega, fun e => ?_⟩
              have e : r = r' := by injection e
              rw [← e] at h3
              omega
            · exact absurd k hbx
        · rw [bump_ne hba, put_ne hba]
          exact ⟨fun h => .inl h, fun h => h.elim id fun k => absurd k.1 hbx⟩
    rw [e]
    refine .refused I.run (next_of nd ha hb hr) li H full mem fun b h hne => ?_
    have h1 := hl b h
    have h2 := hl x mem
    refine ⟨h1, h2, ?_⟩
    have h3 := worst b h
    have h4 : (M.O r).idxOf b ≠ (M.O r).idxOf x := fun e => hne (idx_inj h1 h2 e)
    omega
  · by_cases hbx : b = x
    · subst hbx
      rw [put_eq] at e; cases e
    · rw [put_ne hbx] at e
      by_cases hba : b = a
      · subst hba
        rw [put_eq] at e
        have e : r = r' := by injection e
        subst e
        exact ⟨hm, by rw [bump_eq, hi]⟩
      · rw [put_ne hba] at e
        rw [bump_ne hba]
        exact I.last b r' e
theorem done_of (h : ∀ a, M.A a → hd a = none → (M.L a).length ≤ nx a) : Done M (sta M nx hd) := fun a ha hb r hr => by
  have h1 := List.idxOf_lt_length_iff.mpr hr
  have hb : hd a = none := hb
  have h2 := h a ha hb
  exact ⟨ha, hr, by omega, by rw [hb]; exact fun h => nomatch h⟩
theorem holds_of {ins : List Int} (nd : ins.Nodup) (h : ∀ b, b ∈ ins ↔ put hd a (some r) b = some r) (hb : hd a = none) : Holds (sta M nx hd) r (ins.erase a) ∧ (ins.erase a).length + 1 = ins.length := by
  have ha : a ∈ ins := (h a).mpr put_eq
  refine ⟨⟨nd.erase a, fun b => ?_⟩, ?_⟩
  · rw [List.Nodup.mem_erase_iff nd, h b]
    show _ ↔ hd b = some r
    by_cases hba : b = a
    · subst hba
      rw [hb]
      exact ⟨fun k => absurd rfl k.1, fun k => nomatch k⟩
    · rw [put_ne hba]
      exact ⟨fun k => k.2, fun k => ⟨hba, k⟩⟩
  · have h1 := List.length_erase_of_mem ha
    have h2 := List.length_pos_of_mem ha
    omega
end
end Da
namespace Da
/-- not all askers are refused by rooms of one seat that go to one each -/
theorem someone {M : Mk} {s : St} (hs : Run M s) {as : List Int} (na : as.Nodup) (hA : ∀ a, M.A a ↔ a ∈ as) (ne : as ≠ []) {rm : Int → Int} (inj : ∀ a b, a ∈ as → b ∈ as → rm a = rm b → a = b)
    (hr : ∀ a, a ∈ as → s.ref a (rm a) ∧ a ∈ M.O (rm a) ∧ M.q (rm a) = 1) : False := by
  have hex : ∀ a, a ∈ as → ∃ h, s.held h = some (rm a) := fun a ha => by
    obtain ⟨h1, h2, h3⟩ := hr a ha
    obtain ⟨⟨l, _, hl, hh⟩, _⟩ := hs.way.just a (rm a) h1 h2
    match l, hl, hh with
    | [], hl, _ => rw [h3] at hl; cases hl
    | b :: _, _, hh => exact ⟨b, hh b (List.mem_cons_self ..)⟩
  have hcho : ∃ f : Int → Int, ∀ a, a ∈ as → s.held (f a) = some (rm a) :=
    ⟨fun a => Classical.epsilon fun b => s.held b = some (rm a), fun a ha => Classical.epsilon_spec (hex a ha)⟩
  obtain ⟨f, hf⟩ := hcho
  have finj : ∀ a b, a ∈ as → b ∈ as → f a = f b → a = b := fun a b ha hb e => by
    refine inj a b ha hb ?_
    have h1 := hf a ha
    rw [e, hf b hb] at h1
    injection h1 with h1
    exact h1.symm
  have hnd : ∀ xs : List Int, xs.Nodup → (∀ x, x ∈ xs → x ∈ as) → (xs.map f).Nodup := by
    intro xs
    induction xs with
    | nil => exact fun _ _ => .nil
    | cons x xs ih =>
      intro nd hm
      have nd' := List.nodup_cons.mp nd
      rw [List.map_cons]
      refine List.nodup_cons.mpr ⟨fun h => ?_, ih nd'.2 fun y hy => hm y (List.mem_cons_of_mem _ hy)⟩
      obtain ⟨y, hy, e⟩ := List.mem_map.mp h
      have := finj y x (hm y (List.mem_cons_of_mem _ hy)) (hm x (List.mem_cons_self ..)) e
      exact nd'.1 (this ▸ hy)
  have hall : ∀ a, a ∈ as → ∃ b, b ∈ as ∧ f b = a := fun a ha => by
    apply Classical.byContradiction
    intro hn
    have hnm : a ∉ as.map f := fun h => by
      obtain ⟨b, hb, e⟩ := List.mem_map.mp h
      exact hn ⟨b, hb, e⟩
    have k := len_of_sub (xs := a :: as.map f) (ys := as) (List.nodup_cons.mpr ⟨hnm, hnd as na fun _ h => h⟩) fun x hx => by
      rcases List.mem_cons.mp hx with e | hx
      · rw [e]; exact ha
      · obtain ⟨b, hb, rfl⟩ := List.mem_map.mp hx
        exact (hA _).mp (hs.way.ask _ _ (hf b hb)).1
    rw [List.length_cons, List.length_map] at k
    omega
  have held : ∀ a, M.A a → ∃ b, b ∈ as ∧ s.held a = some (rm b) := fun a ha => by
    obtain ⟨b, hb, e⟩ := hall a ((hA a).mp ha)
    exact ⟨b, hb, by rw [← e]; exact hf b hb⟩
  cases hs with
  | start =>
    match as, ne with
    | a :: _, _ =>
      obtain ⟨b, _, e⟩ := held a ((hA a).mpr (List.mem_cons_self ..))
      exact (nomatch e)
  | unlisted h n no =>
    obtain ⟨b, _, e⟩ := held _ n.who
    have e2 := n.bare
    rw [show _ = some (rm b) from e] at e2
    cases e2
  | @taken s0 a r hs h n li H free =>
    obtain ⟨b, hb, e⟩ := held _ n.who
    have e : put s0.held a (some r) a = some (rm b) := e
    rw [put_eq] at e
    have e : r = rm b := by injection e
    obtain ⟨h1, h2, h3⟩ := hr b hb
    obtain ⟨⟨l, nl, hl, hh⟩, _⟩ := h.way.just b (rm b) h1 h2
    have k := len_of_sub (xs := l) (ys := hs) nl fun x hx => (H.2 x).mpr (by rw [e]; exact hh x hx)
    rw [e] at free
    omega
  | @refused s0 a r x hs h n li H full mem worst =>
    have hx : M.A x := by
      rcases mem with e | e
      · rw [e]; exact n.who
      · exact (h.way.ask x r ((H.2 x).mp e)).1
    obtain ⟨b, _, e⟩ := held x hx
    have e : put (put s0.held a (some r)) x none x = some (rm b) := e
    rw [put_eq] at e
    cases e
end Da
namespace Da
section
variable {M : Mk} {nx : Int → Nat} {hd : Int → Option Int} {a r x : Int}
theorem sta_unlisted (I : Inv M nx hd) (nd : (M.L a).Nodup) (ha : M.A a) (hb : hd a = none) (hr : (M.L a)[nx a]? = some r) (no : a ∉ M.O r) : sta M (bump nx a) hd = ⟨hd, add (sta M nx hd).ref a r⟩ := by
  have hi := idx_at _ _ _ nd hr
  have hm : r ∈ M.L a := List.mem_of_getElem? hr
  unfold sta add
  congr 1
  funext b r'
  apply propext
  by_cases hba : b = a
  · subst hba
    rw [bump_eq]
    constructor
    · rintro ⟨h1, h2, h3, h4⟩
      by_cases e : (M.L b).idxOf r' < nx b
      · exact .inl ⟨h1, h2, e, h4⟩
      · exact .inr ⟨rfl, idx_inj h2 hm (by omega)⟩
    · rintro (⟨h1, h2, h3, h4⟩ | ⟨_, rfl⟩)
      · exact ⟨h1, h2, by omega, h4⟩
      · exact ⟨ha, hm, by omega, by rw [hb]; exact fun h => nomatch h⟩
  · rw [bump_ne hba]
    exact ⟨fun h => .inl h, fun h => h.elim id fun k => absurd k.1 hba⟩
theorem sta_taken (I : Inv M nx hd) (nd : (M.L a).Nodup) (ha : M.A a) (hb : hd a = none) (hr : (M.L a)[nx a]? = some r) (li : a ∈ M.O r) {hs : List Int} (H : Holds (sta M nx hd) r hs) (free : hs.length < M.q r) : sta M (bump nx a) (put hd a (some r)) = ⟨put hd a (some r), (sta M nx hd).ref⟩ := by
  have hi := idx_at _ _ _ nd hr
  have hm : r ∈ M.L a := List.mem_of_getElem? hr
  unfold sta
  congr 1
  funext b r'
  apply propext
  by_cases hba : b = a
  · subst hba
    rw [bump_eq, put_eq]
    constructor
    · rintro ⟨h1, h2, h3, h4⟩
      refine ⟨h1, h2, ?_, by rw [hb]; exact fun h => nomatch h⟩
      have : (M.L b).idxOf r' ≠ nx b := fun e => h4 (by rw [idx_inj h2 hm (by omega)])
      omega
    · rintro ⟨h1, h2, h3, h4⟩
      refine ⟨h1, h2, by omega, fun e => ?_⟩
      have e : r = r' := by injection e
      rw [← e] at h3
      omega
  · rw [bump_ne hba, put_ne hba]
theorem sta_refused (I : Inv M nx hd) (nd : (M.L a).Nodup) (ha : M.A a) (hb : hd a = none) (hr : (M.L a)[nx a]? = some r) (li : a ∈ M.O r) {hs : List Int} (H : Holds (sta M nx hd) r hs) (full : M.q r ≤ hs.length) (mem : x = a ∨ x ∈ hs)
    (worst : ∀ b, (b = a ∨ b ∈ hs) → (M.O r).idxOf b ≤ (M.O r).idxOf x) : sta M (bump nx a) (put (put hd a (some r)) x none) = ⟨put (put hd a (some r)) x none, add (sta M nx hd).ref x r⟩ := by
  have hi := idx_at _ _ _ nd hr
  have hm : r ∈ M.L a := List.mem_of_getElem? hr
  unfold sta add
  congr 1
  funext b r'
  apply propext
  by_cases hbx : b = x
  · subst hbx
    rw [put_eq]
    by_cases hba : b = a
    · subst hba
      rw [bump_eq]
      constructor
      · rintro ⟨h1, h2, h3, h4⟩
        by_cases e : (M.L b).idxOf r' < nx b
        · exact .inl ⟨h1, h2, e, by rw [hb]; exact h4⟩
        · exact .inr ⟨rfl, idx_inj h2 hm (by omega)⟩
      · rintro (⟨h1, h2, h3, h4⟩ | ⟨_, rfl⟩)
        · exact ⟨h1, h2, by omega, fun h => nomatch h⟩
        · exact ⟨ha, hm, by omega, fun h => nomatch h⟩
    · rw [bump_ne hba]
      have hbh : hd b = some r := (H.2 b).mp (mem.resolve_left hba)
      obtain ⟨k1, k2⟩ := I.last b r hbh
      have kA := (I.run.way.ask b r hbh).1
      constructor
      · rintro ⟨h1, h2, h3, h4⟩
        by_cases e : r' = r
        · exact .inr ⟨rfl, e⟩
        · exact .inl ⟨h1, h2, h3, by rw [hbh]; exact fun h => e (by injection h with h; exact h.symm)⟩
      · rintro (⟨h1, h2, h3, h4⟩ | ⟨_, rfl⟩)
        · exact ⟨h1, h2, h3, fun h => nomatch h⟩
        · exact ⟨kA, k1, by omega, fun h => nomatch h⟩
  · rw [put_ne hbx]
    by_cases hba : b = a
    · subst hba
      rw [bump_eq, put_eq]
      constructor
      · rintro ⟨h1, h2, h3, h4⟩
        refine .inl ⟨h1, h2, ?_, by rw [hb]; exact fun h => nomatch h⟩
        have : (M.L b).idxOf r' ≠ nx b := fun e => h4 (by rw [idx_inj h2 hm (by omega)])
        omega
      · rintro (⟨h1, h2, h3, h4⟩ | ⟨k, _⟩)
        · refine ⟨h1, h2, by omega, fun e => ?_⟩
          have e : r = r' := by injection e
          rw [← e] at h3
          omega
        · exact absurd k hbx
    · rw [bump_ne hba, put_ne hba]
      exact ⟨fun h => .inl h, fun h => h.elim id fun k => absurd k.1 hbx⟩
theorem holds_new (H : ∀ b, hd b = some r → M.A b) (I : Inv M nx hd) (e : hd x = some r) : ¬ (sta M nx hd).ref x r := I.run.way.not x r e
end
end Da
namespace Da
/-- who is surely matched with its list cut to one room gets that or better -/
theorem sure {N : Mk} {k r1 : Int} {h0 : Int → Option Int} (S1 : Stable (cutL N k [r1]) h0) (e : h0 k = some r1) (k0 : N.A k) (k1 : r1 ∈ N.L k) {as rs : List Int} (na : as.Nodup) (nr : rs.Nodup) (ha : ∀ a, N.A a → a ∈ as) (hr : ∀ a r, N.A a → r ∈ N.L a → r ∈ rs) {t : St} (ht : Run N t) (dt : Done N t) :
    ∃ r2, t.held k = some r2 ∧ (r2 = r1 ∨ Ahead (N.L k) r2 r1) := by
  -- k's list cut behind it
  let p := (N.L k).filter fun r => decide (r = r1) || decide ((N.L k).idxOf r < (N.L k).idxOf r1)
  have hp1 : r1 ∈ p := List.mem_filter.mpr ⟨k1, by simp⟩
  have fin : ∀ l : List Int, (∀ r, r ∈ l → r ∈ N.L k) → ∃ u, Run (cutL N k l) u ∧ Done (cutL N k l) u := fun l hl => ends (as := as) (rs := rs) (fun a h => ha a h) (fun a r h h2 => by
    by_cases ea : a = k
    · subst ea; rw [cut_k] at h2; exact hr a r k0 (hl r h2)
    · rw [cut_ne ea] at h2; exact hr a r h h2) na
  obtain ⟨u, hu, du⟩ := fin p fun r h => (List.mem_filter.mp h).1
  obtain ⟨v, hv, dv⟩ := fin [r1] fun r h => by
    have : r = r1 := by simpa using h
    rw [this]; exact k1
  have Su := end_stable hu du
  have ruralN : ∀ h, Stable (cutL N k [r1]) h → ((v.held k).isSome = true ↔ (h k).isSome = true) := fun h S => rural hv dv S na nr (fun a h => ha a h) (fun a r h h2 => by
    by_cases ea : a = k
    · subst ea
      rw [cut_k] at h2
      have : r = r1 := by simpa using h2
      rw [this]; exact hr a r1 k0 k1
    · rw [cut_ne ea] at h2; exact hr a r h h2) k
  have got : ∃ r2, u.held k = some r2 := by
    cases z : u.held k with
    | some r2 => exact ⟨r2, rfl⟩
    | none =>
      exfalso
      have S2 : Stable (cutL N k [r1]) u.held := by
        refine ⟨fun a r h => ?_, Su.cap, fun a r hA hL hO hq => ?_⟩
        · obtain ⟨h1, h2, h3⟩ := Su.want a r h
          by_cases ea : a = k
          · rw [ea, z] at h; cases h
          · rw [cut_ne ea] at h2
            exact ⟨h1, by rw [cut_ne ea]; exact h2, h3⟩
        · by_cases ea : a = k
          · subst ea
            rw [cut_k] at hL
            have er : r = r1 := by simpa using hL
            subst er
            exact Su.calm a r hA (by rw [cut_k]; exact hp1) hO fun r' h => by rw [z] at h; cases h
          · rw [cut_ne ea] at hL hq
            exact Su.calm a r hA (by rw [cut_ne ea]; exact hL) hO (by rw [cut_ne ea]; exact hq)
      have q1 := (ruralN _ S1).mpr (by rw [e]; rfl)
      have q2 := (ruralN _ S2).mp q1
      rw [z] at q2; cases q2
  obtain ⟨r2, hr2⟩ := got
  obtain ⟨_, g2, _⟩ := Su.want k r2 hr2
  rw [cut_k] at g2
  obtain ⟨g3, g4⟩ := List.mem_filter.mp g2
  have g5 : r2 = r1 ∨ Ahead (N.L k) r2 r1 := by
    rcases (Bool.or_eq_true _ _).mp g4 with q | q
    · exact .inl (of_decide_eq_true q)
    · exact .inr ⟨g3, k1, of_decide_eq_true q⟩
  -- it is stable with the whole list, too
  have S3 : Stable N u.held := by
    refine ⟨fun a r h => ?_, Su.cap, fun a r hA hL hO hq => ?_⟩
    · obtain ⟨h1, h2, h3⟩ := Su.want a r h
      refine ⟨h1, ?_, h3⟩
      by_cases ea : a = k
      · subst ea
        rw [cut_k] at h2
        exact (List.mem_filter.mp h2).1
      · rw [cut_ne ea] at h2; exact h2
    · by_cases ea : a = k
      · subst ea
        have q := hq r2 hr2
        have hin : (decide (r = r1) || decide ((N.L a).idxOf r < (N.L a).idxOf r1)) = true := by
          rw [Bool.or_eq_true]
          right
          refine decide_eq_true ?_
          rcases g5 with z | z
          · rw [← z]; exact q.2.2
          · exact Nat.lt_trans q.2.2 z.2.2
        refine Su.calm a r hA (by rw [cut_k]; exact List.mem_filter.mpr ⟨q.1, hin⟩) hO fun r' h => ?_
        rw [hr2] at h
        cases h
        rw [cut_k]
        exact ahead_filter.mpr ⟨q, hin, g4⟩
      · exact Su.calm a r hA (by rw [cut_ne ea]; exact hL) hO (by rw [cut_ne ea]; exact hq)
  obtain ⟨r3, h3, h4⟩ := best ht dt S3 hr2
  refine ⟨r3, h3, ?_⟩
  rcases h4 with z | z
  · rw [z]; exact g5
  · rcases g5 with y | y
    · exact .inr (y ▸ z)
    · exact .inr (ahead_trans z y)
theorem one_cut {M : Mk} {k r1 : Int} {l : List Int} {h : Int → Option Int} (S : Stable (cutL M k l) h) (e : h k = some r1) : Stable (cutL M k [r1]) h := by
  refine ⟨fun a r q => ?_, S.cap, fun a r hA hL hO hp => ?_⟩
  · obtain ⟨h1, h2, h3⟩ := S.want a r q
    refine ⟨h1, ?_, h3⟩
    by_cases ea : a = k
    · subst ea
      rw [e] at q
      cases q
      rw [cut_k]; exact List.mem_cons_self ..
    · rw [cut_ne ea] at h2 ⊢; exact h2
  · by_cases ea : a = k
    · exfalso
      subst ea
      rw [cut_k] at hL hp
      have er : r = r1 := by simpa using hL
      subst er
      exact ahead_irr (hp r e)
    · rw [cut_ne ea] at hL hp
      exact S.calm a r hA (by rw [cut_ne ea]; exact hL) hO (by rw [cut_ne ea]; exact hp)
/-- no list gets k better, by its true one -/
theorem no_lie {M : Mk} {k r1 : Int} {l : List Int} {as rs : List Int} (na : as.Nodup) (nr : rs.Nodup) (ha : ∀ a, M.A a → a ∈ as) (hr : ∀ a r, M.A a → r ∈ M.L a → r ∈ rs) {s t : St} (hs : Run M s) (ds : Done M s) (ht : Run (cutL M k l) t) (dt : Done (cutL M k l) t) (k0 : M.A k) (e : t.held k = some r1) (k1 : r1 ∈ M.L k) :
    ∃ r2, s.held k = some r2 ∧ (r2 = r1 ∨ Ahead (M.L k) r2 r1) :=
  sure (one_cut (end_stable ht dt) e) e k0 k1 na nr ha hr hs ds
theorem idx_app : ∀ (xs ys : List Int) (x : Int), x ∈ xs → (xs ++ ys).idxOf x = xs.idxOf x
  | y :: xs, ys, x, h => by
    rw [List.cons_append]
    by_cases e : y = x
    · subst e; rw [List.idxOf_cons_self, List.idxOf_cons_self]
    · rw [idx_ne e, idx_ne e, idx_app xs ys x ((List.mem_cons.mp h).resolve_left fun q => e q.symm)]
theorem idx_take {l : List Int} {n : Nat} {x : Int} (h : x ∈ l.take n) : (l.take n).idxOf x = l.idxOf x := by
  have e := idx_app _ (l.drop n) x h
  rw [List.take_append_drop] at e
  exact e.symm
theorem take_idx {l : List Int} {n : Nat} {x : Int} : x ∈ l.take n ↔ x ∈ l ∧ l.idxOf x < n := by
  constructor
  · intro h
    have h1 := List.idxOf_lt_length_iff.mpr h
    rw [idx_take h, List.length_take] at h1
    exact ⟨List.mem_of_mem_take h, by omega⟩
  · rintro ⟨h, hn⟩
    have h1 := List.idxOf_lt_length_iff.mpr h
    have h2 := List.getElem_idxOf h1
    have h3 : (l.take n)[l.idxOf x]? = some x := by
      rw [List.getElem?_take_of_lt hn, List.getElem?_eq_getElem h1, h2]
    exact List.mem_of_getElem? h3
/-- a stable matching is stable with k's list cut behind what it gives k -/
theorem cut_stable {M : Mk} {k r2 : Int} {n : Nat} {h : Int → Option Int} (S : Stable M h) (e : h k = some r2) (hin : r2 ∈ (M.L k).take n) : Stable (cutL M k ((M.L k).take n)) h := by
  refine ⟨fun a r q => ?_, S.cap, fun a r hA hL hO hp => ?_⟩
  · obtain ⟨h1, h2, h3⟩ := S.want a r q
    refine ⟨h1, ?_, h3⟩
    by_cases ea : a = k
    · subst ea
      rw [e] at q
      cases q
      rw [cut_k]; exact hin
    · rw [cut_ne ea]; exact h2
  · by_cases ea : a = k
    · subst ea
      rw [cut_k] at hL hp
      refine S.calm a r hA (List.mem_of_mem_take hL) hO fun r' q => ?_
      obtain ⟨q1, q2, q3⟩ := hp r' q
      rw [idx_take q1, idx_take q2] at q3
      exact ⟨List.mem_of_mem_take q1, List.mem_of_mem_take q2, q3⟩
    · rw [cut_ne ea] at hL hp
      exact S.calm a r hA hL hO hp
/-- with its list cut k gets what it gets by the whole one, or nothing -/
theorem cuts {M : Mk} {k : Int} {n : Nat} {as rs : List Int} (na : as.Nodup) (nr : rs.Nodup) (ha : ∀ a, M.A a → a ∈ as) (hr : ∀ a r, M.A a → r ∈ M.L a → r ∈ rs) {s t : St} (hs : Run M s) (ds : Done M s) (ht : Run (cutL M k ((M.L k).take n)) t) (dt : Done (cutL M k ((M.L k).take n)) t) (k0 : M.A k) :
    (∀ r, t.held k = some r → s.held k = some r ∧ (M.L k).idxOf r < n) ∧ (∀ r, s.held k = some r → (M.L k).idxOf r < n → t.held k = some r) := by
  have one : ∀ r, t.held k = some r → s.held k = some r ∧ (M.L k).idxOf r < n := fun r e => by
    have hin := ((end_stable ht dt).want k r e).2.1
    rw [cut_k] at hin
    obtain ⟨h1, h2⟩ := take_idx.mp hin
    refine ⟨?_, h2⟩
    obtain ⟨r2, q1, q2⟩ := no_lie na nr ha hr hs ds ht dt k0 e h1
    rcases q2 with q2 | q2
    · rw [← q2]; exact q1
    · exfalso
      have hin2 : r2 ∈ (M.L k).take n := take_idx.mpr ⟨q2.1, Nat.lt_trans q2.2.2 h2⟩
      obtain ⟨r3, p1, p2⟩ := best ht dt (cut_stable (end_stable hs ds) q1 hin2) q1
      rw [e] at p1
      cases p1
      rcases p2 with p2 | p2
      · rw [p2] at q2; exact ahead_irr q2
      · rw [cut_k] at p2
        obtain ⟨p3, p4, p5⟩ := p2
        rw [idx_take p3, idx_take p4] at p5
        exact Nat.lt_asymm p5 q2.2.2
  refine ⟨one, fun r e hlt => ?_⟩
  have hL := ((end_stable hs ds).want k r e).2.1
  obtain ⟨r3, p1, p2⟩ := best ht dt (cut_stable (end_stable hs ds) e (take_idx.mpr ⟨hL, hlt⟩)) e
  have := (one r3 p1).1
  rw [e] at this
  cases this
  exact p1
end Da
/-! Offers: rooms offer, askers take the better one and leave what they had. -/
namespace Da
structure Off (M : Mk) (hd : Int → Option Int) (gn : Int → Int → Prop) : Prop where
  want : ∀ a r, hd a = some r → M.A a ∧ r ∈ M.L a ∧ a ∈ M.O r
  cap : ∀ r (hs : List Int), hs.Nodup → (∀ a, a ∈ hs → hd a = some r) → hs.length ≤ M.q r
  why : ∀ a r, gn a r → r ∈ M.L a → ∃ r', hd a = some r' ∧ Ahead (M.L a) r' r
  pre : ∀ a r, hd a = some r → ∀ b, Ahead (M.O r) b a → hd b = some r ∨ gn b r
  never : ∀ a r, gn a r → ∀ h, Stable M h → h a ≠ some r
theorem off0 {M : Mk} : Off M (fun _ => none) (fun _ _ => False) where
  want := fun a r h => nomatch h
  cap := fun r hs _ h => by
    cases hs with
    | nil => exact Nat.zero_le _
    | cons b hs => exact nomatch h b (List.mem_cons_self ..)
  why := fun a r h => h.elim
  pre := fun a r h => nomatch h
  never := fun a r h => h.elim
theorem off_never {M : Mk} {hd : Int → Option Int} {gn : Int → Int → Prop} {h : Int → Option Int} (cap : ∀ r (hs : List Int), hs.Nodup → (∀ a, a ∈ hs → hd a = some r) → hs.length ≤ M.q r) {a r : Int} (e : hd a = some r) (w : M.A a ∧ r ∈ M.L a ∧ a ∈ M.O r) (pre : ∀ b, Ahead (M.O r) b a → hd b = some r ∨ gn b r) (nv : ∀ b, gn b r → h b ≠ some r) (S : Stable M h) : ¬ ∀ r', h a = some r' → Ahead (M.L a) r r' := by
  intro k
  obtain ⟨⟨hs, n1, n2, n3⟩, h2⟩ := S.calm a r w.1 w.2.1 w.2.2 k
  have := cap r (a :: hs) (List.nodup_cons.mpr ⟨fun ha => ahead_irr (k r (n3 a ha)), n1⟩) fun b hb => by
    rcases List.mem_cons.mp hb with rfl | hb
    · exact e
    · exact (pre b (h2 b (n3 b hb))).resolve_right fun g => nv b g (n3 b hb)
  rw [List.length_cons] at this
  omega
theorem off_refuse {M : Mk} {hd : Int → Option Int} {gn : Int → Int → Prop} (O : Off M hd gn) {a r : Int} (no : r ∈ M.L a → ∃ r', hd a = some r' ∧ Ahead (M.L a) r' r) : Off M hd (add gn a r) where
  want := O.want
  cap := O.cap
  why := fun b x g hx => by
    rcases g with g | ⟨rfl, rfl⟩
    · exact O.why b x g hx
    · exact no hx
  pre := fun b x e c hc => (O.pre b x e c hc).imp id .inl
  never := fun b x g h S e => by
    rcases g with g | ⟨rfl, rfl⟩
    · exact O.never b x g h S e
    · obtain ⟨r', e1, e2⟩ := no (S.want _ _ e).2.1
      refine off_never O.cap e1 (O.want _ _ e1) (O.pre _ _ e1) (fun c g => O.never _ _ g h S) S fun r'' e3 => ?_
      rw [e] at e3; cases e3
      exact e2
theorem off_take {M : Mk} {hd : Int → Option Int} {gn : Int → Int → Prop} (O : Off M hd gn) {a r : Int} (w : M.A a ∧ r ∈ M.L a ∧ a ∈ M.O r) (free : ∀ hs : List Int, hs.Nodup → (∀ b, b ∈ hs → hd b = some r) → hs.length < M.q r) (first : ∀ b, Ahead (M.O r) b a → hd b = some r ∨ gn b r) (better : ∀ r', hd a = some r' → Ahead (M.L a) r r') :
    Off M (put hd a (some r)) (fun b x => gn b x ∨ (b = a ∧ hd a = some x)) := by
  have cap : ∀ x (hs : List Int), hs.Nodup → (∀ b, b ∈ hs → put hd a (some r) b = some x) → hs.length ≤ M.q x := fun x hs nd hx => by
    by_cases ha : a ∈ hs
    · have e := hx a ha
      rw [put_eq] at e; cases e
      have h1 := free (hs.erase a) (nd.erase a) fun b hb => by
        have hne : b ≠ a := fun z => (List.Nodup.not_mem_erase nd) (z ▸ hb)
        have := hx b (List.mem_of_mem_erase hb)
        rwa [put_ne hne] at this
      have := List.length_erase_of_mem ha
      omega
    · exact O.cap x hs nd fun b hb => by
        have hne : b ≠ a := fun z => ha (z ▸ hb)
        have := hx b hb
        rwa [put_ne hne] at this
  have prea : ∀ b, Ahead (M.O r) b a → put hd a (some r) b = some r ∨ gn b r := fun b hb => by
    by_cases hne : b = a
    · rw [hne] at hb; exact absurd hb ahead_irr
    · rw [put_ne hne]; exact first b hb
  refine ⟨fun b x e => ?_, cap, fun b x g hx => ?_, fun b x e c hc => ?_, fun b x g h S e => ?_⟩
  · by_cases hne : b = a
    · rw [hne, put_eq] at e; cases e
      rw [hne]; exact w
    · rw [put_ne hne] at e; exact O.want b x e
  · by_cases hne : b = a
    · subst hne
      refine ⟨r, put_eq, ?_⟩
      rcases g with g | ⟨_, g⟩
      · obtain ⟨r', e1, e2⟩ := O.why b x g hx
        exact ahead_trans (better r' e1) e2
      · exact better x g
    · rw [put_ne hne]
      exact O.why b x (g.resolve_right fun z => hne z.1) hx
  · by_cases hne : b = a
    · rw [hne, put_eq] at e; cases e
      rw [hne] at hc
      exact (prea c hc).imp id .inl
    · rw [put_ne hne] at e
      by_cases hca : c = a
      · rcases O.pre b x e c hc with q | q
        · exact .inr (.inr ⟨hca, hca ▸ q⟩)
        · exact .inr (.inl q)
      · rw [put_ne hca]
        exact (O.pre b x e c hc).imp id .inl
  · rcases g with g | ⟨rfl, g⟩
    · exact O.never b x g h S e
    · refine off_never cap put_eq w prea (fun c g => O.never _ _ g h S) S fun r'' e3 => ?_
      rw [e] at e3; cases e3
      exact better x g
/-- nothing is offered any more: what stands is stable -/
theorem off_end {M : Mk} {hd : Int → Option Int} {gn : Int → Int → Prop} (O : Off M hd gn) (done : ∀ a r, M.A a → r ∈ M.L a → a ∈ M.O r → (∃ hs : List Int, hs.Nodup ∧ hs.length = M.q r ∧ ∀ b, b ∈ hs → hd b = some r) ∨ hd a = some r ∨ gn a r) : Stable M hd := by
  refine ⟨O.want, O.cap, fun a r hA hL hO hp => ?_⟩
  have n1 : hd a ≠ some r := fun e => ahead_irr (hp r e)
  have n2 : ¬ gn a r := fun g => by
    obtain ⟨r', e1, e2⟩ := O.why a r g hL
    exact ahead_asym e2 (hp r' e1)
  refine ⟨(done a r hA hL hO).resolve_right fun z => z.elim n1 n2, fun b hb => ?_⟩
  have hne : b ≠ a := fun z => n1 (z ▸ hb)
  rcases ahead_or (O.want b r hb).2.2 hO hne with q | q
  · exact q
  · exact ((O.pre b r hb a q).elim n1 n2).elim
/-- no stable one gives an asker worse than offers do -/
theorem off_worst {M : Mk} {hd : Int → Option Int} {gn : Int → Int → Prop} (O : Off M hd gn) {h : Int → Option Int} (S : Stable M h) {a r : Int} (e : hd a = some r) : ∃ r', h a = some r' ∧ (r' = r ∨ Ahead (M.L a) r' r) := by
  have w := O.want a r e
  have k := off_never O.cap e w (O.pre a r e) (fun c g => O.never _ _ g h S) S
  cases e2 : h a with
  | none => exact absurd (fun r' e3 => by rw [e2] at e3; cases e3) k
  | some r' =>
    refine ⟨r', rfl, ?_⟩
    by_cases q : r' = r
    · exact .inl q
    · rcases ahead_or (S.want a r' e2).2.1 w.2.1 q with z | z
      · exact .inr z
      · refine absurd (fun r'' e3 => ?_) k
        rw [e2] at e3; cases e3
        exact z
end Da
/-! One order for all: then there is but one stable matching. -/
namespace Da
section
variable {M : Mk} {f g : Int → Option Int}
/-- one seat: two who are there are one -/
theorem one_in (S : Stable M f) {a b r : Int} (hq : M.q r = 1) (ea : f a = some r) (eb : f b = some r) : a = b := by
  apply Classical.byContradiction
  intro hne
  have := S.cap r [a, b] (List.nodup_cons.mpr ⟨by simpa using hne, by simp⟩) fun x hx => by
    rcases List.mem_cons.mp hx with rfl | hx
    · exact ea
    · obtain rfl : x = b := by simpa using hx
      exact eb
  rw [hq] at this
  simp at this
/-- who would rather have a room: its one holder stands ahead -/
theorem held_ahead (S : Stable M f) {a r : Int} (hq : M.q r = 1) (hA : M.A a) (hL : r ∈ M.L a) (hO : a ∈ M.O r) (k : ∀ r', f a = some r' → Ahead (M.L a) r r') : ∃ b, f b = some r ∧ Ahead (M.O r) b a := by
  obtain ⟨⟨hs, n1, n2, n3⟩, h2⟩ := S.calm a r hA hL hO k
  match hs, n2, n3 with
  | [], n2, _ => rw [hq] at n2; cases n2
  | b :: _, _, n3 => exact ⟨b, n3 b (List.mem_cons_self ..), h2 b (n3 b (List.mem_cons_self ..))⟩
theorem one_step {o : List Int} (ho : ∀ a r, a ∈ M.O r → M.O r = o) (hq : ∀ a r, a ∈ M.O r → M.q r = 1) (Sf : Stable M f) (Sg : Stable M g) {a : Int} (ih : ∀ b, o.idxOf b < o.idxOf a → f b = g b) {r : Int} (e : f a = some r) :
    ∃ r', g a = some r' ∧ (r' = r ∨ Ahead (M.L a) r' r) := by
  obtain ⟨hA, hL, hO⟩ := Sf.want a r e
  apply Classical.byContradiction
  intro no
  have k : ∀ r', g a = some r' → Ahead (M.L a) r r' := fun r' e' => by
    have hL' := (Sg.want a r' e').2.1
    by_cases hr : r' = r
    · exact absurd ⟨r', e', .inl hr⟩ no
    · rcases ahead_or hL hL' (fun z => hr z.symm) with z | z
      · exact z
      · exact absurd ⟨r', e', .inr z⟩ no
  obtain ⟨b, eb, hb⟩ := held_ahead Sg (hq a r hO) hA hL hO k
  rw [ho a r hO] at hb
  have := one_in Sf (hq a r hO) e ((ih b hb.2.2).trans eb)
  subst this
  exact ahead_irr hb
/-- all rooms have one order -/
theorem one_order {o : List Int} (ho : ∀ a r, a ∈ M.O r → M.O r = o) (hq : ∀ a r, a ∈ M.O r → M.q r = 1) (Sf : Stable M f) (Sg : Stable M g) : ∀ a, f a = g a := by
  have main : ∀ n, ∀ a, o.idxOf a = n → f a = g a := by
    intro n
    induction n using Nat.strongRecOn with
    | _ n ih =>
      intro a ea
      have ih' : ∀ b, o.idxOf b < o.idxOf a → f b = g b := fun b hb => ih _ (ea ▸ hb) b rfl
      cases hf : f a with
      | none =>
        cases hg : g a with
        | none => rfl
        | some r =>
          obtain ⟨r', e, _⟩ := one_step ho hq Sg Sf (fun b hb => (ih' b hb).symm) hg
          rw [hf] at e; cases e
      | some r =>
        obtain ⟨r', e, h⟩ := one_step ho hq Sf Sg ih' hf
        obtain ⟨r2, e2, h2⟩ := one_step ho hq Sg Sf (fun b hb => (ih' b hb).symm) e
        rw [hf] at e2
        cases e2
        rcases h with rfl | h
        · exact e.symm
        · rcases h2 with rfl | h2
          · exact e.symm
          · exact absurd h2 (ahead_asym h)
  exact fun a => main _ a rfl
theorem list_step {l : List Int} (hl : ∀ a, M.A a → M.L a = l) (hq : ∀ a r, a ∈ M.O r → M.q r = 1) (Sf : Stable M f) (Sg : Stable M g) {r : Int} (ih : ∀ x, l.idxOf x < l.idxOf r → ∀ a, f a = some x ↔ g a = some x) {a : Int} (e : f a = some r) : g a = some r := by
  obtain ⟨hA, hL, hO⟩ := Sf.want a r e
  apply Classical.byContradiction
  intro no
  have k : ∀ r', g a = some r' → Ahead (M.L a) r r' := fun r' e' => by
    have hL' := (Sg.want a r' e').2.1
    rcases ahead_or hL hL' (fun z => no (z ▸ e')) with z | z
    · exact z
    · rw [hl a hA] at z
      have e2 := (ih r' z.2.2 a).mpr e'
      rw [e] at e2
      cases e2
      exact absurd z ahead_irr
  obtain ⟨b, eb, hb⟩ := held_ahead Sg (hq a r hO) hA hL hO k
  obtain ⟨bA, bL, bO⟩ := Sg.want b r eb
  have hne : a ≠ b := fun z => by subst z; exact ahead_irr hb
  have k2 : ∀ r', f b = some r' → Ahead (M.L b) r r' := fun r' e' => by
    have hL' := (Sf.want b r' e').2.1
    have hr : r ≠ r' := fun z => by subst z; exact hne (one_in Sf (hq a r hO) e e')
    rcases ahead_or bL hL' hr with z | z
    · exact z
    · rw [hl b bA] at z
      have e2 := (ih r' z.2.2 b).mp e'
      rw [eb] at e2
      exact absurd (Option.some.inj e2) hr
  have h3 := (Sf.calm b r bA bL bO k2).2 a e
  exact ahead_asym hb h3
/-- all askers have one list -/
theorem one_list {l : List Int} (hl : ∀ a, M.A a → M.L a = l) (hq : ∀ a r, a ∈ M.O r → M.q r = 1) (Sf : Stable M f) (Sg : Stable M g) : ∀ a, f a = g a := by
  have main : ∀ n, ∀ r, l.idxOf r = n → ∀ a, f a = some r ↔ g a = some r := by
    intro n
    induction n using Nat.strongRecOn with
    | _ n ih =>
      intro r er a
      have ih' : ∀ x, l.idxOf x < l.idxOf r → ∀ a, f a = some x ↔ g a = some x := fun x hx => ih _ (er ▸ hx) x rfl
      exact ⟨list_step hl hq Sf Sg ih', list_step hl hq Sg Sf fun x hx a => (ih' x hx a).symm⟩
  intro a
  cases hf : f a with
  | none =>
    cases hg : g a with
    | none => rfl
    | some r => rw [(main _ r rfl a).mpr hg] at hf; cases hf
  | some r => exact ((main _ r rfl a).mp hf).symm
/-- with one seat each: what makes a matching stable -/
theorem stable_one (want : ∀ a r, f a = some r → M.A a ∧ r ∈ M.L a ∧ a ∈ M.O r) (inj : ∀ a b r, f a = some r → f b = some r → a = b) (hq : ∀ a r, a ∈ M.O r → M.q r = 1)
    (block : ∀ a r, M.A a → r ∈ M.L a → a ∈ M.O r → (∀ r', f a = some r' → Ahead (M.L a) r r') → ∃ b, f b = some r ∧ Ahead (M.O r) b a) : Stable M f where
  want := want
  cap := fun r hs nd h => by
    match hs, nd, h with
    | [], _, _ => exact Nat.zero_le _
    | [a], _, h => rw [hq a r (want a r (h a (List.mem_cons_self ..))).2.2]; exact Nat.le_refl _
    | a :: b :: t, nd, h =>
      have := inj a b r (h a (List.mem_cons_self ..)) (h b (List.mem_cons_of_mem _ (List.mem_cons_self ..)))
      subst this
      exact absurd (List.mem_cons_self ..) (List.nodup_cons.mp nd).1
  calm := fun a r hA hL hO k => by
    obtain ⟨b, e, hb⟩ := block a r hA hL hO k
    refine ⟨⟨[b], by simp, by rw [hq a r hO]; rfl, fun x hx => ?_⟩, fun c hc => ?_⟩
    · obtain rfl : x = b := by simpa using hx
      exact e
    · rw [inj c b r hc e]; exact hb
theorem pre_ahead {o pre post : List Int} {x b : Int} (nd : o.Nodup) (e : o = pre ++ x :: post) (hb : b ∈ pre) : Ahead o b x := by
  subst e
  have hx : x ∉ pre := fun h => by
    have := (List.nodup_append.mp nd).2.2 x h x (List.mem_cons_self ..)
    exact this rfl
  refine ⟨by simp [hb], by simp, ?_⟩
  have h1 : (pre ++ x :: post).idxOf b = pre.idxOf b := by rw [List.idxOf_append, if_pos hb]
  have h2 : (pre ++ x :: post).idxOf x = pre.length := by rw [List.idxOf_append, if_neg hx, List.idxOf_cons_self, Nat.zero_add]
  rw [h1, h2]
  exact List.idxOf_lt_length_iff.mpr hb
end
end Da
set_option linter.all false
namespace Dd
/-! contracts: rooms take the best of each asker, up to their seats; askers offer down their lists -/
theorem len_le : ∀ {a b : List Int}, a.Nodup → (∀ x, x ∈ a → x ∈ b) → a.length ≤ b.length
  | [], b, _, _ => Nat.zero_le _
  | x :: a, b, nd, h => by
    have hx : x ∈ b := h x List.mem_cons_self
    obtain ⟨n1, n2⟩ := List.nodup_cons.mp nd
    have := len_le (a := a) (b := b.erase x) n2 fun y hy => (List.mem_erase_of_ne (fun e : y = x => n1 (by rw [← e]; exact hy))).mpr (h y (List.mem_cons_of_mem _ hy))
    rw [List.length_erase_of_mem hx] at this
    have hp : 0 < b.length := List.length_pos_of_mem hx
    show a.length + 1 ≤ b.length
    omega
section
variable (who : Int → Int)
/-- the first of each asker, of those in S -/
def fs (S : Int → Bool) : List Int → List Int → List Int
  | _, [] => []
  | seen, d :: ds => if S d = true ∧ who d ∉ seen then d :: fs S (who d :: seen) ds else fs S seen ds
theorem fs_in {S : Int → Bool} {c : Int} : ∀ (xs seen : List Int), c ∈ fs who S seen xs → c ∈ xs ∧ S c = true ∧ who c ∉ seen
  | [], seen, h => nomatch h
  | d :: ds, seen, h => by
    unfold fs at h
    split at h
    · rename_i hd
      rcases List.mem_cons.mp h with e | h
      · rw [e]; exact ⟨List.mem_cons_self, hd⟩
      · obtain ⟨h1, h2, h3⟩ := fs_in ds _ h
        exact ⟨List.mem_cons_of_mem _ h1, h2, fun z => h3 (List.mem_cons_of_mem _ z)⟩
    · obtain ⟨h1, h2, h3⟩ := fs_in ds _ h
      exact ⟨List.mem_cons_of_mem _ h1, h2, h3⟩
theorem fs_sub {S S' : Int → Bool} (hS : ∀ c, S' c = true → S c = true) {c : Int} (hc : S' c = true) : ∀ (xs seen seen' : List Int) (j j' : Nat), seen'.Nodup → (∀ x, x ∈ seen' → x ∈ seen) → j + seen.length ≤ j' + seen'.length →
    c ∈ (fs who S seen xs).take j → c ∈ (fs who S' seen' xs).take j'
  | [], seen, seen', j, j', _, _, _, h => by
    have h : c ∈ ([] : List Int).take j := h
    rw [List.take_nil] at h
    exact nomatch h
  | d :: ds, seen, seen', j, j', nd, hs, hj, h => by
    have hl := len_le nd hs
    by_cases hA : S d = true ∧ who d ∉ seen
    · have e1 : fs who S seen (d :: ds) = d :: fs who S (who d :: seen) ds := by rw [fs, if_pos hA]
      rw [e1] at h
      cases j with
      | zero => rw [List.take_zero] at h; exact nomatch h
      | succ i =>
        rw [List.take_succ_cons] at h
        obtain ⟨i', rfl⟩ : ∃ i', j' = i' + 1 := ⟨j' - 1, by omega⟩
        rcases List.mem_cons.mp h with e | h
        · subst e
          have hB : S' c = true ∧ who c ∉ seen' := ⟨hc, fun z => hA.2 (hs _ z)⟩
          rw [fs, if_pos hB, List.take_succ_cons]
          exact List.mem_cons_self
        · by_cases hB : S' d = true ∧ who d ∉ seen'
          · rw [fs, if_pos hB, List.take_succ_cons]
            refine List.mem_cons_of_mem _ (fs_sub hS hc ds (who d :: seen) (who d :: seen') i i' (List.nodup_cons.mpr ⟨hB.2, nd⟩) (fun x hx => ?_) (by simp only [List.length_cons]; omega) h)
            rcases List.mem_cons.mp hx with e | hx
            · rw [e]; exact List.mem_cons_self
            · exact List.mem_cons_of_mem _ (hs x hx)
          · rw [fs, if_neg hB]
            exact fs_sub hS hc ds (who d :: seen) seen' i (i' + 1) nd (fun x hx => List.mem_cons_of_mem _ (hs x hx)) (by simp only [List.length_cons]; omega) h
    · have e1 : fs who S seen (d :: ds) = fs who S seen ds := by rw [fs, if_neg hA]
      rw [e1] at h
      by_cases hB : S' d = true ∧ who d ∉ seen'
      · have hd : who d ∈ seen := Classical.byContradiction fun z => hA ⟨hS d hB.1, z⟩
        have nd2 : (who d :: seen').Nodup := List.nodup_cons.mpr ⟨hB.2, nd⟩
        have hs2 : ∀ x, x ∈ who d :: seen' → x ∈ seen := fun x hx => by
          rcases List.mem_cons.mp hx with e | hx
          · rw [e]; exact hd
          · exact hs x hx
        have hl2 := len_le nd2 hs2
        simp only [List.length_cons] at hl2
        have hj1 : 1 ≤ j := by
          cases j with
          | zero => rw [List.take_zero] at h; exact nomatch h
          | succ i => omega
        obtain ⟨i', rfl⟩ : ∃ i', j' = i' + 1 := ⟨j' - 1, by omega⟩
        rw [fs, if_pos hB, List.take_succ_cons]
        exact List.mem_cons_of_mem _ (fs_sub hS hc ds seen (who d :: seen') j i' nd2 hs2 (by simp only [List.length_cons]; omega) h)
      · rw [fs, if_neg hB]
        exact fs_sub hS hc ds seen seen' j j' nd hs hj h
variable (rm : Int → Int)
/-- held by its room, of those in S -/
def held (O : Int → List Int) (q : Int → Nat) (S : Int → Bool) (c : Int) : Prop := c ∈ (fs who S [] (O (rm c))).take (q (rm c))
theorem held_sub {O : Int → List Int} {q q' : Int → Nat} {S S' : Int → Bool} (hS : ∀ c, S' c = true → S c = true) (hq : ∀ r, q r ≤ q' r) {c : Int} (hc : S' c = true) (h : held who rm O q S c) : held who rm O q' S' c :=
  fs_sub who hS hc (O (rm c)) [] [] _ _ List.nodup_nil (fun _ z => z) (by simpa using hq (rm c)) h
theorem held_S {O : Int → List Int} {q : Int → Nat} {S : Int → Bool} {c : Int} (h : held who rm O q S c) : S c = true := (fs_in who _ _ (List.mem_of_mem_take h)).2.1
/-- what is offered: the first n a of each list -/
def Md (L : Int → List Int) (n : Int → Nat) (c : Int) : Bool := decide (c ∈ (L (who c)).take (n (who c)))
theorem md_iff {L : Int → List Int} {n : Int → Nat} {c : Int} : Md who L n c = true ↔ c ∈ (L (who c)).take (n (who c)) := by
  unfold Md; exact decide_eq_true_iff
def Stop (k : Int) (L O : Int → List Int) (q n : Int → Nat) : Prop := ∀ a, 0 ≤ a → a < k → n a < (L a).length → ∃ c, who c = a ∧ held who rm O q (Md who L n) c
structure Own (k : Int) (L : Int → List Int) : Prop where
  own : ∀ a c, c ∈ L a → who c = a
  out : ∀ a c, c ∈ L a → 0 ≤ a ∧ a < k
  nd : ∀ a, (L a).Nodup
structure Way (k : Int) (L O : Int → List Int) (q n : Int → Nat) : Prop where
  le : ∀ a, n a ≤ (L a).length
  last : ∀ c, held who rm O q (Md who L n) c → (L (who c))[n (who c) - 1]? = some c ∧ 0 < n (who c)
  least : ∀ (q0 n2 : Int → Nat), (∀ r, q0 r ≤ q r) → Stop who rm k L O q0 n2 → ∀ a, 0 ≤ a → a < k → n a ≤ n2 a
variable {who rm}
theorem way0 {k : Int} {L O : Int → List Int} {q : Int → Nat} : Way who rm k L O q (fun _ => 0) where
  le := fun a => Nat.zero_le _
  last := fun c h => by
    have := (md_iff who).mp (held_S who rm h)
    rw [List.take_zero] at this
    exact nomatch this
  least := fun q0 n2 _ _ a _ _ => Nat.zero_le _
theorem way_step {k : Int} {L O : Int → List Int} {q n n' : Int → Nat} (W : Way who rm k L O q n) (Z : Own who k L) {a : Int} (ha : n a < (L a).length) (hf : ∀ c, held who rm O q (Md who L n) c → who c ≠ a)
    (e1 : n' a = n a + 1) (e2 : ∀ b, b ≠ a → n' b = n b) : Way who rm k L O q n' := by
  have mono : ∀ c, Md who L n c = true → Md who L n' c = true := fun c h => by
    rw [md_iff] at h ⊢
    by_cases e : who c = a
    · rw [e] at h ⊢
      rw [e1]
      exact (List.take_prefix_take_left (l := L a) (Nat.le_succ (n a))).subset h
    · rw [e2 _ e]; exact h
  refine ⟨fun b => ?_, fun c h => ?_, fun q0 n2 hq hs b b0 b1 => ?_⟩
  · by_cases e : b = a
    · rw [e, e1]; exact ha
    · rw [e2 b e]; exact W.le b
  · by_cases hc : Md who L n c = true
    · have h1 := held_sub who rm mono (fun _ => Nat.le_refl _) hc h
      rw [e2 _ (hf c h1)]
      exact W.last c h1
    · have h2 := (md_iff who).mp (held_S who rm h)
      have e : who c = a := Classical.byContradiction fun e => hc ((md_iff who).mpr (by rw [← e2 _ e]; exact h2))
      rw [e, e1] at h2 ⊢
      rw [List.take_succ_eq_append_getElem ha] at h2
      rcases List.mem_append.mp h2 with h3 | h3
      · exact absurd ((md_iff who).mpr (by rw [e]; exact h3)) hc
      · refine ⟨?_, Nat.succ_pos _⟩
        rw [show n a + 1 - 1 = n a from rfl, List.getElem?_eq_getElem ha, List.mem_singleton.mp h3]
  · have h := W.least q0 n2 hq hs b b0 b1
    by_cases e : b = a
    · subst e
      rw [e1]
      by_cases hn : n b = n2 b
      · obtain ⟨c, h1, h2⟩ := hs b b0 b1 (by rw [← hn]; exact ha)
        have hc : Md who L n c = true := by
          have := (md_iff who).mp (held_S who rm h2)
          rw [md_iff]
          rw [h1] at this ⊢
          rw [hn]; exact this
        refine absurd h1 (hf c (held_sub who rm (fun c h => ?_) hq hc h2))
        rw [md_iff] at h ⊢
        have hz := Z.out _ _ (List.mem_of_mem_take h)
        exact (List.take_prefix_take_left (l := L (who c)) (W.least q0 n2 hq hs _ hz.1 hz.2)).subset h
      · omega
    · rw [e2 b e]; exact h
/-- two ends are alike -/
theorem md_eq {k : Int} {L : Int → List Int} (Z : Own who k L) {n m : Int → Nat} (h : ∀ a, 0 ≤ a → a < k → n a = m a) : Md who L n = Md who L m := by
  funext c
  have : Md who L n c = true ↔ Md who L m c = true := by
    rw [md_iff, md_iff]
    constructor
    · intro h1
      obtain ⟨a, b⟩ := Z.out _ _ (List.mem_of_mem_take h1)
      rw [← h _ a b]; exact h1
    · intro h1
      obtain ⟨a, b⟩ := Z.out _ _ (List.mem_of_mem_take h1)
      rw [h _ a b]; exact h1
  cases e : Md who L m c with
  | true => exact this.mpr e
  | false =>
    cases e2 : Md who L n c with
    | true => rw [this.mp e2] at e; cases e
    | false => rfl
theorem same_end {k : Int} {L O : Int → List Int} {q n m : Int → Nat} (Z : Own who k L) (W1 : Way who rm k L O q n) (S1 : Stop who rm k L O q n) (W2 : Way who rm k L O q m) (S2 : Stop who rm k L O q m) : Md who L n = Md who L m :=
  md_eq Z fun a a0 a1 => Nat.le_antisymm (W1.least q m (fun _ => Nat.le_refl _) S2 a a0 a1) (W2.least q n (fun _ => Nat.le_refl _) S1 a a0 a1)
/-- what an asker has -/
structure Has (L O : Int → List Int) (q n : Int → Nat) (a : Int) (o : Option Int) : Prop where
  some_ : ∀ c, o = some c → who c = a ∧ held who rm O q (Md who L n) c
  none_ : o = none → ∀ c, held who rm O q (Md who L n) c → who c ≠ a
def plc (l : List Int) (o : Option Int) : Nat := match o with
  | some c => l.idxOf c
  | none => l.length
theorem idx_at {l : List Int} (nd : l.Nodup) {i : Nat} {c : Int} (h : l[i]? = some c) : l.idxOf c = i := by
  obtain ⟨h1, h2⟩ := List.getElem?_eq_some_iff.mp h
  have hc : c ∈ l := List.mem_of_getElem? h
  have h3 : l.idxOf c < l.length := List.idxOf_lt_length_iff.mpr hc
  have h4 : l[l.idxOf c] = c := List.getElem_idxOf h3
  exact (List.getElem_inj nd).mp (h4.trans h2.symm)
theorem has_at {k : Int} {L O : Int → List Int} {q n : Int → Nat} (W : Way who rm k L O q n) {a c : Int} (h : who c = a) (hh : held who rm O q (Md who L n) c) : (L a)[n a - 1]? = some c ∧ 0 < n a := by
  have := W.last c hh
  rw [h] at this
  exact this
/-- more seats: nobody is worse -/
theorem no_worse {k : Int} {L O : Int → List Int} {q q' n m : Int → Nat} (Z : Own who k L) (hq : ∀ r, q r ≤ q' r) (W1 : Way who rm k L O q n) (S1 : Stop who rm k L O q n) (W2 : Way who rm k L O q' m) (S2 : Stop who rm k L O q' m)
    {a : Int} (a0 : 0 ≤ a) (a1 : a < k) {o o' : Option Int} (h1 : Has (who := who) (rm := rm) L O q n a o) (h2 : Has (who := who) (rm := rm) L O q' m a o') : plc (L a) o' ≤ plc (L a) o := by
  have hle : ∀ b, 0 ≤ b → b < k → m b ≤ n b := fun b b0 b1 => W2.least q n hq S1 b b0 b1
  cases o with
  | none =>
    cases o' with
    | none => exact Nat.le_refl _
    | some c' => exact List.idxOf_le_length
  | some c =>
    obtain ⟨w1, g1⟩ := h1.some_ c rfl
    obtain ⟨i1, p1⟩ := has_at W1 w1 g1
    have e1 : plc (L a) (some c) = n a - 1 := idx_at (Z.nd a) i1
    rw [e1]
    cases o' with
    | some c' =>
      obtain ⟨w2, g2⟩ := h2.some_ c' rfl
      obtain ⟨i2, p2⟩ := has_at W2 w2 g2
      have e2 : plc (L a) (some c') = m a - 1 := idx_at (Z.nd a) i2
      rw [e2]
      have := hle a a0 a1
      omega
    | none =>
      exfalso
      have hn := h2.none_ rfl
      have hm : m a = (L a).length := by
        have := W2.le a
        by_cases hlt : m a < (L a).length
        · obtain ⟨c2, x1, x2⟩ := S2 a a0 a1 hlt
          exact absurd x1 (hn c2 x2)
        · omega
      have hna : n a = m a := by
        have := W1.le a
        have := hle a a0 a1
        omega
      refine hn c (held_sub who rm (fun d hd => ?_) hq ?_ g1) w1
      · rw [md_iff] at hd ⊢
        obtain ⟨z0, z1⟩ := Z.out _ _ (List.mem_of_mem_take hd)
        exact (List.take_prefix_take_left (l := L (who d)) (hle _ z0 z1)).subset hd
      · have := (md_iff who).mp (held_S who rm g1)
        rw [md_iff]
        rw [w1] at this ⊢
        rw [← hna]; exact this
/-- a list cut behind what is had -/
theorem cut_end {k : Int} {L L' O : Int → List Int} {q n m : Int → Nat} (Z : Own who k L) (W1 : Way who rm k L O q n) (S1 : Stop who rm k L O q n) {a c : Int} (wc : who c = a) (hc : held who rm O q (Md who L n) c)
    (e1 : L' a = (L a).take (n a)) (e2 : ∀ b, b ≠ a → L' b = L b) (W2 : Way who rm k L' O q m) (S2 : Stop who rm k L' O q m) : Md who L n = Md who L' m := by
  have hna := W1.le a
  have hla : (L' a).length = n a := by rw [e1, List.length_take]; omega
  have Z' : Own who k L' := ⟨fun b d h => by
      by_cases e : b = a
      · rw [e, e1] at h; rw [e]; exact Z.own a d (List.mem_of_mem_take h)
      · rw [e2 b e] at h; exact Z.own b d h, fun b d h => by
      by_cases e : b = a
      · rw [e, e1] at h; rw [e]; exact Z.out a d (List.mem_of_mem_take h)
      · rw [e2 b e] at h; exact Z.out b d h, fun b => by
      by_cases e : b = a
      · rw [e, e1]; exact (Z.nd a).sublist (List.take_sublist _ _)
      · rw [e2 b e]; exact Z.nd b⟩
  have tk : ∀ (j : Int → Nat), j a ≤ n a → Md who L' j = Md who L j := fun j hj => by
    funext d
    unfold Md
    by_cases e : who d = a
    · rw [e, e1, List.take_take, Nat.min_eq_left hj]
    · rw [e2 _ e]
  have hma : m a ≤ n a := by have := W2.le a; omega
  -- the old end stops with the cut list
  have S1' : Stop who rm k L' O q n := fun b b0 b1 hb => by
    rw [tk n (Nat.le_refl _)]
    by_cases e : b = a
    · rw [e] at hb; omega
    · rw [e2 b e] at hb; exact S1 b b0 b1 hb
  have le1 := W2.least q n (fun _ => Nat.le_refl _) S1'
  have sub : ∀ d, Md who L m d = true → Md who L n d = true := fun d hd => by
    rw [md_iff] at hd ⊢
    obtain ⟨z0, z1⟩ := Z.out _ _ (List.mem_of_mem_take hd)
    exact (List.take_prefix_take_left (l := L (who d)) (le1 _ z0 z1)).subset hd
  have S2' : Stop who rm k L O q m := fun b b0 b1 hb => by
    by_cases e : b = a
    · subst e
      by_cases hlt : m b < n b
      · obtain ⟨d, x1, x2⟩ := S2 b b0 b1 (by rw [hla]; exact hlt)
        rw [tk m hma] at x2
        exact ⟨d, x1, x2⟩
      · have em : m b = n b := by omega
        refine ⟨c, wc, held_sub who rm sub (fun _ => Nat.le_refl _) ?_ hc⟩
        have := (md_iff who).mp (held_S who rm hc)
        rw [md_iff]
        rw [wc] at this ⊢
        rw [em]; exact this
    · obtain ⟨d, x1, x2⟩ := S2 b b0 b1 (by rw [e2 b e]; exact hb)
      rw [tk m hma] at x2
      exact ⟨d, x1, x2⟩
  have le2 := W1.least q m (fun _ => Nat.le_refl _) S2'
  rw [tk m hma]
  exact md_eq Z fun b b0 b1 => Nat.le_antisymm (le2 b b0 b1) (le1 b b0 b1)
end
end Dd
set_option Elab.async false
set_option linter.all false
set_option maxRecDepth 100000
set_option maxHeartbeats 2000000
namespace G
open PySem L2 Evl Pu
theorem at0 {a b c : Int} : L2.atI [a, b, c] (0 : Int) = some a := rfl
theorem at1 {a b c : Int} : L2.atI [a, b, c] (1 : Int) = some b := rfl
theorem at2 {a b c : Int} : L2.atI [a, b, c] (2 : Int) = some c := rfl
theorem set0 {a b c x : Int} : setL [a, b, c] (0 : Int) x = some [x, b, c] := rfl
theorem set1 {a b c x : Int} : setL [a, b, c] (1 : Int) x = some [a, x, c] := rfl
theorem set2 {a b c x : Int} : setL [a, b, c] (2 : Int) x = some [a, b, x] := rfl
theorem opt_some {α β : Type} (x : α) (f : α → Pu.Res β) : opt (some x) f = f x := rfl
theorem dice_ok (cell : Int) : ∃ a b c, m_law_dice cell = .ok [a, b, c] := by
  unfold m_law_dice
  have h1 : (if 0 < (1009 : Int) then some (cell % (1009 : Int)) else none) = some (cell % 1009) := if_pos (by decide)
  have h2 : (if CPow (10 : Int) (18 : Int) then some ((10 : Int) ^ (18 : Int).toNat) else none) = some ((10 : Int) ^ (18 : Int).toNat) := if_pos (by unfold CPow; decide)
  simp only [h1, h2, opt_some]
  repeat' split
  all_goals first | exact ⟨_, _, _, rfl⟩ | skip
theorem roll_ok (a b c many : Int) (h0 : 0 < many) (h1 : many < 1073741824) : ∃ x a' b' c', m_law_roll [a, b, c] many = .ok (x, [a', b', c']) ∧ 0 ≤ x ∧ x < many := by
  have m1 : ∀ x : Int, (if 0 < many then some (x % many) else none) = some (x % many) := fun x => if_pos h0
  have m2 : ∀ x : Int, (if CDiv x many then some (x / many) else none) = some (x / many) := fun x => if_pos ⟨h0, h1⟩
  have m3 : ∀ x : Int, (if CMul x (48271 : Int) then some (x * (48271 : Int)) else none) = some (x * 48271) := fun x => if_pos (.inr (by decide))
  have m4 : ∀ x : Int, (if CMul x (69621 : Int) then some (x * (69621 : Int)) else none) = some (x * 69621) := fun x => if_pos (.inr (by decide))
  have m5 : ∀ x : Int, (if 0 < (2147483647 : Int) then some (x % (2147483647 : Int)) else none) = some (x % 2147483647) := fun x => if_pos (by decide)
  have m6 : ∀ x : Int, (if CDiv x (7 : Int) then some (x / (7 : Int)) else none) = some (x / 7) := fun x => if_pos ⟨by decide, by decide⟩
  have p0 : ∀ x : Int, 0 ≤ x % many := fun x => Int.emod_nonneg _ (by omega)
  have p1 : ∀ x : Int, x % many < many := fun x => Int.emod_lt_of_pos _ h0
  unfold m_law_roll
  simp only [at0, at1, at2, set0, set1, set2, m1, m2, m3, m4, m5, m6, opt_some]
  by_cases k1 : c = 2
  · refine ⟨a % many, a / many, b, c, ?_, p0 _, p1 _⟩
    simp [k1]
  · by_cases k2 : c = 1 ∧ 0 < a
    · refine ⟨a % many, a / many, b, c, ?_, p0 _, p1 _⟩
      simp [k2.1, k2.2]
    · refine ⟨((a * 48271 + b * 69621 + 11) % 2147483647 / 7 + (a * 48271 + b * 69621 + 11) % 2147483647) % many, (a * 48271 + b * 69621 + 11) % 2147483647, b + 1, 0, ?_, p0 _, p1 _⟩
      by_cases k3 : c = 1
      · have k4 : ¬ 0 < a := fun z => k2 ⟨k3, z⟩
        simp [k3, k4]
      · simp [k1, k3]
theorem bind_ok {α β : Type} (x : α) (f : α → Pu.Res β) : (Pu.Res.ok x).bind f = f x := rfl
theorem chk_true {β : Type} (r : Pu.Res β) : chk true r = r := rfl
theorem rng_ok {n : Int} (h0 : 0 ≤ n) (h1 : n ≤ 16777216) : rng n = some (rngL n) := by
  unfold rng
  exact if_pos ⟨by omega, h1⟩
theorem rngL_len {n : Int} : (rngL n).length = n.toNat := by unfold rngL; rw [List.length_map, List.length_range]
theorem rngL_mem {n x : Int} : x ∈ rngL n ↔ 0 ≤ x ∧ x < n := by
  unfold rngL
  rw [List.mem_map]
  constructor
  · rintro ⟨k, hk, rfl⟩
    have := List.mem_range.mp hk
    exact ⟨Int.natCast_nonneg k, by show (k : Int) < n; omega⟩
  · rintro ⟨h1, h2⟩
    exact ⟨x.toNat, List.mem_range.mpr (by omega), by show ((x.toNat : Nat) : Int) = x; omega⟩
theorem rngL_nodup (n : Int) : (rngL n).Nodup := by
  unfold rngL
  refine List.Pairwise.map _ (fun a b h e => h (by cases e; rfl)) List.nodup_range
theorem at_in {xs : List Int} {i : Int} (h0 : 0 ≤ i) (h1 : i < xs.length) : ∃ y, L2.atI xs i = some y ∧ y ∈ xs := by
  have hlt : i.toNat < xs.length := by omega
  refine ⟨xs[i.toNat], ?_, List.getElem_mem hlt⟩
  unfold L2.atI L2.ixN
  rw [if_pos h0, if_pos h1]
  show xs[i.toNat]? = _
  exact List.getElem?_eq_getElem hlt
theorem comp_all {α β S : Type} {body : α → S → Pu.Res (Option β × S)} {I : S → Prop} {P : β → Prop} (h : ∀ x s, I s → ∃ y s', body x s = .ok (some y, s') ∧ P y ∧ I s') :
    ∀ (xs : List α) (s : S), I s → ∃ ys s', compL body xs s = some (ys, s') ∧ ys.length = xs.length ∧ (∀ y, y ∈ ys → P y) ∧ I s'
  | [], s, i => ⟨[], s, rfl, rfl, fun y hy => (nomatch hy), i⟩
  | x :: xs, s, i => by
    obtain ⟨y, s1, e1, p1, i1⟩ := h x s i
    obtain ⟨ys, s2, e2, l2, p2, i2⟩ := comp_all h xs s1 i1
    refine ⟨y :: ys, s2, ?_, by rw [List.length_cons, List.length_cons, l2], fun z hz => ?_, i2⟩
    · show (match body x s with
        | .ok (o, s1) => (match compL body xs s1 with
          | some (ys, s2) => some (o.toList ++ ys, s2)
          | none => none)
        | _ => none) = _
      rw [e1]
      show (match compL body xs s1 with
          | some (ys, s2) => some ((some y).toList ++ ys, s2)
          | none => none) = _
      rw [e2]
      rfl
    · rcases List.mem_cons.mp hz with q | q
      · rw [q]; exact p1
      · exact p2 z q
theorem comp_map {α β S : Type} {body : α → S → Pu.Res (Option β × S)} {g : α → β} {s : S} : ∀ (xs : List α), (∀ x, x ∈ xs → body x s = .ok (some (g x), s)) → compL body xs s = some (xs.map g, s)
  | [], _ => rfl
  | x :: xs, h => by
    have e2 := comp_map (body := body) (g := g) (s := s) xs fun y hy => h y (List.mem_cons_of_mem _ hy)
    show (match body x s with
        | .ok (o, s1) => (match compL body xs s1 with
          | some (ys, s2) => some (o.toList ++ ys, s2)
          | none => none)
        | _ => none) = _
    rw [h x (List.mem_cons_self ..)]
    show (match compL body xs s with
          | some (ys, s2) => some ((some (g x)).toList ++ ys, s2)
          | none => none) = _
    rw [e2]
    rfl
theorem dmerge_new {α : Type} : ∀ (xs acc : List (Int × α)), ((acc ++ xs).map (·.1)).Nodup → dmerge acc xs = acc ++ xs
  | [], acc, _ => by rw [List.append_nil]; rfl
  | q :: xs, acc, nd => by
    show dmerge (dput acc q.1 q.2) xs = _
    have hn : (acc.any fun p => decide (p.1 = q.1)) = false := by
      rw [List.any_eq_false]
      intro p hp
      have h2 := nd
      rw [List.map_append] at h2
      have := (List.nodup_append.mp h2).2.2 p.1 (List.mem_map.mpr ⟨p, hp, rfl⟩) q.1 (List.mem_map.mpr ⟨q, List.mem_cons_self .., rfl⟩)
      simpa using this
    have e : dput acc q.1 q.2 = acc ++ [q] := by
      unfold dput
      rw [hn]
      rfl
    rw [e, dmerge_new xs (acc ++ [q]) (by rw [List.append_assoc]; exact nd), List.append_assoc]
    rfl
theorem wish_ok {l : List Int} (nd : l.Nodup) : m_Wish_init l = .ok (l, (enumL l).map fun x => (x.2, x.1), ()) := by
  unfold m_Wish_init
  rw [comp_map (g := fun x : Int × Int => (x.2, x.1)) (enumL l) (fun x _ => rfl), opt_some]
  show Pu.Res.ok (l, dmerge [] ((enumL l).map fun x => (x.2, x.1)), ()) = _
  rw [dmerge_new _ _ (by
    rw [List.nil_append, List.map_map]
    have : (enumL l).map ((fun x : Int × Int => x.1) ∘ fun x : Int × Int => (x.2, x.1)) = l := by
      unfold enumL
      rw [List.map_map]
      apply List.ext_getElem
      · rw [List.length_map, List.length_zipIdx]
      · intro i h1 h2
        simp
    rw [this]; exact nd)]
  rfl
def mkW (l : List Int) : A_Wish := (l, (enumL l).map fun x => (x.2, x.1), ())
theorem dget_zip : ∀ (l : List Int) (n : Nat) (x : Int), dget ((l.zipIdx n).map fun p => (p.1, (p.2 : Int))) x = if x ∈ l then some ((n + l.idxOf x : Nat) : Int) else none
  | [], n, x => rfl
  | y :: l, n, x => by
    rw [List.zipIdx_cons, List.map_cons]
    unfold dget
    by_cases e : y = x
    · subst e
      rw [if_pos rfl, if_pos (List.mem_cons_self ..), List.idxOf_cons_self]
      rfl
    · have hb : (y == x) = false := by simpa using e
      rw [if_neg e, dget_zip l (n + 1) x, List.idxOf_cons, hb]
      by_cases hm : x ∈ l
      · rw [if_pos hm, if_pos (List.mem_cons_of_mem _ hm)]
        congr 1
        show ((n + 1 + l.idxOf x : Nat) : Int) = ((n + (l.idxOf x + 1) : Nat) : Int)
        omega
      · rw [if_neg hm, if_neg fun z => (List.mem_cons.mp z).elim (fun q => e q.symm) hm]
theorem ranks_get (l : List Int) (x : Int) : dget (mkW l).2.1 x = if x ∈ l then some ((l.idxOf x : Nat) : Int) else none := by
  have e : (mkW l).2.1 = (l.zipIdx 0).map fun p => (p.1, (p.2 : Int)) := by
    unfold mkW enumL
    show (List.map _ (List.map _ _)) = _
    rw [List.map_map]
    rfl
  rw [e, dget_zip]
  simp
theorem comp_filt {α β S : Type} {body : α → S → Pu.Res (Option β × S)} {p : α → Bool} {g : α → β} {s : S} : ∀ (xs : List α), (∀ x, x ∈ xs → body x s = .ok (if p x = true then some (g x) else none, s)) → compL body xs s = some ((xs.filter p).map g, s)
  | [], _ => rfl
  | x :: xs, h => by
    have e2 := comp_filt (body := body) (p := p) (g := g) (s := s) xs fun y hy => h y (List.mem_cons_of_mem _ hy)
    show (match body x s with
        | .ok (o, s1) => (match compL body xs s1 with
          | some (ys, s2) => some (o.toList ++ ys, s2)
          | none => none)
        | _ => none) = _
    rw [h x (List.mem_cons_self ..)]
    show (match compL body xs s with
          | some (ys, s2) => some ((if p x = true then some (g x) else none).toList ++ ys, s2)
          | none => none) = _
    rw [e2]
    cases hp : p x with
    | true => rw [List.filter_cons_of_pos hp, if_pos rfl]; rfl
    | false => rw [List.filter_cons_of_neg (by rw [hp]; simp), if_neg (by decide)]; rfl
def fnO (xs : List (Option Int)) : Int → Option Int := fun a => if 0 ≤ a then xs.getD a.toNat none else none
def fnL (ls : List (List Int)) : Int → List Int := fun a => if 0 ≤ a then ls.getD a.toNat [] else []
theorem at_d {α : Type} {xs : List α} {i : Int} (d : α) (h0 : 0 ≤ i) (h1 : i < xs.length) : L2.atI xs i = some (xs.getD i.toNat d) ∧ xs.getD i.toNat d ∈ xs := by
  have hlt : i.toNat < xs.length := by omega
  have e : xs[i.toNat]? = some (xs.getD i.toNat d) := by
    rw [List.getD_eq_getElem?_getD, List.getElem?_eq_getElem hlt]; rfl
  refine ⟨?_, List.mem_of_getElem? e⟩
  unfold L2.atI L2.ixN
  rw [if_pos h0, if_pos h1]
  exact e
theorem set_ok {α : Type} {xs : List α} {i : Int} {v : α} (h0 : 0 ≤ i) (h1 : i < xs.length) : setL xs i v = some (xs.set i.toNat v) := by
  unfold setL L2.ixN
  rw [if_pos h0, if_pos h1]
theorem getD_set {α : Type} {xs : List α} {i j : Nat} {v d : α} (h : i < xs.length) : (xs.set i v).getD j d = if j = i then v else xs.getD j d := by
  rw [List.getD_eq_getElem?_getD, List.getD_eq_getElem?_getD, List.getElem?_set]
  by_cases e : j = i
  · subst e
    rw [if_pos rfl, if_pos h, if_pos rfl]; rfl
  · rw [if_neg (fun k => e k.symm), if_neg e]
theorem at_O {xs : List (Option Int)} {i : Int} (h0 : 0 ≤ i) (h1 : i < xs.length) : L2.atI xs i = some (fnO xs i) := by
  unfold fnO; rw [if_pos h0]; exact (at_d none h0 h1).1
theorem at_L {xs : List (List Int)} {i : Int} (h0 : 0 ≤ i) (h1 : i < xs.length) : L2.atI xs i = some (fnL xs i) ∧ fnL xs i ∈ xs := by
  unfold fnL; rw [if_pos h0]; exact at_d [] h0 h1
theorem at_W {xs : List (List Int)} {i : Int} (h0 : 0 ≤ i) (h1 : i < xs.length) : L2.atI (xs.map mkW) i = some (mkW (fnL xs i)) := by
  have h := (at_L h0 h1).1
  unfold L2.atI L2.ixN at h ⊢
  rw [List.length_map]
  rw [if_pos h0, if_pos h1] at h ⊢
  show (xs.map mkW)[i.toNat]? = _
  have h : xs[i.toNat]? = some (fnL xs i) := h
  rw [List.getElem?_map, h]; rfl
theorem rng_sorted (n : Int) : sortI (rngL n) = rngL n := by
  refine sorted_eq (sortI_perm _) (sortI_pw _) ?_
  unfold rngL
  refine List.Pairwise.map _ (fun a b h => ?_) (List.pairwise_lt_range (n := n.toNat))
  show (a : Int) ≤ (b : Int)
  omega
theorem index_ok : ∀ (l : List Int) (r : Int), r ∈ l → indexL flInt.dec l r = some ((l.idxOf r : Nat) : Int)
  | x :: l, r, h => by
    show (if (@decide (x = r) (flInt.dec x r)) = true then some (0 : Int) else (indexL flInt.dec l r).map (· + 1)) = _
    by_cases e : x = r
    · subst e
      rw [if_pos (decide_eq_true rfl), List.idxOf_cons_self]; rfl
    · rw [if_neg (show ¬ (@decide (x = r) (flInt.dec x r)) = true from fun h => e (of_decide_eq_true h)), index_ok l r ((List.mem_cons.mp h).resolve_left fun k => e k.symm), Da.idx_ne e]
      rfl
theorem cut_ok {α : Type} (xs : List α) {n : Int} (h : 0 ≤ n) : cutL xs none (some n) = xs.take n.toNat := by
  unfold cutL HT.sIx
  dsimp only
  rw [if_neg (by omega), List.drop_zero, Nat.sub_zero]
  exact List.take_eq_take_min.symm
theorem short {l : List Int} {n : Nat} (nd : l.Nodup) (h : ∀ x, x ∈ l → 0 ≤ x ∧ x < (n : Int)) : l.length ≤ n := by
  have := Da.len_of_sub (ys := rngL n) nd fun x hx => rngL_mem.mpr (h x hx)
  rw [rngL_len] at this
  omega
theorem rounds_ok (ns : List Int) : ∃ a b c, m_law_rounds ns (1 : Int) = .ok [a, b, c] := by
  have hcut : cutL ns none (some 1) = ns.take 1 := cut_ok ns (by decide)
  unfold m_law_rounds
  dsimp only
  rw [hcut]
  match ns with
  | [] =>
    obtain ⟨a, b, c, e⟩ := dice_ok 0
    refine ⟨a, b, c, ?_⟩
    rw [if_pos (by rfl)]
    unfold oneL
    dsimp only
    rw [e]; rfl
  | x :: xs =>
    obtain ⟨a, b, c, e⟩ := dice_ok x
    refine ⟨a, b, c, ?_⟩
    rw [if_neg (by simp)]
    unfold oneL
    dsimp only [List.take]
    rw [e]; rfl
theorem at_zero {α : Type} {x : α} {xs : List α} : L2.atI (x :: xs) (0 : Int) = some x := by
  unfold L2.atI L2.ixN
  rw [if_pos (Int.le_refl 0), if_pos (by rw [List.length_cons]; omega)]
  rfl
theorem fold_q {α S R : Type} {Q : Pu.Res R → Prop} {I : List α → S → Prop} {B : α → (S → Pu.Res R) → S → Pu.Res R} {nx : S → Pu.Res R} {xs : List α} {s : S}
    (step : ∀ pre x post, xs = pre ++ x :: post → ∀ s, I pre s → ∀ k : S → Pu.Res R, (∀ s', I (pre ++ [x]) s' → Q (k s')) → Q (B x k s)) (h0 : I [] s) (hn : ∀ s', I xs s' → Q (nx s')) : Q (List.foldr B nx xs s) := by
  have go : ∀ (post pre : List α), xs = pre ++ post → ∀ s, I pre s → Q (List.foldr B nx post s) := by
    intro post
    induction post with
    | nil => exact fun pre e s i => hn s (by rw [e, List.append_nil]; exact i)
    | cons x post ih =>
      intro pre e s i
      rw [List.foldr_cons]
      exact step pre x post e s i _ fun s' i' => ih (pre ++ [x]) (by rw [e]; simp) s' i'
  exact go xs [] rfl s h0
theorem cat_ok {α : Type} {xs ys : List α} (h : xs.length + ys.length ≤ 16777216) : catL xs ys = some (xs ++ ys) := if_pos h
theorem isIn_int {x : Int} {xs : List Int} : isIn flInt.dec x xs = decide (x ∈ xs) := by
  unfold isIn
  by_cases h : x ∈ xs
  · rw [decide_eq_true h, List.any_eq_true]
    exact ⟨x, h, decide_eq_true rfl⟩
  · rw [decide_eq_false h, List.any_eq_false]
    intro y hy e
    exact h (of_decide_eq_true e ▸ hy)
theorem enum_snd {α : Type} {xs : List α} {p : Int × α} (h : p ∈ enumL xs) : p.2 ∈ xs := by
  unfold enumL at h
  obtain ⟨⟨x, i⟩, h1, rfl⟩ := List.mem_map.mp h
  exact List.mem_of_getElem? (List.mem_zipIdx_iff_getElem?.mp h1)
theorem comp_allq {α β S R : Type} {body : α → S → Pu.Res (Option β × S)} {I : S → Prop} {P : β → Prop} {K : List β × S → Pu.Res R} (xs : List α) {s : S} (h0 : I s) (hb : ∀ x s, I s → ∃ y s', body x s = .ok (some y, s') ∧ P y ∧ I s') (Q : Pu.Res R → Prop)
    (hQ : ∀ ys s', ys.length = xs.length → (∀ y, y ∈ ys → P y) → I s' → Q (K (ys, s'))) : Q (opt (compL body xs s) K) := by
  obtain ⟨ys, s', e, hl, hp, hi⟩ := comp_all hb xs s h0
  rw [e, opt_some]
  exact hQ ys s' hl hp hi
theorem comp_flat {α β S : Type} {body : α → S → Pu.Res (List β × S)} {g : α → List β} {s : S} : ∀ (xs : List α), (∀ x, x ∈ xs → body x s = .ok (g x, s)) → compM body xs s = some (xs.flatMap g, s)
  | [], _ => rfl
  | x :: xs, h => by
    have e2 := comp_flat (body := body) (g := g) (s := s) xs fun y hy => h y (List.mem_cons_of_mem _ hy)
    show (match body x s with
        | .ok (o, s1) => (match compM body xs s1 with
          | some (ys, s2) => some (o ++ ys, s2)
          | none => none)
        | _ => none) = _
    rw [h x (List.mem_cons_self ..)]
    show (match compM body xs s with
          | some (ys, s2) => some (g x ++ ys, s2)
          | none => none) = _
    rw [e2]; rfl
theorem sum_le_mul {f : Int → Nat} {c : Nat} : ∀ (xs : List Int), (∀ x, x ∈ xs → f x ≤ c) → (xs.map f).sum ≤ c * xs.length
  | [], _ => Nat.zero_le _
  | x :: xs, h => by
    rw [List.map_cons, List.sum_cons, List.length_cons, Nat.mul_succ]
    have h1 := h x (List.mem_cons_self ..)
    have h2 := sum_le_mul (f := f) (c := c) xs fun y hy => h y (List.mem_cons_of_mem _ hy)
    omega
def wv (got : List Int) (a : Int) : Int := got.getD a.toNat 0
theorem wv_at {got : List Int} {a : Int} (a0 : 0 ≤ a) (a1 : a < got.length) : L2.atI got a = some (wv got a) ∧ wv got a ∈ got := at_d 0 a0 a1
theorem enum_at {α : Type} {xs : List α} {i : Int} {x : α} : (i, x) ∈ enumL xs ↔ 0 ≤ i ∧ xs[i.toNat]? = some x := by
  unfold enumL
  constructor
  · intro h
    obtain ⟨⟨y, n⟩, h1, h2⟩ := List.mem_map.mp h
    have h3 := List.mem_zipIdx_iff_getElem?.mp h1
    cases h2
    exact ⟨by show (0 : Int) ≤ ((n : Nat) : Int); omega, by simpa using h3⟩
  · rintro ⟨h0, h1⟩
    refine List.mem_map.mpr ⟨(x, i.toNat), List.mem_zipIdx_iff_getElem?.mpr h1, ?_⟩
    show (((i.toNat : Nat) : Int), x) = (i, x)
    rw [Int.toNat_of_nonneg h0]
theorem dget_any {α : Type} (k : Int) : ∀ kvs : List (Int × α), (dget kvs k).isSome = decide (k ∈ kvs.map Prod.fst)
  | [] => rfl
  | p :: r => by
    unfold dget
    rw [List.map_cons]
    by_cases e : p.1 = k
    · rw [if_pos e, decide_eq_true (by rw [← e]; exact List.mem_cons_self ..)]; rfl
    · rw [if_neg e, dget_any k r]
      by_cases h : k ∈ r.map Prod.fst
      · rw [decide_eq_true h, decide_eq_true (List.mem_cons_of_mem _ h)]
      · rw [decide_eq_false h, decide_eq_false fun z => (List.mem_cons.mp z).elim (fun q => e q.symm) h]
theorem dput_new {α : Type} {kvs : List (Int × α)} {k : Int} (v : α) (h : k ∉ kvs.map Prod.fst) : dput kvs k v = kvs ++ [(k, v)] := by
  unfold dput
  rw [if_neg]
  intro hq
  obtain ⟨q, hq, e⟩ := List.any_eq_true.mp hq
  exact h (List.mem_map.mpr ⟨q, hq, of_decide_eq_true e⟩)
theorem dget_app {α : Type} {k j : Int} {v : α} : ∀ {kvs : List (Int × α)}, j ∉ kvs.map Prod.fst → dget (kvs ++ [(j, v)]) k = if k = j then some v else dget kvs k
  | [], _ => by
    show (if j = k then some v else none) = _
    by_cases e : k = j
    · rw [if_pos e, if_pos e.symm]
    · rw [if_neg e, if_neg fun z => e z.symm]; rfl
  | p :: r, h => by
    rw [List.map_cons] at h
    show (if p.1 = k then some p.2 else dget (r ++ [(j, v)]) k) = _
    rw [dget_app fun z => h (List.mem_cons_of_mem _ z)]
    by_cases e : p.1 = k
    · rw [if_pos e]
      have : k ≠ j := fun z => h (by rw [← z, ← e]; exact List.mem_cons_self ..)
      rw [if_neg this]
      show _ = if p.1 = k then some p.2 else dget r k
      rw [if_pos e]
    · rw [if_neg e]
      show _ = if k = j then some v else if p.1 = k then some p.2 else dget r k
      rw [if_neg e]
end G
set_option Elab.async false
set_option linter.all false
set_option maxRecDepth 100000
set_option maxHeartbeats 2000000
namespace G
open PySem L2 Evl Pu
abbrev C3 := Int × Int × Int
def mkD (cs : List C3) (Ls Os : List (List Int)) (qs : List Int) : A_Deals := (cs, Ls.map mkW, Os.map mkW, qs, ())
structure Mar (who rm : Int → Int) (cs : List C3) (Ls Os : List (List Int)) (qs : List Int) : Prop where
  cs_ok : ∀ c, 0 ≤ c → c < (cs.length : Int) → ∃ t, L2.atI cs c = some (who c, rm c, t)
  cs_len : cs.length ≤ 1000
  ls_len : Ls.length ≤ 1000
  os_len : Os.length ≤ 1000
  ls : ∀ a c, c ∈ fnL Ls a → 0 ≤ c ∧ c < (cs.length : Int) ∧ who c = a
  os : ∀ r c, c ∈ fnL Os r → 0 ≤ c ∧ c < (cs.length : Int) ∧ rm c = r
  lnd : ∀ l, l ∈ Ls → l.Nodup
  ond : ∀ l, l ∈ Os → l.Nodup
  q_len : qs.length = Os.length
theorem fold_id {α S R : Type} {B : α → (S → Pu.Res R) → S → Pu.Res R} {nx : S → Pu.Res R} {s : S} : ∀ {xs : List α}, (∀ x, x ∈ xs → ∀ k, B x k s = k s) → List.foldr B nx xs s = nx s
  | [], _ => rfl
  | x :: xs, h => by
    rw [List.foldr_cons, h x List.mem_cons_self]
    exact fold_id fun y hy => h y (List.mem_cons_of_mem _ hy)
theorem fnL_at {ls : List (List Int)} {i : Int} {l : List Int} (h0 : 0 ≤ i) (h : ls[i.toNat]? = some l) : fnL ls i = l := by
  unfold fnL
  rw [if_pos h0, List.getD_eq_getElem?_getD, h]; rfl
theorem fnL_in {ls : List (List Int)} {i : Int} {c : Int} (h : c ∈ fnL ls i) : 0 ≤ i ∧ i < (ls.length : Int) := by
  unfold fnL at h
  by_cases h0 : 0 ≤ i
  · rw [if_pos h0] at h
    by_cases h1 : i < (ls.length : Int)
    · exact ⟨h0, h1⟩
    · rw [List.getD_eq_getElem?_getD, List.getElem?_eq_none (by omega)] at h
      exact nomatch h
  · rw [if_neg h0] at h
    exact nomatch h
theorem enum_len {α : Type} (xs : List α) : (enumL xs).length = xs.length := by
  unfold enumL; simp
theorem check_ok {D : A_Deals} {l : List Int} {place w : Int} (nd : l.Nodup) (h : ∀ c, c ∈ l → 0 ≤ c ∧ c < (D.1.length : Int) ∧ ∃ x : C3, L2.atI D.1 c = some x ∧ L2.atI [x.1, x.2.1, x.2.2] place = some w) : m_Deals_check D (mkW l) place w = .ok () := by
  unfold m_Deals_check
  have e0 : ((mkW l).2.1.length : Int) = ((mkW l).1.length : Int) := by
    show (((enumL l).map fun x => (x.2, x.1)).length : Int) = (l.length : Int)
    rw [List.length_map, enum_len]
  rw [decide_eq_true e0, if_neg (by decide)]
  rw [comp_map (g := fun _ : Int => false) (mkW l).1 (fun x hx => ?_), opt_some]
  · dsimp only
    rw [if_neg]
    simp
  · obtain ⟨c0, c1, y, hy, hp⟩ := h x hx
    dsimp only
    rw [if_pos rfl, decide_eq_true c0, if_pos rfl, decide_eq_true c1, if_neg (by decide), hy, opt_some, hp, opt_some, decide_eq_true rfl]
    rfl
section
variable {who rm : Int → Int} {cs : List C3} {Ls Os : List (List Int)} {qs : List Int}
theorem init_ok (M : Mar who rm cs Ls Os qs) : m_Deals_init cs Ls Os qs = .ok (mkD cs Ls Os qs) := by
  unfold m_Deals_init
  rw [comp_map (g := fun x : C3 => x) cs (fun x _ => rfl), opt_some]
  dsimp only
  rw [List.map_id']
  rw [comp_map (g := mkW) Ls (fun x hx => by
    dsimp only
    rw [if_pos rfl, wish_ok (M.lnd x hx)]; rfl), opt_some]
  dsimp only
  rw [comp_map (g := mkW) Os (fun x hx => by
    dsimp only
    rw [if_pos rfl, wish_ok (M.ond x hx)]; rfl), opt_some]
  dsimp only
  refine fold_id fun x hx k => ?_
  have hc : ∀ p : Int × A_Wish, p ∈ enumL x.2 → m_Deals_check (mkD cs Ls Os qs) p.2 x.1 p.1 = .ok () := fun p hp => by
    obtain ⟨i, xs⟩ := x
    obtain ⟨j, w⟩ := p
    obtain ⟨i0, hi⟩ := enum_at.mp hx
    obtain ⟨j0, hj⟩ := enum_at.mp hp
    match hn : i.toNat with
    | 0 =>
      have ei : i = 0 := by omega
      subst ei
      have hi : Ls.map mkW = xs := Option.some.inj hi
      subst hi
      rw [List.getElem?_map] at hj
      cases hl : Ls[j.toNat]? with
      | none => rw [hl] at hj; cases hj
      | some l =>
        rw [hl] at hj
        cases hj
        refine check_ok (M.lnd l (List.mem_of_getElem? hl)) fun c hc => ?_
        obtain ⟨c0, c1, c2⟩ := M.ls j c (by rw [fnL_at j0 hl]; exact hc)
        obtain ⟨t, ht⟩ := M.cs_ok c c0 c1
        exact ⟨c0, c1, _, ht, by rw [c2]; rfl⟩
    | 1 =>
      have ei : i = 1 := by omega
      subst ei
      have hi : Os.map mkW = xs := Option.some.inj hi
      subst hi
      rw [List.getElem?_map] at hj
      cases hl : Os[j.toNat]? with
      | none => rw [hl] at hj; cases hj
      | some l =>
        rw [hl] at hj
        cases hj
        refine check_ok (M.ond l (List.mem_of_getElem? hl)) fun c hc => ?_
        obtain ⟨c0, c1, c2⟩ := M.os j c (by rw [fnL_at j0 hl]; exact hc)
        obtain ⟨t, ht⟩ := M.cs_ok c c0 c1
        exact ⟨c0, c1, _, ht, by rw [c2]; rfl⟩
    | m + 2 =>
      rw [hn] at hi
      cases hi
  dsimp only
  rw [fold_id fun p hp k2 => by
    have := hc p hp
    unfold mkD at this
    dsimp only
    rw [this]; rfl]
theorem best_of_ok {l made : List Int} {many : Int} (h : (l.length : Int) ≤ many) : m_Wish_best_of (mkW l) made many = .ok (l.filter fun c => decide (c ∈ made)) := by
  unfold m_Wish_best_of
  rw [comp_filt (p := fun c => decide (c ∈ made)) (g := fun c => c) (mkW l).1 (fun x _ => by
    dsimp only
    rw [isIn_int]
    by_cases hx : x ∈ made
    · rw [decide_eq_true hx]; rfl
    · rw [decide_eq_false hx]; rfl), opt_some]
  dsimp only
  rw [cut_ok _ (by omega), List.map_id', List.take_of_length_le]
  · rfl
  · have : (List.filter (fun c => decide (c ∈ made)) l).length ≤ l.length := List.length_filter_le _ _
    show (List.filter (fun c => decide (c ∈ made)) l).length ≤ _
    omega
def dall (who : Int → Int) (acc : List (Int × Int)) (xs : List Int) : List (Int × Int) := xs.foldl (fun d c => PuU.dsetd d (who c) c) acc
theorem dsetd_some {acc : List (Int × Int)} {k x : Int} (h : k ∈ acc.map Prod.fst) : PuU.dsetd acc k x = acc := by
  unfold PuU.dsetd
  have := dget_any k acc
  rw [decide_eq_true h] at this
  cases hd : dget acc k with
  | none => rw [hd] at this; cases this
  | some z => rfl
theorem dsetd_none {acc : List (Int × Int)} {k x : Int} (h : k ∉ acc.map Prod.fst) : PuU.dsetd acc k x = acc ++ [(k, x)] := by
  unfold PuU.dsetd
  have := dget_any k acc
  rw [decide_eq_false h] at this
  cases hd : dget acc k with
  | none => exact dput_new _ h
  | some z => rw [hd] at this; cases this
theorem dall_fs {S : Int → Bool} : ∀ (xs : List Int) (acc : List (Int × Int)) (seen : List Int), (∀ x, x ∈ seen ↔ x ∈ acc.map Prod.fst) → (dall who acc (xs.filter S)).map Prod.snd = acc.map Prod.snd ++ Dd.fs who S seen xs
  | [], acc, seen, _ => by
    show acc.map Prod.snd = acc.map Prod.snd ++ []
    rw [List.append_nil]
  | d :: ds, acc, seen, h => by
    by_cases hS : S d = true
    · rw [List.filter_cons_of_pos hS]
      by_cases hd : who d ∈ acc.map Prod.fst
      · show (dall who (PuU.dsetd acc (who d) d) (ds.filter S)).map Prod.snd = _
        rw [dsetd_some hd, dall_fs ds acc seen h, Dd.fs, if_neg fun z => z.2 ((h _).mpr hd)]
      · show (dall who (PuU.dsetd acc (who d) d) (ds.filter S)).map Prod.snd = _
        rw [dsetd_none hd, dall_fs ds _ (who d :: seen) fun x => ?_, Dd.fs, if_pos ⟨hS, fun z => hd ((h _).mp z)⟩, List.map_append, List.append_assoc]
        · rfl
        · rw [List.map_append, List.mem_append, List.mem_cons, h x]
          show _ ↔ _ ∨ x ∈ [who d]
          rw [List.mem_singleton]
          exact Or.comm
    · rw [List.filter_cons_of_neg hS, dall_fs ds acc seen h, Dd.fs, if_neg fun z => hS z.1]
theorem fs_len {S : Int → Bool} : ∀ (xs seen : List Int), (Dd.fs who S seen xs).length ≤ xs.length
  | [], _ => Nat.le_refl _
  | d :: ds, seen => by
    unfold Dd.fs
    split
    · exact Nat.succ_le_succ (fs_len ds _)
    · exact Nat.le_succ_of_le (fs_len ds _)
theorem dall_len : ∀ (xs : List Int) (acc : List (Int × Int)), (dall who acc xs).length ≤ acc.length + xs.length
  | [], acc => Nat.le_refl _
  | c :: xs, acc => by
    have h1 := dall_len xs (PuU.dsetd acc (who c) c)
    have h2 : (PuU.dsetd acc (who c) c).length ≤ acc.length + 1 := by
      by_cases h : who c ∈ acc.map Prod.fst
      · rw [dsetd_some h]; omega
      · rw [dsetd_none h, List.length_append]; exact Nat.le_refl _
    show (dall who (PuU.dsetd acc (who c) c) xs).length ≤ acc.length + (xs.length + 1)
    omega
def chosen (who : Int → Int) (Os : List (List Int)) (qs made : List Int) (r : Int) : List Int := (Dd.fs who (fun c => decide (c ∈ made)) [] (fnL Os r)).take (wv qs r).toNat
theorem olen (M : Mar who rm cs Ls Os qs) (r : Int) : (fnL Os r).length ≤ cs.length := by
  by_cases h : ∃ c, c ∈ fnL Os r
  · obtain ⟨c, hc⟩ := h
    obtain ⟨r0, r1⟩ := fnL_in hc
    exact short (M.ond _ (at_L r0 r1).2) fun x hx => ⟨(M.os r x hx).1, (M.os r x hx).2.1⟩
  · have : fnL Os r = [] := List.eq_nil_iff_forall_not_mem.mpr fun c hc => h ⟨c, hc⟩
    rw [this]; exact Nat.zero_le _
theorem choose_ok (M : Mar who rm cs Ls Os qs) {made : List Int} {r : Int} (r0 : 0 ≤ r) (r1 : r < (Os.length : Int)) (hq : 0 ≤ wv qs r) : m_Deals_choose (mkD cs Ls Os qs) r made = .ok (chosen who Os qs made r) := by
  unfold m_Deals_choose
  have e1 : L2.atI (mkD cs Ls Os qs).2.2.1 r = some (mkW (fnL Os r)) := at_W r0 r1
  rw [e1, opt_some]
  have hl := olen M r
  have hcl := M.cs_len
  rw [show ((mkD cs Ls Os qs).1.length : Int) = (cs.length : Int) from rfl, best_of_ok (by omega), bind_ok]
  have go : ∀ (xs : List Int) (acc : List (Int × Int)) (nx : A_Deals × Int × (List Int) × (List (Int × Int)) × Unit × Unit → Pu.Res (List Int)), (∀ c, c ∈ xs → 0 ≤ c ∧ c < (cs.length : Int)) → acc.length + xs.length ≤ 1000 →
      List.foldr (fun (x98 : Int) (k99 : A_Deals × Int × (List Int) × (List (Int × Int)) × Unit × Unit → Res _) (r100 : A_Deals × Int × (List Int) × (List (Int × Int)) × Unit × Unit) => opt (L2.atI r100.1.1 x98) fun x104 => opt (if (0 : Int) = 0 then some x104.1 else none) fun x105 => chk (decide (List.length (α := Int × Int) r100.2.2.2.1 < 16777216)) (k99 (r100.1, r100.2.1, r100.2.2.1, (PuU.dsetd (α := Int) r100.2.2.2.1 x105 x98), (), ()))) nx xs (mkD cs Ls Os qs, r, made, acc, (), ()) = nx (mkD cs Ls Os qs, r, made, dall who acc xs, (), ()) := by
    intro xs
    induction xs with
    | nil => intro acc nx _ _; rfl
    | cons c xs ih =>
      intro acc nx hx hz
      rw [List.foldr_cons]
      dsimp only
      obtain ⟨c0, c1⟩ := hx c List.mem_cons_self
      obtain ⟨t, ht⟩ := M.cs_ok c c0 c1
      rw [List.length_cons] at hz
      rw [show L2.atI (mkD cs Ls Os qs).1 c = some (who c, rm c, t) from ht, opt_some, if_pos rfl, opt_some, decide_eq_true (by omega), chk_true]
      refine (ih _ nx (fun d hd => hx d (List.mem_cons_of_mem _ hd)) ?_).trans rfl
      show (PuU.dsetd acc (who c) c).length + xs.length ≤ 1000
      have := dall_len (who := who) [c] acc
      have e : dall who acc [c] = PuU.dsetd acc (who c) c := rfl
      rw [e] at this
      simp only [List.length_cons, List.length_nil] at this
      omega
  have hfl : (List.filter (fun c => decide (c ∈ made)) (fnL Os r)).length ≤ (fnL Os r).length := List.length_filter_le _ _
  refine (go _ [] _ (fun c hc => ?_) ?_).trans ?_
  · have := M.os r c (List.mem_filter.mp hc).1
    exact ⟨this.1, this.2.1⟩
  · show 0 + _ ≤ 1000
    omega
  · dsimp only
    have hdl := dall_len (who := who) (List.filter (fun c => decide (c ∈ made)) (fnL Os r)) []
    have e2 : L2.atI (mkD cs Ls Os qs).2.2.2.1 r = some (wv qs r) := (wv_at (got := qs) r0 (by rw [M.q_len]; exact r1)).1
    rw [decide_eq_true (by simp only [List.length_nil] at hdl; omega), chk_true, e2, opt_some, cut_ok _ hq]
    have e3 := dall_fs (who := who) (S := fun c => decide (c ∈ made)) (fnL Os r) [] [] fun x => Iff.rfl
    show Pu.Res.ok (List.take _ ((dall who [] _).map Prod.snd)) = _
    rw [e3]
    rfl
def kept (who : Int → Int) (Os : List (List Int)) (qs made : List Int) : List Int := sortI ((rngL (Os.length : Int)).flatMap (chosen who Os qs made))
theorem chosen_len (M : Mar who rm cs Ls Os qs) (made : List Int) (r : Int) : (chosen who Os qs made r).length ≤ 1000 := by
  have h1 := fs_len (who := who) (S := fun c => decide (c ∈ made)) (fnL Os r) []
  have h2 := olen M r
  have h3 := M.cs_len
  unfold chosen
  rw [List.length_take]
  omega
theorem kept_ok (M : Mar who rm cs Ls Os qs) (hq : ∀ r, 0 ≤ wv qs r) (made : List Int) : m_Deals_kept_by (mkD cs Ls Os qs) made = .ok (kept who Os qs made) := by
  unfold m_Deals_kept_by
  have hos := M.os_len
  have e0 : ((mkD cs Ls Os qs).2.2.1.length : Int) = (Os.length : Int) := by
    show ((Os.map mkW).length : Int) = _
    rw [List.length_map]
  rw [e0, rng_ok (by omega) (by omega), opt_some]
  rw [comp_flat (g := chosen who Os qs made) (rngL (Os.length : Int)) (fun r hr => ?_), opt_some]
  · dsimp only
    have hlen : ((rngL (Os.length : Int)).flatMap (chosen who Os qs made)).length ≤ 16777216 := by
      rw [List.length_flatMap]
      have h := sum_le_mul (f := fun r => (chosen who Os qs made r).length) (c := 1000) (rngL (Os.length : Int)) fun x _ => chosen_len M made x
      rw [rngL_len] at h
      have e : (List.map (fun a => (chosen who Os qs made a).length) (rngL (Os.length : Int))).sum ≤ 1000 * (Os.length : Int).toNat := h
      omega
    rw [decide_eq_true hlen, chk_true]
    rfl
  · obtain ⟨r0, r1⟩ := rngL_mem.mp hr
    dsimp only
    rw [if_pos rfl, choose_ok M r0 r1 (hq r), bind_ok, comp_map (g := fun x : Int => x) _ (fun x _ => rfl), opt_some, List.map_id']
end
end G
set_option Elab.async false
set_option linter.all false
set_option maxRecDepth 100000
set_option maxHeartbeats 2000000
namespace G
open PySem L2 Evl Pu
section
variable {who rm : Int → Int} {cs : List C3} {Ls Os : List (List Int)} {qs : List Int}
def keptS (who : Int → Int) (Os : List (List Int)) (qs : List Int) (S : Int → Bool) : List Int := sortI ((rngL (Os.length : Int)).flatMap fun r => (Dd.fs who S [] (fnL Os r)).take (wv qs r).toNat)
abbrev seat (qs : List Int) : Int → Nat := fun r => (wv qs r).toNat
theorem kept_S {made : List Int} {S : Int → Bool} (h : ∀ c, c ∈ made ↔ S c = true) : kept who Os qs made = keptS who Os qs S := by
  have e : (fun c => decide (c ∈ made)) = S := by
    funext c
    cases hs : S c with
    | true => exact decide_eq_true ((h c).mpr hs)
    | false => exact decide_eq_false fun z => by rw [(h c).mp z] at hs; cases hs
  unfold kept keptS chosen
  rw [e]
theorem mem_keptS (M : Mar who rm cs Ls Os qs) {S : Int → Bool} {c : Int} : c ∈ keptS who Os qs S ↔ Dd.held who rm (fnL Os) (seat qs) S c := by
  unfold keptS
  rw [(sortI_perm _).mem_iff, List.mem_flatMap]
  constructor
  · rintro ⟨r, _, h⟩
    have := (M.os r c (Dd.fs_in who _ _ (List.mem_of_mem_take h)).1).2.2
    unfold Dd.held
    rw [this]
    exact h
  · intro h
    have := fnL_in (Dd.fs_in who _ _ (List.mem_of_mem_take h)).1
    exact ⟨rm c, rngL_mem.mpr this, h⟩
theorem held_valid (M : Mar who rm cs Ls Os qs) {S : Int → Bool} {c : Int} (h : c ∈ keptS who Os qs S) : 0 ≤ c ∧ c < (cs.length : Int) := by
  have := M.os _ c (Dd.fs_in who _ _ (List.mem_of_mem_take ((mem_keptS M).mp h))).1
  exact ⟨this.1, this.2.1⟩
theorem of_asker_ok {D : A_Deals} {a : Int} (hD : ∀ c, 0 ≤ c → c < (D.1.length : Int) → ∃ t, L2.atI D.1 c = some (who c, rm c, t)) {taken : List Int} (h : ∀ c, c ∈ taken → 0 ≤ c ∧ c < (D.1.length : Int)) : m_Deals_of_asker D taken a = .ok (taken.find? fun c => decide (who c = a)) := by
  unfold m_Deals_of_asker
  dsimp only
  have go : ∀ (xs : List Int), (∀ c, c ∈ xs → 0 ≤ c ∧ c < (D.1.length : Int)) → List.foldr (fun (x114 : Int) (k115 : A_Deals × (List Int) × Int × Unit × Unit → Res (Option Int)) (r116 : A_Deals × (List Int) × Int × Unit × Unit) => opt (L2.atI r116.1.1 x114) fun x119 => opt (if (0 : Int) = 0 then some x119.1 else none) fun x120 => if (decide (x120 = r116.2.2.1)) = true then .ok (some x114) else k115 (r116.1, r116.2.1, r116.2.2.1, (), ())) (fun r117 => .ok (none : (Option Int))) xs (D, taken, a, (), ()) = .ok (xs.find? fun c => decide (who c = a)) := by
    intro xs
    induction xs with
    | nil => intro _; rfl
    | cons c xs ih =>
      intro hx
      obtain ⟨c0, c1⟩ := hx c List.mem_cons_self
      obtain ⟨t, ht⟩ := hD c c0 c1
      rw [List.foldr_cons]
      dsimp only
      rw [ht, opt_some, if_pos rfl, opt_some, List.find?_cons]
      cases hd : decide (who c = a) with
      | true => rfl
      | false => exact ih fun d hd => hx d (List.mem_cons_of_mem _ hd)
  exact go taken h
/-- who may offer next -/
structure Next (Ls : List (List Int)) (who : Int → Int) (n : Int → Nat) (hd : List Int) (o : Option Int) : Prop where
  some_ : ∀ a, o = some a → 0 ≤ a ∧ a < (Ls.length : Int) ∧ n a < (fnL Ls a).length ∧ ∀ c, c ∈ hd → who c ≠ a
  none_ : o = none → ∀ a, 0 ≤ a → a < (Ls.length : Int) → n a < (fnL Ls a).length → ∃ c, c ∈ hd ∧ who c = a
theorem free_ok (M : Mar who rm cs Ls Os qs) (hq : ∀ r, 0 ≤ wv qs r) {made next : List Int} {n : Int → Nat} (hl : next.length = Ls.length) (hn : ∀ a, 0 ≤ a → a < (Ls.length : Int) → wv next a = (n a : Int)) :
    ∃ o, m_Deals_free_asker (mkD cs Ls Os qs) made next = .ok o ∧ Next Ls who n (kept who Os qs made) o := by
  unfold m_Deals_free_asker
  rw [kept_ok M hq, bind_ok]
  dsimp only
  have hv : ∀ c, c ∈ kept who Os qs made → 0 ≤ c ∧ c < (cs.length : Int) := fun c hc => by
    rw [kept_S (S := fun c => decide (c ∈ made)) fun c => (decide_eq_true_iff).symm] at hc
    exact held_valid M hc
  refine fold_q (Q := fun z => ∃ o, z = .ok o ∧ Next Ls who n (kept who Os qs made) o) (I := fun pre s => s = (mkD cs Ls Os qs, made, next, kept who Os qs made, (), (), ()) ∧ ∀ x, x ∈ pre → n x.1 < (fnL Ls x.1).length → ∃ c, c ∈ kept who Os qs made ∧ who c = x.1) ?_ ⟨rfl, fun x hx => nomatch hx⟩ ?_
  · intro pre x post e s hs k hk
    obtain ⟨rfl, hp⟩ := hs
    obtain ⟨i, w⟩ := x
    have hx : (i, w) ∈ enumL (Ls.map mkW) := by
      show (i, w) ∈ enumL (mkD cs Ls Os qs).2.1
      rw [e]; simp
    obtain ⟨i0, hw⟩ := enum_at.mp hx
    rw [List.getElem?_map] at hw
    cases hL : Ls[i.toNat]? with
    | none => rw [hL] at hw; cases hw
    | some l =>
      rw [hL] at hw
      cases hw
      have hi1 : i < (Ls.length : Int) := by
        have := (List.getElem?_eq_some_iff.mp hL).1
        omega
      have el := fnL_at i0 hL
      dsimp only
      rw [(wv_at (got := next) i0 (by omega)).1, opt_some, hn i i0 hi1]
      by_cases hlt : n i < l.length
      · rw [if_pos (decide_eq_true (show ((n i : Nat) : Int) < ((mkW l).1.length : Int) by show ((n i : Nat) : Int) < (l.length : Int); omega)), of_asker_ok (rm := rm) M.cs_ok hv, bind_ok]
        cases hf : (kept who Os qs made).find? fun c => decide (who c = i) with
        | none =>
          refine ⟨some i, rfl, fun a ha => ?_, fun h => nomatch h⟩
          cases ha
          refine ⟨i0, hi1, by rw [el]; exact hlt, fun c hc z => ?_⟩
          have := List.find?_eq_none.mp hf c hc
          exact this (decide_eq_true z)
        | some c =>
          refine hk _ ⟨rfl, fun x hx hx2 => ?_⟩
          rcases List.mem_append.mp hx with hx | hx
          · exact hp x hx hx2
          · rw [List.mem_singleton.mp hx]
            exact ⟨c, List.mem_of_find?_eq_some hf, of_decide_eq_true (p := who c = i) (List.find?_some (p := fun c => decide (who c = i)) hf)⟩
      · rw [if_neg (show ¬ decide (((n i : Nat) : Int) < ((mkW l).1.length : Int)) = true from fun z => hlt (by
          have z : ((n i : Nat) : Int) < (l.length : Int) := of_decide_eq_true z
          omega))]
        refine hk _ ⟨rfl, fun x hx hx2 => ?_⟩
        rcases List.mem_append.mp hx with hx | hx
        · exact hp x hx hx2
        · rw [List.mem_singleton.mp hx] at hx2
          exact absurd (by rw [el] at hx2; exact hx2) hlt
  · intro s hs
    obtain ⟨rfl, hp⟩ := hs
    refine ⟨none, rfl, ⟨fun a h => (by cases h), fun _ a a0 a1 ha => ?_⟩⟩
    have hw : (Ls.map mkW)[a.toNat]? = some (mkW (fnL Ls a)) := by
      rw [List.getElem?_map, List.getElem?_eq_getElem (by omega : a.toNat < Ls.length)]
      unfold fnL
      rw [if_pos a0, List.getD_eq_getElem?_getD, List.getElem?_eq_getElem (by omega : a.toNat < Ls.length)]; rfl
    exact hp (a, mkW (fnL Ls a)) (enum_at.mpr ⟨a0, hw⟩) ha
theorem as_match_ok {D : A_Deals} (hD : ∀ c, 0 ≤ c → c < (D.1.length : Int) → ∃ t, L2.atI D.1 c = some (who c, rm c, t)) (hl : D.2.1.length ≤ 1000) {taken : List Int} (h : ∀ c, c ∈ taken → 0 ≤ c ∧ c < (D.1.length : Int)) :
    m_as_match D taken = .ok ((rngL (D.2.1.length : Int)).map fun a => dget (dmerge [] (taken.map fun c => (who c, rm c))) a) := by
  unfold m_as_match
  rw [comp_map (g := fun c => (who c, rm c)) taken (fun c hc => ?_), opt_some]
  · dsimp only
    rw [rng_ok (by omega) (by omega), opt_some, comp_map (g := fun a => dget (dmerge [] (taken.map fun c => (who c, rm c))) a) _ (fun a _ => rfl), opt_some]
  · obtain ⟨c0, c1⟩ := h c hc
    obtain ⟨t, ht⟩ := hD c c0 c1
    dsimp only
    rw [ht, opt_some, if_pos rfl, opt_some, opt_some, if_pos rfl, opt_some]
end
end G
set_option Elab.async false
set_option linter.all false
set_option maxRecDepth 100000
set_option maxHeartbeats 2000000
namespace G
open PySem L2 Evl Pu
section
variable {who rm : Int → Int} {cs : List C3} {Ls Os : List (List Int)} {qs : List Int}
theorem own_ok (M : Mar who rm cs Ls Os qs) : Dd.Own who (Ls.length : Int) (fnL Ls) where
  own := fun a c h => (M.ls a c h).2.2
  out := fun a c h => fnL_in h
  nd := fun a => by
    by_cases h : 0 ≤ a ∧ a < (Ls.length : Int)
    · exact M.lnd _ (at_L h.1 h.2).2
    · have : fnL Ls a = [] := List.eq_nil_iff_forall_not_mem.mpr fun c hc => h (fnL_in hc)
      rw [this]; exact List.nodup_nil
abbrev WayM (who rm : Int → Int) (Ls Os : List (List Int)) (qs : List Int) (n : Int → Nat) : Prop := Dd.Way who rm (Ls.length : Int) (fnL Ls) (fnL Os) (seat qs) n
abbrev StopM (who rm : Int → Int) (Ls Os : List (List Int)) (qs : List Int) (n : Int → Nat) : Prop := Dd.Stop who rm (Ls.length : Int) (fnL Ls) (fnL Os) (seat qs) n
theorem held_kept (M : Mar who rm cs Ls Os qs) {made : List Int} {n : Int → Nat} (hm : ∀ c, c ∈ made ↔ Dd.Md who (fnL Ls) n c = true) {c : Int} : c ∈ kept who Os qs made ↔ Dd.held who rm (fnL Os) (seat qs) (Dd.Md who (fnL Ls) n) c := by
  rw [kept_S hm]; exact mem_keptS M
abbrev StO := A_Deals × (List Int) × (List Int) × Unit × (Option Int) × Unit
theorem loop_ok (M : Mar who rm cs Ls Os qs) (hq : ∀ r, 0 ≤ wv qs r) : ∀ (f : Nat) (made next : List Int) (n : Int → Nat) (o : Option Int), WayM who rm Ls Os qs n → (∀ c, c ∈ made ↔ Dd.Md who (fnL Ls) n c = true) → made.Nodup → next.length = Ls.length →
    (∀ a, 0 ≤ a → a < (Ls.length : Int) → wv next a = (n a : Int)) → Next Ls who n (kept who Os qs made) o → cs.length < made.length + f →
    ∃ n', whl (fun (k136 : StO → Res (List Int)) (r137 : StO) => if (r137.2.2.2.2.1.isSome) = true then opt r137.2.2.2.2.1 fun x141 => opt (L2.atI r137.1.2.1 x141) fun x142 => opt r137.2.2.2.2.1 fun x143 => opt (L2.atI r137.2.2.1 x143) fun x144 => opt (L2.atI x142.1 x144) fun x145 => chk (decide (List.length (α := Int) r137.2.1 < 16777216)) (opt r137.2.2.2.2.1 fun x146 => opt (L2.atI r137.2.2.1 x146) fun x147 => opt (setL r137.2.2.1 x146 (x147 + (1 : Int))) fun xs148 => (m_Deals_free_asker r137.1 (app1 r137.2.1 x145) xs148).bind fun x149 => k136 (r137.1, (app1 r137.2.1 x145), xs148, (), x149, ())) else (m_Deals_kept_by r137.1 r137.2.1).bind fun x140 => .ok x140) f (mkD cs Ls Os qs, made, next, (), o, ()) = .ok (keptS who Os qs (Dd.Md who (fnL Ls) n')) ∧ WayM who rm Ls Os qs n' ∧ StopM who rm Ls Os qs n' := by
  intro f
  have hcl := M.cs_len
  have valid : ∀ (n : Int → Nat) (made : List Int), (∀ c, c ∈ made ↔ Dd.Md who (fnL Ls) n c = true) → ∀ c, c ∈ made → 0 ≤ c ∧ c < (cs.length : Int) := fun n made hm c hc => by
    have := M.ls _ c (List.mem_of_mem_take ((Dd.md_iff who).mp ((hm c).mp hc)))
    exact ⟨this.1, this.2.1⟩
  induction f with
  | zero =>
    intro made next n o W hm nd _ _ _ hf
    have := short nd (valid n made hm)
    omega
  | succ f ih =>
    intro made next n o W hm nd hl hn ho hf
    have hlen := short nd (valid n made hm)
    unfold whl
    dsimp only
    cases o with
    | none =>
      rw [if_neg (by decide), kept_ok M hq, bind_ok]
      refine ⟨n, by rw [kept_S hm], W, fun a a0 a1 ha => ?_⟩
      obtain ⟨c, h1, h2⟩ := ho.none_ rfl a a0 a1 ha
      exact ⟨c, h2, (held_kept M hm).mp h1⟩
    | some a =>
      obtain ⟨a0, a1, ha, hfree⟩ := ho.some_ a rfl
      have e1 : L2.atI (mkD cs Ls Os qs).2.1 a = some (mkW (fnL Ls a)) := at_W a0 a1
      have e2 : L2.atI next a = some ((n a : Nat) : Int) := by rw [(wv_at (got := next) a0 (by omega)).1, hn a a0 a1]
      have e3 : L2.atI (mkW (fnL Ls a)).1 ((n a : Nat) : Int) = some ((fnL Ls a)[n a]) := by
        have h := (at_d (xs := fnL Ls a) (i := ((n a : Nat) : Int)) 0 (Int.natCast_nonneg _) (by omega)).1
        rw [Int.toNat_natCast, List.getD_eq_getElem?_getD, List.getElem?_eq_getElem ha] at h
        exact h
      rw [if_pos (show (some a).isSome = true from rfl), opt_some, e1, opt_some, opt_some, e2, opt_some, e3, opt_some, decide_eq_true (by omega), chk_true, opt_some, e2, opt_some, set_ok a0 (by omega), opt_some]
      have W' : WayM who rm Ls Os qs (fun b => if b = a then n a + 1 else n b) := Dd.way_step W (own_ok M) ha (fun c hc => hfree c ((held_kept M hm).mpr hc)) (if_pos rfl) (fun b hb => if_neg hb)
      have own := (own_ok M).own a _ (List.getElem_mem ha)
      have hnew : (fnL Ls a)[n a] ∉ made := fun z => by
        have h := (Dd.md_iff who).mp ((hm _).mp z)
        rw [own] at h
        obtain ⟨i, hi, e⟩ := List.mem_iff_getElem.mp h
        rw [List.getElem_take] at e
        have := (List.getElem_inj ((own_ok M).nd a)).mp e
        rw [List.length_take] at hi
        omega
      have hm' : ∀ c, c ∈ app1 made (fnL Ls a)[n a] ↔ Dd.Md who (fnL Ls) (fun b => if b = a then n a + 1 else n b) c = true := fun c => by
        show c ∈ made ++ [(fnL Ls a)[n a]] ↔ _
        rw [List.mem_append, List.mem_singleton, hm c, Dd.md_iff, Dd.md_iff]
        by_cases e : who c = a
        · rw [e, if_pos rfl, List.take_succ_eq_append_getElem ha, List.mem_append, List.mem_singleton]
        · rw [if_neg e]
          constructor
          · rintro (h | h)
            · exact h
            · exact absurd (by rw [h]; exact own) e
          · exact Or.inl
      have nd' : (app1 made (fnL Ls a)[n a]).Nodup := by
        show (made ++ [(fnL Ls a)[n a]]).Nodup
        rw [List.nodup_append]
        refine ⟨nd, by simp, fun x hx y hy e => ?_⟩
        rw [List.mem_singleton] at hy
        exact hnew (by rw [← hy, ← e]; exact hx)
      have hl' : (next.set a.toNat ((n a : Int) + 1)).length = Ls.length := by rw [List.length_set]; exact hl
      have hn' : ∀ b, 0 ≤ b → b < (Ls.length : Int) → wv (next.set a.toNat ((n a : Int) + 1)) b = (((if b = a then n a + 1 else n b) : Nat) : Int) := fun b b0 b1 => by
        unfold wv
        rw [getD_set (by omega : a.toNat < next.length)]
        by_cases e : b = a
        · subst e
          rw [if_pos rfl, if_pos rfl]; rfl
        · rw [if_neg (by omega), if_neg e]
          exact hn b b0 b1
      obtain ⟨o', e4, N'⟩ := free_ok M hq (made := app1 made (fnL Ls a)[n a]) (n := fun b => if b = a then n a + 1 else n b) hl' hn'
      rw [e4, bind_ok]
      refine ih _ _ _ o' W' hm' nd' hl' hn' N' ?_
      show _ < (made ++ [(fnL Ls a)[n a]]).length + f
      rw [List.length_append]
      show _ < made.length + 1 + f
      omega
theorem offers_ok (M : Mar who rm cs Ls Os qs) (hq : ∀ r, 0 ≤ wv qs r) : ∃ n, m_Deals_offers (mkD cs Ls Os qs) = .ok (keptS who Os qs (Dd.Md who (fnL Ls) n)) ∧ WayM who rm Ls Os qs n ∧ StopM who rm Ls Os qs n := by
  unfold m_Deals_offers
  rw [comp_map (g := fun _ : A_Wish => (0 : Int)) _ (fun x _ => rfl), opt_some]
  dsimp only
  have hl : ((mkD cs Ls Os qs).2.1.map fun _ : A_Wish => (0 : Int)).length = Ls.length := by
    rw [List.length_map]
    show (Ls.map mkW).length = _
    rw [List.length_map]
  have hz : ∀ a, 0 ≤ a → a < (Ls.length : Int) → wv ((mkD cs Ls Os qs).2.1.map fun _ : A_Wish => (0 : Int)) a = (((fun _ => 0 : Int → Nat) a : Nat) : Int) := fun a a0 a1 => by
    unfold wv
    rw [List.getD_eq_getElem?_getD, List.getElem?_map]
    cases ((mkD cs Ls Os qs).2.1)[a.toNat]? <;> rfl
  have hcl := M.cs_len
  have hm : ∀ c, c ∈ ([] : List Int) ↔ Dd.Md who (fnL Ls) (fun _ => 0) c = true := fun c => by
    rw [Dd.md_iff, List.take_zero]
  obtain ⟨o, e, N⟩ := free_ok M hq (made := []) (n := fun _ => 0) hl hz
  rw [e, bind_ok]
  exact loop_ok M hq 100000 [] _ (fun _ => 0) o Dd.way0 hm List.nodup_nil hl hz N (by simp only [List.length_nil]; omega)
end
end G
set_option Elab.async false
set_option linter.all false
set_option maxRecDepth 100000
set_option maxHeartbeats 2000000
namespace G
open PySem L2 Evl Pu
theorem comp_ix {α β S : Type} {body : α → S → Pu.Res (Option β × S)} {I : S → Prop} {P : α → β → Prop} : ∀ (xs : List α), (∀ x, x ∈ xs → ∀ s, I s → ∃ y s', body x s = .ok (some y, s') ∧ P x y ∧ I s') →
    ∀ (s : S), I s → ∃ ys s', compL body xs s = some (ys, s') ∧ ys.length = xs.length ∧ (∀ (i : Nat) x y, xs[i]? = some x → ys[i]? = some y → P x y) ∧ I s'
  | [], _, s, i => ⟨[], s, rfl, rfl, fun i x y h => by simp at h, i⟩
  | x :: xs, h, s, i => by
    obtain ⟨y, s1, e1, p1, i1⟩ := h x List.mem_cons_self s i
    obtain ⟨ys, s2, e2, l2, p2, i2⟩ := comp_ix xs (fun z hz => h z (List.mem_cons_of_mem _ hz)) s1 i1
    refine ⟨y :: ys, s2, ?_, by rw [List.length_cons, List.length_cons, l2], fun j x' y' hx hy => ?_, i2⟩
    · show (match body x s with
        | .ok (o, s1) => (match compL body xs s1 with
          | some (ys, s2) => some (o.toList ++ ys, s2)
          | none => none)
        | _ => none) = _
      rw [e1]
      show (match compL body xs s1 with
          | some (ys, s2) => some ((some y).toList ++ ys, s2)
          | none => none) = _
      rw [e2]
      rfl
    · cases j with
      | zero =>
        have hx := Option.some.inj hx
        have hy := Option.some.inj hy
        rw [← hx, ← hy]; exact p1
      | succ j => exact p2 j x' y' hx hy
theorem comp_ixq {α β S R : Type} {body : α → S → Pu.Res (Option β × S)} {I : S → Prop} {P : α → β → Prop} {K : List β × S → Pu.Res R} (xs : List α) {s : S} (h0 : I s) (hb : ∀ x, x ∈ xs → ∀ s, I s → ∃ y s', body x s = .ok (some y, s') ∧ P x y ∧ I s') (Q : Pu.Res R → Prop)
    (hQ : ∀ ys s', ys.length = xs.length → (∀ (i : Nat) x y, xs[i]? = some x → ys[i]? = some y → P x y) → I s' → Q (K (ys, s'))) : Q (opt (compL body xs s) K) := by
  obtain ⟨ys, s', e, hl, hp, hi⟩ := comp_ix xs hb s h0
  rw [e, opt_some]
  exact hQ ys s' hl hp hi
theorem rngL_get {n : Int} {i : Nat} (h : i < n.toNat) : (rngL n)[i]? = some (i : Int) := by
  unfold rngL
  rw [List.getElem?_map, List.getElem?_eq_getElem (by rw [List.length_range]; exact h), List.getElem_range]
  rfl
abbrev StD := (List Int) × (List Int) × (List Int) × (List Int) × Unit × Unit
theorem drawn_ok (a b c : Int) {ones : List Int} (nd : ones.Nodup) (hz : ones.length ≤ 1000) : ∃ l a' b' c', m_law_drawn [a, b, c] ones = .ok (l, [a', b', c']) ∧ l.Nodup ∧ ∀ x, x ∈ l → x ∈ ones := by
  unfold m_law_drawn
  have go : ∀ (f : Nat) (a b c : Int) (left found : List Int), (found ++ left).Nodup → (∀ x, x ∈ found ++ left → x ∈ ones) → (found ++ left).length ≤ 1000 → left.length < f →
      ∃ l a' b' c', whl (fun (k46 : StD → Res (List Int × List Int)) (r47 : StD) => if (!decide (r47.2.2.1 = [])) = true then (m_law_roll r47.1 (r47.2.2.1.length : Int)).bind fun x50 => opt (L2.atI r47.2.2.1 x50.1) fun x51 => chk (List.contains (α := Int) r47.2.2.1 x51) (let k52 := fun (x53 : (List Int)) (r54 : (List Int) × (List Int) × (List Int) × (List Int) × Int × Unit) => opt (catL r47.2.2.2.1 x53) fun x55 => k46 (r54.1, r54.2.1, r54.2.2.1, x55, (), ()); (m_law_roll x50.2 (4 : Int)).bind fun x56 => if (decide ((0 : Int) < x56.1)) = true then k52 [x51] (x56.2, r47.2.1, (List.erase (α := Int) r47.2.2.1 x51), r47.2.2.2.1, x51, ()) else k52 [] (x56.2, r47.2.1, (List.erase (α := Int) r47.2.2.1 x51), r47.2.2.2.1, x51, ())) else .ok (r47.2.2.2.1, r47.1)) f ([a, b, c], ones, left, found, (), ()) = .ok (l, [a', b', c']) ∧ l.Nodup ∧ ∀ x, x ∈ l → x ∈ ones := by
    intro f
    induction f with
    | zero => intro a b c left found _ _ _ h; omega
    | succ f ih =>
      intro a b c left found hn hs hl hf
      unfold whl
      dsimp only
      by_cases e : left = []
      · subst e
        rw [if_neg (by simp)]
        rw [List.append_nil] at hn hs
        exact ⟨found, a, b, c, rfl, hn, hs⟩
      · have h0 : 0 < left.length := List.length_pos_iff.mpr e
        rw [List.length_append] at hl
        rw [if_pos (by rw [decide_eq_false e]; rfl)]
        obtain ⟨x, a', b', c', e1, x0, x1⟩ := roll_ok a b c (left.length : Int) (by omega) (by omega)
        rw [e1, bind_ok]
        obtain ⟨y, e2, hy⟩ := at_in x0 x1
        rw [e2, opt_some, show List.contains (α := Int) left y = true by simpa using hy, chk_true]
        obtain ⟨z, a2, b2, c2, e3, z0, z1⟩ := roll_ok a' b' c' 4 (by decide) (by decide)
        rw [e3, bind_ok]
        have hp : (found ++ [y] ++ left.erase y).Perm (found ++ left) := by
          rw [List.append_assoc]
          exact List.Perm.append_left _ (List.perm_cons_erase hy).symm
        have hle : (left.erase y).length < f := by rw [List.length_erase_of_mem hy]; omega
        by_cases hz : (0 : Int) < z
        · rw [if_pos (decide_eq_true hz), cat_ok (by show found.length + 1 ≤ 16777216; omega), opt_some]
          exact ih a2 b2 c2 (left.erase y) (found ++ [y]) (hp.nodup_iff.mpr hn) (fun w hw => hs w (hp.mem_iff.mp hw)) (by rw [hp.length_eq, List.length_append]; exact hl) hle
        · rw [if_neg (fun w => hz (of_decide_eq_true w)), cat_ok (by show found.length + 0 ≤ 16777216; omega), opt_some, List.append_nil]
          have hsub : (found ++ left.erase y).Sublist (found ++ left) := List.Sublist.append_left List.erase_sublist _
          exact ih a2 b2 c2 (left.erase y) found (hn.sublist hsub) (fun w hw => hs w (hsub.subset hw)) (by have := hsub.length_le; rw [List.length_append (as := found) (bs := left)] at this; omega) hle
  exact go 100000 a b c ones [] (by rw [List.nil_append]; exact nd) (fun x hx => by rw [List.nil_append] at hx; exact hx) (by rw [List.nil_append]; exact hz) (by omega)
theorem isIn_opt {x : Option Int} {xs : List Int} : isIn flOI.dec x (xs.map some) = decide (∃ y, x = some y ∧ y ∈ xs) := by
  unfold isIn
  by_cases h : ∃ y, x = some y ∧ y ∈ xs
  · rw [decide_eq_true h, List.any_eq_true]
    obtain ⟨y, rfl, hy⟩ := h
    exact ⟨some y, List.mem_map.mpr ⟨y, hy, rfl⟩, decide_eq_true rfl⟩
  · rw [decide_eq_false h, List.any_eq_false]
    intro y hy e
    obtain ⟨z, hz, rfl⟩ := List.mem_map.mp hy
    exact h ⟨z, (of_decide_eq_true e).symm ▸ rfl, hz⟩
theorem place_ok {l : List Int} {o : Option Int} (h : ∀ c, o = some c → c ∈ l) : m_law_place l o = .ok ((Dd.plc l o : Nat) : Int) := by
  unfold m_law_place
  dsimp only
  rw [isIn_opt]
  cases o with
  | none => rw [decide_eq_false (fun ⟨y, hy, _⟩ => nomatch hy)]; rfl
  | some c =>
    rw [decide_eq_true ⟨c, rfl, h c rfl⟩, if_pos rfl, opt_some, index_ok l c (h c rfl), opt_some]
    rfl
def conC (many wide : Int) : List C3 := (rngL many).flatMap fun k => (rngL wide).flatMap fun r => (rngL 2).map fun t => (k, r, t)
theorem con_len {many wide : Int} (m : many ≤ 3) (w : wide ≤ 2) : (conC many wide).length ≤ 12 := by
  unfold conC
  rw [List.length_flatMap]
  have h := sum_le_mul (f := fun k => ((rngL wide).flatMap fun r => (rngL 2).map fun t => ((k, r, t) : C3)).length) (c := 4) (rngL many) fun x _ => by
    show ((rngL wide).flatMap fun r => (rngL 2).map fun t => ((x, r, t) : C3)).length ≤ 4
    rw [List.length_flatMap]
    have h := sum_le_mul (f := fun r => ((rngL 2).map fun t => ((x, r, t) : C3)).length) (c := 2) (rngL wide) fun y _ => by
      show ((rngL 2).map fun t => ((x, y, t) : C3)).length ≤ 2
      rw [List.length_map, rngL_len]; decide
    rw [rngL_len] at h
    exact Nat.le_trans h (by omega)
  rw [rngL_len] at h
  exact Nat.le_trans h (by omega)
theorem con_mem {many wide : Int} {x : C3} (h : x ∈ conC many wide) : 0 ≤ x.1 ∧ x.1 < many ∧ 0 ≤ x.2.1 ∧ x.2.1 < wide := by
  obtain ⟨k, hk, h⟩ := List.mem_flatMap.mp h
  obtain ⟨r, hr, h⟩ := List.mem_flatMap.mp h
  obtain ⟨t, _, rfl⟩ := List.mem_map.mp h
  have h1 := rngL_mem.mp hk
  have h2 := rngL_mem.mp hr
  exact ⟨h1.1, h1.2, h2.1, h2.2⟩
def whoC (cs : List C3) (c : Int) : Int := (cs.getD c.toNat (0, 0, 0)).1
def rmC (cs : List C3) (c : Int) : Int := (cs.getD c.toNat (0, 0, 0)).2.1
theorem con_at (cs : List C3) {c : Int} (c0 : 0 ≤ c) (c1 : c < (cs.length : Int)) : ∃ t, L2.atI cs c = some (whoC cs c, rmC cs c, t) :=
  ⟨(cs.getD c.toNat (0, 0, 0)).2.2, (at_d (0, 0, 0) c0 c1).1⟩
theorem con_in (cs : List C3) {c : Int} (c0 : 0 ≤ c) (c1 : c < (cs.length : Int)) : ∃ t, (whoC cs c, rmC cs c, t) ∈ cs :=
  ⟨(cs.getD c.toNat (0, 0, 0)).2.2, (at_d (0, 0, 0) c0 c1).2⟩
end G
set_option Elab.async false
set_option linter.all false
set_option maxRecDepth 100000
set_option maxHeartbeats 2000000
namespace G
open PySem L2 Evl Pu
section
variable {R : Type} {Q : Pu.Res R → Prop} {ns : List Int} {rt : Bool → Pu.Res R}
theorem s0_q {nx : _ → Pu.Res R} (a b c : Int) (h : ∀ a b c many wide : Int, 1 ≤ many → many ≤ 3 → 1 ≤ wide → wide ≤ 2 → Q (nx (ns, [a, b, c], many, wide, (), (), (), (), (), (), (), (), (), (), (), (), (), (), (), ()))) : Q (m_law_s0 nx rt (ns, [a, b, c], (), (), (), (), (), (), (), (), (), (), (), (), (), (), (), (), (), ())) := by
  unfold m_law_s0
  dsimp only
  obtain ⟨x, a1, b1, c1, e1, x0, x1⟩ := roll_ok a b c 3 (by decide) (by decide)
  rw [e1, bind_ok]
  obtain ⟨y, a2, b2, c2, e2, y0, y1⟩ := roll_ok a1 b1 c1 2 (by decide) (by decide)
  rw [e2, bind_ok]
  exact h a2 b2 c2 (1 + x) (1 + y) (by omega) (by omega) (by omega) (by omega)
theorem s1_ok {nx : _ → Pu.Res R} {d : List Int} {many wide : Int} (h0 : 1 ≤ many) (h1 : many ≤ 3) (h2 : 1 ≤ wide) (h3 : wide ≤ 2) : m_law_s1 nx rt (ns, d, many, wide, (), (), (), (), (), (), (), (), (), (), (), (), (), (), (), ()) = nx (ns, d, many, wide, conC many wide, (), (), (), (), (), (), (), (), (), (), (), (), (), (), ()) := by
  have hm : many = 1 ∨ many = 2 ∨ many = 3 := by omega
  have hw : wide = 1 ∨ wide = 2 := by omega
  rcases hm with rfl | rfl | rfl <;> rcases hw with rfl | rfl <;> kernel_rfl
theorem s2_q {nx : _ → Pu.Res R} (a b c : Int) {many wide : Int} {cs : List C3} (hz : cs.length ≤ 1000) (n0 : 0 ≤ many) (n1 : many ≤ 1000)
    (h : ∀ (a b c : Int) (Ls : List (List Int)), Ls.length = many.toNat → (∀ i, (fnL Ls i).Nodup) → (∀ i x, x ∈ fnL Ls i → 0 ≤ x ∧ x < (cs.length : Int) ∧ whoC cs x = i) → Q (nx (ns, [a, b, c], many, wide, cs, (), (), (), Ls, (), (), (), (), (), (), (), (), (), (), ()))) : Q (m_law_s2 nx rt (ns, [a, b, c], many, wide, cs, (), (), (), (), (), (), (), (), (), (), (), (), (), (), ())) := by
  unfold m_law_s2
  dsimp only
  rw [rng_ok (by omega) (by omega), opt_some]
  refine comp_ixq (I := fun s => ∃ a b c : Int, s = (ns, [a, b, c], many, wide, cs, (), (), (), (), (), (), (), (), (), (), (), (), (), (), ())) (P := fun (k : Int) (l : List Int) => l.Nodup ∧ ∀ x, x ∈ l → 0 ≤ x ∧ x < (cs.length : Int) ∧ whoC cs x = k) (rngL many) ⟨a, b, c, rfl⟩ (fun k hk s hs => ?_) Q (fun ys s' hl hp hs => ?_)
  · obtain ⟨a, b, c, rfl⟩ := hs
    dsimp only
    rw [if_pos rfl, rng_ok (by omega) (by omega), opt_some, comp_filt (p := fun x => decide (whoC cs x = k)) (g := fun x => x) _ (fun x hx => by
      obtain ⟨x0, x1⟩ := rngL_mem.mp hx
      obtain ⟨t, ht⟩ := con_at cs x0 x1
      dsimp only
      rw [ht, opt_some, if_pos rfl, opt_some]
      by_cases e : whoC cs x = k
      · rw [if_pos (decide_eq_true e), if_pos (decide_eq_true e)]
      · rw [if_neg (fun z => e (of_decide_eq_true z)), if_neg (fun z => e (of_decide_eq_true z))]), opt_some]
    dsimp only
    rw [List.map_id']
    obtain ⟨l, a1, b1, c1, e1, nd, hin⟩ := drawn_ok a b c (ones := (rngL (cs.length : Int)).filter fun x => decide (whoC cs x = k)) ((rngL_nodup _).filter _) (by
      have := List.length_filter_le (fun x => decide (whoC cs x = k)) (rngL (cs.length : Int))
      rw [rngL_len] at this
      omega)
    rw [e1, bind_ok]
    refine ⟨l, _, rfl, ⟨nd, fun x hx => ?_⟩, a1, b1, c1, rfl⟩
    obtain ⟨z1, z2⟩ := List.mem_filter.mp (hin x hx)
    have z3 := rngL_mem.mp z1
    exact ⟨z3.1, z3.2, of_decide_eq_true z2⟩
  obtain ⟨a', b', c', rfl⟩ := hs
  dsimp only
  rw [rngL_len] at hl
  have key : ∀ i, fnL ys i = [] ∨ ((fnL ys i).Nodup ∧ ∀ x, x ∈ fnL ys i → 0 ≤ x ∧ x < (cs.length : Int) ∧ whoC cs x = i) := fun i => by
    by_cases hi : 0 ≤ i ∧ i < (ys.length : Int)
    · right
      have hg : ys[i.toNat]? = some (fnL ys i) := by
        unfold fnL
        rw [if_pos hi.1, List.getD_eq_getElem?_getD, List.getElem?_eq_getElem (by omega : i.toNat < ys.length)]; rfl
      have := hp i.toNat _ _ (rngL_get (by omega)) hg
      rw [Int.toNat_of_nonneg hi.1] at this
      exact this
    · left
      exact List.eq_nil_iff_forall_not_mem.mpr fun c hc => hi (fnL_in hc)
  refine h a' b' c' ys hl (fun i => ?_) (fun i x hx => ?_)
  · rcases key i with z | z
    · rw [z]; exact List.nodup_nil
    · exact z.1
  · rcases key i with z | z
    · rw [z] at hx; exact nomatch hx
    · exact z.2 x hx
theorem s3_q {nx : _ → Pu.Res R} (a b c : Int) {many wide : Int} {cs : List C3} {Ls : List (List Int)} (hz : cs.length ≤ 1000) (n0 : 0 ≤ wide) (n1 : wide ≤ 1000)
    (h : ∀ (a b c : Int) (Os : List (List Int)), Os.length = wide.toNat → (∀ i, (fnL Os i).Nodup) → (∀ i x, x ∈ fnL Os i → 0 ≤ x ∧ x < (cs.length : Int) ∧ rmC cs x = i) → Q (nx (ns, [a, b, c], many, wide, cs, (), (), (), Ls, (), Os, (), (), (), (), (), (), (), (), ()))) : Q (m_law_s3 nx rt (ns, [a, b, c], many, wide, cs, (), (), (), Ls, (), (), (), (), (), (), (), (), (), (), ())) := by
  unfold m_law_s3
  dsimp only
  rw [rng_ok (by omega) (by omega), opt_some]
  refine comp_ixq (I := fun s => ∃ a b c : Int, s = (ns, [a, b, c], many, wide, cs, (), (), (), Ls, (), (), (), (), (), (), (), (), (), (), ())) (P := fun (k : Int) (l : List Int) => l.Nodup ∧ ∀ x, x ∈ l → 0 ≤ x ∧ x < (cs.length : Int) ∧ rmC cs x = k) (rngL wide) ⟨a, b, c, rfl⟩ (fun k hk s hs => ?_) Q (fun ys s' hl hp hs => ?_)
  · obtain ⟨a, b, c, rfl⟩ := hs
    dsimp only
    rw [if_pos rfl, rng_ok (by omega) (by omega), opt_some, comp_filt (p := fun x => decide (rmC cs x = k)) (g := fun x => x) _ (fun x hx => by
      obtain ⟨x0, x1⟩ := rngL_mem.mp hx
      obtain ⟨t, ht⟩ := con_at cs x0 x1
      dsimp only
      rw [ht, opt_some, if_pos rfl, opt_some]
      by_cases e : rmC cs x = k
      · rw [if_pos (decide_eq_true e), if_pos (decide_eq_true e)]
      · rw [if_neg (fun z => e (of_decide_eq_true z)), if_neg (fun z => e (of_decide_eq_true z))]), opt_some]
    dsimp only
    rw [List.map_id']
    obtain ⟨l, a1, b1, c1, e1, nd, hin⟩ := drawn_ok a b c (ones := (rngL (cs.length : Int)).filter fun x => decide (rmC cs x = k)) ((rngL_nodup _).filter _) (by
      have := List.length_filter_le (fun x => decide (rmC cs x = k)) (rngL (cs.length : Int))
      rw [rngL_len] at this
      omega)
    rw [e1, bind_ok]
    refine ⟨l, _, rfl, ⟨nd, fun x hx => ?_⟩, a1, b1, c1, rfl⟩
    obtain ⟨z1, z2⟩ := List.mem_filter.mp (hin x hx)
    have z3 := rngL_mem.mp z1
    exact ⟨z3.1, z3.2, of_decide_eq_true z2⟩
  obtain ⟨a', b', c', rfl⟩ := hs
  dsimp only
  rw [rngL_len] at hl
  have key : ∀ i, fnL ys i = [] ∨ ((fnL ys i).Nodup ∧ ∀ x, x ∈ fnL ys i → 0 ≤ x ∧ x < (cs.length : Int) ∧ rmC cs x = i) := fun i => by
    by_cases hi : 0 ≤ i ∧ i < (ys.length : Int)
    · right
      have hg : ys[i.toNat]? = some (fnL ys i) := by
        unfold fnL
        rw [if_pos hi.1, List.getD_eq_getElem?_getD, List.getElem?_eq_getElem (by omega : i.toNat < ys.length)]; rfl
      have := hp i.toNat _ _ (rngL_get (by omega)) hg
      rw [Int.toNat_of_nonneg hi.1] at this
      exact this
    · left
      exact List.eq_nil_iff_forall_not_mem.mpr fun c hc => hi (fnL_in hc)
  refine h a' b' c' ys hl (fun i => ?_) (fun i x hx => ?_)
  · rcases key i with z | z
    · rw [z]; exact List.nodup_nil
    · exact z.1
  · rcases key i with z | z
    · rw [z] at hx; exact nomatch hx
    · exact z.2 x hx
theorem s4_q {nx : _ → Pu.Res R} (a b c : Int) {many wide : Int} {cs : List C3} {Ls Os : List (List Int)} (n0 : 0 ≤ wide) (n1 : wide ≤ 1000)
    (h : ∀ (a b c : Int) (qs : List Int), qs.length = wide.toNat → (∀ x, x ∈ qs → 0 ≤ x) → Q (nx (ns, [a, b, c], many, wide, cs, (), (), (), Ls, (), Os, qs, (), (), (), (), (), (), (), ()))) : Q (m_law_s4 nx rt (ns, [a, b, c], many, wide, cs, (), (), (), Ls, (), Os, (), (), (), (), (), (), (), (), ())) := by
  unfold m_law_s4
  dsimp only
  rw [rng_ok (by omega) (by omega), opt_some]
  refine comp_allq (I := fun s => ∃ a b c : Int, s = (ns, [a, b, c], many, wide, cs, (), (), (), Ls, (), Os, (), (), (), (), (), (), (), (), ())) (P := fun y : Int => 0 ≤ y) (rngL wide) ⟨a, b, c, rfl⟩ (fun k s hs => ?_) Q (fun ys s' hl hp hs => ?_)
  · obtain ⟨a, b, c, rfl⟩ := hs
    dsimp only
    obtain ⟨x, a1, b1, c1, e1, x0, x1⟩ := roll_ok a b c 3 (by decide) (by decide)
    rw [if_pos rfl, e1, bind_ok]
    exact ⟨x, _, rfl, x0, a1, b1, c1, rfl⟩
  obtain ⟨a', b', c', rfl⟩ := hs
  dsimp only
  rw [rngL_len] at hl
  exact h a' b' c' ys hl hp
end
end G
set_option Elab.async false
set_option linter.all false
set_option maxRecDepth 100000
set_option maxHeartbeats 2000000
namespace G
open PySem L2 Evl Pu
theorem dget_map {α : Type} {k j : Int} {v : α} : ∀ kvs : List (Int × α), dget (kvs.map fun q => if q.1 = k then (q.1, v) else q) j = if j = k then (if k ∈ kvs.map Prod.fst then some v else none) else dget kvs j
  | [] => by
    by_cases e : j = k
    · rw [if_pos e, if_neg (by simp)]; rfl
    · rw [if_neg e]; rfl
  | q :: r => by
    rw [List.map_cons]
    unfold dget
    rw [dget_map r]
    by_cases hq : q.1 = k
    · rw [if_pos hq]
      dsimp only
      by_cases e : j = k
      · rw [if_pos (by rw [hq, e]), if_pos e, if_pos (by rw [List.map_cons, hq]; exact List.mem_cons_self)]
      · rw [if_neg (fun z => e (by rw [← z, hq])), if_neg e, if_neg e, if_neg (fun z => e (by rw [← z, hq]))]
    · rw [if_neg hq]
      by_cases e : j = k
      · rw [if_neg (fun z => hq (by rw [z, e])), if_pos e, if_pos e]
        by_cases h : k ∈ r.map Prod.fst
        · rw [if_pos h, if_pos (by rw [List.map_cons]; exact List.mem_cons_of_mem _ h)]
        · rw [if_neg h, if_neg (by
            rw [List.map_cons]
            exact fun z => (List.mem_cons.mp z).elim (fun w => hq w.symm) h)]
      · rw [if_neg e, if_neg e]
theorem dget_put {α : Type} (kvs : List (Int × α)) (k : Int) (v : α) (j : Int) : dget (dput kvs k v) j = if j = k then some v else dget kvs j := by
  by_cases h : k ∈ kvs.map Prod.fst
  · have e : dput kvs k v = kvs.map fun q => if q.1 = k then (q.1, v) else q := by
      unfold dput
      obtain ⟨q, hq, e⟩ := List.mem_map.mp h
      exact if_pos (List.any_eq_true.mpr ⟨q, hq, decide_eq_true e⟩)
    rw [e, dget_map kvs, if_pos h]
  · rw [dput_new v h, dget_app h]
theorem dget_merge {who rm : Int → Int} {a : Int} : ∀ (xs : List Int) (acc : List (Int × Int)), (∀ c c', c ∈ xs → c' ∈ xs → who c = who c' → c = c') →
    dget (dmerge acc (xs.map fun c => (who c, rm c))) a = match xs.find? (fun c => decide (who c = a)) with
      | some c => some (rm c)
      | none => dget acc a
  | [], acc, _ => rfl
  | c :: xs, acc, h => by
    show dget (dmerge (dput acc (who c) (rm c)) (xs.map fun c => (who c, rm c))) a = _
    rw [dget_merge xs _ fun d d' hd hd' => h d d' (List.mem_cons_of_mem _ hd) (List.mem_cons_of_mem _ hd'), List.find?_cons]
    by_cases e : who c = a
    · rw [decide_eq_true e]
      dsimp only
      cases hf : xs.find? (fun c => decide (who c = a)) with
      | none =>
        dsimp only
        rw [dget_put, if_pos e.symm]
      | some c' =>
        dsimp only
        have h1 : who c' = a := of_decide_eq_true (p := who c' = a) (List.find?_some (p := fun c => decide (who c = a)) hf)
        rw [h c c' List.mem_cons_self (List.mem_cons_of_mem _ (List.mem_of_find?_eq_some hf)) (e.trans h1.symm)]
    · rw [decide_eq_false e]
      dsimp only
      cases xs.find? (fun c => decide (who c = a)) with
      | none =>
        dsimp only
        rw [dget_put, if_neg fun z => e z.symm]
      | some c' => rfl
theorem drop_ok {α : Type} (xs : List α) {n : Int} (h : 0 ≤ n) : cutL xs (some n) none = xs.drop n.toNat := by
  unfold cutL HT.sIx
  dsimp only
  rw [if_neg (by omega)]
  rw [List.take_of_length_le (by rw [List.length_drop]; omega)]
  by_cases hn : n.toNat ≤ xs.length
  · rw [Nat.min_eq_left hn]
  · rw [Nat.min_eq_right (by omega), List.drop_length, List.drop_of_length_le (by omega)]
section
variable {who rm : Int → Int} {cs : List C3} {Ls Os : List (List Int)} {qs : List Int}
def findW (who : Int → Int) (tk : List Int) (a : Int) : Option Int := tk.find? fun c => decide (who c = a)
abbrev tkn (who : Int → Int) (Ls Os : List (List Int)) (qs : List Int) (n : Int → Nat) : List Int := keptS who Os qs (Dd.Md who (fnL Ls) n)
theorem has_find (M : Mar who rm cs Ls Os qs) {n : Int → Nat} (a : Int) : Dd.Has (who := who) (rm := rm) (fnL Ls) (fnL Os) (seat qs) n a (findW who (tkn who Ls Os qs n) a) where
  some_ := fun c h => ⟨of_decide_eq_true (p := who c = a) (List.find?_some (p := fun c => decide (who c = a)) h), (mem_keptS M).mp (List.mem_of_find?_eq_some h)⟩
  none_ := fun h c hc e => List.find?_eq_none.mp h c ((mem_keptS M).mpr hc) (decide_eq_true e)
theorem one_each (M : Mar who rm cs Ls Os qs) {n : Int → Nat} (W : WayM who rm Ls Os qs n) {c c' : Int} (h : c ∈ tkn who Ls Os qs n) (h' : c' ∈ tkn who Ls Os qs n) (e : who c = who c') : c = c' := by
  have h1 := (W.last c ((mem_keptS M).mp h)).1
  have h2 := (W.last c' ((mem_keptS M).mp h')).1
  rw [e] at h1
  rw [h1] at h2
  exact Option.some.inj h2
theorem in_list (M : Mar who rm cs Ls Os qs) {n : Int → Nat} {a c : Int} (h : findW who (tkn who Ls Os qs n) a = some c) : c ∈ fnL Ls a := by
  obtain ⟨h1, h2⟩ := (has_find M (n := n) a).some_ c h
  have := (Dd.md_iff who).mp (Dd.held_S who rm h2)
  rw [h1] at this
  exact List.mem_of_mem_take this
theorem same_taken (M : Mar who rm cs Ls Os qs) {n m : Int → Nat} (W1 : WayM who rm Ls Os qs n) (S1 : StopM who rm Ls Os qs n) (W2 : WayM who rm Ls Os qs m) (S2 : StopM who rm Ls Os qs m) : tkn who Ls Os qs m = tkn who Ls Os qs n := by
  unfold tkn
  rw [Dd.same_end (own_ok M) W1 S1 W2 S2]
theorem sorted_taken {n : Int → Nat} : sortI (tkn who Ls Os qs n) = tkn who Ls Os qs n := sorted_eq (sortI_perm _) (sortI_pw _) (sortI_pw _)
/-- one contract more that nobody lists -/
theorem mar_more (M : Mar who rm cs Ls Os qs) (hz : cs.length ≤ 999) {x : C3} (h : who (cs.length : Int) = x.1 ∧ rm (cs.length : Int) = x.2.1) : Mar who rm (cs ++ [x]) Ls Os qs where
  cs_ok := fun c c0 c1 => by
    rw [List.length_append] at c1
    have c1 : c < (cs.length : Int) + 1 := c1
    by_cases hc : c < (cs.length : Int)
    · obtain ⟨t, ht⟩ := M.cs_ok c c0 hc
      refine ⟨t, ?_⟩
      rw [← ht, (at_d (xs := cs ++ [x]) (0, 0, 0) c0 (by rw [List.length_append]; show c < (cs.length : Int) + 1; exact c1)).1, (at_d (xs := cs) (0, 0, 0) c0 hc).1]
      rw [List.getD_eq_getElem?_getD, List.getD_eq_getElem?_getD, List.getElem?_append_left (by omega)]
    · have e : c = (cs.length : Int) := by omega
      subst e
      refine ⟨x.2.2, ?_⟩
      rw [(at_d (xs := cs ++ [x]) (0, 0, 0) c0 (by rw [List.length_append]; show ((cs.length : Nat) : Int) < (cs.length : Int) + 1; omega)).1, h.1, h.2, Int.toNat_natCast, List.getD_eq_getElem?_getD, List.getElem?_append_right (Nat.le_refl _), Nat.sub_self]
      rfl
  cs_len := by rw [List.length_append]; show cs.length + 1 ≤ 1000; omega
  ls_len := M.ls_len
  os_len := M.os_len
  ls := fun a c h => by
    have := M.ls a c h
    rw [List.length_append]
    exact ⟨this.1, by show c < (cs.length : Int) + 1; omega, this.2.2⟩
  os := fun a c h => by
    have := M.os a c h
    rw [List.length_append]
    exact ⟨this.1, by show c < (cs.length : Int) + 1; omega, this.2.2⟩
  lnd := M.lnd
  ond := M.ond
  q_len := M.q_len
theorem mar_q (M : Mar who rm cs Ls Os qs) {qs' : List Int} (h : qs'.length = Os.length) : Mar who rm cs Ls Os qs' := ⟨M.cs_ok, M.cs_len, M.ls_len, M.os_len, M.ls, M.os, M.lnd, M.ond, h⟩
theorem fnL_set {l : List Int} {k : Int} (k0 : 0 ≤ k) (k1 : k < (Ls.length : Int)) (a : Int) : fnL (Ls.set k.toNat l) a = if a = k then l else fnL Ls a := by
  unfold fnL
  by_cases a0 : 0 ≤ a
  · rw [if_pos a0, if_pos a0, getD_set (by omega : k.toNat < Ls.length)]
    by_cases e : a = k
    · rw [if_pos e, if_pos (by rw [e])]
    · rw [if_neg e, if_neg (by omega)]
  · rw [if_neg a0, if_neg a0, if_neg (by omega)]
theorem mar_cut (M : Mar who rm cs Ls Os qs) {k : Int} (k0 : 0 ≤ k) (k1 : k < (Ls.length : Int)) (j : Nat) : Mar who rm cs (Ls.set k.toNat ((fnL Ls k).take j)) Os qs where
  cs_ok := M.cs_ok
  cs_len := M.cs_len
  ls_len := by rw [List.length_set]; exact M.ls_len
  os_len := M.os_len
  ls := fun a c h => by
    rw [fnL_set k0 k1] at h
    by_cases e : a = k
    · rw [if_pos e] at h
      rw [e]; exact M.ls k c (List.mem_of_mem_take h)
    · rw [if_neg e] at h
      exact M.ls a c h
  os := M.os
  lnd := fun l hl => by
    rcases List.mem_or_eq_of_mem_set hl with h | h
    · exact M.lnd l h
    · rw [h]; exact (M.lnd _ (at_L k0 k1).2).sublist (List.take_sublist _ _)
  ond := M.ond
  q_len := M.q_len
theorem cut_taken (M : Mar who rm cs Ls Os qs) {n m : Int → Nat} (W1 : WayM who rm Ls Os qs n) (S1 : StopM who rm Ls Os qs n) {k c : Int} (k0 : 0 ≤ k) (k1 : k < (Ls.length : Int)) (hc : findW who (tkn who Ls Os qs n) k = some c)
    (W2 : WayM who rm (Ls.set k.toNat ((fnL Ls k).take ((fnL Ls k).idxOf c + 1))) Os qs m) (S2 : StopM who rm (Ls.set k.toNat ((fnL Ls k).take ((fnL Ls k).idxOf c + 1))) Os qs m) : tkn who (Ls.set k.toNat ((fnL Ls k).take ((fnL Ls k).idxOf c + 1))) Os qs m = tkn who Ls Os qs n := by
  obtain ⟨wc, hh⟩ := (has_find M (n := n) k).some_ c hc
  obtain ⟨h1, h2⟩ := Dd.has_at W1 wc hh
  have hi : (fnL Ls k).idxOf c = n k - 1 := Dd.idx_at ((own_ok M).nd k) h1
  have e1 : fnL (Ls.set k.toNat ((fnL Ls k).take ((fnL Ls k).idxOf c + 1))) k = (fnL Ls k).take (n k) := by
    rw [fnL_set k0 k1, if_pos rfl, hi, Nat.sub_add_cancel h2]
  have e2 : ∀ b, b ≠ k → fnL (Ls.set k.toNat ((fnL Ls k).take ((fnL Ls k).idxOf c + 1))) b = fnL Ls b := fun b hb => by rw [fnL_set k0 k1, if_neg hb]
  have W2' : Dd.Way who rm (Ls.length : Int) (fnL (Ls.set k.toNat ((fnL Ls k).take ((fnL Ls k).idxOf c + 1)))) (fnL Os) (seat qs) m := by
    have := W2
    unfold WayM at this
    rw [List.length_set] at this
    exact this
  have S2' : Dd.Stop who rm (Ls.length : Int) (fnL (Ls.set k.toNat ((fnL Ls k).take ((fnL Ls k).idxOf c + 1)))) (fnL Os) (seat qs) m := by
    have := S2
    unfold StopM at this
    rw [List.length_set] at this
    exact this
  unfold tkn
  rw [Dd.cut_end (own_ok M) W1 S1 wc hh e1 e2 W2' S2']
theorem cut_set {k : Int} (k0 : 0 ≤ k) (k1 : k < (Ls.length : Int)) (l : List Int) : Ls.take k.toNat ++ [l] ++ Ls.drop (k + 1).toNat = Ls.set k.toNat l := by
  rw [List.set_eq_take_append_cons_drop, if_pos (by omega), List.append_assoc, show (k + 1).toNat = k.toNat + 1 by omega]
  rfl
end
end G
set_option Elab.async false
set_option linter.all false
set_option maxRecDepth 100000
set_option maxHeartbeats 2000000
namespace G
open PySem L2 Evl Pu
theorem at_map_rng {α : Type} {N a : Int} (g : Int → α) (a0 : 0 ≤ a) (a1 : a < N) : L2.atI ((rngL N).map g) a = some (g a) := by
  have h : ((rngL N).map g)[a.toNat]? = some (g a) := by rw [List.getElem?_map, rngL_get (by omega), Int.toNat_of_nonneg a0]; rfl
  have := (at_d (xs := (rngL N).map g) (g a) a0 (by rw [List.length_map, rngL_len]; omega)).1
  rw [this, List.getD_eq_getElem?_getD, h]; rfl
def more (qs : List Int) (room wide : Int) : List Int := (rngL wide).map fun r => wv qs r + (if (decide (r = room)) then (1 : Int) else 0)
theorem more_wv {qs : List Int} {room wide : Int} (h : (qs.length : Int) = wide) (r : Int) : wv qs r ≤ wv (more qs room wide) r := by
  unfold more
  by_cases hr : r.toNat < wide.toNat
  · have e : wv ((rngL wide).map fun r => wv qs r + (if (decide (r = room)) then (1 : Int) else 0)) r = wv qs (r.toNat : Int) + (if (decide ((r.toNat : Int) = room)) then (1 : Int) else 0) := by
      show List.getD _ _ _ = _
      rw [List.getD_eq_getElem?_getD, List.getElem?_map, rngL_get hr]; rfl
    rw [e]
    have e2 : wv qs (r.toNat : Int) = wv qs r := by unfold wv; rw [Int.toNat_natCast]
    rw [e2]
    by_cases hq : (r.toNat : Int) = room
    · rw [decide_eq_true hq]; show _ ≤ _ + 1; omega
    · rw [decide_eq_false hq]; show _ ≤ _ + 0; omega
  · have e : wv ((rngL wide).map fun r => wv qs r + (if (decide (r = room)) then (1 : Int) else 0)) r = 0 := by
      show List.getD _ _ _ = _
      rw [List.getD_eq_getElem?_getD, List.getElem?_eq_none (by rw [List.length_map, rngL_len]; omega)]; rfl
    rw [e]
    show List.getD _ _ _ ≤ _
    rw [List.getD_eq_getElem?_getD, List.getElem?_eq_none (by omega)]
    exact Int.le_refl _
section
variable {who rm : Int → Int} {cs : List C3} {Ls Os : List (List Int)} {qs qs2 : List Int} {many wide room k : Int} {d : List Int} {n m : Int → Nat} {R : Type} {Q : Pu.Res R → Prop} {ns : List Int} {rt : Bool → Pu.Res R}
theorem s5_ok {nx : _ → Pu.Res R} (M : Mar who rm cs Ls Os qs) : m_law_s5 nx rt (ns, d, many, wide, cs, (), (), (), Ls, (), Os, qs, (), (), (), (), (), (), (), ()) = nx (ns, d, many, wide, cs, (), (), (), Ls, (), Os, qs, mkD cs Ls Os qs, (), (), (), (), (), (), ()) := by
  unfold m_law_s5
  dsimp only
  rw [init_ok M, bind_ok]
theorem s6_q {nx : _ → Pu.Res R} (M : Mar who rm cs Ls Os qs) (hq : ∀ r, 0 ≤ wv qs r) (h : ∀ n, WayM who rm Ls Os qs n → StopM who rm Ls Os qs n → Q (nx (ns, d, many, wide, cs, (), (), (), Ls, (), Os, qs, mkD cs Ls Os qs, tkn who Ls Os qs n, (), (), (), (), (), ()))) : Q (m_law_s6 nx rt (ns, d, many, wide, cs, (), (), (), Ls, (), Os, qs, mkD cs Ls Os qs, (), (), (), (), (), (), ())) := by
  unfold m_law_s6
  dsimp only
  obtain ⟨n, e, W, S⟩ := offers_ok M hq
  rw [e, bind_ok]
  exact h n W S
theorem s7_ok {nx : _ → Pu.Res R} (M : Mar who rm cs Ls Os qs) (h0 : 0 ≤ many) (h1 : many ≤ 1000) : m_law_s7 nx rt (ns, d, many, wide, cs, (), (), (), Ls, (), Os, qs, mkD cs Ls Os qs, tkn who Ls Os qs n, (), (), (), (), (), ()) = nx (ns, d, many, wide, cs, (), (), (), Ls, (), Os, qs, mkD cs Ls Os qs, tkn who Ls Os qs n, (rngL many).map (findW who (tkn who Ls Os qs n)), (), (), (), (), ()) := by
  unfold m_law_s7
  dsimp only
  rw [rng_ok h0 (by omega), opt_some, comp_map (g := findW who (tkn who Ls Os qs n)) _ (fun a _ => by
    dsimp only
    rw [if_pos rfl, of_asker_ok (rm := rm) M.cs_ok (fun c hc => held_valid M hc), bind_ok]
    rfl), opt_some]
theorem s8_q {nx : _ → Pu.Res R} (a b c : Int) (h0 : 1 ≤ wide) (h1 : wide ≤ 1000) (h : ∀ a b c room : Int, 0 ≤ room → room < wide → Q (nx (ns, [a, b, c], many, wide, cs, (), room, (), Ls, (), Os, qs, mkD cs Ls Os qs, tkn who Ls Os qs n, (rngL many).map (findW who (tkn who Ls Os qs n)), (), (), (), (), ()))) : Q (m_law_s8 nx rt (ns, [a, b, c], many, wide, cs, (), (), (), Ls, (), Os, qs, mkD cs Ls Os qs, tkn who Ls Os qs n, (rngL many).map (findW who (tkn who Ls Os qs n)), (), (), (), (), ())) := by
  unfold m_law_s8
  dsimp only
  obtain ⟨x, a1, b1, c1, e1, x0, x1⟩ := roll_ok a b c wide (by omega) (by omega)
  rw [e1, bind_ok]
  exact h a1 b1 c1 x x0 x1
theorem s9_ok {nx : _ → Pu.Res R} (M : Mar who rm cs Ls Os qs) (M2 : Mar who rm cs Ls Os (more qs room wide)) (h0 : 0 ≤ wide) (h1 : wide ≤ 1000) (hl : (qs.length : Int) = wide) : m_law_s9 nx rt (ns, d, many, wide, cs, (), room, (), Ls, (), Os, qs, mkD cs Ls Os qs, tkn who Ls Os qs n, (rngL many).map (findW who (tkn who Ls Os qs n)), (), (), (), (), ()) = nx (ns, d, many, wide, cs, (), room, (), Ls, (), Os, qs, mkD cs Ls Os qs, tkn who Ls Os qs n, (rngL many).map (findW who (tkn who Ls Os qs n)), mkD cs Ls Os (more qs room wide), (), (), (), ()) := by
  unfold m_law_s9
  dsimp only
  rw [rng_ok h0 (by omega), opt_some, comp_map (g := fun r => wv qs r + (if (decide (r = room)) then (1 : Int) else 0)) _ (fun r hr => by
    obtain ⟨r0, r1⟩ := rngL_mem.mp hr
    dsimp only
    rw [if_pos rfl, (wv_at (got := qs) r0 (by omega)).1, opt_some]), opt_some]
  dsimp only
  rw [show (List.map (fun r => wv qs r + (if (decide (r = room)) then (1 : Int) else 0)) (rngL wide)) = more qs room wide from rfl, init_ok M2, bind_ok]
theorem s10_q {nx : _ → Pu.Res R} (M : Mar who rm cs Ls Os qs2) (hq : ∀ r, 0 ≤ wv qs2 r) (h : ∀ m, WayM who rm Ls Os qs2 m → StopM who rm Ls Os qs2 m → Q (nx (ns, d, many, wide, cs, (), room, (), Ls, (), Os, qs, mkD cs Ls Os qs, tkn who Ls Os qs n, (rngL many).map (findW who (tkn who Ls Os qs n)), mkD cs Ls Os qs2, tkn who Ls Os qs2 m, (), (), ()))) : Q (m_law_s10 nx rt (ns, d, many, wide, cs, (), room, (), Ls, (), Os, qs, mkD cs Ls Os qs, tkn who Ls Os qs n, (rngL many).map (findW who (tkn who Ls Os qs n)), mkD cs Ls Os qs2, (), (), (), ())) := by
  unfold m_law_s10
  dsimp only
  obtain ⟨n, e, W, S⟩ := offers_ok M hq
  rw [e, bind_ok]
  exact h n W S
theorem s11_ok {nx : _ → Pu.Res R} (M : Mar who rm cs Ls Os qs) (M2 : Mar who rm cs Ls Os qs2) (h0 : 0 ≤ many) (h1 : many ≤ 1000) (hl : (Ls.length : Int) = many) (hp : ∀ a, 0 ≤ a → a < many → Dd.plc (fnL Ls a) (findW who (tkn who Ls Os qs2 m) a) ≤ Dd.plc (fnL Ls a) (findW who (tkn who Ls Os qs n) a)) : m_law_s11 nx rt (ns, d, many, wide, cs, (), room, (), Ls, (), Os, qs, mkD cs Ls Os qs, tkn who Ls Os qs n, (rngL many).map (findW who (tkn who Ls Os qs n)), mkD cs Ls Os qs2, tkn who Ls Os qs2 m, (), (), ()) = nx (ns, d, many, wide, cs, (), room, (), Ls, (), Os, qs, mkD cs Ls Os qs, tkn who Ls Os qs n, (rngL many).map (findW who (tkn who Ls Os qs n)), mkD cs Ls Os qs2, tkn who Ls Os qs2 m, (), (), ()) := by
  unfold m_law_s11
  dsimp only
  rw [rng_ok h0 (by omega), opt_some, comp_filt (p := fun _ => false) (g := fun x : Int => x) _ (fun a ha => by
    obtain ⟨a0, a1⟩ := rngL_mem.mp ha
    dsimp only
    have hw := hp a a0 a1
    rw [(at_L a0 (by omega : a < (Ls.length : Int))).1, opt_some, of_asker_ok (rm := rm) M2.cs_ok (fun c hc => held_valid M2 hc), bind_ok]
    rw [show (List.find? (fun c => decide (who c = a)) (tkn who Ls Os qs2 m)) = findW who (tkn who Ls Os qs2 m) a from rfl, place_ok (fun c hc => in_list M2 hc), bind_ok, opt_some, at_map_rng (findW who (tkn who Ls Os qs n)) a0 a1, opt_some, place_ok (fun c hc => in_list M hc), bind_ok]
    rw [if_neg (fun z => by have z := of_decide_eq_true z; omega)]
    rfl), opt_some]
  dsimp only
  rw [if_neg (by simp)]
theorem s12_ok {nx : _ → Pu.Res R} (M : Mar who rm (cs ++ [((0 : Int), (0 : Int), (7 : Int))]) Ls Os qs) (hz : cs.length ≤ 1000) : m_law_s12 nx rt (ns, d, many, wide, cs, (), room, (), Ls, (), Os, qs, mkD cs Ls Os qs, tkn who Ls Os qs n, (rngL many).map (findW who (tkn who Ls Os qs n)), mkD cs Ls Os qs2, tkn who Ls Os qs2 m, (), (), ()) = nx (ns, d, many, wide, cs, (), room, (), Ls, (), Os, qs, mkD cs Ls Os qs, tkn who Ls Os qs n, (rngL many).map (findW who (tkn who Ls Os qs n)), mkD cs Ls Os qs2, tkn who Ls Os qs2 m, mkD (cs ++ [((0 : Int), (0 : Int), (7 : Int))]) Ls Os qs, (), ()) := by
  unfold m_law_s12
  dsimp only
  rw [cat_ok (by show cs.length + 1 ≤ 16777216; omega), opt_some, init_ok M, bind_ok]
theorem s13_ok {nx : _ → Pu.Res R} (M : Mar who rm cs Ls Os qs) (M3 : Mar who rm (cs ++ [((0 : Int), (0 : Int), (7 : Int))]) Ls Os qs) (hq : ∀ r, 0 ≤ wv qs r) (W : WayM who rm Ls Os qs n) (S : StopM who rm Ls Os qs n) : m_law_s13 nx rt (ns, d, many, wide, cs, (), room, (), Ls, (), Os, qs, mkD cs Ls Os qs, tkn who Ls Os qs n, (rngL many).map (findW who (tkn who Ls Os qs n)), mkD cs Ls Os qs2, tkn who Ls Os qs2 m, mkD (cs ++ [((0 : Int), (0 : Int), (7 : Int))]) Ls Os qs, (), ()) = nx (ns, d, many, wide, cs, (), room, (), Ls, (), Os, qs, mkD cs Ls Os qs, tkn who Ls Os qs n, (rngL many).map (findW who (tkn who Ls Os qs n)), mkD cs Ls Os qs2, tkn who Ls Os qs2 m, mkD (cs ++ [((0 : Int), (0 : Int), (7 : Int))]) Ls Os qs, (), ()) := by
  unfold m_law_s13
  dsimp only
  obtain ⟨n3, e, W3, S3⟩ := offers_ok M3 hq
  have ll : (mkD cs Ls Os qs).2.1.length ≤ 1000 := by
    show (Ls.map mkW).length ≤ 1000
    rw [List.length_map]; exact M.ls_len
  rw [e, bind_ok, show keptS who Os qs (Dd.Md who (fnL Ls) n3) = tkn who Ls Os qs n from same_taken M W S W3 S3, decide_eq_true rfl, if_neg (by decide), as_match_ok (D := mkD (cs ++ [((0 : Int), (0 : Int), (7 : Int))]) Ls Os qs) (rm := rm) M3.cs_ok ll (fun c hc => held_valid M3 hc), bind_ok, as_match_ok (D := mkD cs Ls Os qs) (rm := rm) M.cs_ok ll (fun c hc => held_valid M hc), bind_ok]
  rw [show (mkD (cs ++ [((0 : Int), (0 : Int), (7 : Int))]) Ls Os qs).2.1 = (mkD cs Ls Os qs).2.1 from rfl, decide_eq_true rfl]
  rfl
theorem s14_q {nx : _ → Pu.Res R} (a b c : Int) (h0 : 1 ≤ many) (h1 : many ≤ 1000) (h : ∀ a b c k : Int, 0 ≤ k → k < many → Q (nx (ns, [a, b, c], many, wide, cs, k, room, (), Ls, (), Os, qs, mkD cs Ls Os qs, tkn who Ls Os qs n, (rngL many).map (findW who (tkn who Ls Os qs n)), mkD cs Ls Os qs2, tkn who Ls Os qs2 m, mkD (cs ++ [((0 : Int), (0 : Int), (7 : Int))]) Ls Os qs, (), ()))) : Q (m_law_s14 nx rt (ns, [a, b, c], many, wide, cs, (), room, (), Ls, (), Os, qs, mkD cs Ls Os qs, tkn who Ls Os qs n, (rngL many).map (findW who (tkn who Ls Os qs n)), mkD cs Ls Os qs2, tkn who Ls Os qs2 m, mkD (cs ++ [((0 : Int), (0 : Int), (7 : Int))]) Ls Os qs, (), ())) := by
  unfold m_law_s14
  dsimp only
  obtain ⟨x, a1, b1, c1, e1, x0, x1⟩ := roll_ok a b c many (by omega) (by omega)
  rw [e1, bind_ok]
  exact h a1 b1 c1 x x0 x1
theorem s15_ok {nx : _ → Pu.Res R} (M : Mar who rm cs Ls Os qs) (hq : ∀ r, 0 ≤ wv qs r) (W : WayM who rm Ls Os qs n) (S : StopM who rm Ls Os qs n) (k0 : 0 ≤ k) (k1 : k < many) (hl : (Ls.length : Int) = many) : m_law_s15 nx rt (ns, d, many, wide, cs, k, room, (), Ls, (), Os, qs, mkD cs Ls Os qs, tkn who Ls Os qs n, (rngL many).map (findW who (tkn who Ls Os qs n)), mkD cs Ls Os qs2, tkn who Ls Os qs2 m, mkD (cs ++ [((0 : Int), (0 : Int), (7 : Int))]) Ls Os qs, (), ()) = nx (ns, d, many, wide, cs, k, room, (), Ls, (), Os, qs, mkD cs Ls Os qs, tkn who Ls Os qs n, (rngL many).map (findW who (tkn who Ls Os qs n)), mkD cs Ls Os qs2, tkn who Ls Os qs2 m, mkD (cs ++ [((0 : Int), (0 : Int), (7 : Int))]) Ls Os qs, (), ()) := by
  unfold m_law_s15
  dsimp only
  rw [at_map_rng (findW who (tkn who Ls Os qs n)) k0 k1, opt_some]
  cases hf : findW who (tkn who Ls Os qs n) k with
  | none => rfl
  | some c =>
    have hk : k < (Ls.length : Int) := by omega
    have hll := M.ls_len
    have hin := in_list M hf
    have hlt : (Ls.take k.toNat).length ≤ 1000 := by rw [List.length_take]; omega
    have hld : (Ls.drop (k + 1).toNat).length ≤ 1000 := by rw [List.length_drop]; omega
    rw [if_pos (show (some c).isSome = true from rfl), (at_L k0 hk).1, opt_some, opt_some, opt_some, opt_some, index_ok _ c hin, opt_some, cut_ok _ k0, cut_ok _ (by omega), drop_ok _ (by omega), cat_ok (by simp only [List.length_cons, List.length_nil]; omega), opt_some, cat_ok (by rw [List.length_append]; simp only [List.length_cons, List.length_nil]; omega), opt_some]
    rw [show (((List.idxOf c (fnL Ls k) : Nat) : Int) + 1).toNat = (fnL Ls k).idxOf c + 1 by omega, cut_set k0 hk]
    have M4 := mar_cut M k0 hk ((fnL Ls k).idxOf c + 1)
    obtain ⟨m, e, W4, S4⟩ := offers_ok M4 hq
    rw [init_ok M4, bind_ok, e, bind_ok]
    rw [show keptS who Os qs (Dd.Md who (fnL (Ls.set k.toNat ((fnL Ls k).take ((fnL Ls k).idxOf c + 1)))) m) = tkn who Ls Os qs n from cut_taken M W S k0 hk hf W4 S4, decide_eq_true rfl, if_neg (by decide)]
theorem s16_ok {nx : _ → Pu.Res R} (M : Mar who rm cs Ls Os qs) (W : WayM who rm Ls Os qs n) (hl : (Ls.length : Int) = many) : m_law_s16 nx rt (ns, d, many, wide, cs, k, room, (), Ls, (), Os, qs, mkD cs Ls Os qs, tkn who Ls Os qs n, (rngL many).map (findW who (tkn who Ls Os qs n)), mkD cs Ls Os qs2, tkn who Ls Os qs2 m, mkD (cs ++ [((0 : Int), (0 : Int), (7 : Int))]) Ls Os qs, (), ()) = nx (ns, d, many, wide, cs, k, room, (), Ls, (), Os, qs, mkD cs Ls Os qs, tkn who Ls Os qs n, (rngL many).map (findW who (tkn who Ls Os qs n)), mkD cs Ls Os qs2, tkn who Ls Os qs2 m, mkD (cs ++ [((0 : Int), (0 : Int), (7 : Int))]) Ls Os qs, (), ()) := by
  unfold m_law_s16
  dsimp only
  have ll : (mkD cs Ls Os qs).2.1.length ≤ 1000 := by
    show (Ls.map mkW).length ≤ 1000
    rw [List.length_map]; exact M.ls_len
  have l2 : ((mkD cs Ls Os qs).2.1.length : Int) = many := by
    show ((Ls.map mkW).length : Int) = many
    rw [List.length_map]; exact hl
  rw [as_match_ok (rm := rm) M.cs_ok ll (fun c hc => held_valid M hc), bind_ok, l2]
  have hv : ∀ a c, findW who (tkn who Ls Os qs n) a = some c → 0 ≤ c ∧ c < (cs.length : Int) := fun a c h => held_valid M (List.mem_of_find?_eq_some h)
  rw [comp_map (g := fun o : Option Int => o.map rm) _ (fun o ho => by
    obtain ⟨a, _, rfl⟩ := List.mem_map.mp ho
    dsimp only
    rw [if_pos rfl]
    cases hf : findW who (tkn who Ls Os qs n) a with
    | none => rfl
    | some c =>
      obtain ⟨c0, c1⟩ := hv a c hf
      obtain ⟨t, ht⟩ := M.cs_ok c c0 c1
      rw [if_neg (show ¬ (some c).isNone = true from fun z => nomatch z), opt_some, ht, opt_some, if_pos rfl, opt_some]
      rfl), opt_some]
  dsimp only
  rw [List.map_map]
  have e : (rngL many).map (fun a => dget (dmerge [] ((tkn who Ls Os qs n).map fun c => (who c, rm c))) a) = (rngL many).map ((fun o : Option Int => o.map rm) ∘ findW who (tkn who Ls Os qs n)) := by
    refine List.map_congr_left fun a _ => ?_
    rw [dget_merge (who := who) (rm := rm) (a := a) (tkn who Ls Os qs n) [] fun c c' h h' e => one_each M W h h' e]
    show _ = Option.map rm (findW who (tkn who Ls Os qs n) a)
    unfold findW
    cases List.find? (fun c => decide (who c = a)) (tkn who Ls Os qs n) <;> rfl
  rw [e, decide_eq_true rfl, if_neg (by decide)]
theorem s17_ok {nx : _ → Pu.Res R} (M : Mar who rm cs Ls Os qs) (hw : ∀ c, 0 ≤ c → c < (cs.length : Int) → 0 ≤ who c ∧ who c < many) : m_law_s17 nx rt (ns, d, many, wide, cs, k, room, (), Ls, (), Os, qs, mkD cs Ls Os qs, tkn who Ls Os qs n, (rngL many).map (findW who (tkn who Ls Os qs n)), mkD cs Ls Os qs2, tkn who Ls Os qs2 m, mkD (cs ++ [((0 : Int), (0 : Int), (7 : Int))]) Ls Os qs, (), ()) = nx (ns, d, many, wide, cs, k, room, (), Ls, (), Os, qs, mkD cs Ls Os qs, tkn who Ls Os qs n, (rngL many).map (findW who (tkn who Ls Os qs n)), mkD cs Ls Os qs2, tkn who Ls Os qs2 m, mkD (cs ++ [((0 : Int), (0 : Int), (7 : Int))]) Ls Os qs, (), ()) := by
  unfold m_law_s17
  dsimp only
  rw [comp_filt (p := fun _ => false) (g := fun x : Int => x) _ (fun c hc => by
    obtain ⟨c0, c1⟩ := held_valid M hc
    obtain ⟨t, ht⟩ := M.cs_ok c c0 c1
    dsimp only
    rw [ht, opt_some, if_pos rfl, opt_some, decide_eq_true (hw c c0 c1)]
    rfl), opt_some]
  dsimp only
  rw [if_neg (by simp), sorted_taken, decide_eq_true rfl]
  rfl
end
end G
set_option Elab.async false
set_option linter.all false
set_option maxRecDepth 100000
set_option maxHeartbeats 2000000
namespace G
open PySem L2 Evl Pu
theorem wv_pos {qs : List Int} (h : ∀ x, x ∈ qs → 0 ≤ x) (r : Int) : 0 ≤ wv qs r := by
  unfold wv
  rw [List.getD_eq_getElem?_getD]
  cases e : qs[r.toNat]? with
  | none => exact Int.le_refl _
  | some x => exact h x (List.mem_of_getElem? e)
theorem law_yes (ns : List Int) : m_law ns = .ok true := by
  obtain ⟨a, b, c, e⟩ := rounds_ok ns
  unfold m_law
  dsimp only
  rw [e, bind_ok]
  refine s0_q (Q := fun z => z = .ok true) a b c fun a b c many wide m1 m3 w1 w2 => ?_
  refine (s1_ok m1 m3 w1 w2).trans ?_
  have hlen := con_len (many := many) (wide := wide) m3 w2
  have hcm : ∀ c, 0 ≤ c → c < ((conC many wide).length : Int) → 0 ≤ whoC (conC many wide) c ∧ whoC (conC many wide) c < many := fun c c0 c1 => by
    obtain ⟨t, ht⟩ := con_in (conC many wide) c0 c1
    have := con_mem ht
    exact ⟨this.1, this.2.1⟩
  generalize conC many wide = cs at hlen hcm ⊢
  refine s2_q (Q := fun z => z = .ok true) a b c (by omega) (by omega) (by omega) fun a b c Ls ll lnd lin => ?_
  refine s3_q (Q := fun z => z = .ok true) a b c (by omega) (by omega) (by omega) fun a b c Os ol ond oin => ?_
  refine s4_q (Q := fun z => z = .ok true) a b c (by omega) (by omega) fun a b c qs ql qp => ?_
  have hLs : (Ls.length : Int) = many := by omega
  have hOs : (Os.length : Int) = wide := by omega
  have lof : ∀ (xs : List (List Int)), (∀ i, (fnL xs i).Nodup) → ∀ l, l ∈ xs → l.Nodup := fun xs h l hl => by
    obtain ⟨i, hi, rfl⟩ := List.mem_iff_getElem.mp hl
    have := h (i : Int)
    rw [fnL_at (l := xs[i]) (Int.natCast_nonneg _) (by rw [Int.toNat_natCast, List.getElem?_eq_getElem hi])] at this
    exact this
  have M : Mar (whoC cs) (rmC cs) cs Ls Os qs := ⟨fun c c0 c1 => con_at cs c0 c1, by omega, by omega, by omega, fun a c h => lin a c h, fun a c h => oin a c h, lof Ls lnd, lof Os ond, by omega⟩
  have hq := wv_pos qp
  refine (s5_ok M).trans ?_
  refine s6_q (Q := fun z => z = .ok true) M hq fun n W S => ?_
  refine (s7_ok M (by omega) (by omega)).trans ?_
  refine s8_q (Q := fun z => z = .ok true) a b c w1 (by omega) fun a b c room r0 r1 => ?_
  have hql : (qs.length : Int) = wide := by omega
  have M2 : Mar (whoC cs) (rmC cs) cs Ls Os (more qs room wide) := mar_q M (by unfold more; rw [List.length_map, rngL_len]; omega)
  refine (s9_ok M M2 (by omega) (by omega) hql).trans ?_
  have hmw := more_wv (room := room) hql
  have hq2 : ∀ r, 0 ≤ wv (more qs room wide) r := fun r => Int.le_trans (hq r) (hmw r)
  refine s10_q (Q := fun z => z = .ok true) M2 hq2 fun m W2 S2 => ?_
  refine (s11_ok M M2 (by omega) (by omega) hLs fun a a0 a1 => ?_).trans ?_
  · exact Dd.no_worse (own_ok M) (fun r => by show (wv qs r).toNat ≤ (wv (more qs room wide) r).toNat; have := hmw r; omega) W S W2 S2 a0 (by omega) (has_find M a) (has_find M2 a)
  have M3 : Mar (whoC cs) (rmC cs) (cs ++ [((0 : Int), (0 : Int), (7 : Int))]) Ls Os qs := mar_more M (by omega) (by
    unfold whoC rmC
    rw [Int.toNat_natCast, List.getD_eq_getElem?_getD, List.getElem?_eq_none (Nat.le_refl _)]
    exact ⟨rfl, rfl⟩)
  refine (s12_ok M3 (by omega)).trans ?_
  refine (s13_ok M M3 hq W S).trans ?_
  refine s14_q (Q := fun z => z = .ok true) a b c m1 (by omega) fun a b c k k0 k1 => ?_
  refine (s15_ok M hq W S k0 k1 hLs).trans ?_
  refine (s16_ok M W hLs).trans ?_
  exact (s17_ok M hcm).trans rfl
end G
set_option Elab.async false
set_option linter.all false
set_option maxRecDepth 100000
set_option maxHeartbeats 0
namespace G
open PySem PySem.Spec PyProof.Rows L2 Evl Pu
/-- what is left: the mirror of the law -/
theorem law_true (ns : List Int) (hl : ns.length ≤ 63) : m_law ns = .ok true := law_yes ns
def loose : List PySem.Str := "_wall" :: "__name__" :: "MarketFault" :: "BadWish" :: "Wish" :: "Deals" :: "as_match" :: "_law_flat" :: "_law_dice" :: "_law_roll" :: "_law_rounds" :: "_law_place" :: "_law_drawn" :: []
abbrev R : PySem.W.OpenRow := PySem.W.OpenLaw.row PySem.Challenge.rw_pairmart_k49_contracts_with_more_room
abbrev hk : PySem.W.Hook := He.hookD 4 fa fn
def ob (s : PySem.W.SharedT) : He.AlD := He.obsDG 4 fa fn (HandSHeadRun.getT s)
theorem ob_eq (s : PySem.W.SharedT) : ob s = hk.obs s.abs := He.obsDG_eq (HandSHeadRun.getT_eq s)
theorem run (w : World) : HandSHeadRun.RunEq R (PySem.W.view R.prog [16]) hk ob 4000 loose w := by
  intro os
  kernel_rfl
theorem facts {w : World} {K : PySem.W.Frag} {h : Heap} {mg : PySem.Str → Option Value} {f : Addr} (X : K.In h) (G : h.Ns mainGlobals mg) (hfa : mg ("law" : PySem.Str) = some (.ref f)) (c : He.SaysD fa fn K) :
    ∃ fd : FuncData, (∀ (s : Shared) (v : Value), BindsTo s fd ⟨[v], []⟩ [("script", v)]) ∧ ∀ base : Heap, K.In base → base.Ns mainGlobals mg → FnOk (PySem.Challenge.rw_pairmart_k49_contracts_with_more_room).prog w K mg base (L2.CX (PySem.Challenge.rw_pairmart_k49_contracts_with_more_room).prog w) lawLevel f fd ["script"] (spD (xcK K) [dScr K] dBl (fun x => m_law x.1)) := by
  obtain ⟨fd, F⟩ := c.def_ lawDef rfl
  have e := hfa.symm.trans (He.glo_ok X G (c.fact lawFact (f := .glo "law") rfl))
  cases e
  have b := FunD.bindsA (ps := ["script"]) F fun _ _ _ _ _ _ us hl => match us, hl with | [_], _ => rfl
  exact ⟨fd, fun s v => b s [v] rfl, fun base _ _ => ok_law ⟨c, h, X, G⟩ F⟩
end G
open PySem PySem.W PySem.Calls PyProof.Rows
theorem PySem.Challenge.cw_pairmart_k49_contracts_with_more_room_holds : PySem.Challenge.rw_pairmart_k49_contracts_with_more_room.Holds := by
  w_on; o_law
  refine HandSHeadRun.head_any (r := OpenLaw.row PySem.Challenge.rw_pairmart_k49_contracts_with_more_room) (q := view (OpenLaw.row PySem.Challenge.rw_pairmart_k49_contracts_with_more_room).prog [16]) (H := G.hk) (ob := G.ob) (M := 4000) (loose := G.loose) (d := HandSHeadRun.topDef (OpenLaw.row PySem.Challenge.rw_pairmart_k49_contracts_with_more_room).prog 16) (kwd := []) G.ob_eq
    (by kernel_rfl) (fun s => by kernel_rfl) G.run (by kernel_rfl) (by kernel_rfl) (by kernel_rfl) (by rfl) (by first | assumption | decide +kernel) (by decide +kernel) ⟨rfl, rfl, rfl, rfl, rfl, by decide +kernel⟩ ?hw ?hc
  case hw => w_witness2
  case hc =>
    refine Pu.walk_end (l := PySem.Challenge.rw_pairmart_k49_contracts_with_more_room) (n := 63) (k := G.lawLevel) (x := "script") (CX := fun w => L2.CX (PySem.Challenge.rw_pairmart_k49_contracts_with_more_room).prog w) rfl (by decide) (by kernel_rfl) ⟨rfl, by decide, by decide⟩ ?F (fun w H s e s' h => Pu.cx_end w H s e s' h)
    intro w mg fa h Y Gm hmg0
    obtain ⟨K, KX, c⟩ := Y
    have hmg : mg ("law" : PySem.Str) = some (.ref fa) := by
      have e : (HandSHeadRun.topDef (OpenLaw.row PySem.Challenge.rw_pairmart_k49_contracts_with_more_room).prog 16).name = ("law" : PySem.Str) := by kernel_rfl
      rw [← e]
      exact hmg0
    obtain ⟨fd, hb, hF⟩ := G.facts (w := w) KX Gm hmg c
    exact ⟨K, fd, _, KX, hb, fun H a ns hl _ hS => Pu.law_sp hl hS (G.law_true ns hl), hF⟩
