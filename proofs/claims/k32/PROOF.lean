import PyProof.Rows.All
import Wide.All
import OpenK.AllK
import Wide.FinOn
import HandS.ForMost
import HandS.ForExc
import HandS.Evl
import HandS.Walk
import HandS.TupAny
import HandS.Conv
import HandS.SortInts
import HandS.SetFor
import HandS.DictComp
import HandS.NoneIn
import HandS.Wide
import HandS.Remove
import HandS.Defaults
import HandS.HeadHook1
import HandS.HeadHook2
import HandS.HeadEnd
import HandS.Head2
import KE.GoesMore
import KE.GoesEnum
import PyProof.EnumMake
import HandS.Strs
import PyProof.EqAt
import HandS.WordsDict
import HandS.Style
import HandS.Head0
import HandS.Head1
import HandS.Dict
import HandS.SortRule
import KE.DataMinMax
import HandS.TupLe
import HandS.Deep
import HandS.Lambda
import HandS.TryMany
import HandS.HeadHook4
import HandS.EndTab
import HandS.HeadHook3
import PySem.Challenge.RW_pairmart_k32_blocking_pairs_put_together
set_option Elab.async false
set_option linter.all false
set_option maxRecDepth 100000
set_option maxHeartbeats 4000000
/-! Pu: programs by data. Codes of data, slots, readings by what they give. -/
namespace Pu
open PySem L2 Evl

inductive Res (α : Type) where
  | ok (a : α) | exc (n : Str) | bad
def Res.bind {α β : Type} (r : Res α) (f : α → Res β) : Res β := match r with
  | .ok a => f a
  | .exc n => .exc n
  | .bad => .bad
def opt {α β : Type} (o : Option α) (f : α → Res β) : Res β := match o with
  | some a => f a
  | none => .bad
def chk {β : Type} (b : Bool) (r : Res β) : Res β := match b with
  | true => r
  | false => .bad

structure DCod where
  α : Type
  rel : Hp → V → α → Prop
  ext : ∀ {F F' : Hp} {v : V} {x : α}, rel F v x → Ex F F' → rel F' v x
structure Cod where
  α : Type
  rel : Hp → Hp → List Addr → V → α → Prop
  ext : ∀ {F F' H H' : Hp} {fp : List Addr} {v : V} {x : α}, rel F H fp v x → Ex F F' → (∀ a, a ∈ fp → H' a = H a) → rel F' H' fp v x

inductive Kd where
  | pa | lo | co
  deriving DecidableEq
inductive Sl where
  | no | da (c : DCod) | m (k : Kd) (c : Cod)
def Sl.α : Sl → Type
  | .no => Unit
  | .da c => c.α
  | .m _ c => c.α
def Env : List Sl → Type
  | [] => Unit
  | s :: Γ => s.α × Env Γ
abbrev Fps := List (Kd × Addr)
def tag (k : Kd) (fp : List Addr) : Fps := fp.map fun a => (k, a)
def SRel : (Γ : List Sl) → St → St → Hp → Hp → Fps → Env Γ → Prop
  | [], τ, σ, _, _, L, _ => σ = [] ∧ L = []
  | .no :: Γ, τ, σ, F, H, L, ρ => ∃ w σ', σ = w :: σ' ∧ SRel Γ τ.tail σ' F H L ρ.2
  | .da c :: Γ, τ, σ, F, H, L, ρ => ∃ v σ', σ = some v :: σ' ∧ c.rel F v ρ.1 ∧ SRel Γ τ.tail σ' F H L ρ.2
  | .m k c :: Γ, τ, σ, F, H, L, ρ => ∃ v σ' fp L', σ = some v :: σ' ∧ (k = .lo ∨ τ.head? = some (some v)) ∧ L = tag k fp ++ L' ∧ c.rel F H fp v ρ.1 ∧ SRel Γ τ.tail σ' F H L' ρ.2

structure Base where
  F : Hp
  H : Hp
  M : List Addr
  N : List Addr
  O : List Addr
  τ : St
structure Wd (B : Base) (F H : Hp) (L : Fps) : Prop where
  nd : (L.map (·.2)).Nodup
  fr : ∀ k a, (k, a) ∈ L → F a = none ∧ ∃ o, H a = some o
  fh : Ex F H
  bf : Ex B.F F
  keep : ∀ a o, B.H a = some o → a ∉ B.M → a ∉ B.N → H a = some o
  there : ∀ a o, B.H a = some o → ∃ o', H a = some o'
  new : ∀ a o, F a = some o → B.F a = some o ∨ B.H a = none
  own : ∀ a, (Kd.pa, a) ∈ L → a ∈ B.M ∨ B.H a = none
  loc : ∀ a, (Kd.lo, a) ∈ L → a ∈ B.N ∨ B.H a = none
  con : ∀ a, (Kd.co, a) ∈ L → a ∈ B.O ∨ B.H a = none
def SInv (B : Base) (Γ : List Sl) (σ : St) (F H : Hp) (ρ : Env Γ) : Prop := ∃ L, SRel Γ B.τ σ F H L ρ ∧ Wd B F H L

structure Pext (F F' H H' : Hp) : Prop where
  hh : Ex H H'
  ff : Ex F F'
  fh : Ex F' H'
  new : ∀ a o, F' a = some o → F a = some o ∨ H a = none
theorem Pext.refl {F H : Hp} (h : Ex F H) : Pext F F H H := ⟨Ex.refl H, Ex.refl F, h, fun _ _ e => .inl e⟩
theorem none_of {H H' : Hp} (e : Ex H H') {a : Addr} (h : H' a = none) : H a = none := fresh_back e h
theorem Pext.trans {F F1 F2 H H1 H2 : Hp} (a : Pext F F1 H H1) (b : Pext F1 F2 H1 H2) : Pext F F2 H H2 :=
  ⟨a.hh.trans b.hh, a.ff.trans b.ff, b.fh, fun x o e => by
    rcases b.new x o e with h | h
    · exact a.new x o h
    · exact .inr (none_of a.hh h)⟩
theorem ex_upd {F H : Hp} {p : Addr} {o : HO} (h : Ex F H) : Ex (upd F p o) (upd H p o) := fun a u e => by
  by_cases hb : a = p
  · subst hb
    rw [upd_same] at e ⊢
    exact e
  · rw [upd_ne hb] at e ⊢
    exact h a u e
theorem Pext.one {F H : Hp} {p : Addr} {o : HO} (h : Ex F H) (hp : H p = none) : Pext F (upd F p o) H (upd H p o) := by
  refine ⟨Ex.new hp, Ex.new (none_of h hp), ex_upd h, fun a u e => ?_⟩
  by_cases hb : a = p
  · subst hb
    exact .inr hp
  · rw [upd_ne hb] at e
    exact .inl e
theorem Pext.own {F H : Hp} {p : Addr} {o : HO} (h : Ex F H) (hp : H p = none) : Pext F F H (upd H p o) :=
  ⟨Ex.new hp, Ex.refl F, h.trans (Ex.new hp), fun _ _ e => .inl e⟩

theorem SRel.ext {F F' H H' : Hp} (eF : Ex F F') : ∀ {Γ : List Sl} {τ σ : St} {L : Fps} {ρ : Env Γ}, SRel Γ τ σ F H L ρ → (∀ k a, (k, a) ∈ L → H' a = H a) → SRel Γ τ σ F' H' L ρ
  | [], τ, σ, L, ρ, h, _ => h
  | .no :: Γ, τ, σ, L, ρ, ⟨w, σ', e, h⟩, k => ⟨w, σ', e, SRel.ext eF h k⟩
  | .da c :: Γ, τ, σ, L, ρ, ⟨v, σ', e, r, h⟩, k => ⟨v, σ', e, c.ext r eF, SRel.ext eF h k⟩
  | .m kd c :: Γ, τ, σ, L, ρ, ⟨v, σ', fp, L', e, e2, e3, r, h⟩, k => by
    subst e3
    exact ⟨v, σ', fp, L', e, e2, rfl, c.ext r eF fun a ha => k kd a (List.mem_append_left _ (List.mem_map.mpr ⟨a, ha, rfl⟩)), SRel.ext eF h fun k' a ha => k k' a (List.mem_append_right _ ha)⟩
theorem Wd.pext {B : Base} {F F' H H' : Hp} {L : Fps} (w : Wd B F H L) (p : Pext F F' H H') : Wd B F' H' L where
  nd := w.nd
  fr := fun k a ha => by
    obtain ⟨h1, o, h2⟩ := w.fr k a ha
    refine ⟨?_, o, p.hh a o h2⟩
    cases e : F' a with
    | none => rfl
    | some u =>
      rcases p.new a u e with q | q
      · rw [h1] at q; cases q
      · rw [h2] at q; cases q
  fh := p.fh
  bf := w.bf.trans p.ff
  keep := fun a o h hm hn => p.hh a o (w.keep a o h hm hn)
  there := fun a o h => let ⟨o', h'⟩ := w.there a o h; ⟨o', p.hh a o' h'⟩
  new := fun a o e => by
    rcases p.new a o e with q | q
    · exact w.new a o q
    · right
      cases e2 : B.H a with
      | none => rfl
      | some u =>
        obtain ⟨o', h'⟩ := w.there a u e2
        rw [q] at h'; cases h'
  own := w.own
  loc := w.loc
  con := w.con
theorem SInv.pext {B : Base} {Γ : List Sl} {σ : St} {F F' H H' : Hp} {ρ : Env Γ} (I : SInv B Γ σ F H ρ) (p : Pext F F' H H') : SInv B Γ σ F' H' ρ := by
  obtain ⟨L, r, w⟩ := I
  refine ⟨L, r.ext p.ff fun k a ha => ?_, w.pext p⟩
  obtain ⟨_, o, h2⟩ := w.fr k a ha
  rw [h2, p.hh a o h2]
theorem SInv.fh {B : Base} {Γ : List Sl} {σ : St} {F H : Hp} {ρ : Env Γ} (I : SInv B Γ σ F H ρ) : Ex F H := let ⟨_, _, w⟩ := I; w.fh
def Frm (B : Base) (H' : Hp) : Prop := ∀ a o, B.H a = some o → a ∉ B.M → a ∉ B.N → H' a = some o
theorem SInv.frm {B : Base} {Γ : List Sl} {σ : St} {F H : Hp} {ρ : Env Γ} (I : SInv B Γ σ F H ρ) : Frm B H := let ⟨_, _, w⟩ := I; w.keep
theorem Frm.ex {B : Base} {H H' : Hp} (f : Frm B H) (e : Ex H H') : Frm B H' := fun a o h hm hn => e a o (f a o h hm hn)

/-! ### places -/
inductive At : List Sl → Nat → Sl → Type 1 where
  | z {s : Sl} {Γ : List Sl} : At (s :: Γ) 0 s
  | s {s t : Sl} {Γ : List Sl} {i : Nat} (r : At Γ i s) : At (t :: Γ) (i + 1) s
def At.get : {Γ : List Sl} → {i : Nat} → {s : Sl} → At Γ i s → Env Γ → s.α
  | _, _, _, .z, ρ => ρ.1
  | _, _, _, .s r, ρ => r.get ρ.2
def At.put : {Γ : List Sl} → {i : Nat} → {s : Sl} → At Γ i s → Env Γ → s.α → Env Γ
  | _, _, _, .z, ρ, x => (x, ρ.2)
  | _, _, _, .s r, ρ, x => (ρ.1, r.put ρ.2 x)
inductive Up : List Sl → Nat → Sl → Sl → List Sl → Type 1 where
  | z {s t : Sl} {Γ : List Sl} : Up (s :: Γ) 0 s t (t :: Γ)
  | s {s t u : Sl} {Γ Γ' : List Sl} {i : Nat} (r : Up Γ i s t Γ') : Up (u :: Γ) (i + 1) s t (u :: Γ')
def Up.set : {Γ Γ' : List Sl} → {i : Nat} → {s t : Sl} → Up Γ i s t Γ' → Env Γ → t.α → Env Γ'
  | _, _, _, _, _, .z, ρ, x => (x, ρ.2)
  | _, _, _, _, _, .s r, ρ, x => (ρ.1, r.set ρ.2 x)
def Up.inv : {Γ Γ' : List Sl} → {i : Nat} → {s t : Sl} → Up Γ i s t Γ' → Up Γ' i t s Γ
  | _, _, _, _, _, .z => .z
  | _, _, _, _, _, .s r => .s r.inv
def Up.old : {Γ Γ' : List Sl} → {i : Nat} → {s t : Sl} → Up Γ i s t Γ' → Env Γ → s.α
  | _, _, _, _, _, .z, ρ => ρ.1
  | _, _, _, _, _, .s r, ρ => r.old ρ.2

theorem SRel.data {F H : Hp} {c : DCod} : ∀ {Γ : List Sl} {i : Nat} (at_ : At Γ i (.da c)) {τ σ : St} {L : Fps} {ρ : Env Γ}, SRel Γ τ σ F H L ρ → ∃ v, σ[i]? = some (some v) ∧ c.rel F v (at_.get ρ)
  | _, _, .z, τ, σ, L, ρ, ⟨v, σ', e, r, h⟩ => ⟨v, by rw [e]; rfl, r⟩
  | .no :: Γ, _, .s r, τ, σ, L, ρ, ⟨w, σ', e, h⟩ => by
    obtain ⟨v, h1, h2⟩ := SRel.data r h
    exact ⟨v, by rw [e]; simpa using h1, h2⟩
  | .da _ :: Γ, _, .s r, τ, σ, L, ρ, ⟨w, σ', e, _, h⟩ => by
    obtain ⟨v, h1, h2⟩ := SRel.data r h
    exact ⟨v, by rw [e]; simpa using h1, h2⟩
  | .m _ _ :: Γ, _, .s r, τ, σ, L, ρ, ⟨w, σ', _, _, e, _, _, _, h⟩ => by
    obtain ⟨v, h1, h2⟩ := SRel.data r h
    exact ⟨v, by rw [e]; simpa using h1, h2⟩
theorem SInv.data {B : Base} {Γ : List Sl} {σ : St} {F H : Hp} {ρ : Env Γ} {c : DCod} {i : Nat} (I : SInv B Γ σ F H ρ) (at_ : At Γ i (.da c)) : ∃ v, σ[i]? = some (some v) ∧ c.rel F v (at_.get ρ) :=
  let ⟨_, r, _⟩ := I; r.data at_
theorem SRel.mut {F H : Hp} {k : Kd} {c : Cod} : ∀ {Γ : List Sl} {i : Nat} (at_ : At Γ i (.m k c)) {τ σ : St} {L : Fps} {ρ : Env Γ}, SRel Γ τ σ F H L ρ → ∃ v fp L1 L2, σ[i]? = some (some v) ∧ (k = .lo ∨ τ[i]? = some (some v)) ∧ L = L1 ++ tag k fp ++ L2 ∧ c.rel F H fp v (at_.get ρ) ∧
    ∀ F' H' fp' x', Ex F F' → (∀ k a, (k, a) ∈ L1 ++ L2 → H' a = H a) → c.rel F' H' fp' v x' → SRel Γ τ σ F' H' (L1 ++ tag k fp' ++ L2) (at_.put ρ x')
  | _, _, .z, τ, σ, L, ρ, ⟨v, σ', fp, L', e, e2, e3, r, h⟩ => by
    refine ⟨v, fp, [], L', by rw [e]; rfl, ?_, e3, r, fun F' H' fp' x' eF kk r' => ⟨v, σ', fp', L', e, e2, rfl, r', h.ext eF kk⟩⟩
    rcases e2 with e2 | e2
    · exact .inl e2
    · right
      cases τ with
      | nil => cases e2
      | cons t τ => simpa using e2
  | .no :: Γ, _, .s r, τ, σ, L, ρ, ⟨w, σ', e, h⟩ => by
    obtain ⟨v, fp, L1, L2, h1, h2, h3, h4, h5⟩ := SRel.mut r h
    exact ⟨v, fp, L1, L2, by rw [e]; simpa using h1, by simpa using h2, h3, h4, fun F' H' fp' x' eF kk r' => ⟨w, σ', e, h5 F' H' fp' x' eF kk r'⟩⟩
  | .da c' :: Γ, _, .s r, τ, σ, L, ρ, ⟨w, σ', e, hr, h⟩ => by
    obtain ⟨v, fp, L1, L2, h1, h2, h3, h4, h5⟩ := SRel.mut r h
    exact ⟨v, fp, L1, L2, by rw [e]; simpa using h1, by simpa using h2, h3, h4, fun F' H' fp' x' eF kk r' => ⟨w, σ', e, c'.ext hr eF, h5 F' H' fp' x' eF kk r'⟩⟩
  | .m k' c' :: Γ, _, .s r, τ, σ, L, ρ, ⟨w, σ', fp0, L', e, e2, e3, hr, h⟩ => by
    obtain ⟨v, fp, L1, L2, h1, h2, h3, h4, h5⟩ := SRel.mut r h
    refine ⟨v, fp, tag k' fp0 ++ L1, L2, by rw [e]; simpa using h1, by simpa using h2, by rw [e3, h3]; simp [List.append_assoc], h4, fun F' H' fp' x' eF kk r' => ⟨w, σ', fp0, L1 ++ tag k fp' ++ L2, e, e2, by simp [List.append_assoc], c'.ext hr eF fun a ha => kk k' a ?_, h5 F' H' fp' x' eF (fun q a ha => kk q a ?_) r'⟩⟩
    · simp only [List.append_assoc]
      exact List.mem_append_left _ (List.mem_map.mpr ⟨a, ha, rfl⟩)
    · simp only [List.append_assoc]
      exact List.mem_append_right _ ha
structure Step (F H : Hp) (fp : List Addr) (F' H' : Hp) (fp' : List Addr) : Prop where
  ff : Ex F F'
  fh : Ex F' H'
  keep : ∀ a o, H a = some o → a ∉ fp → H' a = some o
  there : ∀ a o, H a = some o → ∃ o', H' a = some o'
  new : ∀ a o, F' a = some o → F a = some o ∨ H a = none
  nd : fp'.Nodup
  own : ∀ a, a ∈ fp' → (a ∈ fp ∨ H a = none) ∧ F' a = none ∧ ∃ o, H' a = some o
theorem mem_tag {k k' : Kd} {fp : List Addr} {a : Addr} : (k', a) ∈ tag k fp ↔ k' = k ∧ a ∈ fp := by
  unfold tag
  simp only [List.mem_map, Prod.mk.injEq]
  constructor
  · rintro ⟨b, h1, h2, h3⟩
    subst h3
    exact ⟨h2.symm, h1⟩
  · rintro ⟨h1, h2⟩
    exact ⟨a, h2, h1.symm, rfl⟩
theorem tag_map {k : Kd} {fp : List Addr} : (tag k fp).map (·.2) = fp := by
  unfold tag
  rw [List.map_map]
  have e : ((fun x : Kd × Addr => x.2) ∘ fun a => (k, a)) = id := rfl
  rw [e, List.map_id]
theorem SInv.mut {B : Base} {Γ : List Sl} {σ : St} {F H : Hp} {ρ : Env Γ} {k : Kd} {c : Cod} {i : Nat} (I : SInv B Γ σ F H ρ) (at_ : At Γ i (.m k c)) :
    ∃ v fp, σ[i]? = some (some v) ∧ (k = .lo ∨ B.τ[i]? = some (some v)) ∧ c.rel F H fp v (at_.get ρ) ∧ fp.Nodup ∧ (∀ a, a ∈ fp → F a = none ∧ (∃ o, H a = some o) ∧ (k = .pa → a ∈ B.M ∨ B.H a = none) ∧ (k = .lo → a ∈ B.N ∨ B.H a = none)) ∧
      (k ≠ .co → ∀ F' H' fp' x', Step F H fp F' H' fp' → c.rel F' H' fp' v x' → SInv B Γ σ F' H' (at_.put ρ x')) := by
  obtain ⟨L, r, w⟩ := I
  obtain ⟨v, fp, L1, L2, h1, h2, h3, h4, h5⟩ := r.mut at_
  subst h3
  have hin : ∀ a, a ∈ fp → (k, a) ∈ L1 ++ tag k fp ++ L2 := fun a ha => by
    simp only [List.mem_append]
    exact .inl (.inr (mem_tag.mpr ⟨rfl, ha⟩))
  have nd := w.nd
  rw [List.map_append, List.map_append, tag_map] at nd
  have nd1 := List.nodup_append.mp nd
  have nd2 := List.nodup_append.mp nd1.1
  refine ⟨v, fp, h1, h2, h4, nd2.2.1, fun a ha => ?_, fun hk F' H' fp' x' st r' => ?_⟩
  · obtain ⟨g1, g2⟩ := w.fr k a (hin a ha)
    refine ⟨g1, g2, fun hk => ?_, fun hk => ?_⟩
    · subst hk; exact w.own a (hin a ha)
    · subst hk; exact w.loc a (hin a ha)
  · have hrest : ∀ k' a, (k', a) ∈ L1 ++ L2 → ∃ o, H a = some o ∧ H' a = some o ∧ a ∉ fp := fun k' a ha => by
      have hm : (k', a) ∈ L1 ++ tag k fp ++ L2 := by
        simp only [List.mem_append] at ha ⊢
        rcases ha with ha | ha
        · exact .inl (.inl ha)
        · exact .inr ha
      obtain ⟨_, o, ho⟩ := w.fr k' a hm
      have hnot : a ∉ fp := fun hf => by
        simp only [List.mem_append] at ha
        rcases ha with ha | ha
        · exact nd2.2.2 a (List.mem_map.mpr ⟨_, ha, rfl⟩) a hf rfl
        · exact nd1.2.2 a (List.mem_append_right _ hf) a (List.mem_map.mpr ⟨_, ha, rfl⟩) rfl
      exact ⟨o, ho, st.keep a o ho hnot, hnot⟩
    refine ⟨L1 ++ tag k fp' ++ L2, h5 F' H' fp' x' st.ff (fun k' a ha => ?_) r', ?_⟩
    · obtain ⟨o, g1, g2, _⟩ := hrest k' a ha
      rw [g1, g2]
    · have cases_ : ∀ k' a, (k', a) ∈ L1 ++ tag k fp' ++ L2 → (k', a) ∈ L1 ++ L2 ∨ (k' = k ∧ a ∈ fp') := fun k' a ha => by
        simp only [List.mem_append] at ha ⊢
        rcases ha with (ha | ha) | ha
        · exact .inl (.inl ha)
        · exact .inr (mem_tag.mp ha)
        · exact .inl (.inr ha)
      have old : ∀ k' a, (k', a) ∈ L1 ++ L2 → (k', a) ∈ L1 ++ tag k fp ++ L2 := fun k' a ha => by
        simp only [List.mem_append] at ha ⊢
        rcases ha with ha | ha
        · exact .inl (.inl ha)
        · exact .inr ha
      refine ⟨?_, fun k' a ha => ?_, st.fh, w.bf.trans st.ff, fun a o h hm hn => ?_, fun a o h => ?_, fun a o e => ?_, fun a ha => ?_, fun a ha => ?_, fun a ha => ?_⟩
      · rw [List.map_append, List.map_append, tag_map]
        have dis : ∀ a, a ∈ fp' → ∀ k' , (k', a) ∈ L1 ++ L2 → False := fun a ha k' hm => by
          obtain ⟨o, g1, g2, g3⟩ := hrest k' a hm
          rcases (st.own a ha).1 with q | q
          · exact g3 q
          · rw [g1] at q; cases q
        refine List.nodup_append.mpr ⟨List.nodup_append.mpr ⟨nd2.1, st.nd, fun a ha b hb e => ?_⟩, nd1.2.1, fun a ha b hb e => ?_⟩
        · subst e
          obtain ⟨q, hq, e⟩ := List.mem_map.mp ha
          obtain ⟨k', a'⟩ := q
          have e : a' = a := e
          subst e
          exact dis a' hb k' (List.mem_append_left _ hq)
        · subst e
          obtain ⟨q, hq, e⟩ := List.mem_map.mp hb
          obtain ⟨k', a'⟩ := q
          have e : a' = a := e
          subst e
          rcases List.mem_append.mp ha with ha | ha
          · exact nd1.2.2 a' (List.mem_append_left _ ha) a' hb rfl
          · exact dis a' ha k' (List.mem_append_right _ hq)
      · rcases cases_ k' a ha with q | ⟨_, q⟩
        · obtain ⟨o, g1, g2, _⟩ := hrest k' a q
          refine ⟨?_, o, g2⟩
          have g0 := (w.fr k' a (old k' a q)).1
          cases e : F' a with
          | none => rfl
          | some u =>
            rcases st.new a u e with z | z
            · rw [g0] at z; cases z
            · rw [g1] at z; cases z
        · exact (st.own a q).2
      · by_cases hf : a ∈ fp
        · exfalso
          cases k with
          | pa =>
            rcases w.own a (hin a hf) with z | z
            · exact hm z
            · rw [h] at z; cases z
          | lo =>
            rcases w.loc a (hin a hf) with z | z
            · exact hn z
            · rw [h] at z; cases z
          | co => exact hk rfl
        · exact st.keep a o (w.keep a o h hm hn) hf
      · obtain ⟨o', h'⟩ := w.there a o h
        exact st.there a o' h'
      · rcases st.new a o e with q | q
        · exact w.new a o q
        · right
          cases e2 : B.H a with
          | none => rfl
          | some u =>
            obtain ⟨o', h'⟩ := w.there a u e2
            rw [q] at h'; cases h'
      · rcases cases_ _ a ha with q | ⟨e, q⟩
        · exact w.own a (old _ a q)
        · subst e
          rcases (st.own a q).1 with z | z
          · exact w.own a (hin a z)
          · right
            cases e2 : B.H a with
            | none => rfl
            | some u =>
              obtain ⟨o', h'⟩ := w.there a u e2
              rw [z] at h'; cases h'
      · rcases cases_ _ a ha with q | ⟨e, q⟩
        · exact w.loc a (old _ a q)
        · subst e
          rcases (st.own a q).1 with z | z
          · exact w.loc a (hin a z)
          · right
            cases e2 : B.H a with
            | none => rfl
            | some u =>
              obtain ⟨o', h'⟩ := w.there a u e2
              rw [z] at h'; cases h'
      · rcases cases_ _ a ha with q | ⟨e, q⟩
        · exact w.con a (old _ a q)
        · exact absurd e.symm hk
end Pu
set_option Elab.async false
set_option linter.all false
set_option maxRecDepth 100000
set_option maxHeartbeats 4000000
namespace Pu
open PySem L2 Evl

theorem SRel.setD {F H : Hp} {c : DCod} {v : V} {x : c.α} (r : c.rel F v x) : ∀ {Γ Γ' : List Sl} {i : Nat} {s : Sl} (u : Up Γ i s (.da c) Γ') {τ σ : St} {L : Fps} {ρ : Env Γ}, SRel Γ τ σ F H L ρ → ∃ L', SRel Γ' τ (σ.set i (some v)) F H L' (u.set ρ x) ∧ L'.Sublist L
  | .no :: Γ, _, _, _, .z, τ, σ, L, ρ, ⟨w, σ', e, h⟩ => ⟨L, ⟨v, σ', by rw [e]; rfl, r, h⟩, List.Sublist.refl _⟩
  | .da c' :: Γ, _, _, _, .z, τ, σ, L, ρ, ⟨w, σ', e, _, h⟩ => ⟨L, ⟨v, σ', by rw [e]; rfl, r, h⟩, List.Sublist.refl _⟩
  | .m k c' :: Γ, _, _, _, .z, τ, σ, L, ρ, ⟨w, σ', fp, L', e, e2, e3, _, h⟩ => ⟨L', ⟨v, σ', by rw [e]; rfl, r, h⟩, by rw [e3]; exact List.sublist_append_right _ _⟩
  | .no :: Γ, _, _, _, .s q, τ, σ, L, ρ, ⟨w, σ', e, h⟩ => by
    obtain ⟨L', h1, h2⟩ := SRel.setD r q h
    exact ⟨L', ⟨w, σ'.set _ _, by rw [e]; rfl, h1⟩, h2⟩
  | .da c' :: Γ, _, _, _, .s q, τ, σ, L, ρ, ⟨w, σ', e, hr, h⟩ => by
    obtain ⟨L', h1, h2⟩ := SRel.setD r q h
    exact ⟨L', ⟨w, σ'.set _ _, by rw [e]; rfl, hr, h1⟩, h2⟩
  | .m k c' :: Γ, _, _, _, .s q, τ, σ, L, ρ, ⟨w, σ', fp, L0, e, e2, e3, hr, h⟩ => by
    obtain ⟨L', h1, h2⟩ := SRel.setD r q h
    exact ⟨tag k fp ++ L', ⟨w, σ'.set _ _, fp, L', by rw [e]; rfl, e2, rfl, hr, h1⟩, by rw [e3]; exact h2.append_left _⟩
theorem SRel.setM {F H : Hp} {c : Cod} {v : V} {x : c.α} {fp : List Addr} (r : c.rel F H fp v x) : ∀ {Γ Γ' : List Sl} {i : Nat} {s : Sl} (u : Up Γ i s (.m .lo c) Γ') {τ σ : St} {L : Fps} {ρ : Env Γ}, SRel Γ τ σ F H L ρ →
    ∃ L1 L2, SRel Γ' τ (σ.set i (some v)) F H (L1 ++ tag .lo fp ++ L2) (u.set ρ x) ∧ (L1 ++ L2).Sublist L
  | .no :: Γ, _, _, _, .z, τ, σ, L, ρ, ⟨w, σ', e, h⟩ => ⟨[], L, ⟨v, σ', fp, L, by rw [e]; rfl, .inl rfl, rfl, r, h⟩, List.Sublist.refl _⟩
  | .da c' :: Γ, _, _, _, .z, τ, σ, L, ρ, ⟨w, σ', e, _, h⟩ => ⟨[], L, ⟨v, σ', fp, L, by rw [e]; rfl, .inl rfl, rfl, r, h⟩, List.Sublist.refl _⟩
  | .m k c' :: Γ, _, _, _, .z, τ, σ, L, ρ, ⟨w, σ', fp0, L', e, e2, e3, _, h⟩ => ⟨[], L', ⟨v, σ', fp, L', by rw [e]; rfl, .inl rfl, rfl, r, h⟩, by rw [e3]; exact List.sublist_append_right _ _⟩
  | .no :: Γ, _, _, _, .s q, τ, σ, L, ρ, ⟨w, σ', e, h⟩ => by
    obtain ⟨L1, L2, h1, h2⟩ := SRel.setM r q h
    exact ⟨L1, L2, ⟨w, σ'.set _ _, by rw [e]; rfl, h1⟩, h2⟩
  | .da c' :: Γ, _, _, _, .s q, τ, σ, L, ρ, ⟨w, σ', e, hr, h⟩ => by
    obtain ⟨L1, L2, h1, h2⟩ := SRel.setM r q h
    exact ⟨L1, L2, ⟨w, σ'.set _ _, by rw [e]; rfl, hr, h1⟩, h2⟩
  | .m k c' :: Γ, _, _, _, .s q, τ, σ, L, ρ, ⟨w, σ', fp0, L0, e, e2, e3, hr, h⟩ => by
    obtain ⟨L1, L2, h1, h2⟩ := SRel.setM r q h
    exact ⟨tag k fp0 ++ L1, L2, ⟨w, σ'.set _ _, fp0, L1 ++ tag .lo fp ++ L2, by rw [e]; rfl, e2, by simp [List.append_assoc], hr, h1⟩, by rw [e3, List.append_assoc]; exact h2.append_left _⟩
theorem Wd.sub {B : Base} {F H : Hp} {L L' : Fps} (w : Wd B F H L) (h : L'.Sublist L) : Wd B F H L' :=
  ⟨w.nd.sublist (h.map _), fun k a ha => w.fr k a (h.subset ha), w.fh, w.bf, w.keep, w.there, w.new, fun a ha => w.own a (h.subset ha), fun a ha => w.loc a (h.subset ha), fun a ha => w.con a (h.subset ha)⟩
theorem SInv.setD {B : Base} {Γ Γ' : List Sl} {σ : St} {F H : Hp} {ρ : Env Γ} {c : DCod} {i : Nat} {s : Sl} {v : V} {x : c.α} (I : SInv B Γ σ F H ρ) (u : Up Γ i s (.da c) Γ') (r : c.rel F v x) : SInv B Γ' (σ.set i (some v)) F H (u.set ρ x) := by
  obtain ⟨L, h, w⟩ := I
  obtain ⟨L', h1, h2⟩ := h.setD r u
  exact ⟨L', h1, w.sub h2⟩
structure New (fp : List Addr) (H0 F H : Hp) : Prop where
  nd : fp.Nodup
  at_ : ∀ a, a ∈ fp → H0 a = none ∧ F a = none ∧ ∃ o, H a = some o
theorem SInv.setM {B : Base} {Γ Γ' : List Sl} {σ : St} {F0 H0 F H : Hp} {ρ : Env Γ} {c : Cod} {i : Nat} {s : Sl} {v : V} {x : c.α} {fp : List Addr} (I : SInv B Γ σ F0 H0 ρ) (p : Pext F0 F H0 H) (n : New fp H0 F H) (u : Up Γ i s (.m .lo c) Γ') (r : c.rel F H fp v x) :
    SInv B Γ' (σ.set i (some v)) F H (u.set ρ x) := by
  obtain ⟨L, h, w⟩ := I
  have h' : SRel Γ B.τ σ F H L ρ := h.ext p.ff fun k a ha => by
    obtain ⟨_, o, h2⟩ := w.fr k a ha
    rw [h2, p.hh a o h2]
  obtain ⟨L1, L2, h1, h2⟩ := h'.setM r u
  have w' := (w.pext p).sub h2
  have dis : ∀ k a, (k, a) ∈ L1 ++ L2 → a ∉ fp := fun k a ha hf => by
    obtain ⟨_, o, g⟩ := w.fr k a (h2.subset ha)
    rw [(n.at_ a hf).1] at g; cases g
  have nd := w'.nd
  rw [List.map_append] at nd
  have nd1 := List.nodup_append.mp nd
  have cases_ : ∀ k' a, (k', a) ∈ L1 ++ tag .lo fp ++ L2 → (k', a) ∈ L1 ++ L2 ∨ (k' = .lo ∧ a ∈ fp) := fun k' a ha => by
    simp only [List.mem_append] at ha ⊢
    rcases ha with (ha | ha) | ha
    · exact .inl (.inl ha)
    · exact .inr (mem_tag.mp ha)
    · exact .inl (.inr ha)
  refine ⟨_, h1, ⟨?_, fun k a ha => ?_, w'.fh, w'.bf, w'.keep, w'.there, w'.new, fun a ha => ?_, fun a ha => ?_, fun a ha => ?_⟩⟩
  · rw [List.map_append, List.map_append, tag_map]
    refine List.nodup_append.mpr ⟨List.nodup_append.mpr ⟨nd1.1, n.nd, fun a ha b hb e => ?_⟩, nd1.2.1, fun a ha b hb e => ?_⟩
    · subst e
      obtain ⟨q, hq, e⟩ := List.mem_map.mp ha
      obtain ⟨k', a'⟩ := q
      have e : a' = a := e
      subst e
      exact dis k' a' (List.mem_append_left _ hq) hb
    · subst e
      obtain ⟨q, hq, e⟩ := List.mem_map.mp hb
      obtain ⟨k', a'⟩ := q
      have e : a' = a := e
      subst e
      rcases List.mem_append.mp ha with ha | ha
      · exact nd1.2.2 a' ha a' hb rfl
      · exact dis k' a' (List.mem_append_right _ hq) ha
  · rcases cases_ k a ha with q | ⟨_, q⟩
    · exact w'.fr k a q
    · exact (n.at_ a q).2
  · rcases cases_ _ a ha with q | ⟨e, _⟩
    · exact w'.own a q
    · cases e
  · rcases cases_ _ a ha with q | ⟨_, q⟩
    · exact w'.loc a q
    · right
      cases e : B.H a with
      | none => rfl
      | some o =>
        obtain ⟨o', g⟩ := w.there a o e
        rw [(n.at_ a q).1] at g; cases g
  · rcases cases_ _ a ha with q | ⟨e, _⟩
    · exact w'.con a q
    · cases e

/-! ### codes -/
abbrev PV (c : DCod) (F : Hp) : List V → List c.α → Prop := Paired (c.rel F)
theorem PV.ext {c : DCod} {F F' : Hp} (e : Ex F F') : ∀ {vs : List V} {xs : List c.α}, PV c F vs xs → PV c F' vs xs
  | _, _, .nil => .nil
  | _, _, .cons r t => .cons (c.ext r e) (PV.ext e t)
theorem PV.length {c : DCod} {F : Hp} {vs : List V} {xs : List c.α} (h : PV c F vs xs) : vs.length = xs.length := Paired.length h
theorem PV.append {c : DCod} {F : Hp} : ∀ {vs ws : List V} {xs ys : List c.α}, PV c F vs xs → PV c F ws ys → PV c F (vs ++ ws) (xs ++ ys)
  | _, _, _, _, .nil, s => s
  | _, _, _, _, .cons r t, s => .cons r (PV.append t s)
theorem PV.get {c : DCod} {F : Hp} : ∀ {vs : List V} {xs : List c.α} {i : Nat} {x : c.α}, PV c F vs xs → xs[i]? = some x → ∃ v, vs[i]? = some v ∧ c.rel F v x
  | _, _, _, _, .nil, e => by simp at e
  | _, _, 0, _, .cons r _, e => by simp at e; subst e; exact ⟨_, rfl, r⟩
  | _, _, i + 1, x, .cons _ t, e => by
    obtain ⟨u, h1, h2⟩ := PV.get (i := i) (x := x) t (by simpa using e)
    exact ⟨u, by simpa using h1, h2⟩
theorem PV.get' {c : DCod} {F : Hp} : ∀ {vs : List V} {xs : List c.α} {i : Nat} {v : V}, PV c F vs xs → vs[i]? = some v → ∃ x, xs[i]? = some x ∧ c.rel F v x
  | _, _, _, _, .nil, e => by simp at e
  | _, _, 0, _, .cons r _, e => by simp at e; subst e; exact ⟨_, rfl, r⟩
  | _, _, i + 1, v, .cons _ t, e => by
    obtain ⟨u, h1, h2⟩ := PV.get' (i := i) (v := v) t (by simpa using e)
    exact ⟨u, by simpa using h1, h2⟩
theorem PV.set {c : DCod} {F : Hp} {v : V} {x : c.α} (r : c.rel F v x) : ∀ {vs : List V} {xs : List c.α} (i : Nat), PV c F vs xs → PV c F (vs.set i v) (xs.set i x)
  | _, _, _, .nil => .nil
  | _, _, 0, .cons _ t => .cons r t
  | _, _, i + 1, .cons q t => .cons q (PV.set r i t)
theorem PV.take {c : DCod} {F : Hp} : ∀ {vs : List V} {xs : List c.α} (n : Nat), PV c F vs xs → PV c F (vs.take n) (xs.take n)
  | _, _, 0, _ => .nil
  | _, _, _ + 1, .nil => .nil
  | _, _, n + 1, .cons r t => .cons r (PV.take n t)
theorem PV.drop {c : DCod} {F : Hp} : ∀ {vs : List V} {xs : List c.α} (n : Nat), PV c F vs xs → PV c F (vs.drop n) (xs.drop n)
  | _, _, 0, r => r
  | _, _, _ + 1, .nil => .nil
  | _, _, n + 1, .cons _ t => PV.drop n t
theorem Rd.ext {F F' : Hp} {a : Addr} {u : HO} (e : Ex F F') (h : Rd F a u) : Rd F' a u := h.elim (fun z => .inl (e a _ z)) fun ⟨o, z⟩ => .inr ⟨o, e a _ z⟩
theorem SqT.rd {K : PySem.W.Frag} {F H : Hp} {a : Addr} {vs : List V} (e : Ex F H) (h : Rd F a (.tup vs)) : SqT K H a vs := .inl (Rd.ext e h)
abbrev dInt : DCod := ⟨Int, fun _ v x => v = .int x, fun h _ => h⟩
abbrev dBl : DCod := ⟨Bool, fun _ v x => v = .bl x, fun h _ => h⟩
abbrev dNon : DCod := ⟨Unit, fun _ v _ => v = .non, fun h _ => h⟩
abbrev dOpt (c : DCod) : DCod := ⟨Option c.α, fun F v x => match x with
  | none => v = .non
  | some y => c.rel F v y ∧ v ≠ .non, fun {F F' v x} h e => match x, h with
  | none, h => h
  | some y, h => ⟨c.ext h.1 e, h.2⟩⟩
abbrev dTup (c : DCod) : DCod := ⟨List c.α, fun F v xs => ∃ a vs, v = .ref a ∧ Rd F a (.tup vs) ∧ PV c F vs xs ∧ xs.length ≤ sizeLine,
  fun h e => let ⟨a, vs, h1, h2, h3, h4⟩ := h; ⟨a, vs, h1, Rd.ext e h2, h3.ext e, h4⟩⟩
abbrev dLst (c : DCod) : DCod := ⟨List c.α, fun F v xs => ∃ a vs, v = .ref a ∧ F a = some (.lst vs) ∧ PV c F vs xs ∧ xs.length ≤ sizeLine,
  fun h e => let ⟨a, vs, h1, h2, h3, h4⟩ := h; ⟨a, vs, h1, e a _ h2, h3.ext e, h4⟩⟩
abbrev dSeq (c : DCod) : DCod := ⟨List c.α, fun F v xs => ∃ a vs, v = .ref a ∧ (F a = some (.lst vs) ∨ Rd F a (.tup vs)) ∧ PV c F vs xs ∧ xs.length ≤ sizeLine,
  fun h e => let ⟨a, vs, h1, h2, h3, h4⟩ := h; ⟨a, vs, h1, h2.imp (e a _) (Rd.ext e), h3.ext e, h4⟩⟩
abbrev dP2 (a b : DCod) : DCod := ⟨a.α × b.α, fun F v x => ∃ p u w, v = .ref p ∧ F p = some (.tup [u, w]) ∧ a.rel F u x.1 ∧ b.rel F w x.2,
  fun h e => let ⟨p, u, w, h1, h2, h3, h4⟩ := h; ⟨p, u, w, h1, e p _ h2, a.ext h3 e, b.ext h4 e⟩⟩
abbrev dP3 (a b c : DCod) : DCod := ⟨a.α × b.α × c.α, fun F v x => ∃ p u w z, v = .ref p ∧ F p = some (.tup [u, w, z]) ∧ a.rel F u x.1 ∧ b.rel F w x.2.1 ∧ c.rel F z x.2.2,
  fun h e => let ⟨p, u, w, z, h1, h2, h3, h4, h5⟩ := h; ⟨p, u, w, z, h1, e p _ h2, a.ext h3 e, b.ext h4 e, c.ext h5 e⟩⟩
abbrev dDict (c : DCod) : DCod := ⟨List (Int × c.α), fun F v kvs => ∃ a ks, v = .ref a ∧ F a = some (.dK ks) ∧ Paired (fun (p : Key × V) (q : Int × c.α) => p.1 = .inl q.1 ∧ c.rel F p.2 q.2) ks kvs,
  fun {F F' v x} h e => let ⟨a, ks, h1, h2, h3⟩ := h; ⟨a, ks, h1, e a _ h2, Paired.mapP h3 fun _ _ q => ⟨q.1, c.ext q.2 e⟩⟩⟩
abbrev mLst (c : DCod) : Cod := ⟨List c.α, fun F H fp v xs => ∃ a vs, v = .ref a ∧ fp = [a] ∧ H a = some (.lst vs) ∧ PV c F vs xs ∧ xs.length ≤ sizeLine,
  fun {F F' H H' fp v x} h e k => let ⟨a, vs, h1, h0, h2, h3, h4⟩ := h; ⟨a, vs, h1, h0, by rw [k a (by rw [h0]; simp)]; exact h2, h3.ext e, h4⟩⟩

def DEnv : List DCod → Type
  | [] => Unit
  | c :: cs => c.α × DEnv cs
def DRel : (cs : List DCod) → Hp → List V → DEnv cs → Prop
  | [], _, vs, _ => vs = []
  | c :: cs, F, vs, x => ∃ v vs', vs = v :: vs' ∧ c.rel F v x.1 ∧ DRel cs F vs' x.2
theorem DRel.ext {F F' : Hp} (e : Ex F F') : ∀ {cs : List DCod} {vs : List V} {x : DEnv cs}, DRel cs F vs x → DRel cs F' vs x
  | [], _, _, h => h
  | c :: cs, _, _, ⟨v, vs', h1, h2, h3⟩ => ⟨v, vs', h1, c.ext h2 e, DRel.ext e h3⟩
theorem DRel.len {F : Hp} : ∀ {cs : List DCod} {vs : List V} {x : DEnv cs}, DRel cs F vs x → vs.length = cs.length
  | [], _, _, h => by rw [show _ = [] from h]; rfl
  | c :: cs, _, _, ⟨v, vs', h1, h2, h3⟩ => by rw [h1, List.length_cons, DRel.len h3]; rfl
abbrev dIns (C : Addr) (names : List Str) (cs : List DCod) : DCod := ⟨DEnv cs, fun F v x => ∃ a dx vs, v = .ref a ∧ F a = some (.ins C dx (names.zip vs)) ∧ DRel cs F vs x,
  fun h e => let ⟨a, dx, vs, h1, h2, h3⟩ := h; ⟨a, dx, vs, h1, e a _ h2, h3.ext e⟩⟩

/-! ### judgements -/
def Gt (p : Bool) {Γ : List Sl} (F F' H H' : Hp) (ρ ρ' : Env Γ) : Prop := Ex F F' ∧ (p = true → ρ' = ρ ∧ Pext F F' H H')
theorem Gt.refl {p : Bool} {Γ : List Sl} {F H : Hp} {ρ : Env Γ} (h : Ex F H) : Gt p F F H H ρ ρ := ⟨Ex.refl F, fun _ => ⟨rfl, Pext.refl h⟩⟩
theorem Gt.trans {p : Bool} {Γ : List Sl} {F F1 F2 H H1 H2 : Hp} {ρ ρ1 ρ2 : Env Γ} (a : Gt p F F1 H H1 ρ ρ1) (b : Gt p F1 F2 H1 H2 ρ1 ρ2) : Gt p F F2 H H2 ρ ρ2 :=
  ⟨a.1.trans b.1, fun e => ⟨(b.2 e).1.trans (a.2 e).1, (a.2 e).2.trans (b.2 e).2⟩⟩
theorem Gt.pext {p : Bool} {Γ : List Sl} {F F1 F2 H H1 H2 : Hp} {ρ ρ1 : Env Γ} (a : Gt p F F1 H H1 ρ ρ1) (b : Pext F1 F2 H1 H2) : Gt p F F2 H H2 ρ ρ1 :=
  ⟨a.1.trans b.ff, fun e => ⟨(a.2 e).1, (a.2 e).2.trans b⟩⟩
section
variable (p : Bool) (E : XK) (XC : Str → Value)
def Rs {R : Type} (B : Base) (G : Res R → Prop) : Prop := ¬ G .bad ∧ ∀ n H', G (.exc n) → Frm B H' → E (XC n) none H'
def EvE (Γ : List Sl) (te : TE) (c : DCod) (T : (R : Type) → (c.α → Env Γ → Res R) → Env Γ → Res R) : Prop :=
  ∀ (B : Base) (σ : St) (F H : Hp) (ρ : Env Γ), SInv B Γ σ F H ρ → ∀ (R : Type) (G : Res R → Prop), Rs E XC B G → ∀ (k : c.α → Env Γ → Res R) (Q : VK), G (T R k ρ) →
    (∀ x ρ' v F' H', SInv B Γ σ F' H' ρ' → Gt p F F' H H' ρ ρ' → c.rel F' v x → G (k x ρ') → Q v H') → te σ H Q
def EvT (Γ : List Sl) (tt : TT) (T : (R : Type) → (Bool → Env Γ → Res R) → Env Γ → Res R) : Prop :=
  ∀ (B : Base) (σ : St) (F H : Hp) (ρ : Env Γ), SInv B Γ σ F H ρ → ∀ (R : Type) (G : Res R → Prop), Rs E XC B G → ∀ (k : Bool → Env Γ → Res R) (Q : Bool → Hp → Prop), G (T R k ρ) →
    (∀ b ρ' F' H', SInv B Γ σ F' H' ρ' → Gt p F F' H H' ρ ρ' → G (k b ρ') → Q b H') → tt σ H Q
def EvA (Γ : List Sl) (ta : TA) (cs : List DCod) (T : (R : Type) → (DEnv cs → Env Γ → Res R) → Env Γ → Res R) : Prop :=
  ∀ (B : Base) (σ : St) (F H : Hp) (ρ : Env Γ), SInv B Γ σ F H ρ → ∀ (R : Type) (G : Res R → Prop), Rs E XC B G → ∀ (k : DEnv cs → Env Γ → Res R) (Q : List V → Hp → Prop), G (T R k ρ) →
    (∀ x ρ' vs F' H', SInv B Γ σ F' H' ρ' → Gt p F F' H H' ρ ρ' → DRel cs F' vs x → G (k x ρ') → Q vs H') → ta σ H Q
def EvN (Γ : List Sl) (te : TE) (c : Cod) (T : (R : Type) → (c.α → Env Γ → Res R) → Env Γ → Res R) : Prop :=
  ∀ (B : Base) (σ : St) (F H : Hp) (ρ : Env Γ), SInv B Γ σ F H ρ → ∀ (R : Type) (G : Res R → Prop), Rs E XC B G → ∀ (k : c.α → Env Γ → Res R) (Q : VK), G (T R k ρ) →
    (∀ x ρ' v fp F0 H0 F' H', SInv B Γ σ F0 H0 ρ' → Gt p F F0 H H0 ρ ρ' → Pext F0 F' H0 H' → New fp H0 F' H' → c.rel F' H' fp v x → G (k x ρ') → Q v H') → te σ H Q
end
section
variable {p : Bool} {E : XK} {XC : Str → Value} {Γ Γ' : List Sl} {te ta tb tc : TE} {tt tu : TT} {tA : TA} {a b c d : DCod} {m : Cod}
theorem freeze {T : (R : Type) → (List c.α → Env Γ → Res R) → Env Γ → Res R} (h : EvN p E XC Γ te (mLst c) T) : EvE p E XC Γ te (dLst c) T := fun B σ F H ρ I R G hG k Q g q =>
  h B σ F H ρ I R G hG k Q g fun x ρ' v fp F0 H0 F' H' I0 e pp n r g' => by
    obtain ⟨l, vs, rfl, rfl, hl, pv, hz⟩ := r
    obtain ⟨n1, n2, _⟩ := n.at_ l (by simp)
    have p2 : Pext F0 (upd F' l (.lst vs)) H0 H' := ⟨pp.hh, pp.ff.trans (Ex.new n2), fun a u ea => by
      by_cases hb : a = l
      · subst hb; rw [upd_same] at ea; cases ea; exact hl
      · rw [upd_ne hb] at ea; exact pp.fh a u ea, fun a u ea => by
      by_cases hb : a = l
      · subst hb; exact .inr n1
      · rw [upd_ne hb] at ea; exact pp.new a u ea⟩
    exact q x ρ' (.ref l) _ H' (I0.pext p2) (e.pext p2) ⟨l, vs, rfl, upd_same, pv.ext (Ex.new n2), hz⟩ g'
theorem ev_var {i : Nat} (at_ : At Γ i (.da c)) : EvE p E XC Γ (tVar i) c (fun R k ρ => k (at_.get ρ) ρ) := fun B σ F H ρ I R G hG k Q g q => by
  obtain ⟨v, h1, h2⟩ := I.data at_
  exact ⟨v, h1, q _ ρ v F H I (Gt.refl I.fh) h2 g⟩
theorem ev_c {v : V} {x : c.α} (h : ∀ F, c.rel F v x) : EvE p E XC Γ (tC v) c (fun R k ρ => k x ρ) := fun B σ F H ρ I R G hG k Q g q => q x ρ v F H I (Gt.refl I.fh) (h F) g
theorem ev_as {T : (R : Type) → (a.α → Env Γ → Res R) → Env Γ → Res R} (f : a.α → b.α) (hf : ∀ F v x, a.rel F v x → b.rel F v (f x)) (h : EvE p E XC Γ te a T) : EvE p E XC Γ te b (fun R k ρ => T R (fun x => k (f x)) ρ) :=
  fun B σ F H ρ I R G hG k Q g q => h B σ F H ρ I R G hG _ Q g fun x ρ' v F' H' I' e r g' => q (f x) ρ' v F' H' I' e (hf F' v x r) g'
theorem ev_asP {T : (R : Type) → (a.α → Env Γ → Res R) → Env Γ → Res R} (f : a.α → Option b.α) (hf : ∀ F v x y, a.rel F v x → f x = some y → b.rel F v y) (h : EvE p E XC Γ te a T) : EvE p E XC Γ te b (fun R k ρ => T R (fun x ρ => opt (f x) fun y => k y ρ) ρ) :=
  fun B σ F H ρ I R G hG k Q g q => h B σ F H ρ I R G hG _ Q g fun x ρ' v F' H' I' e r g' => by
    cases hx : f x with
    | none => rw [hx] at g'; exact absurd g' hG.1
    | some y => rw [hx] at g'; exact q y ρ' v F' H' I' e (hf F' v x y r hx) g'
/-! operations on data by values -/
def Op2 (r : R2) (a b c : DCod) (f : a.α → b.α → c.α) : Prop := ∀ (F H : Hp) (v w : V) (x : a.α) (y : b.α) (Q : VK), Ex F H → a.rel F v x → b.rel F w y → (∀ u F' H', Pext F F' H H' → c.rel F' u (f x y) → Q u H') → r v w H Q
def Op2P (r : R2) (a b c : DCod) (f : a.α → b.α → Option c.α) : Prop := ∀ (F H : Hp) (v w : V) (x : a.α) (y : b.α) (z : c.α) (Q : VK), Ex F H → a.rel F v x → b.rel F w y → f x y = some z → (∀ u F' H', Pext F F' H H' → c.rel F' u z → Q u H') → r v w H Q
def Op1 (r : V → Hp → VK → Prop) (a c : DCod) (f : a.α → c.α) : Prop := ∀ (F H : Hp) (v : V) (x : a.α) (Q : VK), Ex F H → a.rel F v x → (∀ u F' H', Pext F F' H H' → c.rel F' u (f x) → Q u H') → r v H Q
def Op1P (r : V → Hp → VK → Prop) (a c : DCod) (f : a.α → Option c.α) : Prop := ∀ (F H : Hp) (v : V) (x : a.α) (z : c.α) (Q : VK), Ex F H → a.rel F v x → f x = some z → (∀ u F' H', Pext F F' H H' → c.rel F' u z → Q u H') → r v H Q
theorem ev_op {r : R2} {f : a.α → b.α → c.α} {Ta : (R : Type) → (a.α → Env Γ → Res R) → Env Γ → Res R} {Tb : (R : Type) → (b.α → Env Γ → Res R) → Env Γ → Res R} (o : Op2 r a b c f) (ha : EvE p E XC Γ ta a Ta) (hb : EvE p E XC Γ tb b Tb) :
    EvE p E XC Γ (tOp r ta tb) c (fun R k ρ => Ta R (fun x ρ => Tb R (fun y ρ => k (f x y) ρ) ρ) ρ) := fun B σ F H ρ I R G hG k Q g q =>
  ha B σ F H ρ I R G hG _ _ g fun x ρ1 v F1 H1 I1 e1 r1 g1 => hb B σ F1 H1 ρ1 I1 R G hG _ _ g1 fun y ρ2 w F2 H2 I2 e2 r2 g2 =>
    o F2 H2 v w x y Q I2.fh (a.ext r1 e2.1) r2 fun u F3 H3 pp r3 => q _ ρ2 u F3 H3 (I2.pext pp) ((e1.trans e2).pext pp) r3 g2
theorem ev_opP {r : R2} {f : a.α → b.α → Option c.α} {Ta : (R : Type) → (a.α → Env Γ → Res R) → Env Γ → Res R} {Tb : (R : Type) → (b.α → Env Γ → Res R) → Env Γ → Res R} (o : Op2P r a b c f) (ha : EvE p E XC Γ ta a Ta) (hb : EvE p E XC Γ tb b Tb) :
    EvE p E XC Γ (tOp r ta tb) c (fun R k ρ => Ta R (fun x ρ => Tb R (fun y ρ => opt (f x y) fun z => k z ρ) ρ) ρ) := fun B σ F H ρ I R G hG k Q g q =>
  ha B σ F H ρ I R G hG _ _ g fun x ρ1 v F1 H1 I1 e1 r1 g1 => hb B σ F1 H1 ρ1 I1 R G hG _ _ g1 fun y ρ2 w F2 H2 I2 e2 r2 g2 => by
    cases hx : f x y with
    | none => rw [hx] at g2; exact absurd g2 hG.1
    | some z =>
      rw [hx] at g2
      exact o F2 H2 v w x y z Q I2.fh (a.ext r1 e2.1) r2 hx fun u F3 H3 pp r3 => q _ ρ2 u F3 H3 (I2.pext pp) ((e1.trans e2).pext pp) r3 g2
theorem ev_un {r : V → Hp → VK → Prop} {f : a.α → c.α} {Ta : (R : Type) → (a.α → Env Γ → Res R) → Env Γ → Res R} (o : Op1 r a c f) (ha : EvE p E XC Γ ta a Ta) : EvE p E XC Γ (tUn r ta) c (fun R k ρ => Ta R (fun x ρ => k (f x) ρ) ρ) := fun B σ F H ρ I R G hG k Q g q =>
  ha B σ F H ρ I R G hG _ _ g fun x ρ1 v F1 H1 I1 e1 r1 g1 => o F1 H1 v x Q I1.fh r1 fun u F3 H3 pp r3 => q _ ρ1 u F3 H3 (I1.pext pp) (e1.pext pp) r3 g1
theorem ev_1 {r : V → Hp → VK → Prop} {f : a.α → c.α} {Ta : (R : Type) → (a.α → Env Γ → Res R) → Env Γ → Res R} (o : Op1 r a c f) (ha : EvE p E XC Γ ta a Ta) : EvE p E XC Γ (fun σ H Q => ta σ H fun x H1 => r x H1 Q) c (fun R k ρ => Ta R (fun x ρ => k (f x) ρ) ρ) := ev_un o ha
theorem ev_1P {r : V → Hp → VK → Prop} {f : a.α → Option c.α} {Ta : (R : Type) → (a.α → Env Γ → Res R) → Env Γ → Res R} (o : Op1P r a c f) (ha : EvE p E XC Γ ta a Ta) : EvE p E XC Γ (fun σ H Q => ta σ H fun x H1 => r x H1 Q) c (fun R k ρ => Ta R (fun x ρ => opt (f x) fun z => k z ρ) ρ) := fun B σ F H ρ I R G hG k Q g q =>
  ha B σ F H ρ I R G hG _ _ g fun x ρ1 v F1 H1 I1 e1 r1 g1 => by
    cases hx : f x with
    | none => rw [hx] at g1; exact absurd g1 hG.1
    | some z =>
      rw [hx] at g1
      exact o F1 H1 v x z Q I1.fh r1 hx fun u F3 H3 pp r3 => q _ ρ1 u F3 H3 (I1.pext pp) (e1.pext pp) r3 g1
/-! arguments -/
theorem ea_nil : EvA p E XC Γ tNil [] (fun R k ρ => k () ρ) := fun B σ F H ρ I R G hG k Q g q => q () ρ [] F H I (Gt.refl I.fh) rfl g
theorem ea_cons {tr : TA} {cs : List DCod} {Ta : (R : Type) → (a.α → Env Γ → Res R) → Env Γ → Res R} {Tr : (R : Type) → (DEnv cs → Env Γ → Res R) → Env Γ → Res R} (ha : EvE p E XC Γ ta a Ta) (hr : EvA p E XC Γ tr cs Tr) :
    EvA p E XC Γ (tCons ta tr) (a :: cs) (fun R k ρ => Ta R (fun x ρ => Tr R (fun xs ρ => k (x, xs) ρ) ρ) ρ) := fun B σ F H ρ I R G hG k Q g q =>
  ha B σ F H ρ I R G hG _ _ g fun x ρ1 v F1 H1 I1 e1 r1 g1 => hr B σ F1 H1 ρ1 I1 R G hG _ _ g1 fun xs ρ2 vs F2 H2 I2 e2 r2 g2 =>
    q (x, xs) ρ2 (v :: vs) F2 H2 I2 (e1.trans e2) ⟨v, vs, rfl, a.ext r1 e2.1, r2⟩ g2
def Op1b (r : List V → Hp → VK → Prop) (a c : DCod) (f : a.α → c.α) : Prop := Op1 (fun v H Q => r [v] H Q) a c f
def Op1bP (r : List V → Hp → VK → Prop) (a c : DCod) (f : a.α → Option c.α) : Prop := Op1P (fun v H Q => r [v] H Q) a c f
theorem ev_b1 {r : List V → Hp → VK → Prop} {f : a.α → c.α} {Ta : (R : Type) → (a.α → Env Γ → Res R) → Env Γ → Res R} (o : Op1b r a c f) (ha : EvE p E XC Γ ta a Ta) : EvE p E XC Γ (tCB r (tCons ta tNil)) c (fun R k ρ => Ta R (fun x ρ => k (f x) ρ) ρ) := ev_1 (r := fun v H Q => r [v] H Q) o ha
theorem ev_b1P {r : List V → Hp → VK → Prop} {f : a.α → Option c.α} {Ta : (R : Type) → (a.α → Env Γ → Res R) → Env Γ → Res R} (o : Op1bP r a c f) (ha : EvE p E XC Γ ta a Ta) : EvE p E XC Γ (tCB r (tCons ta tNil)) c (fun R k ρ => Ta R (fun x ρ => opt (f x) fun z => k z ρ) ρ) := ev_1P (r := fun v H Q => r [v] H Q) o ha
/-! tests, and, or, not, a if c else b -/
theorem ev_and {Ta Tb : (R : Type) → (Bool → Env Γ → Res R) → Env Γ → Res R} (ha : EvE p E XC Γ ta dBl Ta) (hb : EvE p E XC Γ tb dBl Tb) : EvE p E XC Γ (tAndV ta tb) dBl (fun R k ρ => Ta R (fun x ρ => if x = true then Tb R k ρ else k false ρ) ρ) := fun B σ F H ρ I R G hG k Q g q =>
  ha B σ F H ρ I R G hG _ _ g fun x ρ1 v F1 H1 I1 e1 r1 g1 => ⟨x, r1, by
    cases x with
    | true =>
      rw [if_pos rfl] at g1 ⊢
      exact hb B σ F1 H1 ρ1 I1 R G hG k Q g1 fun y ρ2 w F2 H2 I2 e2 r2 g2 => q y ρ2 w F2 H2 I2 (e1.trans e2) r2 g2
    | false =>
      rw [if_neg (by decide)] at g1 ⊢
      exact q false ρ1 _ F1 H1 I1 e1 rfl g1⟩
theorem ev_or {Ta Tb : (R : Type) → (Bool → Env Γ → Res R) → Env Γ → Res R} (ha : EvE p E XC Γ ta dBl Ta) (hb : EvE p E XC Γ tb dBl Tb) : EvE p E XC Γ (tOrV ta tb) dBl (fun R k ρ => Ta R (fun x ρ => if x = true then k true ρ else Tb R k ρ) ρ) := fun B σ F H ρ I R G hG k Q g q =>
  ha B σ F H ρ I R G hG _ _ g fun x ρ1 v F1 H1 I1 e1 r1 g1 => ⟨x, r1, by
    cases x with
    | false =>
      rw [if_neg (by decide)] at g1 ⊢
      exact hb B σ F1 H1 ρ1 I1 R G hG k Q g1 fun y ρ2 w F2 H2 I2 e2 r2 g2 => q y ρ2 w F2 H2 I2 (e1.trans e2) r2 g2
    | true =>
      rw [if_pos rfl] at g1 ⊢
      exact q true ρ1 _ F1 H1 I1 e1 rfl g1⟩
theorem ev_not {Ta : (R : Type) → (Bool → Env Γ → Res R) → Env Γ → Res R} (ha : EvE p E XC Γ ta dBl Ta) : EvE p E XC Γ (tNotV ta) dBl (fun R k ρ => Ta R (fun x ρ => k (!x) ρ) ρ) := fun B σ F H ρ I R G hG k Q g q =>
  ha B σ F H ρ I R G hG _ _ g fun x ρ1 v F1 H1 I1 e1 r1 g1 => ⟨x, r1, q _ ρ1 _ F1 H1 I1 e1 rfl g1⟩
theorem et_test {Ta : (R : Type) → (Bool → Env Γ → Res R) → Env Γ → Res R} (ha : EvE p E XC Γ ta dBl Ta) : EvT p E XC Γ (tTest ta) Ta := fun B σ F H ρ I R G hG k Q g q =>
  ha B σ F H ρ I R G hG k _ g fun x ρ1 v F1 H1 I1 e1 r1 g1 => ⟨x, r1, q _ ρ1 F1 H1 I1 e1 g1⟩
theorem et_B {Ta : (R : Type) → (Bool → Env Γ → Res R) → Env Γ → Res R} (ha : EvE p E XC Γ ta dBl Ta) : EvT p E XC Γ (tB ta) Ta := fun B σ F H ρ I R G hG k Q g q =>
  ha B σ F H ρ I R G hG k _ g fun x ρ1 v F1 H1 I1 e1 r1 g1 => ⟨x, r1, q _ ρ1 F1 H1 I1 e1 g1⟩
theorem et_and {Ta Tb : (R : Type) → (Bool → Env Γ → Res R) → Env Γ → Res R} (ha : EvT p E XC Γ tt Ta) (hb : EvT p E XC Γ tu Tb) : EvT p E XC Γ (tAnd tt tu) (fun R k ρ => Ta R (fun x ρ => if x = true then Tb R k ρ else k false ρ) ρ) := fun B σ F H ρ I R G hG k Q g q =>
  ha B σ F H ρ I R G hG _ _ g fun x ρ1 F1 H1 I1 e1 g1 => by
    cases x with
    | true =>
      rw [if_pos rfl] at g1
      show tu σ H1 Q
      exact hb B σ F1 H1 ρ1 I1 R G hG k Q g1 fun y ρ2 F2 H2 I2 e2 g2 => q y ρ2 F2 H2 I2 (e1.trans e2) g2
    | false =>
      rw [if_neg (by decide)] at g1
      show Q false H1
      exact q false ρ1 F1 H1 I1 e1 g1
theorem et_or {Ta Tb : (R : Type) → (Bool → Env Γ → Res R) → Env Γ → Res R} (ha : EvT p E XC Γ tt Ta) (hb : EvT p E XC Γ tu Tb) : EvT p E XC Γ (tOr tt tu) (fun R k ρ => Ta R (fun x ρ => if x = true then k true ρ else Tb R k ρ) ρ) := fun B σ F H ρ I R G hG k Q g q =>
  ha B σ F H ρ I R G hG _ _ g fun x ρ1 F1 H1 I1 e1 g1 => by
    cases x with
    | false =>
      rw [if_neg (by decide)] at g1
      show tu σ H1 Q
      exact hb B σ F1 H1 ρ1 I1 R G hG k Q g1 fun y ρ2 F2 H2 I2 e2 g2 => q y ρ2 F2 H2 I2 (e1.trans e2) g2
    | true =>
      rw [if_pos rfl] at g1
      show Q true H1
      exact q true ρ1 F1 H1 I1 e1 g1
theorem et_not {Ta : (R : Type) → (Bool → Env Γ → Res R) → Env Γ → Res R} (ha : EvT p E XC Γ tt Ta) : EvT p E XC Γ (tNot tt) (fun R k ρ => Ta R (fun x ρ => k (!x) ρ) ρ) := fun B σ F H ρ I R G hG k Q g q =>
  ha B σ F H ρ I R G hG _ _ g fun x ρ1 F1 H1 I1 e1 g1 => q _ ρ1 F1 H1 I1 e1 g1
theorem ev_if {T0 : (R : Type) → (Bool → Env Γ → Res R) → Env Γ → Res R} {Ta Tb : (R : Type) → (c.α → Env Γ → Res R) → Env Γ → Res R} (h : EvT p E XC Γ tt T0) (ha : EvE p E XC Γ ta c Ta) (hb : EvE p E XC Γ tb c Tb) :
    EvE p E XC Γ (tIf tt ta tb) c (fun R k ρ => T0 R (fun x ρ => if x = true then Ta R k ρ else Tb R k ρ) ρ) := fun B σ F H ρ I R G hG k Q g q =>
  h B σ F H ρ I R G hG _ _ g fun x ρ1 F1 H1 I1 e1 g1 => by
    cases x with
    | true =>
      rw [if_pos rfl] at g1
      show ta σ H1 Q
      exact ha B σ F1 H1 ρ1 I1 R G hG k Q g1 fun y ρ2 w F2 H2 I2 e2 r2 g2 => q y ρ2 w F2 H2 I2 (e1.trans e2) r2 g2
    | false =>
      rw [if_neg (by decide)] at g1
      show tb σ H1 Q
      exact hb B σ F1 H1 ρ1 I1 R G hG k Q g1 fun y ρ2 w F2 H2 I2 e2 r2 g2 => q y ρ2 w F2 H2 I2 (e1.trans e2) r2 g2
end
end Pu
set_option Elab.async false
set_option linter.all false
set_option maxRecDepth 100000
set_option maxHeartbeats 4000000
namespace Pu
open PySem L2 Evl

/-! ### promises -/
def spD (XC : Str → Value) (cs : List DCod) (c : DCod) (f : DEnv cs → Res c.α) : Sp := fun vs H Q E => ∃ F x, Ex F H ∧ DRel cs F vs x ∧ f x ≠ .bad ∧
  (∀ z, f x = .ok z → ∀ u F' H', Pext F F' H H' → c.rel F' u z → Q u H') ∧ ∀ n, f x = .exc n → ∀ H', Ex H H' → E (XC n) none H'
def spM (XC : Str → Value) (m : Cod) (cs : List DCod) (c : DCod) (f : m.α → DEnv cs → Res (c.α × m.α)) : Sp := fun vs H Q E => ∃ F fp v vs' y x, vs = v :: vs' ∧ Ex F H ∧ m.rel F H fp v y ∧ fp.Nodup ∧ (∀ a, a ∈ fp → F a = none ∧ ∃ o, H a = some o) ∧ DRel cs F vs' x ∧ f y x ≠ .bad ∧
  (∀ z y', f y x = .ok (z, y') → ∀ u F' H' fp', Step F H fp F' H' fp' → m.rel F' H' fp' v y' → c.rel F' u z → Q u H') ∧ ∀ n, f y x = .exc n → ∀ H', (∀ a o, H a = some o → a ∉ fp → H' a = some o) → E (XC n) none H'
section
variable {p : Bool} {E : XK} {XC : Str → Value} {Γ Γ' : List Sl} {te ta tb tc : TE} {tt tu : TT} {tA : TA} {a b c d : DCod} {m : Cod} {cs : List DCod}
theorem DRel.app {F : Hp} : ∀ {cs : List DCod} {vs : List V} {x : DEnv cs}, DRel cs F vs x → DRel cs F (vs ++ []) x := fun h => by rw [List.append_nil]; exact h
theorem call_goes {B : Base} {σ : St} {F H : Hp} {ρ : Env Γ} {R : Type} {G : Res R → Prop} (hG : Rs E XC B G) {k : c.α → Env Γ → Res R} {f : Res c.α} {Q : VK} (I : SInv B Γ σ F H ρ) (g : G (f.bind fun z => k z ρ))
    (q : ∀ z u F' H', f = .ok z → Pext F F' H H' → c.rel F' u z → G (k z ρ) → Q u H') :
    f ≠ .bad ∧ (∀ z, f = .ok z → ∀ u F' H', Pext F F' H H' → c.rel F' u z → Q u H') ∧ ∀ n, f = .exc n → ∀ H', Ex H H' → E (XC n) none H' := by
  refine ⟨fun e => ?_, fun z e u F' H' pp r => ?_, fun n e H' eh => ?_⟩
  · rw [e] at g; exact hG.1 g
  · rw [e] at g; exact q z u F' H' e pp r g
  · rw [e] at g; exact hG.2 n H' g (I.frm.ex eh)
theorem ev_call {f : DEnv cs → Res c.α} {TA : (R : Type) → (DEnv cs → Env Γ → Res R) → Env Γ → Res R} (h : EvA p E XC Γ tA cs TA) : EvE p E XC Γ (tCall (spD XC cs c f) [] E tA) c (fun R k ρ => TA R (fun x ρ => (f x).bind fun z => k z ρ) ρ) := fun B σ F H ρ I R G hG k Q g q =>
  h B σ F H ρ I R G hG _ _ g fun x ρ1 vs F1 H1 I1 e1 r1 g1 => ⟨F1, x, I1.fh, r1.app, call_goes hG I1 g1 fun z u F' H' _ pp r g2 => q z ρ1 u F' H' (I1.pext pp) (e1.pext pp) r g2⟩
theorem zip_no {names : List Str} {m : Str} (h : names.contains m = false) : ∀ (vs : List V), (names.zip vs).lookup m = none := by
  induction names with
  | nil => intro vs; rfl
  | cons n ns ih =>
    intro vs
    cases vs with
    | nil => rfl
    | cons v vs =>
      simp only [List.contains_cons, Bool.or_eq_false_iff] at h
      show (match m == n with | true => some v | false => (ns.zip vs).lookup m) = none
      rw [h.1]
      exact ih h.2 vs
theorem ev_meth {C : Addr} {nm : Str} {names : List Str} {fs : List DCod} {f : DEnv (dIns C names fs :: cs) → Res c.α} {To : (R : Type) → (DEnv fs → Env Γ → Res R) → Env Γ → Res R} {TA : (R : Type) → (DEnv cs → Env Γ → Res R) → Env Γ → Res R}
    (hn : names.contains nm = false) (ho : EvE p E XC Γ ta (dIns C names fs) To) (h : EvA p E XC Γ tA cs TA) :
    EvE p E XC Γ (tMeth C nm (spD XC (dIns C names fs :: cs) c f) [] E ta tA) c (fun R k ρ => To R (fun o ρ => TA R (fun x ρ => (f (o, x)).bind fun z => k z ρ) ρ) ρ) := fun B σ F H ρ I R G hG k Q g q =>
  ho B σ F H ρ I R G hG _ _ g fun o ρ0 v F0 H0 I0 e0 r0 g0 => by
    obtain ⟨x0, dx, vs0, rfl, h0, hr⟩ := id r0
    refine ⟨x0, dx, _, rfl, I0.fh x0 _ h0, zip_no hn _, h B σ F0 H0 ρ0 I0 R G hG _ _ g0 fun x ρ1 vs F1 H1 I1 e1 r1 g1 => ?_⟩
    exact ⟨F1, (o, x), I1.fh, ⟨.ref x0, vs ++ [], rfl, (dIns C names fs).ext r0 e1.1, r1.app⟩, call_goes hG I1 g1 fun z u F' H' _ pp r g2 => q z ρ1 u F' H' (I1.pext pp) ((e0.trans e1).pext pp) r g2⟩
def DEnv.get : (cs : List DCod) → (j : Nat) → {c : DCod} → cs[j]? = some c → DEnv cs → c.α
  | c :: _, 0, _, h, x => (Option.some.inj h) ▸ x.1
  | _ :: cs, j + 1, _, h, x => DEnv.get cs j (by simpa using h) x.2
inductive Fd : List Str → List DCod → Str → DCod → Type 1 where
  | z {n : Str} {c : DCod} {ns : List Str} {cs : List DCod} : Fd (n :: ns) (c :: cs) n c
  | s {n m : Str} {c d : DCod} {ns : List Str} {cs : List DCod} (h : (m == n) = false) (r : Fd ns cs m d) : Fd (n :: ns) (c :: cs) m d
def Fd.get : {ns : List Str} → {cs : List DCod} → {n : Str} → {c : DCod} → Fd ns cs n c → DEnv cs → c.α
  | _, _, _, _, .z, x => x.1
  | _, _, _, _, .s _ r, x => r.get x.2
theorem Fd.at_ {F : Hp} : ∀ {ns : List Str} {cs : List DCod} {n : Str} {c : DCod} (fd : Fd ns cs n c) {vs : List V} {x : DEnv cs}, DRel cs F vs x → ∃ v, (ns.zip vs).lookup n = some v ∧ c.rel F v (fd.get x)
  | _, _, _, _, .z, vs, x, ⟨v, vs', e, r, h⟩ => ⟨v, by rw [e]; simp [List.zip_cons_cons, List.lookup], r⟩
  | _, _, _, _, .s hn q, vs, x, ⟨v, vs', e, r, h⟩ => by
    obtain ⟨u, h1, h2⟩ := q.at_ h
    refine ⟨u, ?_, h2⟩
    rw [e]
    simp only [List.zip_cons_cons, List.lookup, hn]
    exact h1
theorem ev_fld {K : PySem.W.Frag} {C : Addr} {names : List Str} {fs : List DCod} {n : Str} {To : (R : Type) → (DEnv fs → Env Γ → Res R) → Env Γ → Res R} (hc : Cls K C) (hn : NoAttr K C n) (fd : Fd names fs n c) (ho : EvE p E XC Γ ta (dIns C names fs) To) :
    EvE p E XC Γ (tFld K ta n) c (fun R k ρ => To R (fun o ρ => k (fd.get o) ρ) ρ) := fun B σ F H ρ I R G hG k Q g q =>
  ho B σ F H ρ I R G hG _ _ g fun o ρ0 v F0 H0 I0 e0 r0 g0 => by
    obtain ⟨x0, dx, vs0, rfl, h0, hr⟩ := r0
    obtain ⟨u, h1, h2⟩ := fd.at_ hr
    exact ⟨x0, C, dx, _, u, rfl, I0.fh x0 _ h0, hc, hn, h1, q _ ρ0 u F0 H0 I0 e0 h2 g0⟩

/-! ### a def's call with a thing that may change -/
theorem ev_callM {i : Nat} {k : Kd} (hk : k ≠ .co) (at_ : At Γ i (.m k m)) {f : m.α → DEnv cs → Res (c.α × m.α)} {TA : (R : Type) → (DEnv cs → Env Γ → Res R) → Env Γ → Res R} (h : EvA false E XC Γ tA cs TA) :
    EvE false E XC Γ (tCall (spM XC m cs c f) [] E (tCons (tVar i) tA)) c (fun R kk ρ => TA R (fun x ρ => (f (at_.get ρ) x).bind fun z => kk z.1 (at_.put ρ z.2)) ρ) := fun B σ F H ρ I R G hG kk Q g q => by
  obtain ⟨v, fp0, h1, _⟩ := I.mut at_
  refine ⟨v, h1, h B σ F H ρ I R G hG _ _ g fun x ρ1 vs F1 H1 I1 e1 r1 g1 => ?_⟩
  obtain ⟨v', fp, h2, _, hr, nd, hfp, hst⟩ := I1.mut at_
  rw [h1] at h2
  cases h2
  refine ⟨F1, fp, v, vs ++ [], at_.get ρ1, x, rfl, I1.fh, hr, nd, fun a ha => ⟨(hfp a ha).1, (hfp a ha).2.1⟩, r1.app, fun e => ?_, fun z y' e u F' H' fp' st r' ru => ?_, fun n e H' eh => ?_⟩
  · rw [e] at g1; exact hG.1 g1
  · rw [e] at g1
    exact q z _ u F' H' (hst hk F' H' fp' y' st r') ⟨e1.1.trans st.ff, fun z => nomatch z⟩ ru g1
  · rw [e] at g1
    refine hG.2 n H' g1 fun a o ha hm hn => ?_
    have ha1 := I1.frm a o ha hm hn
    by_cases hf : a ∈ fp
    · exfalso
      obtain ⟨_, _, q1, q2⟩ := hfp a hf
      cases k with
      | pa => rcases q1 rfl with z | z
              · exact hm z
              · rw [ha] at z; cases z
      | lo => rcases q2 rfl with z | z
              · exact hn z
              · rw [ha] at z; cases z
      | co => exact hk rfl
    · exact eh a o ha1 hf
end

/-! ### statements -/
structure Ret where
  r : DCod
  P : Type
  ok : Base → Hp → Hp → V → P → Prop
abbrev retD (c : DCod) : Ret := ⟨c, Unit, fun B F H _ _ => B.M = [] → B.N = [] → Pext B.F F B.H H⟩
abbrev retM (c : DCod) (m : Cod) (i : Nat) : Ret := ⟨c, m.α, fun B F H _ y => ∃ v fp', B.N = [] → B.τ[i]? = some (some v) ∧ m.rel F H fp' v y ∧ Step B.F B.H B.M F H fp'⟩
section
variable (E : XK) (XC : Str → Value) (Rt : Ret)
def StE (Γ : List Sl) (ts : TS) (Γ' ΓL : List Sl) (T : (R : Type) → (Env Γ' → Res R) → (Rt.r.α → Rt.P → Res R) → (Env ΓL → Res R) → (Env ΓL → Res R) → Env Γ → Res R) : Prop :=
  ∀ (B : Base) (σ : St) (F H : Hp) (ρ : Env Γ), SInv B Γ σ F H ρ → ∀ (R : Type) (G : Res R → Prop), Rs E XC B G → ∀ (nx : Env Γ' → Res R) (rt : Rt.r.α → Rt.P → Res R) (bk ct : Env ΓL → Res R) (D : Ends), G (T R nx rt bk ct ρ) →
    (∀ ρ' σ' F' H', SInv B Γ' σ' F' H' ρ' → Ex F F' → G (nx ρ') → D.nx σ' H') → (∀ x y v F' H', Rt.ok B F' H' v y → Rt.r.rel F' v x → G (rt x y) → D.rt v H') →
    (∀ ρ' σ' F' H', SInv B ΓL σ' F' H' ρ' → Ex F F' → G (bk ρ') → D.bk σ' H') → (∀ ρ' σ' F' H', SInv B ΓL σ' F' H' ρ' → Ex F F' → G (ct ρ') → D.ct σ' H') → ts D σ H
end
section
variable {p : Bool} {E : XK} {XC : Str → Value} {Rt : Ret} {Γ Γ' Γ1 Γ2 ΓL : List Sl} {te ta tb tc : TE} {tt tu : TT} {tA : TA} {a b c d : DCod} {m : Cod} {cs : List DCod} {ts us : TS}
theorem st_next : StE E XC Rt Γ tNext Γ ΓL (fun R nx rt bk ct ρ => nx ρ) := fun B σ F H ρ I R G hG nx rt bk ct D g qn qr qb qc => qn ρ σ F H I (Ex.refl F) g
theorem st_seq {T : (R : Type) → (Env Γ1 → Res R) → (Rt.r.α → Rt.P → Res R) → (Env ΓL → Res R) → (Env ΓL → Res R) → Env Γ → Res R} {U : (R : Type) → (Env Γ' → Res R) → (Rt.r.α → Rt.P → Res R) → (Env ΓL → Res R) → (Env ΓL → Res R) → Env Γ1 → Res R}
    (h : StE E XC Rt Γ ts Γ1 ΓL T) (h2 : StE E XC Rt Γ1 us Γ' ΓL U) : StE E XC Rt Γ (tSeq ts us) Γ' ΓL (fun R nx rt bk ct ρ => T R (fun ρ => U R nx rt bk ct ρ) rt bk ct ρ) := fun B σ F H ρ I R G hG nx rt bk ct D g qn qr qb qc =>
  h B σ F H ρ I R G hG _ rt bk ct { D with nx := us D } g (fun ρ' σ' F' H' I' e' g' => h2 B σ' F' H' ρ' I' R G hG nx rt bk ct D g' (fun ρ2 σ2 F2 H2 I2 e2 g2 => qn ρ2 σ2 F2 H2 I2 (e'.trans e2) g2) qr (fun ρ2 σ2 F2 H2 I2 e2 g2 => qb ρ2 σ2 F2 H2 I2 (e'.trans e2) g2) (fun ρ2 σ2 F2 H2 I2 e2 g2 => qc ρ2 σ2 F2 H2 I2 (e'.trans e2) g2)) qr qb qc
theorem st_set {i : Nat} {s : Sl} (u : Up Γ i s (.da c) Γ') {T : (R : Type) → (c.α → Env Γ → Res R) → Env Γ → Res R} (h : EvE p E XC Γ te c T) : StE E XC Rt Γ (tAsg te (gName i)) Γ' ΓL (fun R nx rt bk ct ρ => T R (fun x ρ => nx (u.set ρ x)) ρ) := fun B σ F H ρ I R G hG nx rt bk ct D g qn qr qb qc =>
  h B σ F H ρ I R G hG _ _ g fun x ρ' v F' H' I' e r g' => qn _ _ F' H' (I'.setD u r) e.1 g'
theorem st_setN {i : Nat} {s : Sl} (u : Up Γ i s (.m .lo m) Γ') {T : (R : Type) → (m.α → Env Γ → Res R) → Env Γ → Res R} (h : EvN p E XC Γ te m T) : StE E XC Rt Γ (tAsg te (gName i)) Γ' ΓL (fun R nx rt bk ct ρ => T R (fun x ρ => nx (u.set ρ x)) ρ) := fun B σ F H ρ I R G hG nx rt bk ct D g qn qr qb qc =>
  h B σ F H ρ I R G hG _ _ g fun x ρ' v fp F0 H0 F' H' I' e pp n r g' => qn _ _ F' H' (I'.setM pp n u r) (e.1.trans pp.ff) g'
theorem st_if {T0 : (R : Type) → (Bool → Env Γ → Res R) → Env Γ → Res R} {T U : (R : Type) → (Env Γ' → Res R) → (Rt.r.α → Rt.P → Res R) → (Env ΓL → Res R) → (Env ΓL → Res R) → Env Γ → Res R} (h : EvT p E XC Γ tt T0) (h1 : StE E XC Rt Γ ts Γ' ΓL T) (h2 : StE E XC Rt Γ us Γ' ΓL U) :
    StE E XC Rt Γ (tIfS tt ts us) Γ' ΓL (fun R nx rt bk ct ρ => T0 R (fun x ρ => if x = true then T R nx rt bk ct ρ else U R nx rt bk ct ρ) ρ) := fun B σ F H ρ I R G hG nx rt bk ct D g qn qr qb qc =>
  h B σ F H ρ I R G hG _ _ g fun x ρ1 F1 H1 I1 e1 g1 => by
    cases x with
    | true =>
      rw [if_pos rfl] at g1
      show ts D σ H1
      exact h1 B σ F1 H1 ρ1 I1 R G hG nx rt bk ct D g1 (fun ρ2 σ2 F2 H2 I2 e2 g2 => qn ρ2 σ2 F2 H2 I2 (e1.1.trans e2) g2) qr (fun ρ2 σ2 F2 H2 I2 e2 g2 => qb ρ2 σ2 F2 H2 I2 (e1.1.trans e2) g2) (fun ρ2 σ2 F2 H2 I2 e2 g2 => qc ρ2 σ2 F2 H2 I2 (e1.1.trans e2) g2)
    | false =>
      rw [if_neg (by decide)] at g1
      show us D σ H1
      exact h2 B σ F1 H1 ρ1 I1 R G hG nx rt bk ct D g1 (fun ρ2 σ2 F2 H2 I2 e2 g2 => qn ρ2 σ2 F2 H2 I2 (e1.1.trans e2) g2) qr (fun ρ2 σ2 F2 H2 I2 e2 g2 => qb ρ2 σ2 F2 H2 I2 (e1.1.trans e2) g2) (fun ρ2 σ2 F2 H2 I2 e2 g2 => qc ρ2 σ2 F2 H2 I2 (e1.1.trans e2) g2)
theorem SRel.drop {F H : Hp} : ∀ {Γ Γ' : List Sl} {i : Nat} {s : Sl} (u : Up Γ i s .no Γ') {τ σ : St} {L : Fps} {ρ : Env Γ}, SRel Γ τ σ F H L ρ → ∃ L', SRel Γ' τ σ F H L' (u.set ρ ()) ∧ L'.Sublist L
  | .no :: Γ, _, _, _, .z, τ, σ, L, ρ, ⟨w, σ', e, h⟩ => ⟨L, ⟨w, σ', e, h⟩, List.Sublist.refl _⟩
  | .da c' :: Γ, _, _, _, .z, τ, σ, L, ρ, ⟨w, σ', e, _, h⟩ => ⟨L, ⟨some w, σ', e, h⟩, List.Sublist.refl _⟩
  | .m k c' :: Γ, _, _, _, .z, τ, σ, L, ρ, ⟨w, σ', fp, L', e, e2, e3, _, h⟩ => ⟨L', ⟨some w, σ', e, h⟩, by rw [e3]; exact List.sublist_append_right _ _⟩
  | .no :: Γ, _, _, _, .s q, τ, σ, L, ρ, ⟨w, σ', e, h⟩ => by
    obtain ⟨L', h1, h2⟩ := SRel.drop q h
    exact ⟨L', ⟨w, σ', e, h1⟩, h2⟩
  | .da c' :: Γ, _, _, _, .s q, τ, σ, L, ρ, ⟨w, σ', e, hr, h⟩ => by
    obtain ⟨L', h1, h2⟩ := SRel.drop q h
    exact ⟨L', ⟨w, σ', e, hr, h1⟩, h2⟩
  | .m k c' :: Γ, _, _, _, .s q, τ, σ, L, ρ, ⟨w, σ', fp, L0, e, e2, e3, hr, h⟩ => by
    obtain ⟨L', h1, h2⟩ := SRel.drop q h
    exact ⟨tag k fp ++ L', ⟨w, σ', fp, L', e, e2, rfl, hr, h1⟩, by rw [e3]; exact h2.append_left _⟩
theorem SInv.drop {B : Base} {σ : St} {F H : Hp} {ρ : Env Γ} {i : Nat} {s : Sl} (I : SInv B Γ σ F H ρ) (u : Up Γ i s .no Γ') : SInv B Γ' σ F H (u.set ρ ()) := by
  obtain ⟨L, h, w⟩ := I
  obtain ⟨L', h1, h2⟩ := h.drop u
  exact ⟨L', h1, w.sub h2⟩
structure Pr (Rt : Ret) (Γ : List Sl) where
  f : Env Γ → Rt.P
  ok : ∀ {B : Base} {σ : St} {F H : Hp} {ρ : Env Γ}, SInv B Γ σ F H ρ → ∀ v, Rt.ok B F H v (f ρ)
theorem SInv.pextB {B : Base} {σ : St} {F H : Hp} {ρ : Env Γ} (I : SInv B Γ σ F H ρ) (hM : B.M = []) (hN : B.N = []) : Pext B.F F B.H H := by
  obtain ⟨L, _, w⟩ := I
  exact ⟨fun a o h => w.keep a o h (by rw [hM]; simp) (by rw [hN]; simp), w.bf, w.fh, w.new⟩
def prD : Pr (retD c) Γ := ⟨fun _ => (), fun I _ hM hN => I.pextB hM hN⟩
theorem SInv.stepB {B : Base} {σ : St} {F H : Hp} {ρ : Env Γ} {i : Nat} (I : SInv B Γ σ F H ρ) (at_ : At Γ i (.m .pa m)) : ∃ v fp', B.N = [] → B.τ[i]? = some (some v) ∧ m.rel F H fp' v (at_.get ρ) ∧ Step B.F B.H B.M F H fp' := by
  obtain ⟨v, fp, h1, h2, hr, nd, hfp, _⟩ := I.mut at_
  obtain ⟨L, _, w⟩ := I
  refine ⟨v, fp, fun hN => ⟨h2.resolve_left (by decide), hr, w.bf, w.fh, fun a o h hm => w.keep a o h hm (by rw [hN]; simp), w.there, w.new, nd, fun a ha => ?_⟩⟩
  obtain ⟨q1, q2, q3, _⟩ := hfp a ha
  exact ⟨q3 rfl, q1, q2⟩
def prM {i : Nat} (at_ : At Γ i (.m .pa m)) : Pr (retM c m i) Γ := ⟨fun ρ => at_.get ρ, fun I _ => I.stepB at_⟩
theorem st_ret {T : (R : Type) → (Rt.r.α → Env Γ → Res R) → Env Γ → Res R} (pr : Pr Rt Γ) (h : EvE p E XC Γ te Rt.r T) : StE E XC Rt Γ (tRet te) Γ' ΓL (fun R nx rt bk ct ρ => T R (fun x ρ => rt x (pr.f ρ)) ρ) := fun B σ F H ρ I R G hG nx rt bk ct D g qn qr qb qc =>
  h B σ F H ρ I R G hG _ _ g fun x ρ' v F' H' I' e r g' => qr x _ v F' H' (pr.ok I' v) r g'
end

/-! ### what is walked -/
structure Walks (J : It) (c : DCod) (xs : List c.α) (F : Hp) : Prop where
  ex : ∃ Y, Walk J xs.length (fun H => Ex F H) Y ∧ ∀ i H v H' F1, Y i H v H' → Ex F F1 → Ex F1 H → ∃ F2 x, xs[i]? = some x ∧ Pext F1 F2 H H' ∧ c.rel F2 v x
section
variable (p : Bool) (E : XK) (XC : Str → Value)
def EvI (Γ : List Sl) (ti : TI) (c : DCod) (T : (R : Type) → (List c.α → Env Γ → Res R) → Env Γ → Res R) : Prop :=
  ∀ (B : Base) (σ : St) (F H : Hp) (ρ : Env Γ), SInv B Γ σ F H ρ → ∀ (R : Type) (G : Res R → Prop), Rs E XC B G → ∀ (k : List c.α → Env Γ → Res R) (Q : It → Hp → Prop), G (T R k ρ) →
    (∀ xs ρ' J F' H', SInv B Γ σ F' H' ρ' → Gt p F F' H H' ρ ρ' → Walks J c xs F' → G (k xs ρ') → xs.length ≤ sizeLine → Q J H') → ti σ H Q
end
def TgE (Γ : List Sl) (tg : TG) (c : DCod) (Γ' : List Sl) (f : Env Γ → c.α → Env Γ') (is : List Nat) : Prop :=
  ∀ (B : Base) (σ : St) (F H : Hp) (ρ : Env Γ) (v : V) (x : c.α), SInv B Γ σ F H ρ → c.rel F v x → ∀ (Q : St → Hp → Prop), (∀ σ', SInv B Γ' σ' F H (f ρ x) → (∀ i, i ∉ is → σ'[i]? = σ[i]?) → σ'.length = σ.length → Q σ' H) → tg v σ H Q
section
variable {p : Bool} {E : XK} {XC : Str → Value} {Rt : Ret} {Γ Γ' Γ1 Γ2 ΓL : List Sl} {te ta tb tc : TE} {tt tu : TT} {tA : TA} {ti : TI} {tg : TG} {a b c d : DCod} {m : Cod} {cs : List DCod} {ts us : TS}
theorem tg_name {i : Nat} {s : Sl} (u : Up Γ i s (.da c) Γ') : TgE Γ (gName i) c Γ' (fun ρ x => u.set ρ x) [i] := fun B σ F H ρ v x I r Q q =>
  q _ (I.setD u r) (fun j hj => by rw [List.getElem?_set_ne (fun e => hj (by simp [e]))]) (by rw [List.length_set])
theorem tg_p2 {K : PySem.W.Frag} {t1 t2 : TG} {f : Env Γ → a.α → Env Γ1} {g : Env Γ1 → b.α → Env Γ'} {is js : List Nat} (h1 : TgE Γ t1 a Γ1 f is) (h2 : TgE Γ1 t2 b Γ' g js) : TgE Γ (gTup K 2 (gCons t1 (gCons t2 gNil))) (dP2 a b) Γ' (fun ρ x => g (f ρ x.1) x.2) (is ++ js) := fun B σ F H ρ v x I r Q q => by
  obtain ⟨p, u, w, rfl, hp, r1, r2⟩ := r
  refine ⟨p, [u, w], rfl, .inl (.inl (I.fh p _ hp)), rfl, u, [w], rfl, h1 B σ F H ρ u x.1 I r1 _ fun σ1 I1 e1 l1 => ⟨w, [], rfl, h2 B σ1 F H _ w x.2 I1 r2 _ fun σ2 I2 e2 l2 => ⟨rfl, q σ2 I2 (fun i hi => ?_) (l2.trans l1)⟩⟩⟩
  rw [e2 i fun z => hi (List.mem_append_right _ z), e1 i fun z => hi (List.mem_append_left _ z)]
theorem tg_p3 {K : PySem.W.Frag} {t1 t2 t3 : TG} {f : Env Γ → a.α → Env Γ1} {g : Env Γ1 → b.α → Env Γ2} {h : Env Γ2 → c.α → Env Γ'} {is js ks : List Nat} (h1 : TgE Γ t1 a Γ1 f is) (h2 : TgE Γ1 t2 b Γ2 g js) (h3 : TgE Γ2 t3 c Γ' h ks) :
    TgE Γ (gTup K 3 (gCons t1 (gCons t2 (gCons t3 gNil)))) (dP3 a b c) Γ' (fun ρ x => h (g (f ρ x.1) x.2.1) x.2.2) (is ++ js ++ ks) := fun B σ F H ρ v x I r Q q => by
  obtain ⟨p, u, w, y, rfl, hp, r1, r2, r3⟩ := r
  refine ⟨p, [u, w, y], rfl, .inl (.inl (I.fh p _ hp)), rfl, u, [w, y], rfl, h1 B σ F H ρ u x.1 I r1 _ fun σ1 I1 e1 l1 => ⟨w, [y], rfl, h2 B σ1 F H _ w x.2.1 I1 r2 _ fun σ2 I2 e2 l2 => ⟨y, [], rfl, h3 B σ2 F H _ y x.2.2 I2 r3 _ fun σ3 I3 e3 l3 => ⟨rfl, q σ3 I3 (fun i hi => ?_) ((l3.trans l2).trans l1)⟩⟩⟩⟩
  rw [e3 i fun z => hi (List.mem_append_right _ z), e2 i fun z => hi (List.mem_append_left _ (List.mem_append_right _ z)), e1 i fun z => hi (List.mem_append_left _ (List.mem_append_left _ z))]
theorem st_asg {T : (R : Type) → (c.α → Env Γ → Res R) → Env Γ → Res R} {f : Env Γ → c.α → Env Γ'} {is : List Nat} (h : EvE p E XC Γ te c T) (ht : TgE Γ tg c Γ' f is) : StE E XC Rt Γ (tAsg te tg) Γ' ΓL (fun R nx rt bk ct ρ => T R (fun x ρ => nx (f ρ x)) ρ) := fun B σ F H ρ I R G hG nx rt bk ct D g qn qr qb qc =>
  h B σ F H ρ I R G hG _ _ g fun x ρ' v F' H' I' e r g' => ht B σ F' H' ρ' v x I' r _ fun σ' I2 _ _ => qn _ σ' F' H' I2 e.1 g'
theorem st_for {T0 : (R : Type) → (List c.α → Env Γ → Res R) → Env Γ → Res R} {f : Env Γ → c.α → Env Γ'} {is : List Nat} {T : (R : Type) → (Env Γ → Res R) → (Rt.r.α → Rt.P → Res R) → (Env Γ → Res R) → (Env Γ → Res R) → Env Γ' → Res R} (h : EvI p E XC Γ ti c T0) (ht : TgE Γ tg c Γ' f is) (hb : StE E XC Rt Γ' ts Γ Γ T) :
    StE E XC Rt Γ (tFor ti tg ts) Γ ΓL (fun R nx rt bk ct ρ => T0 R (fun xs ρ => xs.foldr (fun x k ρ => T R k rt nx k (f ρ x)) nx ρ) ρ) := fun B σ F H ρ I R G hG nx rt bk ct D g qn qr qb qc => by
  refine h B σ F H ρ I R G hG _ _ g fun xs ρ1 J F1 H1 I1 e1 w g1 hz => ?_
  obtain ⟨Y, w, hy⟩ := w.ex
  refine for_it w (fun i σ' H' => i ≤ xs.length ∧ ∃ F' ρ', SInv B Γ σ' F' H' ρ' ∧ Ex F1 F' ∧ G ((xs.drop i).foldr (fun x k ρ => T R k rt nx k (f ρ x)) nx ρ')) ⟨Nat.zero_le _, F1, ρ1, I1, Ex.refl _, g1⟩ (fun i σ' H' _ ⟨_, F', ρ', I', e', _⟩ => e'.trans I'.fh) ?_ ?_
  · rintro i v σ' H' H2 hi ⟨_, F', ρ', I', e', g'⟩ y
    obtain ⟨F2, x, hx, pp, r⟩ := hy i H' v H2 F' y e' I'.fh
    have I2 := I'.pext pp
    obtain ⟨hlt, hxe⟩ := List.getElem?_eq_some_iff.mp hx
    have ed : xs.drop i = x :: xs.drop (i + 1) := by rw [← hxe]; exact (List.drop_eq_getElem_cons hlt)
    rw [ed, List.foldr_cons] at g'
    refine ht B σ' F2 H2 ρ' v x I2 r _ fun σ3 I3 _ _ => ?_
    refine hb B σ3 F2 H2 _ I3 R G hG _ rt nx _ _ g' (fun ρ4 σ4 F4 H4 I4 e4 g4 => ⟨hlt, F4, ρ4, I4, (e'.trans pp.ff).trans e4, g4⟩) qr (fun ρ4 σ4 F4 H4 I4 e4 g4 => qn ρ4 σ4 F4 H4 I4 (((e1.1.trans e').trans pp.ff).trans e4) g4) (fun ρ4 σ4 F4 H4 I4 e4 g4 => ⟨hlt, F4, ρ4, I4, (e'.trans pp.ff).trans e4, g4⟩)
  · rintro σ' H' ⟨_, F', ρ', I', e', g'⟩
    rw [List.drop_length] at g'
    exact qn ρ' σ' F' H' I' (e1.1.trans e') g'
end
end Pu
set_option Elab.async false
set_option linter.all false
set_option maxRecDepth 100000
set_option maxHeartbeats 4000000
namespace Pu
open PySem L2 Evl

/-! ### a thing apart from the slots -/
def paOf (L : Fps) : List Addr := (L.filter fun q => q.1 = .pa).map (·.2)
def loOf (L : Fps) : List Addr := (L.filter fun q => q.1 = .lo).map (·.2)
theorem mem_paOf {L : Fps} {a : Addr} : a ∈ paOf L ↔ (Kd.pa, a) ∈ L := by
  unfold paOf
  simp only [List.mem_map, List.mem_filter, decide_eq_true_eq]
  constructor
  · rintro ⟨⟨k, b⟩, ⟨h1, h2⟩, h3⟩
    have h2 : k = .pa := h2
    have h3 : b = a := h3
    subst h2 h3; exact h1
  · intro h; exact ⟨_, ⟨h, rfl⟩, rfl⟩
def coOf (L : Fps) : List Addr := (L.filter fun q => q.1 = .co).map (·.2)
theorem mem_coOf {L : Fps} {a : Addr} : a ∈ coOf L ↔ (Kd.co, a) ∈ L := by
  unfold coOf
  simp only [List.mem_map, List.mem_filter, decide_eq_true_eq]
  constructor
  · rintro ⟨⟨k, b⟩, ⟨h1, h2⟩, h3⟩
    have h2 : k = .co := h2
    have h3 : b = a := h3
    subst h2 h3; exact h1
  · intro h; exact ⟨_, ⟨h, rfl⟩, rfl⟩
theorem mem_loOf {L : Fps} {a : Addr} : a ∈ loOf L ↔ (Kd.lo, a) ∈ L := by
  unfold loOf
  simp only [List.mem_map, List.mem_filter, decide_eq_true_eq]
  constructor
  · rintro ⟨⟨k, b⟩, ⟨h1, h2⟩, h3⟩
    have h2 : k = .lo := h2
    have h3 : b = a := h3
    subst h2 h3; exact h1
  · intro h; exact ⟨_, ⟨h, rfl⟩, rfl⟩
def Base.re (B : Base) (F H : Hp) (L : Fps) : Base := ⟨F, H, paOf L, loOf L, coOf L, B.τ⟩
theorem Wd.re {B : Base} {F H : Hp} {L : Fps} (w : Wd B F H L) : Wd (B.re F H L) F H L :=
  ⟨w.nd, w.fr, w.fh, Ex.refl F, fun a o h _ _ => h, fun a o h => ⟨o, h⟩, fun a o h => .inl h, fun a ha => .inl (mem_paOf.mpr ha), fun a ha => .inl (mem_loOf.mpr ha), fun a ha => .inl (mem_coOf.mpr ha)⟩
theorem Wd.un {B : Base} {F H F' H' : Hp} {L L' : Fps} (w : Wd B F H L) (w' : Wd (B.re F H L) F' H' L') : Wd B F' H' L' := by
  refine ⟨w'.nd, w'.fr, w'.fh, w.bf.trans w'.bf, fun a o h hm hn => ?_, fun a o h => ?_, fun a o e => ?_, fun a ha => ?_, fun a ha => ?_, fun a ha => ?_⟩
  · refine w'.keep a o (w.keep a o h hm hn) (fun hp => ?_) fun hp => ?_
    · rcases w.own a (mem_paOf.mp hp) with z | z
      · exact hm z
      · rw [h] at z; cases z
    · rcases w.loc a (mem_loOf.mp hp) with z | z
      · exact hn z
      · rw [h] at z; cases z
  · obtain ⟨o', h'⟩ := w.there a o h
    exact w'.there a o' h'
  · rcases w'.new a o e with q | q
    · exact w.new a o q
    · right
      cases e2 : B.H a with
      | none => rfl
      | some u =>
        obtain ⟨o', h'⟩ := w.there a u e2
        have q : H a = none := q
        rw [q] at h'; cases h'
  · rcases w'.own a ha with q | q
    · exact w.own a (mem_paOf.mp q)
    · right
      cases e2 : B.H a with
      | none => rfl
      | some u =>
        obtain ⟨o', h'⟩ := w.there a u e2
        have q : H a = none := q
        rw [q] at h'; cases h'
  · rcases w'.loc a ha with q | q
    · exact w.loc a (mem_loOf.mp q)
    · right
      cases e2 : B.H a with
      | none => rfl
      | some u =>
        obtain ⟨o', h'⟩ := w.there a u e2
        have q : H a = none := q
        rw [q] at h'; cases h'
  · rcases w'.con a ha with q | q
    · exact w.con a (mem_coOf.mp q)
    · right
      cases e2 : B.H a with
      | none => rfl
      | some u =>
        obtain ⟨o', h'⟩ := w.there a u e2
        have q : H a = none := q
        rw [q] at h'; cases h'
def SApart (B : Base) (Γ : List Sl) (σ : St) (F H : Hp) (ρ : Env Γ) (D : Addr) : Prop := ∃ L, SRel Γ B.τ σ F H L ρ ∧ Wd B F H L ∧ (∀ k, (k, D) ∉ L) ∧ F D = none ∧ B.H D = none
theorem SApart.inv {B : Base} {Γ : List Sl} {σ : St} {F H : Hp} {ρ : Env Γ} {D : Addr} (S : SApart B Γ σ F H ρ D) : SInv B Γ σ F H ρ := let ⟨L, r, w, _⟩ := S; ⟨L, r, w⟩
theorem SInv.apart {B : Base} {Γ : List Sl} {σ : St} {F H : Hp} {ρ : Env Γ} {D : Addr} {o : HO} (I : SInv B Γ σ F H ρ) (hD : H D = none) : SApart B Γ σ F (upd H D o) ρ D := by
  obtain ⟨L, r, w⟩ := I
  have hn : ∀ k, (k, D) ∉ L := fun k hk => by
    obtain ⟨_, o, ho⟩ := w.fr k D hk
    rw [hD] at ho; cases ho
  refine ⟨L, r.ext (Ex.refl F) fun k a ha => upd_ne fun e => hn k (e ▸ ha), w.pext (Pext.own w.fh hD), hn, none_of w.fh hD, ?_⟩
  cases e : B.H D with
  | none => rfl
  | some u =>
    obtain ⟨o', h'⟩ := w.there D u e
    rw [hD] at h'; cases h'
theorem SApart.upd {B : Base} {Γ : List Sl} {σ : St} {F H : Hp} {ρ : Env Γ} {D : Addr} {o : HO} (S : SApart B Γ σ F H ρ D) : SApart B Γ σ F (upd H D o) ρ D := by
  obtain ⟨L, r, w, hn, hF, hB⟩ := S
  refine ⟨L, r.ext (Ex.refl F) fun k a ha => upd_ne fun e => hn k (e ▸ ha), ⟨w.nd, fun k a ha => ?_, fun a u e => ?_, w.bf, fun a u h h1 h2 => ?_, fun a u h => ?_, w.new, w.own, w.loc, w.con⟩, hn, hF, hB⟩
  · obtain ⟨h1, o', h2⟩ := w.fr k a ha
    exact ⟨h1, o', by
      have hne : a ≠ D := fun e => hn k (e ▸ ha)
      rw [upd_ne hne]; exact h2⟩
  · rw [upd_ne (ne_of_none e hF)]; exact w.fh a u e
  · rw [upd_ne (ne_of_none h hB)]; exact w.keep a u h h1 h2
  · rw [upd_ne (ne_of_none h hB)]; exact w.there a u h
theorem SApart.go {B : Base} {Γ : List Sl} {σ : St} {F H : Hp} {ρ : Env Γ} {D : Addr} {o : HO} (S : SApart B Γ σ F H ρ D) (hD : H D = some o) :
    ∃ B2 : Base, SInv B2 Γ σ F H ρ ∧ (∀ H', Frm B2 H' → Frm B H') ∧ ∀ (Γ' : List Sl) (σ' : St) (F' H' : Hp) (ρ' : Env Γ'), SInv B2 Γ' σ' F' H' ρ' → SApart B Γ' σ' F' H' ρ' D ∧ H' D = some o := by
  obtain ⟨L, r, w, hn, hF, hB⟩ := S
  refine ⟨B.re F H L, ⟨L, r, w.re⟩, fun H' f a u h h1 h2 => f a u (w.keep a u h h1 h2) (fun hp => ?_) fun hp => ?_, fun Γ' σ' F' H' ρ' ⟨L', r', w'⟩ => ?_⟩
  · rcases w.own a (mem_paOf.mp hp) with z | z
    · exact h1 z
    · rw [h] at z; cases z
  · rcases w.loc a (mem_loOf.mp hp) with z | z
    · exact h2 z
    · rw [h] at z; cases z
  · have k1 : H' D = some o := w'.keep D o hD (fun hp => hn _ (mem_paOf.mp hp)) fun hp => hn _ (mem_loOf.mp hp)
    have k2 : F' D = none := by
      cases e : F' D with
      | none => rfl
      | some u =>
        rcases w'.new D u e with z | z
        · have z : F D = some u := z
          rw [hF] at z; cases z
        · have z : H D = none := z
          rw [hD] at z; cases z
    refine ⟨⟨L', r', w.un w', fun k hk => ?_, k2, hB⟩, k1⟩
    cases k with
    | pa => rcases w'.own D hk with z | z
            · exact hn _ (mem_paOf.mp z)
            · have z : H D = none := z
              rw [hD] at z; cases z
    | lo => rcases w'.loc D hk with z | z
            · exact hn _ (mem_loOf.mp z)
            · have z : H D = none := z
              rw [hD] at z; cases z
    | co => rcases w'.con D hk with z | z
            · exact hn _ (mem_coOf.mp z)
            · have z : H D = none := z
              rw [hD] at z; cases z
end Pu
set_option Elab.async false
set_option linter.all false
set_option maxRecDepth 100000
set_option maxHeartbeats 4000000
namespace Pu
open PySem L2 Evl

/-! ### slots that nothing is known of -/
theorem SRel.agree {F H : Hp} : ∀ {Γ : List Sl} {τ σ σ2 : St} {L : Fps} {ρ : Env Γ}, SRel Γ τ σ F H L ρ → σ2.length = σ.length → (∀ (i : Nat) (s : Sl), Γ[i]? = some s → s ≠ Sl.no → σ2[i]? = σ[i]?) → SRel Γ τ σ2 F H L ρ
  | [], τ, σ, σ2, L, ρ, ⟨h1, h2⟩, hl, _ => ⟨by rw [h1] at hl; exact List.eq_nil_of_length_eq_zero hl, h2⟩
  | .no :: Γ, τ, σ, σ2, L, ρ, ⟨w, σ', e, h⟩, hl, k => by
    subst e
    cases σ2 with
    | nil => simp at hl
    | cons w2 σ3 => exact ⟨w2, σ3, rfl, SRel.agree h (by simpa using hl) fun i s hi hs => by simpa using k (i + 1) s (by simpa using hi) hs⟩
  | .da c :: Γ, τ, σ, σ2, L, ρ, ⟨w, σ', e, r, h⟩, hl, k => by
    subst e
    cases σ2 with
    | nil => simp at hl
    | cons w2 σ3 =>
      have e0 := k 0 (.da c) rfl (fun z => nomatch z)
      simp at e0
      subst e0
      exact ⟨w, σ3, rfl, r, SRel.agree h (by simpa using hl) fun i s hi hs => by simpa using k (i + 1) s (by simpa using hi) hs⟩
  | .m kd c :: Γ, τ, σ, σ2, L, ρ, ⟨w, σ', fp, L', e, e2, e3, r, h⟩, hl, k => by
    subst e
    cases σ2 with
    | nil => simp at hl
    | cons w2 σ3 =>
      have e0 := k 0 (.m kd c) rfl (fun z => nomatch z)
      simp at e0
      subst e0
      exact ⟨w, σ3, fp, L', rfl, e2, e3, r, SRel.agree h (by simpa using hl) fun i s hi hs => by simpa using k (i + 1) s (by simpa using hi) hs⟩
def Sl.isNo : Sl → Bool
  | .no => true
  | _ => false
def allNo (Γ : List Sl) (vs : List Nat) : Bool := vs.all fun i => match Γ[i]? with
  | some s => s.isNo
  | none => true
theorem wipe_get (σ : St) (i : Nat) : ∀ vs : List Nat, i ∉ vs → (wipe σ vs)[i]? = σ[i]?
  | [], _ => rfl
  | v :: vs, h => by
    have h1 : i ≠ v := fun e => h (by simp [e])
    have h2 : i ∉ vs := fun e => h (by simp [e])
    show ((wipe σ vs).set v none)[i]? = _
    rw [List.getElem?_set_ne (fun e => h1 e.symm), wipe_get σ i vs h2]
theorem wipe_in (σ : St) (i : Nat) : ∀ vs : List Nat, i ∈ vs → (wipe σ vs)[i]? = if i < σ.length then some none else none
  | v :: vs, h => by
    show ((wipe σ vs).set v none)[i]? = _
    by_cases e : v = i
    · subst e
      by_cases hl : v < σ.length
      · rw [if_pos hl, List.getElem?_set_self (by rw [wipe_length]; exact hl)]
      · rw [if_neg hl, List.getElem?_eq_none_iff.mpr (by rw [List.length_set, wipe_length]; omega)]
    · rw [List.getElem?_set_ne e]
      refine wipe_in σ i vs ?_
      rcases List.mem_cons.mp h with q | q
      · exact absurd q.symm e
      · exact q
theorem wipe_eq {σ σ2 : St} {vs : List Nat} (hl : σ2.length = σ.length) (h : ∀ i, i ∉ vs → σ2[i]? = σ[i]?) : wipe σ2 vs = wipe σ vs := by
  apply List.ext_getElem?
  intro i
  by_cases hi : i ∈ vs
  · rw [wipe_in _ _ _ hi, wipe_in _ _ _ hi, hl]
  · rw [wipe_get _ _ _ hi, wipe_get _ _ _ hi, h i hi]
theorem SRel.wiped {F H : Hp} {Γ : List Sl} {τ σ : St} {L : Fps} {ρ : Env Γ} {vs : List Nat} (hv : allNo Γ vs = true) (h : SRel Γ τ σ F H L ρ) : SRel Γ τ (wipe σ vs) F H L ρ :=
  h.agree (wipe_length _ _) fun i s hi hs => wipe_get _ _ _ fun hm => by
    have q := List.all_eq_true.mp hv i hm
    rw [hi] at q
    cases s with
    | no => exact hs rfl
    | da c => cases q
    | m k c => cases q
theorem SRel.unwiped {F H : Hp} {Γ : List Sl} {τ σ : St} {L : Fps} {ρ : Env Γ} {vs : List Nat} (hv : allNo Γ vs = true) (h : SRel Γ τ (wipe σ vs) F H L ρ) : SRel Γ τ σ F H L ρ :=
  h.agree (wipe_length _ _).symm fun i s hi hs => (wipe_get _ _ _ fun hm => by
    have q := List.all_eq_true.mp hv i hm
    rw [hi] at q
    cases s with
    | no => exact hs rfl
    | da c => cases q
    | m k c => cases q).symm
theorem SApart.wiped {B : Base} {F H : Hp} {Γ : List Sl} {σ : St} {ρ : Env Γ} {vs : List Nat} {D : Addr} (hv : allNo Γ vs = true) (h : SApart B Γ σ F H ρ D) : SApart B Γ (wipe σ vs) F H ρ D := let ⟨L, r, w, x⟩ := h; ⟨L, r.wiped hv, w, x⟩
theorem SApart.unwiped {B : Base} {F H : Hp} {Γ : List Sl} {σ : St} {ρ : Env Γ} {vs : List Nat} {D : Addr} (hv : allNo Γ vs = true) (h : SApart B Γ (wipe σ vs) F H ρ D) : SApart B Γ σ F H ρ D := let ⟨L, r, w, x⟩ := h; ⟨L, r.unwiped hv, w, x⟩
structure Bk (Γ1 Γ0 : List Sl) where
  f : Env Γ1 → Env Γ0
  ok : ∀ {τ σ : St} {F H : Hp} {L : Fps} {ρ : Env Γ1}, SRel Γ1 τ σ F H L ρ → ∃ L', SRel Γ0 τ σ F H L' (f ρ) ∧ L'.Sublist L
def Bk.id {Γ : List Sl} : Bk Γ Γ := ⟨fun ρ => ρ, fun h => ⟨_, h, List.Sublist.refl _⟩⟩
def Bk.drop {Γ Γ1 Γ0 : List Sl} {i : Nat} {s : Sl} (b : Bk Γ1 Γ0) (u : Up Γ i s .no Γ1) : Bk Γ Γ0 := ⟨fun ρ => b.f (u.set ρ ()), fun h => by
  obtain ⟨L1, h1, s1⟩ := h.drop u
  obtain ⟨L2, h2, s2⟩ := b.ok h1
  exact ⟨L2, h2, s2.trans s1⟩⟩
theorem Bk.inv {B : Base} {Γ Γ0 : List Sl} {σ : St} {F H : Hp} {ρ : Env Γ} (b : Bk Γ Γ0) (I : SInv B Γ σ F H ρ) : SInv B Γ0 σ F H (b.f ρ) := by
  obtain ⟨L, r, w⟩ := I
  obtain ⟨L', r', s⟩ := b.ok r
  exact ⟨L', r', w.sub s⟩
theorem Bk.apart {B : Base} {Γ Γ0 : List Sl} {σ : St} {F H : Hp} {ρ : Env Γ} {D : Addr} (b : Bk Γ Γ0) (I : SApart B Γ σ F H ρ D) : SApart B Γ0 σ F H (b.f ρ) D := by
  obtain ⟨L, r, w, hn, x⟩ := I
  obtain ⟨L', r', s⟩ := b.ok r
  exact ⟨L', r', w.sub s, fun k hk => hn k (s.subset hk), x⟩
structure Hd (Γ Γ0 : List Sl) where
  h : Env Γ → Env Γ0
  sh : Env Γ0 → Env Γ → Env Γ
  ok : ∀ {τ σ : St} {F H : Hp} {L : Fps} {ρ : Env Γ}, SRel Γ τ σ F H L ρ → SRel Γ0 τ σ F H L (h ρ)
  re : ∀ {τ σ : St} {F H F' H' : Hp} {L L' : Fps} {ρ : Env Γ} {ρ0 : Env Γ0}, SRel Γ τ σ F H L ρ → Ex F F' → SRel Γ0 τ σ F' H' L' ρ0 → SRel Γ τ σ F' H' L' (sh ρ0 ρ)
def Hd.id {Γ : List Sl} : Hd Γ Γ := ⟨fun ρ => ρ, fun ρ0 _ => ρ0, fun h => h, fun _ _ h => h⟩
theorem SRel.hide {F H : Hp} {c : DCod} : ∀ {Γ Γ' : List Sl} {i : Nat} (u : Up Γ i (.da c) .no Γ') {τ σ : St} {L : Fps} {ρ : Env Γ}, SRel Γ τ σ F H L ρ → SRel Γ' τ σ F H L (u.set ρ ())
  | _, _, _, .z, τ, σ, L, ρ, ⟨w, σ', e, _, h⟩ => ⟨some w, σ', e, h⟩
  | .no :: Γ, _, _, .s q, τ, σ, L, ρ, ⟨w, σ', e, h⟩ => ⟨w, σ', e, SRel.hide q h⟩
  | .da c' :: Γ, _, _, .s q, τ, σ, L, ρ, ⟨w, σ', e, hr, h⟩ => ⟨w, σ', e, hr, SRel.hide q h⟩
  | .m k c' :: Γ, _, _, .s q, τ, σ, L, ρ, ⟨w, σ', fp, L0, e, e2, e3, hr, h⟩ => ⟨w, σ', fp, L0, e, e2, e3, hr, SRel.hide q h⟩
theorem SRel.unhide {F H F' H' : Hp} {c : DCod} (eF : Ex F F') : ∀ {Γ Γ' : List Sl} {i : Nat} (u : Up Γ i (.da c) .no Γ') {τ σ : St} {L L' : Fps} {ρ : Env Γ} {ρ0 : Env Γ'}, SRel Γ τ σ F H L ρ → SRel Γ' τ σ F' H' L' ρ0 → SRel Γ τ σ F' H' L' (u.inv.set ρ0 (u.old ρ))
  | _, _, _, .z, τ, σ, L, L', ρ, ρ0, ⟨w, σ', e, r, h⟩, ⟨w2, σ2, e2, h2⟩ => ⟨w, σ', e, c.ext r eF, by rw [e] at e2; cases e2; exact h2⟩
  | .no :: Γ, _, _, .s q, τ, σ, L, L', ρ, ρ0, ⟨w, σ', e, h⟩, ⟨w2, σ2, e2, h2⟩ => ⟨w2, σ2, e2, SRel.unhide eF q (by rw [e] at e2; cases e2; exact h) h2⟩
  | .da c' :: Γ, _, _, .s q, τ, σ, L, L', ρ, ρ0, ⟨w, σ', e, hr, h⟩, ⟨w2, σ2, e2, hr2, h2⟩ => ⟨w2, σ2, e2, hr2, SRel.unhide eF q (by rw [e] at e2; cases e2; exact h) h2⟩
  | .m k c' :: Γ, _, _, .s q, τ, σ, L, L', ρ, ρ0, ⟨w, σ', fp, L0, e, _, _, hr, h⟩, ⟨w2, σ2, fp2, L2, e2, g2, g3, hr2, h2⟩ => ⟨w2, σ2, fp2, L2, e2, g2, g3, hr2, SRel.unhide eF q (by rw [e] at e2; cases e2; exact h) h2⟩
def Hd.one {Γ Γ1 Γ0 : List Sl} {i : Nat} {c : DCod} (b : Hd Γ1 Γ0) (u : Up Γ i (.da c) .no Γ1) : Hd Γ Γ0 := ⟨fun ρ => b.h (u.set ρ ()), fun ρ0 ρ => u.inv.set (b.sh ρ0 (u.set ρ ())) (u.old ρ), fun h => b.ok (h.hide u),
  fun h e h0 => SRel.unhide e u h (b.re (h.hide u) e h0)⟩

/-! ### comprehensions -/
def compL {α β S : Type} (body : α → S → Res (Option β × S)) : List α → S → Option (List β × S)
  | [], s => some ([], s)
  | x :: xs, s => match body x s with
    | .ok (o, s1) => (match compL body xs s1 with
      | some (ys, s2) => some (o.toList ++ ys, s2)
      | none => none)
    | _ => none
theorem compL_cons {α β S : Type} {body : α → S → Res (Option β × S)} {x : α} {xs : List α} {s s2 : S} {ys : List β} (h : compL body (x :: xs) s = some (ys, s2)) : ∃ o s1 ys', body x s = .ok (o, s1) ∧ compL body xs s1 = some (ys', s2) ∧ ys = o.toList ++ ys' := by
  unfold compL at h
  split at h
  · rename_i o s1 e
    split at h
    · rename_i ys' s2' e2
      cases h
      exact ⟨o, s1, ys', e, e2, rfl⟩
    · cases h
  · cases h
section
variable {p : Bool} {E : XK} {XC : Str → Value} {Rt : Ret} {Γ Γ' Γ0 Γ1 Γ2 ΓL : List Sl} {te ta tb tc : TE} {tt tu : TT} {tA : TA} {ti : TI} {tg : TG} {a b c d : DCod} {m : Cod} {cs : List DCod} {ts us : TS}
theorem pts_et : EvT p E XC Γ (fun σ H Q => Q true H) (fun R k ρ => k true ρ) := fun B σ F H ρ I R G hG k Q g q => q true ρ F H I (Gt.refl I.fh) g
theorem rs0 {R : Type} {B : Base} {G : Res R → Prop} (h1 : ¬ G .bad) (h2 : ∀ n, ¬ G (.exc n)) : Rs E0 XC B G := ⟨h1, fun n _ g _ => (h2 n g).elim⟩
theorem en_lc {vs is : List Nat} {q : Bool} {f : Env Γ0 → a.α → Env Γ1} {T0 : (R : Type) → (List a.α → Env Γ → Res R) → Env Γ → Res R} {Tt : (R : Type) → (Bool → Env Γ1 → Res R) → Env Γ1 → Res R} {Te : (R : Type) → (c.α → Env Γ1 → Res R) → Env Γ1 → Res R}
    (hd : Hd Γ Γ0) (hv : allNo Γ0 vs = true) (his : ∀ i, i ∈ is → i ∈ vs) (bk : Bk Γ1 Γ0) (h : EvI false E XC Γ ti a T0) (ht : TgE Γ0 tg a Γ1 f is) (hc : EvT q E0 XC Γ1 tt Tt) (he : EvE q E0 XC Γ1 te c Te) :
    EvN false E XC Γ (tLc ti tg tt te vs) (mLst c) (fun R k ρ => T0 R (fun xs ρ => opt (compL (fun x ρ0 => Tt _ (fun b ρ1 => if b = true then Te _ (fun y ρ2 => .ok (some y, bk.f ρ2)) ρ1 else .ok (none, bk.f ρ1)) (f ρ0 x)) xs (hd.h ρ)) fun ys => k ys.1 (hd.sh ys.2 ρ)) ρ) := fun B σ F H ρ I R G hG k Q g qq => by
  refine h B σ F H ρ I R G hG _ _ g fun xs ρ1 J F1 H1 I1 e1 w g1 hz D hD => ?_
  obtain ⟨Y, w, hy⟩ := w.ex
  generalize hcl : compL (fun x ρ0 => Tt _ (fun b ρ1 => if b = true then Te _ (fun y ρ2 => Res.ok (some y, bk.f ρ2)) ρ1 else Res.ok (none, bk.f ρ1)) (f ρ0 x)) xs (hd.h ρ1) = cl at g1
  cases cl with
  | none => exact absurd g1 hG.1
  | some ys =>
  obtain ⟨ys, ρe⟩ := ys
  have g1 : G (k ys (hd.sh ρe ρ1)) := g1
  have S1 : SApart B Γ σ F1 (upd H1 D (.lst [])) ρ1 D := I1.apart hD
  obtain ⟨L1, r1, w1, hn1, hF1, hB1⟩ := S1
  have S0 : SApart B Γ0 σ F1 (upd H1 D (.lst [])) (hd.h ρ1) D := ⟨L1, hd.ok r1, w1, hn1, hF1, hB1⟩
  refine lc_it w (fun i H' => i ≤ xs.length ∧ ∃ F' ρ0 acc vs' rest, SApart B Γ0 (wipe σ vs) F' H' ρ0 D ∧ Ex F1 F' ∧ H' D = some (.lst vs') ∧ PV c F' vs' acc ∧ acc.length ≤ i ∧ compL (fun x ρ0 => Tt _ (fun b ρ1 => if b = true then Te _ (fun y ρ2 => Res.ok (some y, bk.f ρ2)) ρ1 else Res.ok (none, bk.f ρ1)) (f ρ0 x)) (xs.drop i) ρ0 = some (rest, ρe) ∧ ys = acc ++ rest)
    ⟨Nat.zero_le _, F1, hd.h ρ1, [], [], ys, S0.wiped hv, Ex.refl _, upd_same, .nil, Nat.le_refl _, hcl, rfl⟩ (fun i H' _ ⟨_, F', _, _, _, _, S, e', _⟩ => e'.trans S.inv.fh) ?_ ?_
  · rintro i v H' H2 hi ⟨_, F', ρ0, acc, vs', rest, S, e', hDl, pv, hacc, hcl', hys⟩ y
    obtain ⟨F2, x, hx, pp, r⟩ := hy i H' v H2 F' y e' S.inv.fh
    obtain ⟨hlt, hxe⟩ := List.getElem?_eq_some_iff.mp hx
    have ed : xs.drop i = x :: xs.drop (i + 1) := by rw [← hxe]; exact (List.drop_eq_getElem_cons hlt)
    rw [ed] at hcl'
    obtain ⟨o, ρ3, ys', hbody, hrest, hrr⟩ := compL_cons hcl'
    obtain ⟨B2, I2, hfr, back⟩ := S.go hDl
    have I2' := I2.pext pp
    refine ht B2 _ F2 H2 ρ0 v x I2' r _ fun σ3 I3 hag hln => ⟨?_, ?_⟩
    · have ew : wipe σ3 vs = wipe (wipe σ vs) vs := wipe_eq hln fun j hj => hag j fun z => hj (his j z)
      rw [ew]
      exact wipe_eq (wipe_length _ _) fun j hj => wipe_get _ _ _ hj
    · refine hc B2 σ3 F2 H2 _ I3 _ (fun r => r = Res.ok (o, ρ3)) (rs0 (fun z => nomatch z) fun n z => nomatch z) _ _ hbody fun bb ρ4 F4 H4 I4 e4 g4 => ?_
      have hup : ∀ {Fz Hz : Hp} {ρz : Env Γ1}, SInv B2 Γ1 σ3 Fz Hz ρz → SApart B Γ0 (wipe σ vs) Fz Hz (bk.f ρz) D ∧ Hz D = some (.lst vs') := fun {Fz Hz ρz} Iz => by
        obtain ⟨Sz, hz⟩ := back _ _ _ _ _ (bk.inv Iz)
        have e3 : wipe σ3 vs = wipe σ vs := by
          have ew : wipe σ3 vs = wipe (wipe σ vs) vs := wipe_eq hln fun j hj => hag j fun z => hj (his j z)
          rw [ew]
          exact wipe_eq (wipe_length _ _) fun j hj => wipe_get _ _ _ hj
        have S2 := Sz.wiped hv
        rw [e3] at S2
        exact ⟨S2, hz⟩
      have hsl := sizeLine_eq
      cases bb with
      | true =>
        rw [if_pos rfl] at g4 ⊢
        refine he B2 σ3 F4 H4 ρ4 I4 _ (fun r => r = Res.ok (o, ρ3)) (rs0 (fun z => nomatch z) fun n z => nomatch z) _ _ g4 fun y ρ5 u F5 H5 I5 e5 r5 g5 => ?_
        cases g5
        obtain ⟨S5, h5⟩ := hup I5
        refine ⟨vs', h5, ?_, hlt, F5, _, acc ++ [y], vs' ++ [u], ys', S5.upd, ((e'.trans pp.ff).trans e4.1).trans e5.1, upd_same, (pv.ext ((pp.ff.trans e4.1).trans e5.1)).append (.cons r5 .nil), ?_, hrest, ?_⟩
        · rw [pv.length]; omega
        · rw [List.length_append]; show _ + 1 ≤ _; omega
        · rw [hys, hrr]; simp
      | false =>
        rw [if_neg (by decide)] at g4 ⊢
        cases g4
        obtain ⟨S5, h5⟩ := hup I4
        exact ⟨hlt, F4, _, acc, vs', ys', S5, (e'.trans pp.ff).trans e4.1, h5, pv.ext (pp.ff.trans e4.1), by omega, hrest, by rw [hys, hrr]; simp⟩
  · rintro H' ⟨_, F', ρ0, acc, vs', rest, S, e', hDl, pv, hacc, hcl', hys⟩
    rw [List.drop_length] at hcl'
    cases hcl'
    rw [List.append_nil] at hys
    subst hys
    have S2 := S.unwiped hv
    obtain ⟨L2, r2, w2, hn2, hF2, hB2⟩ := S2
    have r3 : SRel Γ B.τ σ F' H' L2 (hd.sh ρe ρ1) := hd.re r1 e' r2
    -- the heap without the new list
    have hne : ∀ a, a ≠ D → (fun b => if b = D then none else H' b : Hp) a = H' a := fun a ha => if_neg ha
    have hDn : (fun b => if b = D then none else H' b : Hp) D = none := if_pos rfl
    have w3 : Wd B F' (fun b => if b = D then none else H' b) L2 := ⟨w2.nd, fun k a ha => by
        obtain ⟨q1, o, q2⟩ := w2.fr k a ha
        exact ⟨q1, o, (hne a fun z => hn2 k (z ▸ ha)).trans q2⟩, fun a u hu => (hne a (ne_of_none hu hF2)).trans (w2.fh a u hu), w2.bf, fun a u hu h1 h2 => (hne a (ne_of_none hu hB2)).trans (w2.keep a u hu h1 h2),
        fun a u hu => by
          obtain ⟨o, ho⟩ := w2.there a u hu
          exact ⟨o, (hne a (ne_of_none hu hB2)).trans ho⟩, w2.new, w2.own, w2.loc, w2.con⟩
    have r4 : SRel Γ B.τ σ F' (fun b => if b = D then none else H' b) L2 (hd.sh ρe ρ1) := r3.ext (Ex.refl _) fun k a ha => hne a fun z => hn2 k (z ▸ ha)
    refine qq ys _ (.ref D) [D] F' _ F' H' ⟨L2, r4, w3⟩ ⟨e1.1.trans e', fun z => nomatch z⟩ ⟨fun a o ho => ?_, Ex.refl _, w2.fh, fun a o ho => .inl ho⟩ ⟨by simp, fun a ha => ?_⟩ ⟨D, vs', rfl, rfl, hDl, pv, ?_⟩ g1
    · by_cases ha : a = D
      · subst ha
        have ho : (none : Option HO) = some o := hDn.symm.trans ho
        cases ho
      · exact (hne a ha).symm.trans ho
    · have ha : a = D := by simpa using ha
      subst ha
      exact ⟨hDn, hF2, _, hDl⟩
    · have := hacc; omega
end
end Pu
set_option Elab.async false
set_option linter.all false
set_option maxRecDepth 100000
set_option maxHeartbeats 4000000
namespace Pu
open PySem L2 Evl

/-! ### == of data -/
structure Dq (K : PySem.W.Frag) (n : Nat) (c : DCod) where
  toD : c.α → PyData
  dec : DecidableEq c.α
  dp : ∀ {F H : Hp} {v : V} {x : c.α}, Ex F H → c.rel F v x → Dp K H v (toD x)
  lay : ∀ x, (toD x).canLay0 = true
  dep : ∀ x, (toD x).depth ≤ n
  eqv : ∀ x y, PyData.eqv (toD x) (toD y) = decide (x = y)
section
variable {K : PySem.W.Frag}
def dqInt : Dq K 0 dInt := ⟨fun i => .int i, inferInstance, fun _ h => by have h : _ = V.int _ := h; rw [h]; exact .int _, fun _ => by simp [PyData.canLay0], fun _ => by simp [PyData.depth], fun x y => by
  show ((x : Int) == y) = decide ((x : Int) = y)
  by_cases h : (x : Int) = y
  · rw [h]; simp
  · rw [decide_eq_false h]; exact beq_eq_false_iff_ne.mpr h⟩
def optDec {α : Type} (d : DecidableEq α) : DecidableEq (Option α) := inferInstance
def optD {c : DCod} {n : Nat} (q : Dq K n c) : Option c.α → PyData
  | none => .none
  | some y => q.toD y
def dqOpt {c : DCod} {n : Nat} (q : Dq K n c) (h1 : ∀ y, PyData.eqv .none (q.toD y) = false) (h2 : ∀ y, PyData.eqv (q.toD y) .none = false) : Dq K n (dOpt c) := ⟨optD q, optDec q.dec, fun {F H v x} e h => by
    cases x with
    | none => have h : v = V.non := h; rw [h]; exact .non
    | some y => exact q.dp e h.1, fun x => by
    cases x with
    | none => simp [optD, PyData.canLay0]
    | some y => exact q.lay y, fun x => by
    cases x with
    | none => simp [optD, PyData.depth]
    | some y => exact q.dep y, fun x y => by
    have d := q.dec
    cases x with
    | none => cases y with
      | none => rfl
      | some y => show PyData.eqv .none (q.toD y) = _; rw [h1]; rfl
    | some x => cases y with
      | none => show PyData.eqv (q.toD x) .none = _; rw [h2]; rfl
      | some y =>
        show PyData.eqv (q.toD x) (q.toD y) = _
        rw [q.eqv]
        by_cases e : x = y
        · rw [e]; simp
        · exact (@decide_eq_false (x = y) (q.dec x y) e).trans (@decide_eq_false _ (optDec q.dec (some x) (some y)) (fun z => e (Option.some.inj z))).symm⟩
def dqOI : Dq K 0 (dOpt dInt) := dqOpt dqInt (fun _ => rfl) (fun _ => rfl)
theorem dpAll {c : DCod} {n : Nat} (q : Dq K n c) {F H : Hp} (e : Ex F H) : ∀ {vs : List V} {xs : List c.α}, PV c F vs xs → DpAll K H vs (xs.map q.toD)
  | _, _, .nil => .nil
  | _, _, .cons r t => .cons (q.dp e r) (dpAll q e t)
theorem layAll {c : DCod} {n : Nat} (q : Dq K n c) : ∀ xs : List c.α, PyData.canLayAll0 (xs.map q.toD) = true
  | [] => by simp [PyData.canLayAll0]
  | x :: xs => by simp [PyData.canLayAll0, q.lay x, layAll q xs]
theorem depAll {c : DCod} {n : Nat} (q : Dq K n c) : ∀ xs : List c.α, PyData.depthAll (xs.map q.toD) ≤ n
  | [] => by simp [PyData.depthAll]
  | x :: xs => by
    have h1 := depAll q xs
    have h2 := q.dep x
    simp only [List.map_cons, PyData.depthAll]
    omega
theorem eqvAll_dec {c : DCod} {n : Nat} (q : Dq K n c) : ∀ xs ys : List c.α, PyData.eqvAll (xs.map q.toD) (ys.map q.toD) = (@decide (xs = ys) (@instDecidableEqList _ q.dec xs ys))
  | [], [] => rfl
  | [], y :: ys => rfl
  | x :: xs, [] => rfl
  | x :: xs, y :: ys => by
    have d := q.dec
    show (PyData.eqv (q.toD x) (q.toD y) && PyData.eqvAll (xs.map q.toD) (ys.map q.toD)) = _
    rw [q.eqv, eqvAll_dec q xs ys]
    by_cases h1 : x = y
    · by_cases h2 : xs = ys
      · subst h1 h2; simp
      · subst h1; simp [h2]
    · simp [h1]
def dqTup {c : DCod} {n : Nat} (q : Dq K n c) : Dq K (n + 1) (dTup c) := ⟨fun xs => .tuple (xs.map q.toD), @instDecidableEqList _ q.dec, fun e h => by
    obtain ⟨a, vs, h1, h2, h3, h4⟩ := h
    rw [h1]
    exact .tup (SqT.rd e h2) (dpAll q e h3), fun xs => by simp only [PyData.canLay0]; exact layAll q xs, fun xs => by simp only [PyData.depth]; have := depAll q xs; omega, fun x y => eqvAll_dec q x y⟩
def dqLst {c : DCod} {n : Nat} (q : Dq K n c) : Dq K (n + 1) (dLst c) := ⟨fun xs => .list (xs.map q.toD), @instDecidableEqList _ q.dec, fun e h => by
    obtain ⟨a, vs, h1, h2, h3, h4⟩ := h
    rw [h1]
    exact .lst (SqL.of (e a _ h2)) (dpAll q e h3), fun xs => by simp only [PyData.canLay0]; exact layAll q xs, fun xs => by simp only [PyData.depth]; have := depAll q xs; omega, fun x y => eqvAll_dec q x y⟩
def dqP2 {a b : DCod} {n : Nat} (q : Dq K n a) (r : Dq K n b) : Dq K (n + 1) (dP2 a b) := ⟨fun x => .tuple [q.toD x.1, r.toD x.2], @instDecidableEqProd _ _ q.dec r.dec, fun e h => by
    obtain ⟨p, u, w, h1, h2, h3, h4⟩ := h
    rw [h1]
    exact .tup (SqT.of (e p _ h2)) (.cons (q.dp e h3) (.cons (r.dp e h4) .nil)), fun x => by simp [PyData.canLay0, PyData.canLayAll0, q.lay, r.lay], fun x => by
    have h1 := q.dep x.1
    have h2 := r.dep x.2
    simp only [PyData.depth, PyData.depthAll]
    omega, fun x y => by
    have d1 := q.dec
    have d2 := r.dec
    show (PyData.eqv (q.toD x.1) (q.toD y.1) && (PyData.eqv (r.toD x.2) (r.toD y.2) && true)) = _
    rw [q.eqv, r.eqv]
    obtain ⟨x1, x2⟩ := x
    obtain ⟨y1, y2⟩ := y
    by_cases h1 : x1 = y1
    · by_cases h2 : x2 = y2
      · subst h1 h2; simp
      · subst h1; simp [h2]
    · simp [h1]⟩
theorem Dq.shaped {c : DCod} {n : Nat} (q : Dq K n c) (hn : n ≤ 64) (x : c.α) : SeqAt.shaped (q.toD x) = true := by
  show ((q.toD x).canLay0 && decide ((q.toD x).depth ≤ 64)) = true
  rw [Bool.and_eq_true]
  exact ⟨q.lay x, decide_eq_true (by have := q.dep x; omega)⟩
theorem o_eq {c : DCod} {n : Nat} (q : Dq K n c) (hn : n ≤ 64) : Op2 (rEqD K) c c dBl (fun x y => @decide (x = y) (q.dec x y)) := fun F H v w x y Q e h1 h2 k =>
  ⟨q.toD x, q.toD y, q.dp e h1, q.dp e h2, q.shaped hn x, q.shaped hn y, by rw [q.eqv]; exact k _ F H (Pext.refl e) rfl⟩
theorem o_ne {c : DCod} {n : Nat} (q : Dq K n c) (hn : n ≤ 64) : Op2 (rNeD K) c c dBl (fun x y => !@decide (x = y) (q.dec x y)) := fun F H v w x y Q e h1 h2 k =>
  ⟨q.toD x, q.toD y, q.dp e h1, q.dp e h2, q.shaped hn x, q.shaped hn y, by rw [q.eqv]; exact k _ F H (Pext.refl e) rfl⟩
/-! ### numbers -/
theorem o_int {g : Int → Int → Int} : Op2 (rI0 fun i j => .int (g i j)) dInt dInt dInt g := fun F H v w x y Q e h1 h2 k => ⟨x, y, h1, h2, k _ F H (Pext.refl e) rfl⟩
theorem o_cmp {g : Int → Int → Bool} : Op2 (rI0 fun i j => .bl (g i j)) dInt dInt dBl g := fun F H v w x y Q e h1 h2 k => ⟨x, y, h1, h2, k _ F H (Pext.refl e) rfl⟩
theorem o_intC {C : Int → Int → Prop} [∀ i j, Decidable (C i j)] {g : Int → Int → Int} : Op2P (rI C fun i j => .int (g i j)) dInt dInt dInt (fun x y => if C x y then some (g x y) else none) := fun F H v w x y z Q e h1 h2 hz k => by
  have hz : (if C x y then some (g x y) else none) = some z := hz
  by_cases hc : C x y
  · rw [if_pos hc] at hz
    cases hz
    exact ⟨x, y, h1, h2, hc, k _ F H (Pext.refl e) rfl⟩
  · rw [if_neg hc] at hz; cases hz
instance : ∀ i j, Decidable (CMul i j) := fun i j => by unfold CMul; exact inferInstance
instance : ∀ i j, Decidable (CDiv i j) := fun i j => by unfold CDiv; exact inferInstance
instance : ∀ i j, Decidable (CPow i j) := fun i j => by unfold CPow; exact inferInstance
theorem o_mod : Op2P (rI (fun _ j => 0 < j) fun i j => .int (i % j)) dInt dInt dInt (fun x y => if 0 < y then some (x % y) else none) := o_intC
theorem o_fdiv : Op2P (rI CDiv fun i j => .int (i / j)) dInt dInt dInt (fun x y => if CDiv x y then some (x / y) else none) := o_intC
theorem o_mul : Op2P (rI CMul fun i j => .int (i * j)) dInt dInt dInt (fun x y => if CMul x y then some (x * y) else none) := o_intC
theorem o_pow : Op2P (rI CPow fun i j => .int (i ^ j.toNat)) dInt dInt dInt (fun x y => if CPow x y then some (x ^ y.toNat) else none) := o_intC
theorem o_isN {c : DCod} : Op2 (fun x y H Q => y = .non ∧ Q (.bl (decide (x = .non))) H) (dOpt c) dNon dBl (fun x _ => x.isNone) := fun F H v w x y Q e h1 h2 k => by
  refine ⟨h2, ?_⟩
  cases x with
  | none => have h1 : v = V.non := h1; subst h1; exact k _ F H (Pext.refl e) rfl
  | some y => rw [decide_eq_false h1.2]; exact k _ F H (Pext.refl e) rfl
theorem o_notN {c : DCod} : Op2 (fun x y H Q => y = .non ∧ Q (.bl (!decide (x = .non))) H) (dOpt c) dNon dBl (fun x _ => x.isSome) := fun F H v w x y Q e h1 h2 k => by
  refine ⟨h2, ?_⟩
  cases x with
  | none => have h1 : v = V.non := h1; subst h1; exact k _ F H (Pext.refl e) rfl
  | some y => rw [decide_eq_false h1.2]; exact k _ F H (Pext.refl e) rfl
def absI (i : Int) : Int := if i < 0 then -i else i
theorem o_abs : Op1b (fun v H Q => ∃ i, v = [V.int i] ∧ Q (.int (if i < 0 then -i else i)) H) dInt dInt absI := fun F H v x Q e h k => ⟨x, by rw [show v = V.int x from h], k _ F H (Pext.refl e) rfl⟩
theorem o_intI : Op1b (fun v H Q => (∃ i, v = [V.int i] ∧ Q (.int i) H) ∨ ∃ b, v = [V.bl b] ∧ Q (.int (if b then 1 else 0)) H) dInt dInt (fun x => x) := fun F H v x Q e h k => .inl ⟨x, by rw [show v = V.int x from h], k _ F H (Pext.refl e) rfl⟩
theorem o_intB : Op1b (fun v H Q => (∃ i, v = [V.int i] ∧ Q (.int i) H) ∨ ∃ b, v = [V.bl b] ∧ Q (.int (if b then 1 else 0)) H) dBl dInt (fun x => if x then 1 else 0) := fun F H v x Q e h k => .inr ⟨x, by rw [show v = V.bl x from h], k _ F H (Pext.refl e) rfl⟩
/-! ### lists and tuples that are read -/
theorem o_lenL {c : DCod} : Op1b (fun v H Q => ∃ x n, v = [x] ∧ LenV K x H n ∧ Q (.int n) H) (dLst c) dInt (fun xs => (xs.length : Int)) := fun F H v x Q e h k => by
  obtain ⟨a, vs, rfl, h2, h3, h4⟩ := h
  exact ⟨_, vs.length, rfl, .inl ⟨vs, SqL.of (e a _ h2), rfl⟩, by rw [h3.length]; exact k _ F H (Pext.refl e) rfl⟩
theorem o_lenT {c : DCod} : Op1b (fun v H Q => ∃ x n, v = [x] ∧ LenV K x H n ∧ Q (.int n) H) (dTup c) dInt (fun xs => (xs.length : Int)) := fun F H v x Q e h k => by
  obtain ⟨a, vs, rfl, h2, h3, h4⟩ := h
  exact ⟨_, vs.length, rfl, .inr ⟨vs, SqT.rd e h2, rfl⟩, by rw [h3.length]; exact k _ F H (Pext.refl e) rfl⟩
theorem o_lenS {c : DCod} : Op1b (fun v H Q => ∃ x n, v = [x] ∧ LenV K x H n ∧ Q (.int n) H) (dSeq c) dInt (fun xs => (xs.length : Int)) := fun F H v x Q e h k => by
  obtain ⟨a, vs, rfl, h2, h3, h4⟩ := h
  refine ⟨_, vs.length, rfl, ?_, by rw [h3.length]; exact k _ F H (Pext.refl e) rfl⟩
  rcases h2 with h2 | h2
  · exact .inl ⟨vs, SqL.of (e a _ h2), rfl⟩
  · exact .inr ⟨vs, SqT.rd e h2, rfl⟩
theorem PV.atI {c : DCod} {F : Hp} {vs : List V} {xs : List c.α} {i : Int} {x : c.α} (h : PV c F vs xs) (hx : L2.atI xs i = some x) : ∃ v, L2.atI vs i = some v ∧ c.rel F v x := by
  unfold L2.atI at hx ⊢
  rw [h.length]
  cases e : ixN xs.length i with
  | none => rw [e] at hx; cases hx
  | some j => rw [e] at hx; exact h.get hx
theorem o_ixL {c : DCod} : Op2P (rIxL K) (dLst c) dInt c (fun xs i => L2.atI xs i) := fun F H v w x y z Q e h1 h2 hz k => by
  obtain ⟨a, vs, rfl, g2, g3, g4⟩ := h1
  obtain ⟨u, q1, q2⟩ := g3.atI hz
  exact ⟨a, vs, y, u, rfl, h2, SqL.of (e a _ g2), q1, k u F H (Pext.refl e) q2⟩
theorem o_ixT {c : DCod} : Op2P (rIxT K) (dTup c) dInt c (fun xs i => L2.atI xs i) := fun F H v w x y z Q e h1 h2 hz k => by
  obtain ⟨a, vs, rfl, g2, g3, g4⟩ := h1
  obtain ⟨u, q1, q2⟩ := g3.atI hz
  exact ⟨a, vs, y, u, rfl, h2, SqT.rd e g2, q1, k u F H (Pext.refl e) q2⟩
theorem o_p20 {a b : DCod} : Op2P (rIxT K) (dP2 a b) dInt a (fun x i => if i = 0 then some x.1 else none) := fun F H v w x y z Q e h1 h2 hz k => by
  obtain ⟨p, u, t, rfl, g2, g3, g4⟩ := h1
  have hz : (if (y : Int) = 0 then some x.1 else none) = some z := hz
  by_cases hy : (y : Int) = 0
  · rw [if_pos hy] at hz; cases hz
    exact ⟨p, [u, t], y, u, rfl, h2, SqT.of (e p _ g2), by rw [hy]; rfl, k u F H (Pext.refl e) g3⟩
  · rw [if_neg hy] at hz; cases hz
theorem o_p21 {a b : DCod} : Op2P (rIxT K) (dP2 a b) dInt b (fun x i => if i = 1 then some x.2 else none) := fun F H v w x y z Q e h1 h2 hz k => by
  obtain ⟨p, u, t, rfl, g2, g3, g4⟩ := h1
  have hz : (if (y : Int) = 1 then some x.2 else none) = some z := hz
  by_cases hy : (y : Int) = 1
  · rw [if_pos hy] at hz; cases hz
    exact ⟨p, [u, t], y, t, rfl, h2, SqT.of (e p _ g2), by rw [hy]; rfl, k t F H (Pext.refl e) g4⟩
  · rw [if_neg hy] at hz; cases hz
structure Fl (c : DCod) where
  dec : DecidableEq c.α
  flat : ∀ {F : Hp} {v : V} {x : c.α}, c.rel F v x → flatV v = true
  eq : ∀ {F : Hp} {v w : V} {x y : c.α}, c.rel F v x → c.rel F w y → eqV v w = decide (x = y)
def flInt : Fl dInt := ⟨inferInstance, fun h => by rw [show _ = V.int _ from h]; rfl, fun {F v w x y} h1 h2 => by
  rw [show v = V.int x from h1, show w = V.int y from h2]
  show ((x : Int) == y) = decide ((x : Int) = y)
  by_cases h : (x : Int) = y
  · rw [h]; simp
  · rw [decide_eq_false h]; exact beq_eq_false_iff_ne.mpr h⟩
def flOI : Fl (dOpt dInt) := ⟨inferInstance, fun {F v x} h => by
  cases x with
  | none => rw [show v = V.non from h]; rfl
  | some y => rw [show v = V.int y from h.1]; rfl, fun {F v w x y} h1 h2 => by
  cases x with
  | none =>
    rw [show v = V.non from h1]
    cases y with
    | none => rw [show w = V.non from h2]; rfl
    | some y => rw [show w = V.int y from h2.1]; rfl
  | some x =>
    rw [show v = V.int x from h1.1]
    cases y with
    | none => rw [show w = V.non from h2]; rfl
    | some y =>
      rw [show w = V.int y from h2.1]
      show ((x : Int) == y) = decide (some (x : Int) = some y)
      by_cases h : (x : Int) = y
      · rw [h]; simp
      · rw [decide_eq_false (fun z => h (Option.some.inj z))]; exact beq_eq_false_iff_ne.mpr h⟩
theorem fl_all {c : DCod} (q : Fl c) {F : Hp} : ∀ {vs : List V} {xs : List c.α}, PV c F vs xs → vs.all flatV = true
  | _, _, .nil => rfl
  | _, _, .cons r t => by rw [List.all_cons, q.flat r, fl_all q t]; rfl
theorem fl_in {c : DCod} (q : Fl c) {F : Hp} {v : V} {x : c.α} (r : c.rel F v x) : ∀ {vs : List V} {xs : List c.α}, PV c F vs xs → inV v vs = xs.any (fun y => @decide (y = x) (q.dec y x))
  | _, _, .nil => rfl
  | _, _, .cons r' t => by
    show (eqV _ v || inV v _) = _
    rw [fl_in q r t, q.eq r' r]
    rfl
def isIn {α : Type} (d : DecidableEq α) (x : α) (xs : List α) : Bool := xs.any fun y => @decide (y = x) (d y x)
theorem o_inT {c : DCod} (q : Fl c) (neg : Bool) : Op2 (rIn K neg) c (dTup c) dBl (fun x xs => if neg then !isIn q.dec x xs else isIn q.dec x xs) := fun F H v w x y Q e h1 h2 k => by
  obtain ⟨a, vs, rfl, g2, g3, g4⟩ := h2
  exact ⟨a, vs, rfl, .inr (SqT.rd e g2), q.flat h1, fl_all q g3, by rw [fl_in q h1 g3]; exact k _ F H (Pext.refl e) rfl⟩
theorem someI : ∀ (F : Hp) (v : V) (x : Int), dInt.rel F v x → (dOpt dInt).rel F v (some x) := fun F v x h => ⟨h, by rw [show v = V.int x from h]; exact fun z => nomatch z⟩
theorem noneI {c : DCod} : ∀ (F : Hp) (v : V) (x : Unit), dNon.rel F v x → (dOpt c).rel F v none := fun F v x h => h
theorem o_someI : ∀ (F : Hp) (v : V) (x : Option Int) (y : Int), (dOpt dInt).rel F v x → x = some y → dInt.rel F v y := fun F v x y h e => by subst e; exact h.1
theorem ints_of {F : Hp} : ∀ {vs : List V} {xs : List Int}, PV dInt F vs xs → vs = xs.map V.int
  | _, _, .nil => rfl
  | _, _, .cons r t => by rw [show _ = V.int _ from r, ints_of t]; rfl
theorem ints_to {F : Hp} : ∀ xs : List Int, PV dInt F (xs.map V.int) xs
  | [] => .nil
  | x :: xs => .cons rfl (ints_to xs)
theorem bls_of {F : Hp} : ∀ {vs : List V} {xs : List Bool}, PV dBl F vs xs → vs = xs.map V.bl
  | _, _, .nil => rfl
  | _, _, .cons r t => by rw [show _ = V.bl _ from r, bls_of t]; rfl
def maxI : List Int → Option Int
  | [] => none
  | x :: xs => some (xs.foldl (fun m y => if m < y then y else m) x)
theorem foldl_max (xs : List Int) : ∀ x : Int, (xs.foldl (fun m y => if m < y then y else m) x ∈ x :: xs) ∧ ∀ y ∈ x :: xs, y ≤ xs.foldl (fun m y => if m < y then y else m) x := by
  induction xs with
  | nil => intro x; simp
  | cons z zs ih =>
    intro x
    simp only [List.foldl_cons]
    obtain ⟨h1, h2⟩ := ih (if x < z then z else x)
    constructor
    · rcases List.mem_cons.mp h1 with h | h
      · rw [h]
        by_cases hz : x < z
        · rw [if_pos hz]; simp
        · rw [if_neg hz]; simp
      · simp [h]
    · intro y hy
      have hm := h2 _ List.mem_cons_self
      rcases List.mem_cons.mp hy with h | h
      · subst h
        refine Int.le_trans ?_ hm
        by_cases hz : y < z
        · rw [if_pos hz]; omega
        · rw [if_neg hz]; omega
      · rcases List.mem_cons.mp h with h | h
        · subst h
          refine Int.le_trans ?_ hm
          by_cases hz : x < y
          · rw [if_pos hz]; omega
          · rw [if_neg hz]; omega
        · exact h2 y (List.mem_cons_of_mem _ h)
theorem o_max : Op1bP (rMax K) (dLst dInt) dInt maxI := fun F H v x z Q e h hz k => by
  obtain ⟨a, vs, rfl, g2, g3, g4⟩ := h
  rw [ints_of g3] at g2
  cases x with
  | nil => cases hz
  | cons y ys =>
    have hz : some (ys.foldl (fun m y => if m < y then y else m) y) = some z := hz
    cases hz
    obtain ⟨f1, f2⟩ := foldl_max ys y
    refine ⟨a, y :: ys, rfl, SqL.of (e a _ g2), by simp, fun m hm hle => ?_⟩
    have hmm : m = ys.foldl (fun m y => if m < y then y else m) y := Int.le_antisymm (f2 m hm) (hle _ f1)
    rw [hmm]
    exact k _ F H (Pext.refl e) rfl
theorem o_any : Op1b (rAny K) (dLst dBl) dBl (fun xs => xs.any id) := fun F H v x Q e h k => by
  obtain ⟨a, vs, rfl, g2, g3, g4⟩ := h
  rw [bls_of g3] at g2
  exact ⟨a, x, rfl, SqL.of (e a _ g2), k _ F H (Pext.refl e) rfl⟩
end
end Pu
set_option Elab.async false
set_option linter.all false
set_option maxRecDepth 100000
set_option maxHeartbeats 4000000
namespace Pu
open PySem L2 Evl
section
variable {p q : Bool} {E : XK} {XC : Str → Value} {Rt : Ret} {K : PySem.W.Frag} {Γ Γ' Γ0 Γ1 Γ2 ΓL : List Sl} {te ta tb tc : TE} {tt tu : TT} {tA : TA} {ti : TI} {tg : TG} {a b c d : DCod} {m : Cod} {cs : List DCod} {ts us : TS}
/-! ### what is walked -/
theorem walks_of {J : It} {vs : List V} {xs : List c.α} {F : Hp} {G : Hp → Prop} (w : Walk J vs.length G (YAt vs)) (hG : ∀ H, Ex F H → G H) (pv : PV c F vs xs) : Walks J c xs F := by
  refine ⟨YAt vs, by rw [← pv.length]; exact w.mono hG fun i H x H' _ _ y => y, fun i H v H' F1 y e1 e2 => ?_⟩
  obtain ⟨rfl, hv⟩ := y
  obtain ⟨x, hx, r⟩ := pv.get' hv
  exact ⟨F1, x, hx, Pext.refl e2, c.ext r e1⟩
theorem ei_list {T : (R : Type) → (List c.α → Env Γ → Res R) → Env Γ → Res R} (h : EvE p E XC Γ te (dLst c) T) : EvI p E XC Γ (iList K te) c T := fun B σ F H ρ I R G hG k Q g qq =>
  h B σ F H ρ I R G hG k _ g fun xs ρ' v F' H' I' e r g' => by
    obtain ⟨a, vs, rfl, g2, g3, g4⟩ := r
    exact ⟨a, rfl, ⟨vs, SqL.of (I'.fh a _ g2)⟩, qq xs ρ' _ F' H' I' e (walks_of walk_list (fun H2 e2 => SqL.of (e2 a _ g2)) g3) g' g4⟩
theorem ei_tup {T : (R : Type) → (List c.α → Env Γ → Res R) → Env Γ → Res R} (h : EvE p E XC Γ te (dTup c) T) : EvI p E XC Γ (iTup K te) c T := fun B σ F H ρ I R G hG k Q g qq =>
  h B σ F H ρ I R G hG k _ g fun xs ρ' v F' H' I' e r g' => by
    obtain ⟨a, vs, rfl, g2, g3, g4⟩ := r
    exact ⟨a, rfl, ⟨vs, SqT.rd I'.fh g2⟩, qq xs ρ' _ F' H' I' e (walks_of walk_tup (fun H2 e2 => SqT.rd e2 g2) g3) g' g4⟩
def iEith (t u : TI) : TI := fun σ H R => t σ H R ∨ u σ H R
theorem ei_seqV {i : Nat} (at_ : At Γ i (.da (dSeq c))) : EvI p E XC Γ (iEith (iList K (tVar i)) (iTup K (tVar i))) c (fun R k ρ => k (at_.get ρ) ρ) := fun B σ F H ρ I R G hG k Q g qq => by
  obtain ⟨v, h1, h2⟩ := I.data at_
  obtain ⟨a, vs, rfl, g2, g3, g4⟩ := h2
  rcases g2 with g2 | g2
  · exact .inl ⟨_, h1, a, rfl, ⟨vs, SqL.of (I.fh a _ g2)⟩, qq _ ρ _ F H I (Gt.refl I.fh) (walks_of walk_list (fun H2 e2 => SqL.of (e2 a _ g2)) g3) g g4⟩
  · exact .inr ⟨_, h1, a, rfl, ⟨vs, SqT.rd I.fh g2⟩, qq _ ρ _ F H I (Gt.refl I.fh) (walks_of walk_tup (fun H2 e2 => SqT.rd e2 g2) g3) g g4⟩
def rngL (n : Int) : List Int := (List.range n.toNat).map Int.ofNat
def rng (n : Int) : Option (List Int) := if -(2 ^ 62) ≤ n ∧ n ≤ 16777216 then some (rngL n) else none
theorem walks_range {n : Int} {F : Hp} (h0 : n ≤ 16777216) : Walks (Itr 0 n.toNat) dInt (rngL n) F := by
  have hl : (rngL n).length = n.toNat := by unfold rngL; rw [List.length_map, List.length_range]
  refine ⟨fun i H v H' => i < n.toNat ∧ H' = H ∧ v = .int (0 + (i : Int)), by rw [hl]; exact walk_range.mono (fun _ _ => trivial) fun i H x H' hi _ y => ⟨hi, y⟩, fun i H v H' F1 y e1 e2 => ?_⟩
  obtain ⟨hi, rfl, rfl⟩ := y
  refine ⟨F1, (i : Int), ?_, Pext.refl e2, by show V.int (0 + (i : Int)) = V.int (i : Int); rw [Int.zero_add]⟩
  unfold rngL
  rw [List.getElem?_map, List.getElem?_range hi]
  rfl
theorem rngL_len {n : Int} (h : n ≤ 16777216) : (rngL n).length ≤ sizeLine := by
  have := sizeLine_eq
  unfold rngL
  rw [List.length_map, List.length_range]
  omega
theorem ei_rng1 {T : (R : Type) → (DEnv [dInt] → Env Γ → Res R) → Env Γ → Res R} (h : EvA p E XC Γ tA [dInt] T) : EvI p E XC Γ (iRng1 tA) dInt (fun R k ρ => T R (fun x ρ => opt (rng x.1) fun xs => k xs ρ) ρ) := fun B σ F H ρ I R G hG k Q g qq =>
  h B σ F H ρ I R G hG _ _ g fun x ρ' vs F' H' I' e r g' => by
    obtain ⟨v, vs', rfl, r1, r2⟩ := r
    have r2 : vs' = [] := r2
    obtain ⟨n, u⟩ := x
    have r1 : v = V.int n := r1
    subst r1 r2
    by_cases hx : -(2 ^ 62) ≤ (n : Int) ∧ (n : Int) ≤ 16777216
    · have hr : rng n = some (rngL n) := if_pos hx
      have g' : G (opt (rng n) fun xs => k xs ρ') := g'
      rw [hr] at g'
      have h1 : -(2 ^ 62) ≤ (n : Int) := hx.1
      have h2 : (n : Int) ≤ 16777216 := hx.2
      have h3 : (n : Int) < 2 ^ 62 := Int.lt_of_le_of_lt h2 (by decide)
      exact ⟨n, rfl, h1, h3, qq _ ρ' _ F' H' I' e (walks_range h2) g' (rngL_len h2)⟩
    · have hr : rng n = none := if_neg hx
      have g' : G (opt (rng n) fun xs => k xs ρ') := g'
      rw [hr] at g'
      exact absurd g' hG.1
def enumL {α : Type} (xs : List α) : List (Int × α) := xs.zipIdx.map fun x => ((x.2 : Int), x.1)
theorem enumL_len {α : Type} (xs : List α) : (enumL xs).length = xs.length := by unfold enumL; rw [List.length_map, List.length_zipIdx]
theorem enumL_get {α : Type} {xs : List α} {i : Nat} {x : α} (h : xs[i]? = some x) : (enumL xs)[i]? = some ((i : Int), x) := by
  unfold enumL
  rw [List.getElem?_map, List.getElem?_zipIdx, h]
  simp
theorem walks_enum {a : Addr} {vs : List V} {xs : List c.α} {F : Hp} {J : It} {G : Hp → Prop} (w : Walk J vs.length G (YPair (fun i => some (.int (i : Nat))) (fun i => vs[i]?))) (hG : ∀ H, Ex F H → G H) (pv : PV c F vs xs) : Walks J (dP2 dInt c) (enumL xs) F := by
  refine ⟨YPair (fun i => some (.int (i : Nat))) (fun i => vs[i]?), by rw [enumL_len, ← pv.length]; exact w.mono hG fun i H x H' _ _ y => y, fun i H v H' F1 y e1 e2 => ?_⟩
  obtain ⟨T, x, y, rfl, hT, rfl, hx, hy⟩ := y
  cases hx
  obtain ⟨z, hz, r⟩ := pv.get' hy
  exact ⟨_, ((i : Int), z), enumL_get hz, Pext.one e2 hT, T, .int (i : Int), y, rfl, upd_same, rfl, c.ext r (e1.trans (Ex.new (none_of e2 hT)))⟩
/-! ### new lists, tuples -/
theorem en_nil : EvN p E XC Γ (tLst tNil) (mLst c) (fun R k ρ => k [] ρ) := fun B σ F H ρ I R G hG k Q g qq => by
  refine ⟨by show 0 ≤ sizeLine; decide, fun l hl => qq [] ρ (.ref l) [l] F H F _ I (Gt.refl I.fh) (Pext.own I.fh hl) ⟨by simp, fun a ha => ?_⟩ ⟨l, [], rfl, rfl, upd_same, .nil, by show 0 ≤ sizeLine; decide⟩ g⟩
  have ha : a = l := by simpa using ha
  subst ha
  exact ⟨hl, none_of I.fh hl, _, upd_same⟩
def lstOf {c : DCod} : (n : Nat) → DEnv (List.replicate n c) → List c.α
  | 0, _ => []
  | n + 1, x => x.1 :: lstOf n x.2
theorem lstOf_len : (n : Nat) → (x : DEnv (List.replicate n c)) → (lstOf n x).length = n
  | 0, _ => rfl
  | n + 1, x => by show (lstOf n x.2).length + 1 = _; rw [lstOf_len n x.2]
theorem lstOf_rel {F : Hp} : (n : Nat) → (x : DEnv (List.replicate n c)) → (vs : List V) → DRel (List.replicate n c) F vs x → PV c F vs (lstOf n x)
  | 0, _, vs, h => by rw [show vs = [] from h]; exact .nil
  | n + 1, x, vs, h => by
    obtain ⟨v, vs', e, r, t⟩ := h
    rw [e]
    exact .cons r (lstOf_rel n x.2 vs' t)
theorem en_lst (n : Nat) (hn : n ≤ 1000) {T : (R : Type) → (DEnv (List.replicate n c) → Env Γ → Res R) → Env Γ → Res R} (h : EvA p E XC Γ tA (List.replicate n c) T) : EvN p E XC Γ (tLst tA) (mLst c) (fun R k ρ => T R (fun x ρ => k (lstOf n x) ρ) ρ) := fun B σ F H ρ I R G hG k Q g qq =>
  h B σ F H ρ I R G hG _ _ g fun x ρ' vs F' H' I' e r g' => by
    have hl2 := r.len
    rw [List.length_replicate] at hl2
    have hsz := sizeLine_eq
    refine ⟨by omega, fun l hl => qq _ ρ' (.ref l) [l] F' H' F' _ I' e (Pext.own I'.fh hl) ⟨by simp, fun a ha => ?_⟩ ⟨l, vs, rfl, rfl, upd_same, lstOf_rel n x vs r, by rw [lstOf_len]; omega⟩ g'⟩
    have ha : a = l := by simpa using ha
    subst ha
    exact ⟨hl, none_of I'.fh hl, _, upd_same⟩
theorem ev_tup (n : Nat) (hn : n ≤ 1000) {T : (R : Type) → (DEnv (List.replicate n c) → Env Γ → Res R) → Env Γ → Res R} (h : EvA p E XC Γ tA (List.replicate n c) T) : EvE p E XC Γ (tTup tA) (dTup c) (fun R k ρ => T R (fun x ρ => k (lstOf n x) ρ) ρ) := fun B σ F H ρ I R G hG k Q g qq =>
  h B σ F H ρ I R G hG _ _ g fun x ρ' vs F' H' I' e r g' => by
    have hl2 := r.len
    rw [List.length_replicate] at hl2
    have hsz := sizeLine_eq
    exact ⟨by omega, fun l hl => qq _ ρ' (.ref l) _ _ (I'.pext (Pext.one I'.fh hl)) (e.pext (Pext.one I'.fh hl)) ⟨l, vs, rfl, .inl upd_same, (lstOf_rel n x vs r).ext (Ex.new (none_of I'.fh hl)), by rw [lstOf_len]; omega⟩ g'⟩
theorem ev_p2 {T : (R : Type) → (DEnv [a, b] → Env Γ → Res R) → Env Γ → Res R} (h : EvA p E XC Γ tA [a, b] T) : EvE p E XC Γ (tTup tA) (dP2 a b) (fun R k ρ => T R (fun x ρ => k (x.1, x.2.1) ρ) ρ) := fun B σ F H ρ I R G hG k Q g qq =>
  h B σ F H ρ I R G hG _ _ g fun x ρ' vs F' H' I' e r g' => by
    obtain ⟨v, vs', rfl, r1, w, vs2, rfl, r2, r3⟩ := r
    have r3 : vs2 = [] := r3
    subst r3
    exact ⟨by show 2 ≤ sizeLine; decide, fun l hl => qq _ ρ' (.ref l) _ _ (I'.pext (Pext.one I'.fh hl)) (e.pext (Pext.one I'.fh hl)) ⟨l, v, w, rfl, upd_same, a.ext r1 (Ex.new (none_of I'.fh hl)), b.ext r2 (Ex.new (none_of I'.fh hl))⟩ g'⟩
theorem ev_p3 {T : (R : Type) → (DEnv [a, b, c] → Env Γ → Res R) → Env Γ → Res R} (h : EvA p E XC Γ tA [a, b, c] T) : EvE p E XC Γ (tTup tA) (dP3 a b c) (fun R k ρ => T R (fun x ρ => k (x.1, x.2.1, x.2.2.1) ρ) ρ) := fun B σ F H ρ I R G hG k Q g qq =>
  h B σ F H ρ I R G hG _ _ g fun x ρ' vs F' H' I' e r g' => by
    obtain ⟨v, vs', rfl, r1, w, vs2, rfl, r2, z, vs3, rfl, r3, r4⟩ := r
    have r4 : vs3 = [] := r4
    subst r4
    exact ⟨by show 3 ≤ sizeLine; decide, fun l hl => qq _ ρ' (.ref l) _ _ (I'.pext (Pext.one I'.fh hl)) (e.pext (Pext.one I'.fh hl)) ⟨l, v, w, z, rfl, upd_same, a.ext r1 (Ex.new (none_of I'.fh hl)), b.ext r2 (Ex.new (none_of I'.fh hl)), c.ext r3 (Ex.new (none_of I'.fh hl))⟩ g'⟩
theorem new_list {B : Base} {σ : St} {F H F0 H0 : Hp} {ρ ρ' : Env Γ} {R : Type} {G : Res R → Prop} {k : List c.α → Env Γ → Res R} {Q : VK} {l : Addr} {vs : List V} {xs : List c.α} (I : SInv B Γ σ F H ρ) (hl : H l = none) (pv : PV c F vs xs) (hz : xs.length ≤ sizeLine) (e : Gt p F0 F H0 H ρ' ρ) (g : G (k xs ρ))
    (qq : ∀ x ρ2 v fp F1 H1 F' H', SInv B Γ σ F1 H1 ρ2 → Gt p F0 F1 H0 H1 ρ' ρ2 → Pext F1 F' H1 H' → New fp H1 F' H' → (mLst c).rel F' H' fp v x → G (k x ρ2) → Q v H') : Q (.ref l) (upd H l (.lst vs)) := by
  refine qq xs ρ (.ref l) [l] F H F _ I e (Pext.own I.fh hl) ⟨by simp, fun a ha => ?_⟩ ⟨l, vs, rfl, rfl, upd_same, pv, hz⟩ g
  have ha : a = l := by simpa using ha
  subst ha
  exact ⟨hl, none_of I.fh hl, _, upd_same⟩
theorem rg_ok {n : Int} (h1 : -(2 ^ 62) ≤ n) (h2 : n ≤ 16777216) : RgOk 0 n := ⟨by decide, by decide, h1, Int.lt_of_le_of_lt h2 (by decide), by omega⟩
theorem rgV_rngL (n : Int) : rgV 0 n = (rngL n).map V.int := by
  unfold rgV rngL
  rw [List.map_map, Int.sub_zero]
  exact List.map_congr_left fun i _ => by show V.int (0 + (i : Int)) = V.int (i : Int); rw [Int.zero_add]
theorem en_listRg {Ta : (R : Type) → (Int → Env Γ → Res R) → Env Γ → Res R} (h : EvE p E XC Γ ta dInt Ta) : EvN p E XC Γ (tLstRg (tRg1 ta)) (mLst dInt) (fun R k ρ => Ta R (fun n ρ => opt (rng n) fun xs => k xs ρ) ρ) := fun B σ F H ρ I R G hG k Q g qq =>
  h B σ F H ρ I R G hG _ _ g fun n ρ' v F' H' I' e r g' => by
    by_cases hx : -(2 ^ 62) ≤ (n : Int) ∧ (n : Int) ≤ 16777216
    · have hr : rng n = some (rngL n) := if_pos hx
      rw [hr] at g'
      have h1 : -(2 ^ 62) ≤ (n : Int) := hx.1
      have h2 : (n : Int) ≤ 16777216 := hx.2
      have hsz := sizeLine_eq
      refine ⟨n, r, rg_ok h1 h2, fun l hl => ?_⟩
      have e2 : rgV 0 n = (rngL n).map V.int := rgV_rngL n
      rw [e2]
      exact new_list I' hl (ints_to _) (rngL_len h2) e g' qq
    · have hr : rng n = none := if_neg hx
      rw [hr] at g'
      exact absurd g' hG.1
theorem en_listS {r : List V → Hp → VK → Prop} (hr : r = fun xs H Q => ∃ p ys, xs = [V.ref p] ∧ (SqL K H p ys ∨ SqT K H p ys) ∧ ∀ l, H l = none → Q (.ref l) (upd H l (.lst ys))) {Ta : (R : Type) → (List c.α → Env Γ → Res R) → Env Γ → Res R} (h : EvE p E XC Γ ta (dSeq c) Ta) : EvN p E XC Γ (tCB r (tCons ta tNil)) (mLst c) Ta := fun B σ F H ρ I R G hG k Q g qq =>
  h B σ F H ρ I R G hG _ _ g fun xs ρ' v F' H' I' e r' g' => by
    obtain ⟨a, vs, rfl, g2, g3, g4⟩ := r'
    rw [hr]
    exact ⟨a, vs, rfl, g2.imp (fun z => SqL.of (I'.fh a _ z)) (fun z => SqT.rd I'.fh z), fun l hl => new_list I' hl g3 g4 e g' qq⟩
theorem PV.flat {F : Hp} {vs : List V} {xs : List c.α} (h : PV c F vs xs) : ∀ n : Nat, PV c F (List.replicate n vs).flatten (List.replicate n xs).flatten
  | 0 => .nil
  | n + 1 => by
    rw [List.replicate_succ, List.replicate_succ, List.flatten_cons, List.flatten_cons]
    exact h.append (PV.flat h n)
def catL {α : Type} (xs ys : List α) : Option (List α) := if xs.length + ys.length ≤ 16777216 then some (xs ++ ys) else none
theorem en_cat {Ta Tb : (R : Type) → (List c.α → Env Γ → Res R) → Env Γ → Res R} (ha : EvE p E XC Γ ta (dLst c) Ta) (hb : EvE p E XC Γ tb (dLst c) Tb) :
    EvN p E XC Γ (tOp rCat ta tb) (mLst c) (fun R k ρ => Ta R (fun xs ρ => Tb R (fun ys ρ => opt (catL xs ys) fun zs => k zs ρ) ρ) ρ) := fun B σ F H ρ I R G hG k Q g qq =>
  ha B σ F H ρ I R G hG _ _ g fun xs ρ1 v F1 H1 I1 e1 r1 g1 => hb B σ F1 H1 ρ1 I1 R G hG _ _ g1 fun ys ρ2 w F2 H2 I2 e2 r2 g2 => by
    obtain ⟨a, vs, rfl, q2, q3, q4⟩ := (dLst c).ext r1 e2.1
    obtain ⟨b, ws, rfl, s2, s3, s4⟩ := r2
    by_cases hx : xs.length + ys.length ≤ 16777216
    · have hr : catL xs ys = some (xs ++ ys) := if_pos hx
      rw [hr] at g2
      have hsz := sizeLine_eq
      exact ⟨a, b, vs, ws, rfl, rfl, I2.fh a _ q2, I2.fh b _ s2, by rw [q3.length, s3.length]; omega, fun l hl => new_list I2 hl (q3.append s3) (by rw [List.length_append]; omega) (e1.trans e2) g2 qq⟩
    · have hr : catL xs ys = none := if_neg hx
      rw [hr] at g2
      exact absurd g2 hG.1
/-! ### slices -/
section
variable (p : Bool) (E : XK) (XC : Str → Value)
def EvO (Γ : List Sl) (to : TO) (T : (R : Type) → (Option Int → Env Γ → Res R) → Env Γ → Res R) : Prop :=
  ∀ (B : Base) (σ : St) (F H : Hp) (ρ : Env Γ), SInv B Γ σ F H ρ → ∀ (R : Type) (G : Res R → Prop), Rs E XC B G → ∀ (k : Option Int → Env Γ → Res R) (Q : Option Int → Hp → Prop), G (T R k ρ) →
    (∀ x ρ' F' H', SInv B Γ σ F' H' ρ' → Gt p F F' H H' ρ ρ' → G (k x ρ') → Q x H') → to σ H Q
end
theorem eo_no : EvO p E XC Γ tNoPart (fun R k ρ => k none ρ) := fun B σ F H ρ I R G hG k Q g qq => qq none ρ F H I (Gt.refl I.fh) g
theorem eo_some {T : (R : Type) → (Int → Env Γ → Res R) → Env Γ → Res R} (h : EvE p E XC Γ te dInt T) : EvO p E XC Γ (tPart te) (fun R k ρ => T R (fun x ρ => k (some x) ρ) ρ) := fun B σ F H ρ I R G hG k Q g qq =>
  h B σ F H ρ I R G hG _ _ g fun x ρ' v F' H' I' e r g' => ⟨x, r, qq _ ρ' F' H' I' e g'⟩
def cutL {α : Type} (xs : List α) (lo hi : Option Int) : List α := (xs.drop (HT.sIx xs.length 0 lo)).take (HT.sIx xs.length xs.length hi - HT.sIx xs.length 0 lo)
theorem cutL_len {α : Type} (xs : List α) (lo hi : Option Int) : (cutL xs lo hi).length ≤ xs.length := by
  unfold cutL
  rw [List.length_take, List.length_drop]
  omega
theorem PV.cut {F : Hp} {vs : List V} {xs : List c.α} (h : PV c F vs xs) (lo hi : Option Int) : PV c F (cutV vs lo hi) (cutL xs lo hi) := by
  unfold cutV cutL
  rw [h.length]
  exact (h.drop _).take _
theorem ev_slT {to tu : TO} {T : (R : Type) → (List c.α → Env Γ → Res R) → Env Γ → Res R} {T1 T2 : (R : Type) → (Option Int → Env Γ → Res R) → Env Γ → Res R} (h : EvE p E XC Γ te (dTup c) T) (h1 : EvO p E XC Γ to T1) (h2 : EvO p E XC Γ tu T2) :
    EvE p E XC Γ (L2.tSl (rSlA K) te to tu) (dTup c) (fun R k ρ => T R (fun xs ρ => T1 R (fun lo ρ => T2 R (fun hi ρ => k (cutL xs lo hi) ρ) ρ) ρ) ρ) := fun B σ F H ρ I R G hG k Q g qq =>
  h B σ F H ρ I R G hG _ _ g fun xs ρ1 v F1 H1 I1 e1 r1 g1 => h1 B σ F1 H1 ρ1 I1 R G hG _ _ g1 fun lo ρ2 F2 H2 I2 e2 g2 => h2 B σ F2 H2 ρ2 I2 R G hG _ _ g2 fun hi ρ3 F3 H3 I3 e3 g3 => by
    obtain ⟨a, vs, rfl, q2, q3, q4⟩ := (dTup c).ext r1 (e2.1.trans e3.1)
    refine ⟨a, vs, rfl, SqT.rd I3.fh q2, fun hw => ?_, fun hw l hl => qq _ ρ3 (.ref l) _ _ (I3.pext (Pext.one I3.fh hl)) (((e1.trans e2).trans e3).pext (Pext.one I3.fh hl)) ⟨l, _, rfl, .inl upd_same, (q3.cut lo hi).ext (Ex.new (none_of I3.fh hl)), Nat.le_trans (cutL_len _ _ _) q4⟩ g3⟩
    refine qq _ ρ3 (.ref a) F3 H3 I3 ((e1.trans e2).trans e3) ⟨a, vs, rfl, q2, ?_, Nat.le_trans (cutL_len _ _ _) q4⟩ g3
    have w := q3.cut lo hi
    have ew : cutV vs lo hi = vs := by
      unfold cutV
      rw [hw.1, hw.2]
      simp
    rw [ew] at w
    exact w
/-! ### a list that changes, in a slot -/
theorem lst_step {B : Base} {σ : St} {F H : Hp} {ρ : Env Γ} {i : Nat} {k : Kd} (hk : k ≠ .co) (I : SInv B Γ σ F H ρ) (at_ : At Γ i (.m k (mLst c))) : ∃ l vs, σ[i]? = some (some (.ref l)) ∧ H l = some (.lst vs) ∧ PV c F vs (at_.get ρ) ∧ List.length (α := c.α) (at_.get ρ) ≤ sizeLine ∧
    ∀ vs' xs', PV c F vs' xs' → xs'.length ≤ sizeLine → SInv B Γ σ F (upd H l (.lst vs')) (at_.put ρ xs') := by
  obtain ⟨v, fp, h1, _, hr, nd, hfp, hst⟩ := I.mut at_
  obtain ⟨l, vs, rfl, rfl, hl, pv, hz⟩ := hr
  refine ⟨l, vs, h1, hl, pv, hz, fun vs' xs' pv' hz' => hst hk F _ [l] xs' ⟨Ex.refl _, fun a o ha => ?_, fun a o ha hm => ?_, fun a o ha => ?_, fun a o ha => .inl ha, by simp, fun a ha => ?_⟩ ⟨l, vs', rfl, rfl, upd_same, pv', hz'⟩⟩
  · have hne : a ≠ l := ne_of_none ha (hfp l (by simp)).1
    rw [upd_ne hne]; exact I.fh a o ha
  · rw [upd_ne (by simpa using hm)]; exact ha
  · by_cases he : a = l
    · subst he; exact ⟨_, upd_same⟩
    · exact ⟨o, by rw [upd_ne he]; exact ha⟩
  · have ha : a = l := by simpa using ha
    subst ha
    exact ⟨.inl (by simp), (hfp a (by simp)).1, _, upd_same⟩
def app1 {α : Type} (xs : List α) (x : α) : List α := xs ++ [x]
theorem app1_len {α : Type} (xs : List α) (x : α) : (app1 xs x).length = xs.length + 1 := by unfold app1; rw [List.length_append]; rfl
theorem st_app {i : Nat} {k : Kd} (hk : k ≠ .co) (at_ : At Γ i (.m k (mLst c))) {T : (R : Type) → (c.α → Env Γ → Res R) → Env Γ → Res R} (h : EvE p E XC Γ te c T) :
    StE E XC Rt Γ (tDrop (tBM K "list" rAppend (tVar i) (tCons te tNil))) Γ ΓL (fun R nx rt bk ct ρ => T R (fun x ρ => chk (decide (List.length (α := c.α) (at_.get ρ) < 16777216)) (nx (at_.put ρ (app1 (α := c.α) (at_.get ρ) x)))) ρ) := fun B σ F H ρ I R G hG nx rt bk ct D g qn qr qb qc => by
  obtain ⟨l0, vs0, h1, hl0, _⟩ := lst_step hk I at_
  refine ⟨.ref l0, h1, .inl ⟨rfl, vs0, SqL.of hl0⟩, h B σ F H ρ I R G hG _ _ g fun x ρ1 u F1 H1 I1 e1 r1 g1 => ?_⟩
  obtain ⟨l, vs, h2, hl, pv, hz, hs⟩ := lst_step hk I1 at_
  rw [h1] at h2
  cases h2
  by_cases hx : List.length (α := c.α) (at_.get ρ1) < 16777216
  · rw [decide_eq_true hx] at g1
    have hsz := sizeLine_eq
    have hpl := pv.length
    exact ⟨l0, vs, u, rfl, rfl, hl, by omega, qn _ σ F1 _ (hs (vs ++ [u]) (app1 (α := c.α) (at_.get ρ1) x) (pv.append (.cons r1 .nil)) (Nat.le_trans (Nat.le_of_eq (app1_len (α := c.α) (at_.get ρ1) x)) (by omega))) e1.1 g1⟩
  · rw [decide_eq_false hx] at g1
    exact absurd g1 hG.1
def setL {α : Type} (xs : List α) (i : Int) (x : α) : Option (List α) := match ixN xs.length i with
  | some j => some (xs.set j x)
  | none => none
theorem st_setIx {i : Nat} {k : Kd} (hk : k ≠ .co) (at_ : At Γ i (.m k (mLst c))) {T : (R : Type) → (c.α → Env Γ → Res R) → Env Γ → Res R} {Ti : (R : Type) → (Int → Env Γ → Res R) → Env Γ → Res R} (h : EvE p E XC Γ te c T) (hi : EvE p E XC Γ tb dInt Ti) :
    StE E XC Rt Γ (tAsg te (gSub (tVar i) tb rSetL)) Γ ΓL (fun R nx rt bk ct ρ => T R (fun x ρ => Ti R (fun j ρ => opt (setL (at_.get ρ) j x) fun xs => nx (at_.put ρ xs)) ρ) ρ) := fun B σ F H ρ I R G hG nx rt bk ct D g qn qr qb qc =>
  h B σ F H ρ I R G hG _ _ g fun x ρ1 u F1 H1 I1 e1 r1 g1 => by
    obtain ⟨l0, vs0, h1, _⟩ := lst_step hk I1 at_
    refine ⟨.ref l0, h1, hi B σ F1 H1 ρ1 I1 R G hG _ _ g1 fun j ρ2 w F2 H2 I2 e2 r2 g2 => ?_⟩
    obtain ⟨l, vs, h2, hl, pv, hz, hs⟩ := lst_step hk I2 at_
    rw [h1] at h2
    cases h2
    have g2 : G (opt (match ixN (List.length (α := c.α) (at_.get ρ2)) j with
      | some j => some (List.set (at_.get ρ2) j x)
      | none => none) fun xs => nx (at_.put ρ2 xs)) := g2
    rw [← pv.length] at g2
    cases hj : ixN vs.length j with
    | none => rw [hj] at g2; exact absurd g2 hG.1
    | some n =>
      rw [hj] at g2
      exact ⟨l0, vs, j, n, rfl, r2, hl, hj, qn _ σ F2 _ (hs _ _ (pv.set (c.ext r1 e2.1) n) (Nat.le_trans (Nat.le_of_eq (List.length_set (α := c.α))) hz)) (e1.1.trans e2.1) g2⟩
theorem rem_go {F H : Hp} {xs : List Int} {x : Int} {l : Addr} {u : V} {Q : VK} (hm : List.contains (α := Int) xs x = true) (r : dInt.rel F u x) (hl : H l = some (.lst (xs.map V.int))) (k : ∀ H', H' = upd H l (.lst ((List.erase (α := Int) xs x).map V.int)) → Q .non H') : rRemI (.ref l) [u] H Q := by
  have hmem : x ∈ xs := List.elem_iff.mp hm
  obtain ⟨j, j1, j2, j3, j4⟩ := first_at hmem
  exact ⟨l, xs, x, j, rfl, by rw [show u = V.int x from r], hl, j2, j3, k _ (by rw [j4])⟩
theorem st_rem {i : Nat} {k : Kd} (hk : k ≠ .co) (at_ : At Γ i (.m k (mLst dInt))) {T : (R : Type) → (Int → Env Γ → Res R) → Env Γ → Res R} (h : EvE p E XC Γ te dInt T) :
    StE E XC Rt Γ (tDrop (tBM K "list" rRemI (tVar i) (tCons te tNil))) Γ ΓL (fun R nx rt bk ct ρ => T R (fun x ρ => chk (List.contains (α := Int) (at_.get ρ) x) (nx (at_.put ρ (List.erase (α := Int) (at_.get ρ) x)))) ρ) := fun B σ F H ρ I R G hG nx rt bk ct D g qn qr qb qc => by
  obtain ⟨l0, vs0, h1, hl0, _⟩ := lst_step hk I at_
  refine ⟨.ref l0, h1, .inl ⟨rfl, vs0, SqL.of hl0⟩, h B σ F H ρ I R G hG _ _ g fun x ρ1 u F1 H1 I1 e1 r1 g1 => ?_⟩
  obtain ⟨l, vs, h2, hl, pv, hz, hs⟩ := lst_step hk I1 at_
  rw [h1] at h2
  cases h2
  generalize hxs : at_.get ρ1 = xs at g1 pv hz
  have xs' : List Int := xs
  have evs := ints_of pv
  cases hm : List.contains (α := Int) xs x with
  | false => rw [hm] at g1; exact absurd g1 hG.1
  | true =>
    rw [hm] at g1
    refine rem_go (Q := fun _ H' => D.nx σ H') hm r1 (by rw [← evs]; exact hl) fun H' hH' => ?_
    · rw [hH']
      exact qn _ σ F1 _ (hs _ _ (ints_to _) (Nat.le_trans (List.length_erase_le (α := Int)) hz)) e1.1 g1
theorem ev_ixM {i : Nat} {k : Kd} (at_ : At Γ i (.m k (mLst c))) {T : (R : Type) → (Int → Env Γ → Res R) → Env Γ → Res R} (h : EvE p E XC Γ tb dInt T) : EvE p E XC Γ (tOp (rIxL K) (tVar i) tb) c (fun R kk ρ => T R (fun j ρ => opt (L2.atI (at_.get ρ) j) fun x => kk x ρ) ρ) := fun B σ F H ρ I R G hG kk Q g qq => by
  obtain ⟨v, fp, h1, _, hr, _⟩ := I.mut at_
  refine ⟨v, h1, h B σ F H ρ I R G hG _ _ g fun j ρ1 w F1 H1 I1 e1 r1 g1 => ?_⟩
  obtain ⟨v', fp', h2, _, hr2, _⟩ := I1.mut at_
  rw [h1] at h2
  cases h2
  obtain ⟨l, vs, rfl, rfl, hl, pv, hz⟩ := hr2
  cases hj : L2.atI (α := c.α) (at_.get ρ1) j with
  | none =>
    have g1 : G (opt (L2.atI (α := c.α) (at_.get ρ1) j) fun x => kk x ρ1) := g1
    rw [hj] at g1
    exact absurd g1 hG.1
  | some x =>
    have g1 : G (opt (L2.atI (α := c.α) (at_.get ρ1) j) fun x => kk x ρ1) := g1
    rw [hj] at g1
    obtain ⟨u, q1, q2⟩ := pv.atI hj
    exact ⟨l, vs, j, u, rfl, r1, SqL.of hl, q1, qq x ρ1 u F1 H1 I1 e1 q2 g1⟩
theorem ev_lenM {i : Nat} {k : Kd} (at_ : At Γ i (.m k (mLst c))) : EvE p E XC Γ (tCB (fun xs H Q => ∃ x n, xs = [x] ∧ LenV K x H n ∧ Q (.int n) H) (tCons (tVar i) tNil)) dInt (fun R kk ρ => kk (List.length (α := c.α) (at_.get ρ) : Int) ρ) := fun B σ F H ρ I R G hG kk Q g qq => by
  obtain ⟨v, fp, h1, _, hr, _⟩ := I.mut at_
  obtain ⟨l, vs, rfl, rfl, hl, pv, hz⟩ := hr
  exact ⟨_, h1, _, vs.length, rfl, .inl ⟨vs, SqL.of hl, rfl⟩, qq _ ρ _ F H I (Gt.refl I.fh) (by rw [pv.length]) g⟩
theorem st_retL {i : Nat} (at_ : At Γ i (.m .lo (mLst c))) : StE E XC (retD (dLst c)) Γ (tRet (tVar i)) Γ' ΓL (fun R nx rt bk ct ρ => rt (at_.get ρ) ()) := fun B σ F H ρ I R G hG nx rt bk ct D g qn qr qb qc => by
  obtain ⟨v, fp, h1, _, hr, nd, hfp, _⟩ := I.mut at_
  obtain ⟨l, vs, rfl, rfl, hl, pv, hz⟩ := hr
  obtain ⟨f1, _, _, f4⟩ := hfp l (by simp)
  refine ⟨_, h1, qr _ () _ (upd F l (.lst vs)) H (fun hM hN => ?_) ⟨l, vs, rfl, upd_same, pv.ext (Ex.new f1), hz⟩ g⟩
  have pp := I.pextB hM hN
  refine ⟨pp.hh, pp.ff.trans (Ex.new f1), fun a o ha => ?_, fun a o ha => ?_⟩
  · by_cases he : a = l
    · subst he; rw [upd_same] at ha; cases ha; exact hl
    · rw [upd_ne he] at ha; exact I.fh a o ha
  · by_cases he : a = l
    · subst he
      rcases f4 rfl with z | z
      · rw [hN] at z; cases z
      · exact .inr z
    · rw [upd_ne he] at ha; exact pp.new a o ha
end
end Pu
set_option Elab.async false
set_option linter.all false
set_option maxRecDepth 100000
set_option maxHeartbeats 4000000
namespace Pu
open PySem L2 Evl
/-! ### a thing that becomes another -/
theorem SRel.mutU {F H : Hp} {k : Kd} {c c' : Cod} : ∀ {Γ Γ' : List Sl} {i : Nat} (u : Up Γ i (.m k c) (.m k c') Γ') {τ σ : St} {L : Fps} {ρ : Env Γ}, SRel Γ τ σ F H L ρ → ∃ v fp L1 L2, σ[i]? = some (some v) ∧ L = L1 ++ tag k fp ++ L2 ∧ c.rel F H fp v (u.old ρ) ∧
    ∀ F' H' fp' x', Ex F F' → (∀ k a, (k, a) ∈ L1 ++ L2 → H' a = H a) → c'.rel F' H' fp' v x' → SRel Γ' τ σ F' H' (L1 ++ tag k fp' ++ L2) (u.set ρ x')
  | _, _, _, .z, τ, σ, L, ρ, ⟨v, σ', fp, L', e, e2, e3, r, h⟩ => ⟨v, fp, [], L', by rw [e]; rfl, e3, r, fun F' H' fp' x' eF kk r' => ⟨v, σ', fp', L', e, e2, rfl, r', h.ext eF kk⟩⟩
  | .no :: Γ, _, _, .s r, τ, σ, L, ρ, ⟨w, σ', e, h⟩ => by
    obtain ⟨v, fp, L1, L2, h1, h3, h4, h5⟩ := SRel.mutU r h
    exact ⟨v, fp, L1, L2, by rw [e]; simpa using h1, h3, h4, fun F' H' fp' x' eF kk r' => ⟨w, σ', e, h5 F' H' fp' x' eF kk r'⟩⟩
  | .da c0 :: Γ, _, _, .s r, τ, σ, L, ρ, ⟨w, σ', e, hr, h⟩ => by
    obtain ⟨v, fp, L1, L2, h1, h3, h4, h5⟩ := SRel.mutU r h
    exact ⟨v, fp, L1, L2, by rw [e]; simpa using h1, h3, h4, fun F' H' fp' x' eF kk r' => ⟨w, σ', e, c0.ext hr eF, h5 F' H' fp' x' eF kk r'⟩⟩
  | .m k' c0 :: Γ, _, _, .s r, τ, σ, L, ρ, ⟨w, σ', fp0, L', e, e2, e3, hr, h⟩ => by
    obtain ⟨v, fp, L1, L2, h1, h3, h4, h5⟩ := SRel.mutU r h
    refine ⟨v, fp, tag k' fp0 ++ L1, L2, by rw [e]; simpa using h1, by rw [e3, h3]; simp [List.append_assoc], h4, fun F' H' fp' x' eF kk r' => ⟨w, σ', fp0, L1 ++ tag k fp' ++ L2, e, e2, by simp [List.append_assoc], c0.ext hr eF fun a ha => kk k' a ?_, h5 F' H' fp' x' eF (fun q a ha => kk q a ?_) r'⟩⟩
    · simp only [List.append_assoc]
      exact List.mem_append_left _ (List.mem_map.mpr ⟨a, ha, rfl⟩)
    · simp only [List.append_assoc]
      exact List.mem_append_right _ ha
theorem SInv.mutU {B : Base} {Γ Γ' : List Sl} {σ : St} {F H : Hp} {ρ : Env Γ} {k : Kd} {c c' : Cod} {i : Nat} (I : SInv B Γ σ F H ρ) (u : Up Γ i (.m k c) (.m k c') Γ') (hk : k ≠ .co) :
    ∃ v fp, σ[i]? = some (some v) ∧ c.rel F H fp v (u.old ρ) ∧ fp.Nodup ∧ (∀ a, a ∈ fp → F a = none ∧ (∃ o, H a = some o)) ∧
      (∀ F' H' fp' x', Step F H fp F' H' fp' → c'.rel F' H' fp' v x' → SInv B Γ' σ F' H' (u.set ρ x')) := by
  obtain ⟨L, r, w⟩ := I
  obtain ⟨v, fp, L1, L2, h1, h3, h4, h5⟩ := r.mutU u
  subst h3
  have hin : ∀ a, a ∈ fp → (k, a) ∈ L1 ++ tag k fp ++ L2 := fun a ha => by
    simp only [List.mem_append]
    exact .inl (.inr (mem_tag.mpr ⟨rfl, ha⟩))
  have nd := w.nd
  rw [List.map_append, List.map_append, tag_map] at nd
  have nd1 := List.nodup_append.mp nd
  have nd2 := List.nodup_append.mp nd1.1
  refine ⟨v, fp, h1, h4, nd2.2.1, fun a ha => w.fr k a (hin a ha), fun F' H' fp' x' st r' => ?_⟩
  have hrest : ∀ k' a, (k', a) ∈ L1 ++ L2 → ∃ o, H a = some o ∧ H' a = some o ∧ a ∉ fp := fun k' a ha => by
    have hm : (k', a) ∈ L1 ++ tag k fp ++ L2 := by
      simp only [List.mem_append] at ha ⊢
      rcases ha with ha | ha
      · exact .inl (.inl ha)
      · exact .inr ha
    obtain ⟨_, o, ho⟩ := w.fr k' a hm
    have hnot : a ∉ fp := fun hf => by
      simp only [List.mem_append] at ha
      rcases ha with ha | ha
      · exact nd2.2.2 a (List.mem_map.mpr ⟨_, ha, rfl⟩) a hf rfl
      · exact nd1.2.2 a (List.mem_append_right _ hf) a (List.mem_map.mpr ⟨_, ha, rfl⟩) rfl
    exact ⟨o, ho, st.keep a o ho hnot, hnot⟩
  refine ⟨L1 ++ tag k fp' ++ L2, h5 F' H' fp' x' st.ff (fun k' a ha => ?_) r', ?_⟩
  · obtain ⟨o, g1, g2, _⟩ := hrest k' a ha
    rw [g1, g2]
  · have cases_ : ∀ k' a, (k', a) ∈ L1 ++ tag k fp' ++ L2 → (k', a) ∈ L1 ++ L2 ∨ (k' = k ∧ a ∈ fp') := fun k' a ha => by
      simp only [List.mem_append] at ha ⊢
      rcases ha with (ha | ha) | ha
      · exact .inl (.inl ha)
      · exact .inr (mem_tag.mp ha)
      · exact .inl (.inr ha)
    have old : ∀ k' a, (k', a) ∈ L1 ++ L2 → (k', a) ∈ L1 ++ tag k fp ++ L2 := fun k' a ha => by
      simp only [List.mem_append] at ha ⊢
      rcases ha with ha | ha
      · exact .inl (.inl ha)
      · exact .inr ha
    have back : ∀ a, H a = none → B.H a = none := fun a z => by
      cases e2 : B.H a with
      | none => rfl
      | some u =>
        obtain ⟨o', h'⟩ := w.there a u e2
        rw [z] at h'; cases h'
    refine ⟨?_, fun k' a ha => ?_, st.fh, w.bf.trans st.ff, fun a o h hm hn => ?_, fun a o h => ?_, fun a o e => ?_, fun a ha => ?_, fun a ha => ?_, fun a ha => ?_⟩
    · rw [List.map_append, List.map_append, tag_map]
      have dis : ∀ a, a ∈ fp' → ∀ k' , (k', a) ∈ L1 ++ L2 → False := fun a ha k' hm => by
        obtain ⟨o, g1, g2, g3⟩ := hrest k' a hm
        rcases (st.own a ha).1 with q | q
        · exact g3 q
        · rw [g1] at q; cases q
      refine List.nodup_append.mpr ⟨List.nodup_append.mpr ⟨nd2.1, st.nd, fun a ha b hb e => ?_⟩, nd1.2.1, fun a ha b hb e => ?_⟩
      · subst e
        obtain ⟨q, hq, e⟩ := List.mem_map.mp ha
        obtain ⟨k', a'⟩ := q
        have e : a' = a := e
        subst e
        exact dis a' hb k' (List.mem_append_left _ hq)
      · subst e
        obtain ⟨q, hq, e⟩ := List.mem_map.mp hb
        obtain ⟨k', a'⟩ := q
        have e : a' = a := e
        subst e
        rcases List.mem_append.mp ha with ha | ha
        · exact nd1.2.2 a' (List.mem_append_left _ ha) a' hb rfl
        · exact dis a' ha k' (List.mem_append_right _ hq)
    · rcases cases_ k' a ha with q | ⟨_, q⟩
      · obtain ⟨o, g1, g2, _⟩ := hrest k' a q
        refine ⟨?_, o, g2⟩
        have g0 := (w.fr k' a (old k' a q)).1
        cases e : F' a with
        | none => rfl
        | some u =>
          rcases st.new a u e with z | z
          · rw [g0] at z; cases z
          · rw [g1] at z; cases z
      · exact (st.own a q).2
    · by_cases hf : a ∈ fp
      · exfalso
        cases k with
        | pa =>
          rcases w.own a (hin a hf) with z | z
          · exact hm z
          · rw [h] at z; cases z
        | lo =>
          rcases w.loc a (hin a hf) with z | z
          · exact hn z
          · rw [h] at z; cases z
        | co => exact hk rfl
      · exact st.keep a o (w.keep a o h hm hn) hf
    · obtain ⟨o', h'⟩ := w.there a o h
      exact st.there a o' h'
    · rcases st.new a o e with q | q
      · exact w.new a o q
      · exact .inr (back a q)
    · rcases cases_ _ a ha with q | ⟨e, q⟩
      · exact w.own a (old _ a q)
      · subst e
        rcases (st.own a q).1 with z | z
        · exact w.own a (hin a z)
        · exact .inr (back a z)
    · rcases cases_ _ a ha with q | ⟨e, q⟩
      · exact w.loc a (old _ a q)
      · subst e
        rcases (st.own a q).1 with z | z
        · exact w.loc a (hin a z)
        · exact .inr (back a z)
    · rcases cases_ _ a ha with q | ⟨e, q⟩
      · exact w.con a (old _ a q)
      · exact absurd e.symm hk
/-! ### instances -/
abbrev mObj (C : Addr) (names : List Str) (Γf : List Sl) : Cod := ⟨Env Γf, fun F H fp v x => ∃ p dx vs fp', v = .ref p ∧ H p = some (.ins C dx (names.zip vs)) ∧ fp = p :: fp' ∧ vs.length = names.length ∧ SRel Γf [] (vs.map some) F H (tag .lo fp') x,
  fun {F F' H H' fp v x} h e k => let ⟨p, dx, vs, fp', h1, h2, h3, h4, h5⟩ := h; ⟨p, dx, vs, fp', h1, by rw [k p (by rw [h3]; simp)]; exact h2, h3, h4, h5.ext e fun k' a ha => k a (by rw [h3]; exact List.mem_cons_of_mem _ (mem_tag.mp ha).2)⟩⟩
def Env.snoc {s : Sl} : (Γf : List Sl) → Env Γf → s.α → Env (Γf ++ [s])
  | [], _, x => (x, ())
  | _ :: Γf, ρ, x => (ρ.1, Env.snoc Γf ρ.2 x)
theorem SRel.snocD {F H : Hp} {c : DCod} {v : V} {x : c.α} (r : c.rel F v x) : ∀ {Γf : List Sl} {τ σ : St} {L : Fps} {ρ : Env Γf}, SRel Γf τ σ F H L ρ → SRel (Γf ++ [Sl.da c]) τ (σ ++ [some v]) F H L (Env.snoc (s := Sl.da c) Γf ρ x)
  | [], τ, σ, L, ρ, ⟨h1, h2⟩ => ⟨v, [], by rw [h1]; rfl, r, rfl, h2⟩
  | .no :: Γ, τ, σ, L, ρ, ⟨w, σ', e, h⟩ => ⟨w, σ' ++ [some v], by rw [e]; rfl, h.snocD r⟩
  | .da c0 :: Γ, τ, σ, L, ρ, ⟨w, σ', e, hr, h⟩ => ⟨w, σ' ++ [some v], by rw [e]; rfl, hr, h.snocD r⟩
  | .m k' c0 :: Γ, τ, σ, L, ρ, ⟨w, σ', fp0, L', e, e2, e3, hr, h⟩ => ⟨w, σ' ++ [some v], fp0, L', by rw [e]; rfl, e2, e3, hr, h.snocD r⟩
theorem putF_new {f : Str} {y : V} : ∀ {names : List Str} (vs : List V), names.contains f = false → vs.length = names.length → putF f y (names.zip vs) = (names ++ [f]).zip (vs ++ [y])
  | [], vs, _, hl => by
    have : vs = [] := List.eq_nil_of_length_eq_zero hl
    subst this; rfl
  | n :: ns, [], _, hl => by simp at hl
  | n :: ns, v :: vs, hn, hl => by
    simp only [List.contains_cons, Bool.or_eq_false_iff] at hn
    have hne : ¬ n = f := fun e => by
      rw [e] at hn
      simp at hn
    show (if n = f then (n, y) :: ns.zip vs else (n, v) :: putF f y (ns.zip vs)) = (n, v) :: (ns ++ [f]).zip (vs ++ [y])
    rw [if_neg hne, putF_new vs hn.2 (by simpa using hl)]
section
variable {p : Bool} {E : XK} {XC : Str → Value} {Rt : Ret} {K : PySem.W.Frag} {Γ Γ' Γ0 Γ1 Γ2 ΓL Γf : List Sl} {te ta tb tc : TE} {tt tu : TT} {tA : TA} {ti : TI} {tg : TG} {a b c d : DCod} {m : Cod} {cs : List DCod} {ts us : TS} {C : Addr} {names : List Str}
theorem st_fldD {i : Nat} {k : Kd} {f : Str} (hk : k ≠ .co) (u : Up Γ i (.m k (mObj C names Γf)) (.m k (mObj C (names ++ [f]) (Γf ++ [Sl.da c]))) Γ') (hc : Cls K C) (hn : NoAttr K C f) (hf : names.contains f = false) (hl : names.length < 900) {T : (R : Type) → (c.α → Env Γ → Res R) → Env Γ → Res R} (h : EvE p E XC Γ te c T) :
    StE E XC Rt Γ (sFld K (tVar i) te f) Γ' ΓL (fun R nx rt bk ct ρ => T R (fun x ρ => nx (u.set ρ (Env.snoc (s := Sl.da c) Γf (u.old ρ) x))) ρ) := fun B σ F H ρ I R G hG nx rt bk ct D g qn qr qb qc =>
  h B σ F H ρ I R G hG _ _ g fun x ρ1 y F1 H1 I1 e1 r1 g1 => by
    obtain ⟨v, fp, h1, hr, nd, hfp, hst⟩ := I1.mutU u hk
    obtain ⟨q, dx, vs, fp', rfl, hq, rfl, hvl, hs⟩ := hr
    refine ⟨_, h1, q, C, dx, _, rfl, hq, hc, hn, by rw [List.length_zip]; omega, ?_⟩
    rw [putF_new vs hf hvl]
    refine qn _ σ F1 _ (hst F1 _ (q :: fp') _ ⟨Ex.refl _, fun a o ha => ?_, fun a o ha hm => ?_, fun a o ha => ?_, fun a o ha => .inl ha, nd, fun a ha => ?_⟩ ⟨q, dx, vs ++ [y], fp', rfl, upd_same, rfl, by simp [hvl], ?_⟩) e1.1 g1
    · rw [upd_ne (ne_of_none ha (hfp q (by simp)).1)]; exact I1.fh a o ha
    · rw [upd_ne (fun e => hm (by simp [e]))]; exact ha
    · by_cases he : a = q
      · subst he; exact ⟨_, upd_same⟩
      · exact ⟨o, by rw [upd_ne he]; exact ha⟩
    · obtain ⟨z1, o, z2⟩ := hfp a ha
      refine ⟨.inl ha, z1, ?_⟩
      by_cases he : a = q
      · subst he; exact ⟨_, upd_same⟩
      · exact ⟨o, by rw [upd_ne he]; exact z2⟩
    · have w := (hs.ext (Ex.refl F1) (H' := upd H1 q (.ins C dx ((names ++ [f]).zip (vs ++ [y])))) fun k' a ha => upd_ne fun e => by
        subst e
        exact (List.nodup_cons.mp nd).1 (mem_tag.mp ha).2).snocD r1
      rw [List.map_append]
      exact w
end
end Pu
set_option Elab.async false
set_option linter.all false
set_option maxRecDepth 100000
set_option maxHeartbeats 4000000
namespace Pu
open PySem L2 Evl
def spI (XC : Str → Value) (C : Addr) (names : List Str) (Γf : List Sl) (cs : List DCod) (f : DEnv cs → Res (Env Γf)) : Sp := fun vs H Q E => ∃ F p dx vs' x, vs = .ref p :: vs' ∧ Ex F H ∧ F p = none ∧ H p = some (.ins C dx []) ∧ DRel cs F vs' x ∧ f x ≠ .bad ∧
  (∀ y, f x = .ok y → ∀ F' H' fp', Step F H [p] F' H' fp' → (mObj C names Γf).rel F' H' fp' (.ref p) y → Q .non H') ∧ ∀ n, f x = .exc n → ∀ H', (∀ a o, H a = some o → a ≠ p → H' a = some o) → E (XC n) none H'
section
variable {p : Bool} {E : XK} {XC : Str → Value} {Rt : Ret} {K : PySem.W.Frag} {Γ Γ' Γ0 Γ1 Γ2 ΓL Γf : List Sl} {te ta tb tc : TE} {tt tu : TT} {tA : TA} {ti : TI} {tg : TG} {a b c d : DCod} {m : Cod} {cs : List DCod} {ts us : TS} {C : Addr} {names : List Str}
theorem en_make {f : DEnv cs → Res (Env Γf)} {TA : (R : Type) → (DEnv cs → Env Γ → Res R) → Env Γ → Res R} (h : EvA p E XC Γ tA cs TA) : EvN p E XC Γ (tMake C (spI XC C names Γf cs f) [] E tA) (mObj C names Γf) (fun R k ρ => TA R (fun x ρ => (f x).bind fun y => k y ρ) ρ) := fun B σ F H ρ I R G hG k Q g q =>
  h B σ F H ρ I R G hG _ _ g fun x ρ1 vs F1 H1 I1 e1 r1 g1 x0 dx h0 hd hne => by
    have f0 : F1 x0 = none := none_of I1.fh h0
    have fd : F1 dx = none := none_of I1.fh hd
    refine ⟨F1, x0, dx, vs ++ [], x, rfl, fun a o ha => ?_, f0, upd_same, r1.app, fun e => ?_, fun y e F' H' fp' st r => ⟨rfl, ?_⟩, fun n e H' k' => ?_⟩
    · rw [upd_ne (ne_of_none ha f0), upd_ne (ne_of_none ha fd)]; exact I1.fh a o ha
    · rw [e] at g1; exact hG.1 g1
    · rw [e] at g1
      have back : ∀ a o, H1 a = some o → (upd (upd H1 dx (.own x0)) x0 (.ins C dx [])) a = some o ∧ a ∉ [x0] := fun a o ha => by
        refine ⟨by rw [upd_ne (ne_of_none ha h0), upd_ne (ne_of_none ha hd)]; exact ha, fun hm => ?_⟩
        have hm : a = x0 := by simpa using hm
        subst hm
        rw [h0] at ha; cases ha
      have back2 : ∀ a, (upd (upd H1 dx (.own x0)) x0 (.ins C dx [])) a = none → H1 a = none := fun a z => by
        cases e2 : H1 a with
        | none => rfl
        | some u => rw [(back a u e2).1] at z; cases z
      refine q y ρ1 (.ref x0) fp' F1 H1 F' H' I1 e1 ⟨fun a o ha => st.keep a o (back a o ha).1 (back a o ha).2, st.ff, st.fh, fun a o ha => ?_⟩ ⟨st.nd, fun a ha => ?_⟩ r g1
      · rcases st.new a o ha with z | z
        · exact .inl z
        · exact .inr (back2 a z)
      · obtain ⟨z1, z2, z3⟩ := st.own a ha
        refine ⟨?_, z2, z3⟩
        rcases z1 with z | z
        · have z : a = x0 := by simpa using z
          rw [z]; exact h0
        · exact back2 a z
    · rw [e] at g1
      refine hG.2 n H' g1 (I1.frm.ex fun a o ha => k' a o ?_ (ne_of_none ha h0))
      rw [upd_ne (ne_of_none ha h0), upd_ne (ne_of_none ha hd)]; exact ha
def envD : (cs : List DCod) → Env (cs.map Sl.da) → DEnv cs
  | [], _ => ()
  | _ :: cs, x => (x.1, envD cs x.2)
theorem envD_rel {F H : Hp} : ∀ (cs : List DCod) {τ : St} {vs : List V} {L : Fps} {x : Env (cs.map Sl.da)}, SRel (cs.map Sl.da) τ (vs.map some) F H L x → DRel cs F vs (envD cs x) ∧ L = []
  | [], τ, vs, L, x, ⟨h1, h2⟩ => ⟨show vs = [] by simpa using h1, h2⟩
  | c :: cs, τ, vs, L, x, ⟨v, σ', e, r, h⟩ => by
    cases vs with
    | nil => simp at e
    | cons w ws =>
      simp only [List.map_cons, List.cons.injEq, Option.some.injEq] at e
      obtain ⟨e1, e2⟩ := e
      subst e1 e2
      obtain ⟨h1, h2⟩ := envD_rel cs h
      exact ⟨⟨w, ws, rfl, r, h1⟩, h2⟩
theorem freezeO {fs : List DCod} {T : (R : Type) → (Env (fs.map Sl.da) → Env Γ → Res R) → Env Γ → Res R} (h : EvN p E XC Γ te (mObj C names (fs.map Sl.da)) T) : EvE p E XC Γ te (dIns C names fs) (fun R k ρ => T R (fun x ρ => k (envD fs x) ρ) ρ) := fun B σ F H ρ I R G hG k Q g q =>
  h B σ F H ρ I R G hG _ Q g fun x ρ' v fp F0 H0 F' H' I0 e pp n r g' => by
    obtain ⟨l, dx, vs, fp', rfl, hl, rfl, hv, hs⟩ := r
    obtain ⟨hr, hfp⟩ := envD_rel fs hs
    obtain ⟨n1, n2, _⟩ := n.at_ l (by simp)
    have p2 : Pext F0 (upd F' l (.ins C dx (names.zip vs))) H0 H' := ⟨pp.hh, pp.ff.trans (Ex.new n2), fun a u ea => by
      by_cases hb : a = l
      · subst hb; rw [upd_same] at ea; cases ea; exact hl
      · rw [upd_ne hb] at ea; exact pp.fh a u ea, fun a u ea => by
      by_cases hb : a = l
      · subst hb; exact .inr n1
      · rw [upd_ne hb] at ea; exact pp.new a u ea⟩
    exact q _ ρ' (.ref l) _ H' (I0.pext p2) (e.pext p2) ⟨l, dx, vs, rfl, upd_same, hr.ext (Ex.new n2)⟩ g'
/-! ### raise, while, slots forgotten ahead -/
theorem st_raise {n : Str} : StE E XC Rt Γ (fun D σ H => E (XC n) none H) Γ' ΓL (fun R nx rt bk ct ρ => .exc n) := fun B σ F H ρ I R G hG nx rt bk ct D g qn qr qb qc => hG.2 n H g I.frm
theorem st_post {T : (R : Type) → (Env Γ1 → Res R) → (Rt.r.α → Rt.P → Res R) → (Env ΓL → Res R) → (Env ΓL → Res R) → Env Γ → Res R} (b : Bk Γ1 Γ') (h : StE E XC Rt Γ ts Γ1 ΓL T) : StE E XC Rt Γ ts Γ' ΓL (fun R nx rt bk ct ρ => T R (fun ρ => nx (b.f ρ)) rt bk ct ρ) := fun B σ F H ρ I R G hG nx rt bk ct D g qn qr qb qc =>
  h B σ F H ρ I R G hG _ rt bk ct D g (fun ρ' σ' F' H' I' e' g' => qn _ σ' F' H' (b.inv I') e' g') qr qb qc
def whl {S R : Type} (step : (S → Res R) → S → Res R) : Nat → S → Res R
  | 0, _ => .bad
  | n + 1, ρ => step (whl step n) ρ
theorem st_while (fuel : Nat) {T0 : (R : Type) → (Bool → Env Γ → Res R) → Env Γ → Res R} {T : (R : Type) → (Env Γ → Res R) → (Rt.r.α → Rt.P → Res R) → (Env Γ → Res R) → (Env Γ → Res R) → Env Γ → Res R} (h : EvT p E XC Γ tt T0) (hb : StE E XC Rt Γ ts Γ Γ T) :
    StE E XC Rt Γ (tWhile tt ts) Γ ΓL (fun R nx rt bk ct ρ => whl (fun k ρ => T0 R (fun b ρ => if b = true then T R k rt nx k ρ else nx ρ) ρ) fuel ρ) := fun B σ F H ρ I R G hG nx rt bk ct D g qn qr qb qc => by
  refine ⟨fun n σ' H' => ∃ F' ρ', SInv B Γ σ' F' H' ρ' ∧ Ex F F' ∧ G (whl (fun k ρ => T0 R (fun b ρ => if b = true then T R k rt nx k ρ else nx ρ) ρ) n ρ'), ⟨fuel, F, ρ, I, Ex.refl F, g⟩, ?_⟩
  rintro n σ' H' ⟨F', ρ', I', e', g'⟩
  cases n with
  | zero => exact absurd g' hG.1
  | succ n =>
    have g' : G (T0 R (fun b ρ => if b = true then T R (whl (fun k ρ => T0 R (fun b ρ => if b = true then T R k rt nx k ρ else nx ρ) ρ) n) rt nx (whl (fun k ρ => T0 R (fun b ρ => if b = true then T R k rt nx k ρ else nx ρ) ρ) n) ρ else nx ρ) ρ') := g'
    refine h B σ' F' H' ρ' I' R G hG _ _ g' fun b ρ2 F2 H2 I2 e2 g2 => ?_
    cases b with
    | false =>
      rw [if_neg (by decide)] at g2 ⊢
      exact qn ρ2 σ' F2 H2 I2 (e'.trans e2.1) g2
    | true =>
      rw [if_pos rfl] at g2 ⊢
      refine ⟨fun σ2 H2' => ∃ F3 ρ3, SInv B Γ σ2 F3 H2' ρ3 ∧ Ex F F3 ∧ G (whl (fun k ρ => T0 R (fun b ρ => if b = true then T R k rt nx k ρ else nx ρ) ρ) n ρ3), fun σ2 H2' w => ⟨n, Nat.lt_succ_self n, w⟩, ?_⟩
      exact hb B σ' F2 H2 ρ2 I2 R G hG _ rt nx _ _ g2 (fun ρ3 σ3 F3 H3 I3 e3 g3 => ⟨F3, ρ3, I3, (e'.trans e2.1).trans e3, g3⟩) qr (fun ρ3 σ3 F3 H3 I3 e3 g3 => qn ρ3 σ3 F3 H3 I3 ((e'.trans e2.1).trans e3) g3) fun ρ3 σ3 F3 H3 I3 e3 g3 => ⟨F3, ρ3, I3, (e'.trans e2.1).trans e3, g3⟩
/-! ### defs -/
def slots0 : List DCod → Nat → List Sl
  | [], n => List.replicate n .no
  | c :: cs, n => .da c :: slots0 cs n
def noEnv : (n : Nat) → Env (List.replicate n Sl.no)
  | 0 => ()
  | n + 1 => ((), noEnv n)
def env0 : (cs : List DCod) → (n : Nat) → DEnv cs → Env (slots0 cs n)
  | [], n, _ => noEnv n
  | _ :: cs, n, x => (x.1, env0 cs n x.2)
theorem noRel {F H : Hp} : ∀ (n : Nat) (τ : St), SRel (List.replicate n Sl.no) τ (List.replicate n none) F H [] (noEnv n)
  | 0, _ => ⟨rfl, rfl⟩
  | n + 1, τ => ⟨none, List.replicate n none, rfl, noRel n τ.tail⟩
theorem rel0 {F H : Hp} : ∀ (cs : List DCod) (n : Nat) (τ : St) {vs : List V} {x : DEnv cs}, DRel cs F vs x → SRel (slots0 cs n) τ (vs.map some ++ List.replicate n none) F H [] (env0 cs n x)
  | [], n, τ, vs, x, h => by rw [show vs = [] from h]; exact noRel n τ
  | c :: cs, n, τ, vs, x, ⟨v, vs', e, r, h⟩ => by
    rw [e]
    exact ⟨v, _, rfl, r, rel0 cs n τ.tail h⟩
theorem wd0 {F H : Hp} {τ : St} {M O : List Addr} {L : Fps} (h : Ex F H) (nd : (L.map (·.2)).Nodup) (fr : ∀ k a, (k, a) ∈ L → F a = none ∧ ∃ o, H a = some o) (h1 : ∀ a, (Kd.pa, a) ∈ L → a ∈ M) (h2 : ∀ a, (Kd.lo, a) ∉ L) (h3 : ∀ a, (Kd.co, a) ∈ L → a ∈ O) : Wd ⟨F, H, M, [], O, τ⟩ F H L :=
  ⟨nd, fr, h, Ex.refl F, fun a o h _ _ => h, fun a o h => ⟨o, h⟩, fun a o h => .inl h, fun a ha => .inl (h1 a ha), fun a ha => absurd ha (h2 a), fun a ha => .inl (h3 a ha)⟩
theorem start_eq {N : List Str} {vs : List V} {n : Nat} (h : N.length = vs.length + n) : L2.start N vs = vs.map some ++ List.replicate n none := by
  unfold L2.start
  rw [h, Nat.add_sub_cancel_left]
theorem run_D {N : List Str} {n : Nat} (hN : N.length = cs.length + n) {f : DEnv cs → Res c.α} {Γe : List Sl} {T : (R : Type) → (Env Γe → Res R) → (c.α → Unit → Res R) → (Env [] → Res R) → (Env [] → Res R) → Env (slots0 cs n) → Res R} (h : StE E XC (retD c) (slots0 cs n) ts Γe [] T)
    (hf : ∀ x, T c.α (fun _ => .bad) (fun z _ => .ok z) (fun _ => .bad) (fun _ => .bad) (env0 cs n x) = f x) (vs : List V) (H : Hp) (Q : VK) (hsp : spD XC cs c f vs H Q E) : ts { nx := fun _ H' => Q .non H', rt := Q } (L2.start N vs) H := by
  obtain ⟨F, x, e, r, hb, hq, hx⟩ := hsp
  have hl := r.len
  rw [start_eq (n := n) (by rw [hl]; exact hN)]
  refine h ⟨F, H, [], [], [], vs.map some ++ List.replicate n none⟩ _ F H (env0 cs n x) ⟨[], rel0 cs n _ r, wd0 e (by simp) (by simp) (by simp) (by simp) (by simp)⟩ c.α (fun z => z = f x) ⟨fun z => hb z.symm, fun nm H' z fr => hx nm z.symm H' fun a o ha => fr a o ha (by simp) (by simp)⟩ _ _ _ _ _ (hf x) ?_ ?_ ?_ ?_
  · intro ρ' σ' F' H' _ _ z; exact absurd z.symm hb
  · intro z y v F' H' ho rv z2
    exact hq z z2.symm v F' H' (ho rfl rfl) rv
  · intro ρ' σ' F' H' _ _ z; exact absurd z.symm hb
  · intro ρ' σ' F' H' _ _ z; exact absurd z.symm hb
theorem run_M {N : List Str} {n : Nat} (hN : N.length = cs.length + 1 + n) {f : m.α → DEnv cs → Res (c.α × m.α)} {Γe : List Sl} {T : (R : Type) → (Env Γe → Res R) → (c.α → m.α → Res R) → (Env [] → Res R) → (Env [] → Res R) → Env (.m .pa m :: slots0 cs n) → Res R} (h : StE E XC (retM c m 0) (.m .pa m :: slots0 cs n) ts Γe [] T)
    (hf : ∀ y x, T (c.α × m.α) (fun _ => .bad) (fun z y => .ok (z, y)) (fun _ => .bad) (fun _ => .bad) (y, env0 cs n x) = f y x) (vs : List V) (H : Hp) (Q : VK) (hsp : spM XC m cs c f vs H Q E) : ts { nx := fun _ H' => Q .non H', rt := Q } (L2.start N vs) H := by
  obtain ⟨F, fp, v, vs', y, x, rfl, e, mr, nd, hfp, r, hb, hq, hx⟩ := hsp
  have hl := r.len
  rw [start_eq (n := n) (by rw [List.length_cons, hl]; exact hN)]
  refine h ⟨F, H, fp, [], [], (v :: vs').map some ++ List.replicate n none⟩ _ F H (y, env0 cs n x) ⟨tag .pa fp ++ [], ⟨v, _, fp, [], rfl, .inr rfl, rfl, mr, rel0 cs n _ r⟩, wd0 e (by rw [List.append_nil, tag_map]; exact nd) (fun k a ha => hfp a (mem_tag.mp (by simpa using ha)).2) (fun a ha => (mem_tag.mp (by simpa using ha)).2) (fun a ha => nomatch (mem_tag.mp (show (Kd.lo, a) ∈ tag .pa fp by simpa using ha)).1) (fun a ha => nomatch (mem_tag.mp (show (Kd.co, a) ∈ tag .pa fp by simpa using ha)).1)⟩
    (c.α × m.α) (fun z => z = f y x) ⟨fun z => hb z.symm, fun nm H' z fr => hx nm z.symm H' fun a o ha hm => fr a o ha hm (by simp)⟩ _ _ _ _ _ (hf y x) ?_ ?_ ?_ ?_
  · intro ρ' σ' F' H' _ _ z; exact absurd z.symm hb
  · intro z y' u F' H' ho rv z2
    obtain ⟨v2, fp', ho⟩ := ho
    obtain ⟨h1, h2, h3⟩ := ho rfl
    have ev : v2 = v := by
      have h1 : some (some v) = some (some v2) := h1
      cases h1; rfl
    subst ev
    exact hq z y' z2.symm u F' H' fp' h3 h2 rv
  · intro ρ' σ' F' H' _ _ z; exact absurd z.symm hb
  · intro ρ' σ' F' H' _ _ z; exact absurd z.symm hb
theorem run_I {N : List Str} {n : Nat} (hN : N.length = cs.length + 1 + n) {f : DEnv cs → Res (Env Γf)} {Γe : List Sl} (at_ : At Γe 0 (.m .pa (mObj C names Γf))) {T : (R : Type) → (Env Γe → Res R) → (Unit → Unit → Res R) → (Env [] → Res R) → (Env [] → Res R) → Env (.m .pa (mObj C [] []) :: slots0 cs n) → Res R}
    (h : StE E XC ⟨dNon, Unit, fun _ _ _ _ _ => False⟩ (.m .pa (mObj C [] []) :: slots0 cs n) ts Γe [] T) (hf : ∀ x, T (Env Γf) (fun ρ => .ok (at_.get ρ)) (fun _ _ => .bad) (fun _ => .bad) (fun _ => .bad) ((), env0 cs n x) = f x) (vs : List V) (H : Hp) (Q : VK) (hsp : spI XC C names Γf cs f vs H Q E) : ts { nx := fun _ H' => Q .non H', rt := Q } (L2.start N vs) H := by
  obtain ⟨F, q, dx, vs', x, rfl, e, hF, hH, r, hb, hq, hx⟩ := hsp
  have hl := r.len
  rw [start_eq (n := n) (by rw [List.length_cons, hl]; exact hN)]
  refine h ⟨F, H, [q], [], [], (V.ref q :: vs').map some ++ List.replicate n none⟩ _ F H ((), env0 cs n x) ⟨tag .pa [q] ++ [], ⟨.ref q, _, [q], [], rfl, .inr rfl, rfl, ⟨q, dx, [], [], rfl, hH, rfl, rfl, rfl, rfl⟩, rel0 cs n _ r⟩, wd0 e (by simp [tag]) (fun k a ha => ?_) (fun a ha => (mem_tag.mp (by simpa using ha)).2) (fun a ha => nomatch (mem_tag.mp (show (Kd.lo, a) ∈ tag .pa [q] by simpa using ha)).1) (fun a ha => nomatch (mem_tag.mp (show (Kd.co, a) ∈ tag .pa [q] by simpa using ha)).1)⟩
    (Env Γf) (fun z => z = f x) ⟨fun z => hb z.symm, fun nm H' z fr => hx nm z.symm H' fun a o ha hm => fr a o ha (by simpa using hm) (by simp)⟩ _ _ _ _ _ (hf x) ?_ ?_ ?_ ?_
  · have ha : a = q := by simpa using (mem_tag.mp (show (k, a) ∈ tag .pa [q] by simpa using ha)).2
    subst ha
    exact ⟨hF, _, hH⟩
  · intro ρ' σ' F' H' I' _ z
    obtain ⟨v2, fp', ho⟩ := I'.stepB at_
    obtain ⟨h1, h2, h3⟩ := ho rfl
    have ev : v2 = .ref q := by
      have h1 : some (some (V.ref q)) = some (some v2) := h1
      cases h1; rfl
    subst ev
    exact hq _ z.symm F' H' fp' h3 h2
  · intro z y' u F' H' ho rv z2; exact ho.elim
  · intro ρ' σ' F' H' _ _ z; exact absurd z.symm hb
  · intro ρ' σ' F' H' _ _ z; exact absurd z.symm hb
end
end Pu
set_option Elab.async false
set_option linter.all false
set_option maxRecDepth 100000
set_option maxHeartbeats 4000000
namespace Pu
open PySem PySem.Spec PyProof.Rows L2 Evl
def OkF (P : Program) (w : World) (K : PySem.W.Frag) (mg : Str → Option Value) (base : Heap) (k : Nat) (f : Addr) (ps : List Str) (sp : Sp) : Prop :=
  ∃ fd : FuncData, FnOk P w K mg base (L2.CX P w) k f fd ps sp ∧ Binds K fd ps [] ∧ PySem.W.keepIn K (.ref f) = true
section
variable {X : Cx} {j k : Nat} {f C : Addr} {ps : List Str} {sp : Sp} {E : XK} {x m : Str} {p pos apos : Pos} {e o : Expr} {es : List Expr} {t : TA} {ta : TE}
theorem pcall (F : OkF X.prog X.w X.K X.mg X.base k f ps sp) (hr : Room j X.A) (hk : k ≤ j) (hm : X.mg x = some (.ref f)) (hx : Passes (L2.CX X.prog X.w) X E) (ha : PA X (e :: es) t) (hg : Gl X x := by rfl)
    (hdb : (x == ("__debug__" : Str)) = false := by decide) (he : starEach (e :: es) X.env = (false, eval e X.env) :: starEach es X.env := by rfl) (hpl : (backTo pos (starEach es X.env)).any (·.1) = false := by rfl) :
    PE X (.Call (.Name x p) (e :: es) [] pos) (tCall sp [] E t) := by
  obtain ⟨fd, F1, b, kp⟩ := F
  exact pe_call F1 (hr.mono hk) hg hm kp b .nil hx ha hdb he hpl
theorem pmeth (F : OkF X.prog X.w X.K X.mg X.base k f ps sp) (hr : Room j X.A) (hk : k ≤ j) (c : Cls X.K C) (hm : Meth X.K C m f) (hx : Passes (L2.CX X.prog X.w) X E) (ho : PE X o ta) (ha : PA X (e :: es) t) {pl : Sem Bool}
    (hst : starEach (e :: es) X.env = (false, eval e X.env) :: starEach es X.env := by rfl) (hpl : (backTo pos (starEach es X.env)).any (·.1) = false := by rfl)
    (ht : eval (.Call (.Attribute o m apos) (e :: es) [] pos) X.env = (do
      let ov ← eval o X.env
      standAt apos.atName
      let (f, first) ← holding [ov] (getMethod ov m pl)
      callWith pos f first (backTo pos (starEach (e :: es) X.env)) (backToKw pos (keywordEach [] X.env))) := by rfl) :
    PE X (.Call (.Attribute o m apos) (e :: es) [] pos) (tMeth C m sp [] E ta t) := by
  obtain ⟨fd, F1, b, kp⟩ := F
  exact pe_meth ho c hm F1 (hr.mono hk) b .nil hx ha hst hpl ht
theorem pmake (F : OkF X.prog X.w X.K X.mg X.base k f ps sp) (hr : Room j X.A) (hk : k + 1 ≤ j) (M : Mk X.K C f) (hm : X.mg x = some (.ref C)) (hx : Passes (L2.CX X.prog X.w) X E) (ha : PA X (e :: es) t) (hg : Gl X x := by rfl)
    (hdb : (x == ("__debug__" : Str)) = false := by decide) (he : starEach (e :: es) X.env = (false, eval e X.env) :: starEach es X.env := by rfl) (hpl : (backTo pos (starEach es X.env)).any (·.1) = false := by rfl) :
    PE X (.Call (.Name x p) (e :: es) [] pos) (tMake C sp [] E t) := by
  obtain ⟨fd, F1, b, kp⟩ := F
  exact pe_make M F1 (hr.mono hk) hg hm b .nil hx ha hdb he hpl
end
theorem pxB {P : Program} {w : World} {K : PySem.W.Frag} {mg : Str → Option Value} {base : Heap} {N : List Str} {qual : Str} {scope : Scope} {f : Addr} {cd : Value} {A : Around} {outer : List PySem.Env} {s : Shared} {H : Hp} {E : XK} :
    Passes (L2.CX P w) (cxOf (L2.CX P w) P w K mg base N qual scope f cd A outer s H E) E := passes_call (takes_of rfl rfl rfl rfl) fun _ _ _ _ h => h
theorem poB {P : Program} {w : World} {K : PySem.W.Frag} {mg : Str → Option Value} {base : Heap} {N : List Str} {qual : Str} {scope : Scope} {f : Addr} {cd : Value} {A : Around} {outer : List PySem.Env} {s : Shared} {H : Hp} {E : XK} :
    PassesOwn (model P w) (A.deeper (envOfC qual scope s.heap.objs.size f cd)) (envOfC qual scope s.heap.objs.size f cd) (cxOf (L2.CX P w) P w K mg base N qual scope f cd A outer s H E).xe := passes_of rfl
structure Tx (fa : List He.Fa) (fn : List He.DefD) (K : PySem.W.Frag) (mg : Str → Option Value) : Prop where
  c : He.SaysD fa fn K
  h : ∃ h : Heap, K.In h ∧ h.Ns mainGlobals mg
section
variable {fa : List He.Fa} {fn : List He.DefD} {K : PySem.W.Frag} {mg : Str → Option Value}
theorem Tx.glo (T : Tx fa fn K mg) (i : Nat) {x : Str} (h : fa[i]? = some (.glo x) := by rfl) : mg x = some (.ref (He.ga K x)) := let ⟨_, X, G⟩ := T.h; He.glo_ok X G (T.c.fact i h)
theorem Tx.free (T : Tx fa fn K mg) (i : Nat) {x : Str} (h : fa[i]? = some (.free x) := by rfl) : mg x = none := let ⟨_, X, G⟩ := T.h; He.free_ok X G (T.c.fact i h)
theorem Tx.cls (T : Tx fa fn K mg) (i : Nat) {x : Str} (h : fa[i]? = some (.cls x) := by rfl) : Cls K (He.ga K x) := He.cls_ok (T.c.fact i h)
theorem Tx.noat (T : Tx fa fn K mg) (i : Nat) {x f : Str} (h : fa[i]? = some (.noat x f) := by rfl) : NoAttr K (He.ga K x) f := He.noat_ok (T.c.fact i h)
theorem Tx.meth (T : Tx fa fn K mg) (i : Nat) {x m : Str} (h : fa[i]? = some (.meth x m) := by rfl) : Meth K (He.ga K x) m (He.ma K (He.ga K x) m) := He.meth_ok (T.c.fact i h)
theorem Tx.mkr (T : Tx fa fn K mg) (i : Nat) {x : Str} (h : fa[i]? = some (.mkr x) := by rfl) : Mk K (He.ga K x) (He.ma K (He.ga K x) "__init__") := He.mkr_ok (T.c.fact i h)
end
def xcK (K : PySem.W.Frag) : Str → Value := fun n => .ref (He.ga K n)
section
variable {P : Program} {w : World} {K : PySem.W.Frag} {mg : Str → Option Value} {base : Heap} {x qual : Str} {params : Arguments} {body : List Stmt} {scope : Scope} {f : Addr} {N ps : List Str} {k : Nat}
theorem okF {sp : Sp} (F : ∃ fd, FunD K x qual params body scope [] [] f fd) (S : FnScope N ps scope) (len : ∀ vs H Q E, sp vs H Q E → vs.length = ps.length)
    (bnd : ∀ (kV doc pm : Value) (an : Option Addr) (cdv ct : Value) (us : List Value), us.length = ps.length → bindArgs (PySem.W.fnOf x qual params body scope .none kV doc pm an cdv ct) ⟨us, []⟩ = pure (ps.zip us))
    (hbody : ∀ (cdv : Value) (A : Around) (outer : List PySem.Env) (s : Shared) (H : Hp) (E : XK), Room k (A.deeper (envOfC qual scope s.heap.objs.size f cdv)) →
      ∃ t, PSs (cxOf (L2.CX P w) P w K mg base N qual scope f cdv A outer s H E) body t ∧ ∀ (vs : List V) (Q : VK), sp vs H Q E → t { nx := fun _ H' => Q .non H', rt := Q } (L2.start N vs) H) : OkF P w K mg base (k + 1) f ps sp := by
  obtain ⟨fd, F⟩ := F
  refine ⟨fd, F.ok S len fun cdv A outer s H vs Q E hr h => ?_, F.bindsN bnd, F.kp⟩
  obtain ⟨t, h1, h2⟩ := hbody cdv A outer s H E hr
  exact ⟨t, h1, h2 vs Q h⟩
theorem lenD {XC : Str → Value} {cs : List DCod} {c : DCod} {f : DEnv cs → Res c.α} {n : Nat} (h : cs.length = n) : ∀ vs H Q E, spD XC cs c f vs H Q E → vs.length = n := fun vs H Q E ⟨F, x, e, r, _⟩ => r.len.trans h
theorem lenM {XC : Str → Value} {m : Cod} {cs : List DCod} {c : DCod} {f : m.α → DEnv cs → Res (c.α × m.α)} {n : Nat} (h : cs.length + 1 = n) : ∀ vs H Q E, spM XC m cs c f vs H Q E → vs.length = n := fun vs H Q E ⟨F, fp, v, vs', y, x, e, _, _, _, _, r, _⟩ => by rw [e, List.length_cons, r.len]; exact h
theorem lenI {XC : Str → Value} {C : Addr} {names : List Str} {Γf : List Sl} {cs : List DCod} {f : DEnv cs → Res (Env Γf)} {n : Nat} (h : cs.length + 1 = n) : ∀ vs H Q E, spI XC C names Γf cs f vs H Q E → vs.length = n := fun vs H Q E ⟨F, p, dx, vs', x, e, _, _, _, r, _⟩ => by rw [e, List.length_cons, r.len]; exact h
end
end Pu
set_option Elab.async false
set_option linter.all false
set_option maxRecDepth 100000
set_option maxHeartbeats 4000000
namespace PySem
open Sem (wp)
open AutoSeq1 (wpAny_loadPart')
theorem pu_meets_enum (l : Addr) (items : Array Value) :
    Meets (Builtin.«enumerate.__new__» ⟨[.type "enumerate", .ref l], []⟩) (fun _ R s => s.heap.IsTuple l items ∧
      R (.ok (.ret (.ref (s.heap.push { cls := .type "tuple_iterator", data := .fields #[.ref l, .int 0 0] }).objs.size)))
        { s with heap := (s.heap.push { cls := .type "tuple_iterator", data := .fields #[.ref l, .int 0 0] }).push { cls := .type "enumerate", data := .fields #[.none, .bool false, .ref s.heap.objs.size, rawInt 0, .none, .none] } }) :=
  .of_wp fun prog w A R s h => by
    obtain ⟨hp, g, d, tk, os⟩ := s; obtain ⟨hL, h⟩ := h
    have hsub := sub_enumerate
    wp_walk
    refine wpAny_stack_any fun st => wpAny_pure ?_
    split
    · rename_i c _ _ _ _ _
      cases (c == Value.type "enumerate")
      · wp_walk using wpAny_pyIter_tuple hL
        exact ⟨_, rfl, h⟩
      · wp_walk using wpAny_pyIter_tuple hL
        exact ⟨_, rfl, h⟩
    · wp_walk using wpAny_pyIter_tuple hL
      exact ⟨_, rfl, h⟩
section
variable {prog : Program} {w : World} {A : Around} {E : Value → Shared → Prop} {s : Shared}
theorem pu_call_enum {l : Addr} {items : Array Value} {Q : Value → Shared → Prop} (hL : s.heap.IsTuple l items)
    (h : ∀ h', IsEnum h' (s.heap.objs.size + 1) s.heap.objs.size 0 .none → h'.IsTupleIter s.heap.objs.size l 0 → h'.objs.size = s.heap.objs.size + 2 →
      (∀ b o, s.heap.get? b = some o → h'.get? b = some o) → Q (.ref (s.heap.objs.size + 1)) { s with heap := h' }) :
    wpAny (model prog w) A (call (.type "enumerate") [.ref l]) Q E s := by
  refine callType_new F.called_enumerate (by decide) (F.typeCall_enumerate_1 _) (F.newCall_enumerate_1 _) (fun obj => F.args_object_init_2 obj _) F.entry_enumerate_new
    (pu_meets_enum l items) ⟨hL, ?_⟩
  have hz : (s.heap.push { cls := .type "tuple_iterator", data := .fields #[.ref l, .int 0 0] }).objs.size = s.heap.objs.size + 1 := Heap.size_push ..
  show _ ∧ _
  rw [hz]
  have he : IsEnum ((s.heap.push { cls := .type "tuple_iterator", data := .fields #[.ref l, .int 0 0] }).push
      { cls := .type "enumerate", data := .fields #[.none, .bool false, .ref s.heap.objs.size, rawInt 0, .none, .none] }) (s.heap.objs.size + 1) s.heap.objs.size 0 .none := by
    have := Heap.get?_push_size (s.heap.push { cls := .type "tuple_iterator", data := .fields #[.ref l, .int 0 0] })
      (o := { cls := .type "enumerate", data := .fields #[.none, .bool false, .ref s.heap.objs.size, rawInt 0, .none, .none] }) rfl
    rw [hz] at this; exact this
  refine ⟨⟨_, he, rfl⟩, h _ he ⟨_, Heap.get?_push_of_some _ (Heap.get?_push_size _ rfl), rfl, rfl⟩ (by rw [Heap.size_push, hz]) fun b o x => Heap.get?_push_of_some _ (Heap.get?_push_of_some _ x)⟩
end
end PySem
namespace Pu
open PySem PySem.Spec PyProof.Rows L2 Evl
def IteT (K : PySem.W.Frag) (a : Addr) : It :=
  ⟨fun i H => ∃ (xs : List V) (x : V), SqT K H a xs ∧ xs[i]? = some x, fun i H v H' => ∃ T x, v = .ref T ∧ H T = none ∧ H' = upd H T (.tup [.int (i : Nat), x]) ∧ ∀ xs, SqT K H a xs → xs[i]? = some x, fun i H => ∃ xs : List V, SqT K H a xs ∧ xs.length ≤ i⟩
theorem turn_enumT {P : Program} {w : World} {K : PySem.W.Frag} {elts : List Expr} {kk : Nat} {tpos : Pos} (a e it : Addr) (hea : e ≠ a) (hia : it ≠ a) :
    Turn P w K (.Tuple elts kk tpos) (IteT K a) [e, it] e (fun i h => (∃ old, IsEnum h e it ((i : Nat) : Int) old) ∧ h.IsTupleIter it a i ∧ e ≠ it) where
  mem := by simp
  obj := fun i h st b hb => by
    obtain ⟨⟨old, he⟩, ⟨o, ho, hc, hd⟩, _⟩ := st
    have e' : b = e ∨ b = it := by simpa using hb
    rcases e' with z | z
    · rw [z]; exact ⟨_, he, fun v q => nomatch q⟩
    · rw [z]; exact ⟨o, ho, fun v q => by rw [hd] at q; cases q⟩
  keep := fun i h h' st k => let ⟨⟨old, he⟩, hi, hne⟩ := st; ⟨⟨old, k e (by simp) _ he⟩, hi.at fun o q => k it (by simp) o q, hne⟩
  item := by
    intro X hP hw hK hc i pins s σ H E I hf st hg
    subst hP hw hK
    obtain ⟨⟨old, he⟩, hit, hne⟩ := st
    obtain ⟨xs, x, hq, hx⟩ := hg
    obtain ⟨its, rv, p, hz⟩ := I.tuple hq
    obtain ⟨u, hu, ru⟩ := rv.get hx
    have hel : e < s.heap.objs.size := Heap.lt_size he
    have hil : it < s.heap.objs.size := by obtain ⟨_, q, _⟩ := hit; exact Heap.lt_size q
    have hlt : i < its.toArray.size := by
      have := (List.getElem?_eq_some_iff.mp hu).1
      simpa using this
    refine wpAny_pyNext_enum_itemD (Draws.tuple (prog := X.prog) (w := X.w) (A := X.A.in1) (I.ok.hd hc) it a (Ne.symm hia) its.toArray) he ⟨hit, p⟩ hlt hne (by simp [hne, hea]) fun x' h' tk hPx ho hst' hT hsz hk => ?_
    have hux : x' = u := by
      have h1 : its.toArray[i]? = some u := by simpa using hu
      rw [h1] at hPx
      exact (Option.some.inj hPx).symm
    subst hux
    refine ⟨_, rfl, wpAny_letOwnedTupleGo_enum (s := { s with heap := h', toks := tk + 1 }) ho fun h'' he' sb => ?_⟩
    have hT2 : h''.get? s.heap.objs.size = some { cls := .type "tuple", data := .seq #[.int i tk, x'] } := (sb.2 _ (Nat.ne_of_gt hel)).trans hT
    have new : ObjOk X.prog X.w (upd H s.heap.objs.size (.tup [.int (i : Nat), x])) h'' s.heap.objs.size (.tup [.int (i : Nat), x]) :=
      ⟨by show 2 ≤ sizeLine; decide, [.int i tk, x'], .cons ⟨_, rfl⟩ (.cons ru .nil), ⟨_, hT2, rfl, _, rfl⟩⟩
    have I1 : Inv X pins σ (upd H s.heap.objs.size (.tup [.int (i : Nat), x])) { s with heap := h'', toks := tk + 1 } :=
      I.turnedNew (ch := [e, it]) (fun b ob hb q => (sb.2 b (fun z => hb (by simp [z]))).trans (hk b ob (fun z => hb (by simp [z])) (fun z => hb (by simp [z])) q)) hf (Nat.le_refl _) new
    refine ⟨.ref s.heap.objs.size, _, I1, rfl, ⟨_, x, rfl, I.hok.fresh (Nat.le_refl _), rfl, fun ys hy => by rw [I.tuple_inj hy hq]; exact hx⟩, ⟨⟨x', ?_⟩, hst'.1.at fun o q => (sb.2 it (Ne.symm hne)).trans q, hne⟩, fun b hb => ?_⟩
    · have e1 : ((i + 1 : Nat) : Int) = (i : Int) + 1 := by omega
      rw [e1]; exact he'
    · have hb' : b < s.heap.objs.size := by
        have e' : b = e ∨ b = it := by simpa using hb
        rcases e' with z | z
        · rw [z]; exact hel
        · rw [z]; exact hil
      rw [upd_ne (Nat.ne_of_lt hb')]
      exact (hf b hb).1
  done := by
    intro X hP hw hK hc i pins s σ H E I hf st hg
    subst hP hw hK
    obtain ⟨⟨old, he⟩, hit, hne⟩ := st
    obtain ⟨xs, hq, hx⟩ := hg
    obtain ⟨its, rv, p, hz⟩ := I.tuple hq
    obtain ⟨f0, f1, f2, f3, f4, f5⟩ := hf it (by simp)
    have hl := rv.length
    have hT : s.TypeIs (.ref e) "enumerate" := ⟨_, he, rfl⟩
    unfold pyNext
    refine wpAny_bind (wpAny_attempt (wpAny_callSpecial?_slot (name := Str.ofString "__next__") hT F.slot_enumerate_next
      (wpAny_call_entry F.slot_enumerate_next hT F.entry_enumerate_next ?_ (F.args_enumerate_next_1 _))))
    show wpAny _ _ (field (.ref e) 2 >>= _) _ _ _
    refine wpAny_bind (wpAny_field he rfl (x := .ref it) rfl ?_)
    refine wpAny_bind (wpAny_nextOf_tuple_end (I.ok.hd hc) hit p (by simp; omega) fun h' x he' hx' => ?_)
    obtain ⟨o, ho, hc⟩ := hx'
    refine wpAny_bind (wpAny_isInstance (T := "StopIteration") (b := true) ⟨o, ho, hc⟩ isSubtype_stop ?_)
    exact wpAny_pure ⟨rfl, I.turned (t' := s.toks) (fun b o hb q => he' b o hb q) f0 f1 f3 f4 f5⟩
  self := fun A i s Q E st h => let ⟨⟨_, he⟩, _⟩ := st; wpAny_pyIter_enum he h
def iEnumT (K : PySem.W.Frag) (ta : TA) : TI := fun σ H R => ta σ H fun vs H1 => ∃ a xs, vs = [.ref a] ∧ SqT K H1 a xs ∧ R (IteT K a) H1
theorem pi_enumT {X : Cx} {e : Expr} {ta : TA} {p pos tpos : Pos} {elts : List Expr} {kk : Nat} (hg : Gl X "enumerate") (hm : X.mg "enumerate" = none) (ha : PA X [e] ta) (hs : starEach [e] X.env = [(false, eval e X.env)] := by rfl) :
    PI X (.Tuple elts kk tpos) (.Call (.Name "enumerate" p) [e] [] pos) (iEnumT X.K ta) := by
  refine ⟨fun pins s σ H R I h => ?_⟩
  refine Call_ (ld_blt I hg hm boot_enumerate (PyProof.Rows.callWith_type1 (thn (ha.run pos pins s σ H _ I h) fun us s1 ⟨vs, H1, I1, r1, q1⟩ => ?_) hs rfl))
  obtain ⟨a, xs, ex, hq, q⟩ := q1
  subst ex
  cases r1 with
  | cons r rr =>
    cases rr
    cases r
    obtain ⟨its, rv, p', hz⟩ := I1.tuple hq
    have hlt : a < s1.heap.objs.size := by obtain ⟨_, q, _⟩ := p'; exact Heap.lt_size q
    refine pu_call_enum p' fun h' he hit hsz hk => wpAny_pyIter_enum he ?_
    have I2 : Inv X pins σ H1 { s1 with heap := h' } := I1.kept (t' := s1.toks) hk
    refine ⟨s1.heap.objs.size + 1, [s1.heap.objs.size + 1, s1.heap.objs.size], _, _, H1, rfl, I2, turn_enumT a (s1.heap.objs.size + 1) s1.heap.objs.size (Nat.ne_of_gt (Nat.lt_succ_of_lt hlt)) (Nat.ne_of_gt hlt), ⟨⟨.none, he⟩, hit, Nat.succ_ne_self _⟩, fun b hb => ?_, q⟩
    have e' : b = s1.heap.objs.size + 1 ∨ b = s1.heap.objs.size := by simpa using hb
    have hle : s1.heap.objs.size ≤ b := by
      rcases e' with z | z
      · rw [z]; exact Nat.le_add_right _ _
      · rw [z]; exact Nat.le_refl _
    exact I1.fpOk hle (I1.hok.fresh hle)
end Pu
set_option Elab.async false
set_option linter.all false
set_option maxRecDepth 100000
set_option maxHeartbeats 4000000
namespace Pu
open PySem L2 Evl
/-! ### things that may change, read as data for a while -/
def frz (F H : Hp) (fp : List Addr) : Hp := fun a => if a ∈ fp then H a else F a
def thaw (F : Hp) (fp : List Addr) : Hp := fun a => if a ∈ fp then none else F a
def Mu : HO → Prop
  | .tup _ => False
  | .frz _ _ => False
  | _ => True
structure Fz (m : Cod) (d : DCod) where
  conv : m.α → d.α
  ok : ∀ {F H Fz : Hp} {fp : List Addr} {v : V} {x : m.α}, m.rel F H fp v x → Ex F Fz → (∀ a, a ∈ fp → Fz a = H a) → d.rel Fz v (conv x)
  mu : ∀ {F H : Hp} {fp : List Addr} {v : V} {x : m.α}, m.rel F H fp v x → ∀ a, a ∈ fp → ∀ o, H a = some o → Mu o
def fzL {c : DCod} : Fz (mLst c) (dLst c) := ⟨fun x => x, fun {F H Fz fp v x} h e k => let ⟨a, vs, h1, h0, h2, h3, h4⟩ := h; ⟨a, vs, h1, by rw [k a (by rw [h0]; simp)]; exact h2, h3.ext e, h4⟩,
  fun {F H fp v x} h a ha o ho => by
    obtain ⟨b, vs, rfl, rfl, h2, h3, h4⟩ := h
    have ha : a = b := by simpa using ha
    subst ha
    rw [h2] at ho; cases ho; exact True.intro⟩
inductive FzG : List Sl → List Sl → Type 1 where
  | nil : FzG [] []
  | no {Γ Γ' : List Sl} (r : FzG Γ Γ') : FzG (.no :: Γ) (.no :: Γ')
  | da {c : DCod} {Γ Γ' : List Sl} (r : FzG Γ Γ') : FzG (.da c :: Γ) (.da c :: Γ')
  | m {k : Kd} {m : Cod} {d : DCod} {Γ Γ' : List Sl} (z : Fz m d) (r : FzG Γ Γ') : FzG (.m k m :: Γ) (.da d :: Γ')
def FzG.conv : {Γ Γ' : List Sl} → FzG Γ Γ' → Env Γ → Env Γ'
  | _, _, .nil, ρ => ρ
  | _, _, .no r, ρ => (ρ.1, r.conv ρ.2)
  | _, _, .da r, ρ => (ρ.1, r.conv ρ.2)
  | _, _, .m z r, ρ => (z.conv ρ.1, r.conv ρ.2)
theorem FzG.mu {F H : Hp} : ∀ {Γ Γ' : List Sl} (r : FzG Γ Γ') {τ σ : St} {L : Fps} {ρ : Env Γ}, SRel Γ τ σ F H L ρ → ∀ k a, (k, a) ∈ L → ∀ o, H a = some o → Mu o
  | _, _, .nil, τ, σ, L, ρ, ⟨h1, h2⟩ => fun k a ha => by rw [h2] at ha; cases ha
  | _, _, .no r, τ, σ, L, ρ, ⟨w, σ', e, h⟩ => FzG.mu r h
  | _, _, .da r, τ, σ, L, ρ, ⟨w, σ', e, hr, h⟩ => FzG.mu r h
  | _, _, .m (k := kk) z r, τ, σ, L, ρ, ⟨w, σ', fp, L', e, e2, e3, hr, h⟩ => fun q a ha o ho => by
    rw [e3] at ha
    rcases List.mem_append.mp ha with g | g
    · exact z.mu hr a (mem_tag.mp g).2 o ho
    · exact FzG.mu r h q a g o ho
theorem FzG.rel {F H Fz : Hp} (eF : Ex F Fz) : ∀ {Γ Γ' : List Sl} (r : FzG Γ Γ') {τ σ : St} {L : Fps} {ρ : Env Γ}, SRel Γ τ σ F H L ρ → (∀ k a, (k, a) ∈ L → Fz a = H a) → SRel Γ' τ σ Fz H [] (r.conv ρ)
  | _, _, .nil, τ, σ, L, ρ, ⟨h1, h2⟩, k => ⟨h1, rfl⟩
  | _, _, .no r, τ, σ, L, ρ, ⟨w, σ', e, h⟩, k => ⟨w, σ', e, FzG.rel eF r h k⟩
  | _, _, .da r, τ, σ, L, ρ, ⟨w, σ', e, hr, h⟩, k => ⟨w, σ', e, DCod.ext _ hr eF, FzG.rel eF r h k⟩
  | _, _, .m (k := kk) z r, τ, σ, L, ρ, ⟨w, σ', fp, L', e, e2, e3, hr, h⟩, k =>
    ⟨w, σ', e, z.ok hr eF fun a ha => k kk a (by rw [e3]; exact List.mem_append_left _ (mem_tag.mpr ⟨rfl, ha⟩)), FzG.rel eF r h fun q a ha => k q a (by rw [e3]; exact List.mem_append_right _ ha)⟩
def Und (c : DCod) : Prop := ∀ (F : Hp) (fp : List Addr) (v : V) (x : c.α), (∀ a, a ∈ fp → ∀ o, F a = some o → Mu o) → c.rel F v x → c.rel (thaw F fp) v x
theorem und_int : Und dInt := fun _ _ _ _ _ h => h
theorem und_opt {c : DCod} (u : Und c) : Und (dOpt c) := fun F fp v x k h => by
  cases x with
  | none => exact h
  | some y => exact ⟨u F fp v y k h.1, h.2⟩
theorem PV.mono {c : DCod} {F F' : Hp} (q : ∀ v x, c.rel F v x → c.rel F' v x) : ∀ {vs : List V} {xs : List c.α}, PV c F vs xs → PV c F' vs xs
  | _, _, .nil => .nil
  | _, _, .cons r t => .cons (q _ _ r) (PV.mono q t)
section
variable {p : Bool} {E : XK} {XC : Str → Value} {Γ Γ' : List Sl} {te : TE} {c : DCod}
end
end Pu
set_option Elab.async false
set_option linter.all false
set_option maxRecDepth 100000
set_option maxHeartbeats 4000000
namespace Pu
open PySem PySem.Spec PyProof.Rows L2 Evl
/-! ### tuples of which it is known that they hold no fields -/
abbrev dTuN (c : DCod) : DCod := ⟨List c.α, fun F v xs => ∃ a vs ob, v = .ref a ∧ F a = some (.frz ob (.tup vs)) ∧ ob.dict = none ∧ ob.cls = .type "tuple" ∧ PV c F vs xs ∧ xs.length ≤ sizeLine,
  fun h e => let ⟨a, vs, ob, h1, h2, h3, h4, h5, h6⟩ := h; ⟨a, vs, ob, h1, e a _ h2, h3, h4, h5.ext e, h6⟩⟩
def Sb (a b : DCod) (f : a.α → b.α) : Prop := ∀ F v x, a.rel F v x → b.rel F v (f x)
theorem sb_tun {c : DCod} : Sb (dTuN c) (dTup c) (fun x => x) := fun F v x h => by
  obtain ⟨a, vs, ob, h1, h2, h3, h4, h5, h6⟩ := h
  exact ⟨a, vs, h1, .inr ⟨ob, h2⟩, h5, h6⟩
theorem sb_tunS {c : DCod} : Sb (dTuN c) (dSeq c) (fun x => x) := fun F v x h => by
  obtain ⟨a, vs, ob, h1, h2, h3, h4, h5, h6⟩ := h
  exact ⟨a, vs, h1, .inr (.inr ⟨ob, h2⟩), h5, h6⟩
theorem sb_lstS {c : DCod} : Sb (dLst c) (dSeq c) (fun x => x) := fun F v x h => by
  obtain ⟨a, vs, h1, h2, h3, h4⟩ := h
  exact ⟨a, vs, h1, .inl h2, h3, h4⟩
theorem PV.sb {a b : DCod} {f : a.α → b.α} {F : Hp} (s : Sb a b f) : ∀ {vs : List V} {xs : List a.α}, PV a F vs xs → PV b F vs (xs.map f)
  | _, _, .nil => .nil
  | _, _, .cons r t => .cons (s F _ _ r) (PV.sb s t)
theorem Sb.t {a b c : DCod} {f : a.α → b.α} {g : b.α → c.α} (s : Sb a b f) (t : Sb b c g) : Sb a c (fun x => g (f x)) := fun F v x h => t F v _ (s F v x h)
theorem ev_sb {p : Bool} {E : XK} {XC : Str → Value} {Γ : List Sl} {te : TE} {a b : DCod} {f : a.α → b.α} (s : Sb a b f) {T : (R : Type) → (a.α → Env Γ → Res R) → Env Γ → Res R} (h : EvE p E XC Γ te a T) : EvE p E XC Γ te b (fun R k ρ => T R (fun x => k (f x)) ρ) := Pu.ev_as f s h
def kTupN (K : PySem.W.Frag) (x : V) (H : Hp) (Q : VK) : Prop :=
  (∃ p xs, x = .ref p ∧ SqL K H p xs ∧ ∀ q ob, ob.dict = none → ob.cls = .type "tuple" → H q = none → Q (.ref q) (upd H q (.frz ob (.tup xs)))) ∨ (∃ p xs, x = .ref p ∧ SqT K H p xs ∧ Q (.ref p) H)
section
variable {X : Cx} {a e : Expr} {es : List Expr} {ta : TE}
theorem rl_tupleN (pins : List (Addr × Obj)) (s : Shared) (σ : L2.St) (H : Hp) (x : V) (v : Value) (Q : VK) (I : Inv X pins σ H s) (r : RelV x v) (h : kTupN X.K x H Q) :
    wpAny (model X.prog X.w) X.A (call (.type "tuple") [v]) (EP X pins σ Q) X.xe s := by
  rcases h with ⟨p, xs, rfl, hs, q⟩ | ⟨p, xs, rfl, hs, q⟩
  · obtain rfl : v = .ref p := r
    obtain ⟨its, rv, pl, hz⟩ := I.list hs
    refine call_tuple_list pl.isList (fun h' hk => ?_) (by rw [List.size_toArray, ← rv.length]; exact hz)
    have I1 : Inv X pins σ H { s with heap := h' } := I.kept (t' := s.toks) hk
    have I2 : Inv X pins σ (upd H h'.objs.size (.frz { cls := .type "tuple", data := .seq its.toArray } (.tup xs))) { s with heap := h'.push { cls := .type "tuple", data := .seq its.toArray } } :=
      I1.laid (t' := s.toks) (fun b o e => Heap.get?_push_of_some _ e) (Nat.le_refl _) (show ObjOk X.prog X.w _ _ _ (.frz _ (.tup xs)) from ⟨Heap.get?_push_size _ rfl, hz, its, rv, IsTup.new _ _⟩)
    exact ⟨.ref h'.objs.size, _, I2, rfl, q _ { cls := .type "tuple", data := .seq its.toArray } rfl rfl (I1.hok.fresh (Nat.le_refl _))⟩
  · obtain rfl : v = .ref p := r
    obtain ⟨its, rv, pl, hz⟩ := I.tuple hs
    exact call_tuple_tup pl ⟨.ref p, H, I, rfl, q⟩
theorem pe_tupleN {p pos : Pos} (hg : Gl X "tuple") (hm : X.mg "tuple" = none) (ha : PE X a ta) (na : starEach [a] X.env = (false, eval a X.env) :: starEach [] X.env := by rfl) :
    PE X (.Call (.Name "tuple" p) [a] [] pos) (tThen ta (kTupN X.K)) := by
  refine ⟨fun pins s σ H Q I h => ?_⟩
  exact Call_ (ld_blt I hg hm boot_tuple (PyProof.Rows.callWith_type1 (one_arg ha I h (fun v s2 x H2 I2 r q => rl_tupleN pins s2 σ H2 x v Q I2 r q) na) na))
def tBT (r : V → List V → Hp → VK → Prop) (to : TE) (t : TA) : TE := fun σ H Q => to σ H fun x H1 => (∃ p ob vs, x = .ref p ∧ H1 p = some (.frz ob (.tup vs)) ∧ ob.dict = none ∧ ob.cls = .type "tuple") ∧ t σ H1 fun xs H2 => r x xs H2 Q
theorem pe_bmT {o : Expr} {to : TE} {t : TA} {name : Str} {apos cpos : Pos} {id : String} {r : V → List V → Hp → VK → Prop} (slot : Slot "tuple" name id) (hty : typeOf (.builtin id) = pure (.type "method_descriptor")) (hm : MtR X id r) (ho : PE X o to) (ha : PA X (e :: es) t)
    (hbase : attributeBase o name X.env (eval o X.env) = eval o X.env := by rfl)
    (hfew : ((backTo cpos (starEach (e :: es) X.env)).all (fun x => !x.1) && (backToKw cpos (keywordEach [] X.env)).all (fun x => x.1.isSome)
      && decide ((e :: es).length + ([] : List Keyword).length + (if ([] : List Keyword).isEmpty then 0 else 1) < 30)) = true := by rfl)
    (hline : (apos.endLine == cpos.line) = true := by rfl) (hs : starEach (e :: es) X.env = (false, eval e X.env) :: starEach es X.env := by rfl) (hplain : (backTo cpos (starEach es X.env)).any (·.1) = false := by rfl) :
    PE X (.Call (.Attribute o name apos) (e :: es) [] cpos) (tBT r to t) := by
  refine ⟨fun pins s σ H Q I h => ?_⟩
  refine wpAny_Call_method_late hbase hfew hline rfl (thn (ho.run pins s σ H _ I h) fun v s1 ⟨x, H1, I1, r1, ty, q1⟩ => ?_)
  obtain ⟨p, ob, vs, rfl, hp, hd, hc⟩ := ty
  obtain rfl : v = .ref p := r1
  obtain ⟨hob, _⟩ := I1.hok p _ hp
  refine ⟨"tuple", id, PySem.F.plainAttrs_tuple, slot, hty, ⟨ob, hob, hc⟩, fun a e => ?_, ?_⟩
  · cases e
    exact ⟨ob, hob, hd⟩
  have hA := ha.run cpos pins s1 σ H1 _ I1 q1
  rw [hs] at hA ⊢
  refine Calls.callWith_builtin (by show (false || (backTo cpos (starEach es X.env)).any (·.1)) = false; rw [hplain] <;> rfl) (Calls.evalArgs_plain ?_)
  exact thn hA fun us s2 ⟨vs, H2, I2, r2, q2⟩ => hm pins s2 σ H2 (.ref p) vs (.ref p) us Q I2 rfl r2 q2
def rIndexT (K : PySem.W.Frag) : V → List V → Hp → VK → Prop := fun x xs H Q => ∃ (a : Addr) (ys : List V) (y : V) (j : Nat) (z : V), x = V.ref a ∧ xs = [y] ∧ SqT K H a ys ∧ flatV y = true ∧ ys.all flatV = true ∧ ys[j]? = some z ∧ eqV z y = true ∧
  (∀ (m : Nat) (z' : V), m < j → ys[m]? = some z' → eqV z' y = false) ∧ Q (.int (j : Nat)) H
theorem mt_indexT : MtR X "tuple.index" (rIndexT X.K) := by
  intro pins s σ H x xs v us Q I rx rxs h
  obtain ⟨a, ys, y, j, z, rfl, rfl, hs, fy, fys, hz, hzj, hno, q⟩ := h
  cases rx
  cases rxs with
  | cons ry rt =>
    rename_i uy ut
    cases rt
    obtain ⟨its, rv, ⟨⟨cls, dd, data, sl⟩, ho, hc, n, hd⟩, hlen⟩ := I.tuple hs
    simp only at hc hd
    subst hc hd
    obtain ⟨u, hu, ru⟩ := rv.get hz
    obtain ⟨hjl, hje⟩ := List.getElem?_eq_some_iff.mp hu
    have hvl := rv.length
    have hj : j < its.toArray.size := by simpa using hjl
    refine call_meets PySem.F.slot_tuple_index ⟨_, ho, rfl⟩ PySem.F.entry_tuple_index (PySem.F.args_tuple_index_2 _ _)
      (TI.tuple_indexAt a its.toArray n dd sl uy (eqU y) j hj ?_ ?_) ⟨ho, fun u' hu' => mem_eqAt ry fy rv fys u' (by simpa using hu'), ?_⟩
    · have e1 : its.toArray[j] = u := by simpa using hje
      rw [e1, eqU_of ru (flat_at fys hz)]
      exact hzj
    · intro m hm hmj
      have hml : m < its.length := by simpa using hm
      have hmy : m < ys.length := by omega
      have hy' : ys[m]? = some ys[m] := List.getElem?_eq_getElem hmy
      obtain ⟨u2, hu2, ru2⟩ := rv.get hy'
      obtain ⟨_, hme⟩ := List.getElem?_eq_some_iff.mp hu2
      have e1 : its.toArray[m] = u2 := by simpa using hme
      rw [e1, eqU_of ru2 (flat_at fys hy')]
      exact hno m _ hmj hy'
    · exact ⟨.int (j : Nat), H, I.tok _, ⟨_, rfl⟩, q⟩
theorem countP_eqU {x : V} : ∀ {xs : List V} {us : List Value}, Vals xs us → xs.all flatV = true → us.countP (eqU x) = xs.countP fun y => eqV y x
  | _, _, .nil, _ => rfl
  | _, _, .cons r t, f => by
    rw [List.all_cons, Bool.and_eq_true] at f
    rw [List.countP_cons, List.countP_cons, eqU_of r f.1, countP_eqU t f.2]
def rCountT (K : PySem.W.Frag) : V → List V → Hp → VK → Prop := fun x xs H Q => ∃ (a : Addr) (ys : List V) (y : V), x = V.ref a ∧ xs = [y] ∧ SqT K H a ys ∧ flatV y = true ∧ ys.all flatV = true ∧ Q (.int ((ys.countP fun z => eqV z y : Nat) : Int)) H
theorem mt_countT : MtR X "tuple.count" (rCountT X.K) := by
  intro pins s σ H x xs v us Q I rx rxs h
  obtain ⟨a, ys, y, rfl, rfl, hs, fy, fys, q⟩ := h
  cases rx
  cases rxs with
  | cons ry rt =>
    rename_i uy ut
    cases rt
    obtain ⟨its, rv, ⟨⟨cls, dd, data, sl⟩, ho, hc, n, hd⟩, hlen⟩ := I.tuple hs
    simp only at hc hd
    subst hc hd
    refine call_meets PySem.F.slot_tuple_count ⟨_, ho, rfl⟩ PySem.F.entry_tuple_count (PySem.F.args_tuple_count_2 _ _)
      (SeqAt.tuple_countAt a its.toArray n dd sl uy (eqU y)) ⟨ho, fun u' hu' => mem_eqAt ry fy rv fys u' (by simpa using hu'), ?_⟩
    refine ⟨.int ((ys.countP fun z => eqV z y : Nat) : Int), H, I.tok _, ⟨s.toks, ?_⟩, q⟩
    rw [List.toList_toArray, countP_eqU rv fys]
end
end Pu
set_option Elab.async false
set_option linter.all false
set_option maxRecDepth 100000
set_option maxHeartbeats 4000000
namespace Pu
open PySem L2 Evl
/-! ### dicts of whole numbers -/
def KVR (c : DCod) (F : Hp) (ks : List (Key × V)) (kvs : List (Int × c.α)) : Prop := Paired (fun (p : Key × V) (q : Int × c.α) => p.1 = .inl q.1 ∧ c.rel F p.2 q.2) ks kvs
def dget {α : Type} : List (Int × α) → Int → Option α
  | [], _ => none
  | p :: r, k => if p.1 = k then some p.2 else dget r k
def dput {α : Type} (kvs : List (Int × α)) (k : Int) (v : α) : List (Int × α) :=
  if (kvs.any fun q => decide (q.1 = k)) = true then kvs.map (fun q => if q.1 = k then (q.1, v) else q) else kvs ++ [(k, v)]
def dmerge {α : Type} (kvs xs : List (Int × α)) : List (Int × α) := xs.foldl (fun acc q => dput acc q.1 q.2) kvs
theorem dmerge_snoc {α : Type} (kvs xs : List (Int × α)) (q : Int × α) : dmerge kvs (xs ++ [q]) = dput (dmerge kvs xs) q.1 q.2 := by
  unfold dmerge; rw [List.foldl_append]; rfl
section
variable {c : DCod}
theorem KVR.ext {F F' : Hp} (e : Ex F F') {ks : List (Key × V)} {kvs : List (Int × c.α)} (h : KVR c F ks kvs) : KVR c F' ks kvs := Paired.mapP h fun _ _ q => ⟨q.1, c.ext q.2 e⟩
theorem KVR.get {F : Hp} {i : Int} : ∀ {ks : List (Key × V)} {kvs : List (Int × c.α)}, KVR c F ks kvs → (∀ z, dget kvs i = some z → ∃ v, valV ks (.inl i) = some v ∧ c.rel F v z) ∧ (dget kvs i = none → valV ks (.inl i) = none)
  | _, _, .nil => ⟨fun z h => (nomatch h), fun _ => rfl⟩
  | _, _, .cons (a := p) (b := q) r t => by
    obtain ⟨h1, h2⟩ := KVR.get (i := i) t
    unfold dget
    by_cases e : q.1 = i
    · rw [if_pos e]
      have e2 : p.1 = .inl i := by rw [r.1, e]
      exact ⟨fun z hz => by cases hz; exact ⟨p.2, valV_pos e2, r.2⟩, fun z => (nomatch z)⟩
    · rw [if_neg e]
      have e2 : ¬ p.1 = .inl i := fun z => by
        rw [r.1] at z
        exact e (by cases z; rfl)
      rw [valV_neg e2]
      exact ⟨h1, h2⟩
theorem KVR.any {F : Hp} {i : Int} : ∀ {ks : List (Key × V)} {kvs : List (Int × c.α)}, KVR c F ks kvs → (ks.any fun p => decide (p.1 = (.inl i : Key))) = kvs.any fun q => decide (q.1 = i)
  | _, _, .nil => rfl
  | _, _, .cons (a := p) (b := q) r t => by
    rw [List.any_cons, List.any_cons, KVR.any t, r.1]
    congr 1
    by_cases e : q.1 = i
    · simp [e]
    · have : ¬ (Sum.inl q.1 : Key) = Sum.inl i := fun z => e (by cases z; rfl)
      rw [decide_eq_false this, decide_eq_false e]
theorem KVR.map {F : Hp} {i : Int} {v : V} {x : c.α} (hx : c.rel F v x) : ∀ {ks : List (Key × V)} {kvs : List (Int × c.α)}, KVR c F ks kvs → KVR c F (ks.map fun p => if p.1 = (.inl i : Key) then (p.1, v) else p) (kvs.map fun q => if q.1 = i then (q.1, x) else q)
  | _, _, .nil => .nil
  | _, _, .cons (a := p) (b := q) r t => by
    refine .cons ?_ (KVR.map hx t)
    by_cases e : q.1 = i
    · have e2 : p.1 = (.inl i : Key) := by rw [r.1, e]
      dsimp only
      rw [if_pos e, if_pos e2]
      exact ⟨r.1, hx⟩
    · have e2 : ¬ p.1 = (.inl i : Key) := fun z => by
        rw [r.1] at z
        exact e (by cases z; rfl)
      dsimp only
      rw [if_neg e, if_neg e2]
      exact r
theorem KVR.app {F : Hp} : ∀ {ks ls : List (Key × V)} {kvs lvs : List (Int × c.α)}, KVR c F ks kvs → KVR c F ls lvs → KVR c F (ks ++ ls) (kvs ++ lvs)
  | _, _, _, _, .nil, s => s
  | _, _, _, _, .cons r t, s => .cons r (KVR.app t s)
theorem KVR.put {F : Hp} {i : Int} {v : V} {x : c.α} (hx : c.rel F v x) {ks : List (Key × V)} {kvs : List (Int × c.α)} (h : KVR c F ks kvs) : KVR c F (putK ks (.inl i) v) (dput kvs i x) := by
  unfold putK dput
  rw [h.any (i := i)]
  by_cases e : (kvs.any fun q => decide (q.1 = i)) = true
  · rw [if_pos e, if_pos e]; exact h.map hx
  · rw [if_neg e, if_neg e]; exact h.app (.cons ⟨rfl, hx⟩ .nil)
theorem KVR.merge {F : Hp} : ∀ {ls : List (Key × V)} {lvs : List (Int × c.α)}, KVR c F ls lvs → ∀ {ks : List (Key × V)} {kvs : List (Int × c.α)}, KVR c F ks kvs → KVR c F (mergeK ks ls) (dmerge kvs lvs)
  | _, _, .nil, _, _, h => h
  | _, _, .cons (a := p) (b := q) r t, ks, kvs, h => by
    show KVR c F (mergeK (putK ks p.1 p.2) _) (dmerge (dput kvs q.1 q.2) _)
    rw [r.1]
    exact KVR.merge t (h.put r.2)
end
theorem dput_len {α : Type} (kvs : List (Int × α)) (k : Int) (v : α) : (dput kvs k v).length ≤ kvs.length + 1 := by
  unfold dput
  split
  · rw [List.length_map]; omega
  · rw [List.length_append]; exact Nat.le_refl _
theorem dmerge_len {α : Type} : ∀ (xs kvs : List (Int × α)), (dmerge kvs xs).length ≤ kvs.length + xs.length
  | [], kvs => Nat.le_refl _
  | q :: xs, kvs => by
    show (dmerge (dput kvs q.1 q.2) xs).length ≤ _
    have h1 := dmerge_len xs (dput kvs q.1 q.2)
    have h2 := dput_len kvs q.1 q.2
    rw [List.length_cons]; omega
section
variable {p : Bool} {E : XK} {XC : Str → Value} {Rt : Ret} {K : PySem.W.Frag} {Γ Γ' Γ0 Γ1 Γ2 ΓL Γf : List Sl} {te ta tb tc : TE} {tt tu : TT} {tA : TA} {ti : TI} {tg : TG} {a b c d : DCod} {m : Cod} {cs : List DCod} {ts us : TS} {C : Addr} {names : List Str}
theorem ev_dget {Ta : (R : Type) → (List (Int × c.α) → Env Γ → Res R) → Env Γ → Res R} {Tb : (R : Type) → (Int → Env Γ → Res R) → Env Γ → Res R} (ha : EvE p E XC Γ ta (dDict c) Ta) (hb : EvE p E XC Γ tb dInt Tb) :
    EvE p E XC Γ (tDGet ta tb) c (fun R k ρ => Ta R (fun x ρ => Tb R (fun y ρ => opt (dget x y) fun z => k z ρ) ρ) ρ) := fun B σ F H ρ I R G hG k Q g q =>
  ha B σ F H ρ I R G hG _ _ g fun x ρ1 v F1 H1 I1 e1 r1 g1 => hb B σ F1 H1 ρ1 I1 R G hG _ _ g1 fun y ρ2 w F2 H2 I2 e2 r2 g2 => by
    obtain ⟨l, ks, rfl, hl, hk⟩ := (dDict c).ext r1 e2.1
    obtain ⟨h1, h2⟩ := KVR.get (i := y) hk
    cases hz : dget x y with
    | none => rw [hz] at g2; exact absurd g2 hG.1
    | some z =>
      rw [hz] at g2
      obtain ⟨u, hu, ru⟩ := h1 z hz
      rw [show w = V.int y from r2]
      exact ⟨l, u, rfl, hu ▸ DGet.k (k := .inl y) (I2.fh l _ hl), q z ρ2 u F2 H2 I2 (e1.trans e2) ru g2⟩
theorem ev_din {Ta : (R : Type) → (Int → Env Γ → Res R) → Env Γ → Res R} {Tb : (R : Type) → (List (Int × c.α) → Env Γ → Res R) → Env Γ → Res R} (ha : EvE p E XC Γ ta dInt Ta) (hb : EvE p E XC Γ tb (dDict c) Tb) :
    EvE p E XC Γ (tDIn ta tb) dBl (fun R k ρ => Ta R (fun x ρ => Tb R (fun y ρ => k (dget y x).isSome ρ) ρ) ρ) := fun B σ F H ρ I R G hG k Q g q =>
  ha B σ F H ρ I R G hG _ _ g fun x ρ1 v F1 H1 I1 e1 r1 g1 => hb B σ F1 H1 ρ1 I1 R G hG _ _ g1 fun y ρ2 w F2 H2 I2 e2 r2 g2 => by
    obtain ⟨l, ks, rfl, hl, hk⟩ := r2
    obtain ⟨h1, h2⟩ := KVR.get (i := x) hk
    rw [show v = V.int x from r1]
    refine ⟨l, valV ks (.inl x), rfl, DGet.k (k := .inl x) (I2.fh l _ hl), q _ ρ2 _ F2 H2 I2 (e1.trans e2) ?_ g2⟩
    show V.bl _ = V.bl _
    congr 1
    cases hz : dget y x with
    | none => rw [h2 hz]; rfl
    | some z =>
      obtain ⟨u, hu, _⟩ := h1 z hz
      rw [hu]; rfl
theorem o_lenD {c : DCod} : Op1b (fun xs H Q => ∃ a kvs, xs = [V.ref a] ∧ H a = some (.dK kvs) ∧ Q (.int kvs.length) H) (dDict c) dInt (fun xs => (xs.length : Int)) := fun F H v x Q e h k => by
  obtain ⟨l, ks, rfl, hl, hk⟩ := h
  exact ⟨l, ks, rfl, e l _ hl, by rw [Paired.length hk]; exact k _ F H (Pext.refl e) rfl⟩
theorem pairs_of {F H : Hp} (e : Ex F H) : ∀ {vs : List V} {xs : List (Int × c.α)}, PV (dP2 dInt c) F vs xs → ∃ (ps : List Addr) (kvs : List (Key × V)), vs = ps.map V.ref ∧ Paired (fun p kv => SqT K H p [kV kv.1, kv.2]) ps kvs ∧ KVR c F kvs xs
  | _, _, .nil => ⟨[], [], rfl, .nil, .nil⟩
  | _, _, .cons r t => by
    obtain ⟨ps, kvs, h1, h2, h3⟩ := pairs_of e t
    obtain ⟨l, u, w, rfl, hl, r1, r2⟩ := r
    have r1 : u = V.int _ := r1
    subst r1
    exact ⟨l :: ps, (.inl _, w) :: kvs, by rw [h1]; rfl, .cons (SqT.of (e l _ hl)) h2, .cons ⟨rfl, r2⟩ h3⟩
theorem o_dict {c : DCod} : Op1b (fun xs H Q => ∃ (a : Addr) (ps : List Addr) (kvs : List (Key × V)), xs = [.ref a] ∧ SqL K H a (ps.map V.ref) ∧ Paired (fun p kv => SqT K H p [kV kv.1, kv.2]) ps kvs ∧
    ∀ p, H p = none → Q (.ref p) (upd H p (.dK (mergeK [] kvs)))) (dLst (dP2 dInt c)) (dDict c) (fun xs => dmerge [] xs) := fun F H v x Q e h k => by
  obtain ⟨l, vs, rfl, hl, pv, hz⟩ := h
  obtain ⟨ps, kvs, h1, h2, h3⟩ := pairs_of (K := K) e pv
  exact ⟨l, ps, kvs, rfl, h1 ▸ SqL.of (e l _ hl), h2, fun q hq => k _ _ _ (Pext.one e hq) ⟨q, _, rfl, upd_same, (KVR.merge h3 .nil).ext (Ex.new (none_of e hq))⟩⟩
/-! ### tests, chains -/
theorem et_truL {T : (R : Type) → (List c.α → Env Γ → Res R) → Env Γ → Res R} (h : EvE p E XC Γ te (dLst c) T) : EvT p E XC Γ (fun σ H Q => te σ H fun x H' => ∃ k, TruV K x H' k ∧ Q k H') (fun R k ρ => T R (fun x ρ => k (!x.isEmpty) ρ) ρ) := fun B σ F H ρ I R G hG k Q g q =>
  h B σ F H ρ I R G hG _ _ g fun x ρ1 v F1 H1 I1 e1 r1 g1 => by
    obtain ⟨l, vs, rfl, hl, pv, hz⟩ := r1
    refine ⟨_, .inl ⟨vs, SqL.of (I1.fh l _ hl), rfl⟩, ?_⟩
    have : (!vs.isEmpty) = !x.isEmpty := by cases pv <;> rfl
    rw [this]
    exact q _ ρ1 F1 H1 I1 e1 g1
theorem ev_chain {r r' : R2} {f : a.α → b.α → Bool} {g' : b.α → c.α → Bool} {Ta : (R : Type) → (a.α → Env Γ → Res R) → Env Γ → Res R} {Tb : (R : Type) → (b.α → Env Γ → Res R) → Env Γ → Res R} {Tc : (R : Type) → (c.α → Env Γ → Res R) → Env Γ → Res R}
    (o : Op2 r a b dBl f) (o' : Op2 r' b c dBl g') (ha : EvE p E XC Γ ta a Ta) (hb : EvE p E XC Γ tb b Tb) (hc : EvE p E XC Γ tc c Tc) :
    EvE p E XC Γ (tChain r r' ta tb tc) dBl (fun R k ρ => Ta R (fun x ρ => Tb R (fun y ρ => if f x y = true then Tc R (fun z ρ => k (g' y z) ρ) ρ else k false ρ) ρ) ρ) := fun B σ F H ρ I R G hG k Q g q =>
  ha B σ F H ρ I R G hG _ _ g fun x ρ1 v F1 H1 I1 e1 r1 g1 => hb B σ F1 H1 ρ1 I1 R G hG _ _ g1 fun y ρ2 w F2 H2 I2 e2 r2 g2 =>
    o F2 H2 v w x y _ I2.fh (a.ext r1 e2.1) r2 fun u F3 H3 pp r3 => by
      refine ⟨f x y, r3, ?_⟩
      cases hf : f x y with
      | false =>
        rw [if_neg (by decide)]
        rw [hf, if_neg (by decide)] at g2
        exact q _ ρ2 _ F3 H3 (I2.pext pp) ((e1.trans e2).pext pp) rfl g2
      | true =>
        rw [if_pos rfl]
        rw [hf, if_pos rfl] at g2
        exact hc B σ F3 H3 ρ2 (I2.pext pp) R G hG _ _ g2 fun z ρ4 u4 F4 H4 I4 e4 r4 g4 =>
          o' F4 H4 w u4 y z Q I4.fh (b.ext r2 (pp.ff.trans e4.1)) r4 fun u5 F5 H5 p5 r5 => q _ ρ4 u5 F5 H5 (I4.pext p5) (((((e1.trans e2).pext pp)).trans e4).pext p5) r5 g4
/-! ### iteration -/
theorem pi_eith {X : Cx} {tgt l : Expr} {t u : TI} (h1 : PI X tgt l t) (h2 : PI X tgt l u) : PI X tgt l (iEith t u) := ⟨fun pins s σ H R I h => h.elim (h1.run pins s σ H R I) (h2.run pins s σ H R I)⟩
theorem walk_enumT {a : Addr} {xs : List V} : Walk (IteT K a) xs.length (fun H => SqT K H a xs) (YPair (fun i => some (.int (i : Nat))) (fun i => xs[i]?)) := by
  refine ⟨fun i _ hi q => ⟨xs, xs[i], q, by simp [hi]⟩, fun _ q => ⟨xs, q, Nat.le_refl _⟩, fun i H v H' _ q y => ?_⟩
  obtain ⟨T, x, h1, h2, h3, h4⟩ := y
  exact ⟨T, .int (i : Nat), x, h1, h2, h3, rfl, h4 xs q⟩
theorem ei_enumT {T : (R : Type) → (DEnv [dTup c] → Env Γ → Res R) → Env Γ → Res R} (h : EvA p E XC Γ tA [dTup c] T) : EvI p E XC Γ (iEnumT K tA) (dP2 dInt c) (fun R k ρ => T R (fun x ρ => k (enumL x.1) ρ) ρ) := fun B σ F H ρ I R G hG k Q g qq =>
  h B σ F H ρ I R G hG _ _ g fun x ρ' vs F' H' I' e r g' => by
    obtain ⟨v, vs', rfl, r1, r2⟩ := r
    have r2 : vs' = [] := r2
    obtain ⟨xs, u⟩ := x
    obtain ⟨a, ws, rfl, g2, g3, g4⟩ := r1
    subst r2
    exact ⟨a, ws, rfl, SqT.rd I'.fh g2, qq _ ρ' _ F' H' I' e (walks_enum (a := a) walk_enumT (fun H2 e2 => SqT.rd e2 g2) g3) g' (by rw [enumL_len]; exact g4)⟩
end
end Pu
set_option Elab.async false
set_option linter.all false
set_option maxRecDepth 100000
set_option maxHeartbeats 4000000
namespace Pu
open PySem PySem.Spec PyProof.Rows L2 Evl
section
variable {X : Cx}
end
/-! ### fields of things that may change -/
def fIx : List Str → Str → Option Nat
  | [], _ => none
  | n :: ns, f => if (f == n) = true then some 0 else (fIx ns f).map (· + 1)
theorem fIx_look {f : Str} {v : V} : ∀ {names : List Str} {vs : List V} {j : Nat}, fIx names f = some j → vs[j]? = some v → (names.zip vs).lookup f = some v
  | [], _, _, h, _ => nomatch h
  | n :: ns, [], _, _, hv => by simp at hv
  | n :: ns, w :: ws, j, h, hv => by
    unfold fIx at h
    rw [List.zip_cons_cons, List.lookup]
    by_cases e : (f == n) = true
    · rw [if_pos e] at h
      cases h
      rw [e]
      simpa using hv
    · rw [if_neg e] at h
      have e2 : (f == n) = false := by simpa using e
      rw [e2]
      cases h2 : fIx ns f with
      | none => rw [h2] at h; cases h
      | some i =>
        rw [h2] at h
        cases h
        exact fIx_look h2 (by simpa using hv)
section
variable {p : Bool} {E : XK} {XC : Str → Value} {Rt : Ret} {K : PySem.W.Frag} {Γ Γ' Γ0 Γ1 Γ2 ΓL Γf : List Sl} {te ta tb tc : TE} {tt tu : TT} {tA : TA} {ti : TI} {tg : TG} {a b c d : DCod} {m : Cod} {cs : List DCod} {ts us : TS} {C : Addr} {names : List Str} {i j : Nat} {k : Kd} {f : Str}
theorem map_some_get {vs : List V} {j : Nat} {v : V} (h : (vs.map some)[j]? = some (some v)) : vs[j]? = some v := by
  rw [List.getElem?_map] at h
  cases e : vs[j]? with
  | none => rw [e] at h; cases h
  | some w => rw [e] at h; cases h; rfl
theorem ev_fldM (at_ : At Γ i (.m k (mObj C names Γf))) (atf : At Γf j (.da c)) (hn : fIx names f = some j) (hc : Cls K C) (hna : NoAttr K C f) : EvE p E XC Γ (tFld K (tVar i) f) c (fun R kk ρ => kk (atf.get (at_.get ρ)) ρ) := fun B σ F H ρ I R G hG kk Q g q => by
  obtain ⟨v, fp, h1, _, hr, _⟩ := I.mut at_
  obtain ⟨l, dx, vs, fp', rfl, hl, rfl, hv, hs⟩ := hr
  obtain ⟨u, hu, ru⟩ := hs.data atf
  exact ⟨_, h1, l, C, dx, _, u, rfl, hl, hc, hna, fIx_look hn (map_some_get hu), q _ ρ u F H I (Gt.refl I.fh) ru g⟩
end
end Pu
set_option Elab.async false
set_option linter.all false
set_option maxRecDepth 100000
set_option maxHeartbeats 4000000
namespace Pu
open PySem L2 Evl
section
variable {p : Bool} {E : XK} {XC : Str → Value} {Rt : Ret} {K : PySem.W.Frag} {Γ Γ' Γ0 Γ1 Γ2 ΓL Γf : List Sl} {te ta tb tc : TE} {tt tu : TT} {tA : TA} {ti : TI} {tg : TG} {a b c d : DCod} {m m2 : Cod} {cs : List DCod} {ts us : TS} {C : Addr} {names : List Str} {i j : Nat} {k : Kd} {f : Str}
/-! ### tuple(x) -/
theorem und_tun {c : DCod} (u : Und c) : Und (dTuN c) := fun F fp v x k h => by
  obtain ⟨a, vs, ob, h1, h2, h3, h4, h5, h6⟩ := h
  refine ⟨a, vs, ob, h1, ?_, h3, h4, h5.mono fun v x r => u F fp v x k r, h6⟩
  unfold thaw
  rw [if_neg fun ha => k a ha _ h2]; exact h2
theorem o_tupNL {c : DCod} : Op1 (kTupN K) (dLst c) (dTuN c) (fun xs => xs) := fun F H v x Q e h k => by
  obtain ⟨a, vs, rfl, g2, g3, g4⟩ := h
  exact .inl ⟨a, vs, rfl, SqL.of (e a _ g2), fun q ob hd hc hq => k _ _ _ (Pext.one e hq) ⟨q, vs, ob, rfl, upd_same, hd, hc, g3.ext (Ex.new (none_of e hq)), g4⟩⟩
theorem o_tupNN {c : DCod} : Op1 (kTupN K) (dTuN c) (dTuN c) (fun xs => xs) := fun F H v x Q e h k => by
  obtain ⟨a, vs, ob, rfl, g2, g3, g4, g5, g6⟩ := id h
  exact .inr ⟨a, vs, rfl, SqT.rd e (.inr ⟨ob, g2⟩), k _ F H (Pext.refl e) h⟩
theorem o_tupNT {c : DCod} : Op1 (kTupN K) (dTup c) (dTup c) (fun xs => xs) := fun F H v x Q e h k => by
  obtain ⟨a, vs, rfl, g2, g3, g4⟩ := id h
  exact .inr ⟨a, vs, rfl, SqT.rd e g2, k _ F H (Pext.refl e) h⟩
theorem o_tupNS {c : DCod} : Op1 (kTupN K) (dSeq c) (dTup c) (fun xs => xs) := fun F H v x Q e h k => by
  obtain ⟨a, vs, rfl, g2, g3, g4⟩ := h
  rcases g2 with g2 | g2
  · exact .inl ⟨a, vs, rfl, SqL.of (e a _ g2), fun q ob hd hc hq => k _ _ _ (Pext.one e hq) ⟨q, vs, rfl, .inr ⟨ob, upd_same⟩, g3.ext (Ex.new (none_of e hq)), g4⟩⟩
  · exact .inr ⟨a, vs, rfl, SqT.rd e g2, k _ F H (Pext.refl e) ⟨a, vs, rfl, g2, g3, g4⟩⟩
theorem ev_tupNM (at_ : At Γ i (.m k (mLst c))) : EvE p E XC Γ (tThen (tVar i) (kTupN K)) (dTuN c) (fun R kk ρ => kk (at_.get ρ) ρ) := fun B σ F H ρ I R G hG kk Q g qq => by
  obtain ⟨v, fp, h1, _, hr, _⟩ := I.mut at_
  obtain ⟨l, vs, rfl, rfl, hl, pv, hz⟩ := hr
  exact ⟨_, h1, .inl ⟨l, vs, rfl, SqL.of hl, fun q ob hd hc hq => qq _ ρ _ _ _ (I.pext (Pext.one I.fh hq)) ((Gt.refl I.fh).pext (Pext.one I.fh hq)) ⟨q, vs, ob, rfl, upd_same, hd, hc, pv.ext (Ex.new (none_of I.fh hq)), hz⟩ g⟩⟩
/-! ### t.index(x), t.count(x) -/
def indexL {α : Type} (d : DecidableEq α) : List α → α → Option Int
  | [], _ => none
  | y :: ys, x => if (@decide (y = x) (d y x)) = true then some 0 else (indexL d ys x).map (· + 1)
theorem indexL_get {F : Hp} (q : Fl c) {w : V} {x : c.α} (rw_ : c.rel F w x) : ∀ {vs : List V} {xs : List c.α} {n : Int}, PV c F vs xs → indexL q.dec xs x = some n → ∃ (j : Nat) (z : V), n = (j : Int) ∧ vs[j]? = some z ∧ eqV z w = true ∧ ∀ (m : Nat) (z' : V), m < j → vs[m]? = some z' → eqV z' w = false
  | _, _, _, .nil, h => nomatch h
  | _, _, n, .cons (a := v) (b := y) r t, h => by
    unfold indexL at h
    by_cases e : (@decide (y = x) (q.dec y x)) = true
    · rw [if_pos e] at h
      cases h
      exact ⟨0, v, rfl, rfl, by rw [q.eq r rw_]; exact e, fun m z' hm => absurd hm (Nat.not_lt_zero m)⟩
    · rw [if_neg e] at h
      cases h2 : indexL q.dec _ x with
      | none => rw [h2] at h; cases h
      | some n' =>
        rw [h2] at h
        cases h
        obtain ⟨j, z, h3, h4, h5, h6⟩ := indexL_get q rw_ t h2
        refine ⟨j + 1, z, by rw [h3]; rfl, by simpa using h4, h5, fun m z' hm hz => ?_⟩
        cases m with
        | zero =>
          have : v = z' := by simpa using hz
          rw [← this, q.eq r rw_]
          exact Bool.eq_false_iff.mpr e
        | succ m => exact h6 m z' (by omega) (by simpa using hz)
theorem ev_indexT (q : Fl c) {Ta : (R : Type) → (List c.α → Env Γ → Res R) → Env Γ → Res R} {Tb : (R : Type) → (c.α → Env Γ → Res R) → Env Γ → Res R} (ha : EvE p E XC Γ ta (dTuN c) Ta) (hb : EvE p E XC Γ tb c Tb) :
    EvE p E XC Γ (tBT (rIndexT K) ta (tCons tb tNil)) dInt (fun R k ρ => Ta R (fun x ρ => Tb R (fun y ρ => opt (indexL q.dec x y) fun z => k z ρ) ρ) ρ) := fun B σ F H ρ I R G hG k Q g qq =>
  ha B σ F H ρ I R G hG _ _ g fun x ρ1 v F1 H1 I1 e1 r1 g1 => by
    obtain ⟨l, vs, ob, rfl, h2, h3, h4, h5, h6⟩ := r1
    refine ⟨⟨l, ob, vs, rfl, I1.fh l _ h2, h3, h4⟩, hb B σ F1 H1 ρ1 I1 R G hG _ _ g1 fun y ρ2 w F2 H2 I2 e2 r2 g2 => ?_⟩
    cases hn : indexL q.dec x y with
    | none => rw [hn] at g2; exact absurd g2 hG.1
    | some n =>
      rw [hn] at g2
      have pv := h5.ext e2.1
      obtain ⟨j, z, rfl, g3, g4, g5⟩ := indexL_get q r2 pv hn
      exact ⟨l, vs, w, j, z, rfl, rfl, SqT.rd I2.fh (.inr ⟨ob, e2.1 l _ h2⟩), q.flat r2, fl_all q pv, g3, g4, g5, qq _ ρ2 _ F2 H2 I2 (e1.trans e2) rfl g2⟩
def countL {α : Type} (d : DecidableEq α) (xs : List α) (x : α) : Int := ((xs.countP fun y => @decide (y = x) (d y x) : Nat) : Int)
theorem countL_eq {F : Hp} (q : Fl c) {w : V} {x : c.α} (rw_ : c.rel F w x) : ∀ {vs : List V} {xs : List c.α}, PV c F vs xs → (vs.countP fun z => eqV z w) = xs.countP fun y => @decide (y = x) (q.dec y x)
  | _, _, .nil => rfl
  | _, _, .cons r t => by rw [List.countP_cons, List.countP_cons, countL_eq q rw_ t, q.eq r rw_]
theorem ev_countT (q : Fl c) {Ta : (R : Type) → (List c.α → Env Γ → Res R) → Env Γ → Res R} {Tb : (R : Type) → (c.α → Env Γ → Res R) → Env Γ → Res R} (ha : EvE p E XC Γ ta (dTuN c) Ta) (hb : EvE p E XC Γ tb c Tb) :
    EvE p E XC Γ (tBT (rCountT K) ta (tCons tb tNil)) dInt (fun R k ρ => Ta R (fun x ρ => Tb R (fun y ρ => k (countL q.dec x y) ρ) ρ) ρ) := fun B σ F H ρ I R G hG k Q g qq =>
  ha B σ F H ρ I R G hG _ _ g fun x ρ1 v F1 H1 I1 e1 r1 g1 => by
    obtain ⟨l, vs, ob, rfl, h2, h3, h4, h5, h6⟩ := r1
    refine ⟨⟨l, ob, vs, rfl, I1.fh l _ h2, h3, h4⟩, hb B σ F1 H1 ρ1 I1 R G hG _ _ g1 fun y ρ2 w F2 H2 I2 e2 r2 g2 => ?_⟩
    have pv := h5.ext e2.1
    exact ⟨l, vs, w, rfl, rfl, SqT.rd I2.fh (.inr ⟨ob, e2.1 l _ h2⟩), q.flat r2, fl_all q pv, qq _ ρ2 _ F2 H2 I2 (e1.trans e2) (by rw [countL_eq q r2 pv]; rfl) g2⟩
/-! ### items of lists and tuples become options -/
theorem PV.some {F : Hp} : ∀ {vs : List V} {xs : List Int}, PV dInt F vs xs → PV (dOpt dInt) F vs (xs.map some)
  | _, _, .nil => .nil
  | _, _, .cons (a := v) (b := x) r t => .cons ⟨r, fun e => by
    have r : v = V.int x := r
    rw [r] at e; cases e⟩ (PV.some t)
theorem PV.nones {F : Hp} : ∀ {vs : List V} {xs : List Unit}, PV dNon F vs xs → PV (dOpt c) F vs (xs.map fun _ => (none : Option c.α))
  | _, _, .nil => .nil
  | _, _, .cons r t => .cons r (PV.nones t)
theorem sb_someT : Sb (dTup dInt) (dTup (dOpt dInt)) (fun xs => xs.map some) := fun F v x h => by
  obtain ⟨a, vs, h1, h2, h3, h4⟩ := h
  exact ⟨a, vs, h1, h2, h3.some, by rw [List.length_map]; exact h4⟩
theorem sb_someL : Sb (dLst dInt) (dLst (dOpt dInt)) (fun xs => xs.map some) := fun F v x h => by
  obtain ⟨a, vs, h1, h2, h3, h4⟩ := h
  exact ⟨a, vs, h1, h2, h3.some, by rw [List.length_map]; exact h4⟩
theorem sb_noneL : Sb (dLst dNon) (dLst (dOpt c)) (fun xs => xs.map fun _ => (none : Option c.α)) := fun F v x h => by
  obtain ⟨a, vs, h1, h2, h3, h4⟩ := h
  exact ⟨a, vs, h1, h2, h3.nones, by rw [List.length_map]; exact h4⟩
/-! ### a, b = e1, e2 -/
theorem st_par2 {s1 s2 : Sl} (u : Up Γ i s1 (.da a) Γ1) (u2 : Up Γ1 j s2 (.da b) Γ') {Ta : (R : Type) → (a.α → Env Γ → Res R) → Env Γ → Res R} {Tb : (R : Type) → (b.α → Env Γ → Res R) → Env Γ → Res R} (ha : EvE p E XC Γ ta a Ta) (hb : EvE p E XC Γ tb b Tb) :
    StE E XC Rt Γ (tPar i j (tCons ta (tCons tb tNil))) Γ' ΓL (fun R nx rt bk ct ρ => Ta R (fun x ρ => Tb R (fun y ρ => nx (u2.set (u.set ρ x) y)) ρ) ρ) := fun B σ F H ρ I R G hG nx rt bk ct D g qn qr qb qc =>
  ha B σ F H ρ I R G hG _ _ g fun x ρ1 v F1 H1 I1 e1 r1 g1 => hb B σ F1 H1 ρ1 I1 R G hG _ _ g1 fun y ρ2 w F2 H2 I2 e2 r2 g2 =>
    ⟨v, w, rfl, qn _ _ F2 H2 ((I2.setD u (a.ext r1 e2.1)).setD u2 r2) (e1.1.trans e2.1) g2⟩
theorem New.ext {fp : List Addr} {H0 F H F' H' : Hp} (n : New fp H0 F H) (pp : Pext F F' H H') : New fp H0 F' H' := ⟨n.nd, fun a ha => by
  obtain ⟨h1, h2, o, h3⟩ := n.at_ a ha
  refine ⟨h1, ?_, o, pp.hh a o h3⟩
  cases e : F' a with
  | none => rfl
  | some u =>
    rcases pp.new a u e with z | z
    · rw [h2] at z; cases z
    · rw [h3] at z; cases z⟩
theorem New.later {fp : List Addr} {H0 H1 F H : Hp} (n : New fp H1 F H) (e : Ex H0 H1) : New fp H0 F H := ⟨n.nd, fun a ha => let ⟨h1, h2⟩ := n.at_ a ha; ⟨none_of e h1, h2⟩⟩
theorem st_parNN {s1 s2 : Sl} (u : Up Γ i s1 (.m .lo m) Γ1) (u2 : Up Γ1 j s2 (.m .lo m2) Γ') {Ta : (R : Type) → (m.α → Env Γ → Res R) → Env Γ → Res R} {Tb : (R : Type) → (m2.α → Env Γ → Res R) → Env Γ → Res R} (ha : EvN p E XC Γ ta m Ta) (hb : EvN true E XC Γ tb m2 Tb) :
    StE E XC Rt Γ (tPar i j (tCons ta (tCons tb tNil))) Γ' ΓL (fun R nx rt bk ct ρ => Ta R (fun x ρ => Tb R (fun y ρ => nx (u2.set (u.set ρ x) y)) ρ) ρ) := fun B σ F H ρ I R G hG nx rt bk ct D g qn qr qb qc =>
  ha B σ F H ρ I R G hG _ _ g fun x ρ1 v fp F0 H0 F1 H1 I0 e1 pp n r1 g1 => hb B σ F1 H1 ρ1 (I0.pext pp) R G hG _ _ g1 fun y ρ2 w fp2 F2 H2 F3 H3 I2 e2 pp2 n2 r2 g2 => by
    obtain ⟨er, pe⟩ := e2.2 rfl
    subst er
    have p0 : Pext F0 F2 H0 H2 := pp.trans pe
    have I3 := I0.setM p0 (n.ext pe) u (m.ext r1 pe.ff fun a ha => by
      obtain ⟨_, _, o, h⟩ := n.at_ a ha
      rw [h, pe.hh a o h])
    exact ⟨v, w, rfl, qn _ _ F3 H3 (I3.setM pp2 n2 u2 r2) ((e1.1.trans p0.ff).trans pp2.ff) g2⟩
theorem st_aug {o : Int → Int → Int} (at_ : At Γ i (.da dInt)) (u : Up Γ i (.da dInt) (.da dInt) Γ) {T : (R : Type) → (Int → Env Γ → Res R) → Env Γ → Res R} (h : EvE true E XC Γ te dInt T) :
    StE E XC Rt Γ (tAug i te (ipI o)) Γ ΓL (fun R nx rt bk ct ρ => T R (fun x ρ => nx (u.set ρ (o (at_.get ρ) x))) ρ) := fun B σ F H ρ I R G hG nx rt bk ct D g qn qr qb qc => by
  obtain ⟨v, h1, h2⟩ := I.data at_
  refine ⟨v, h1, h B σ F H ρ I R G hG _ _ g fun x ρ1 w F1 H1 I1 e1 r1 g1 => ?_⟩
  obtain ⟨er, _⟩ := e1.2 rfl
  rw [er] at I1 g1
  exact ⟨at_.get ρ, x, h2, r1, qn _ _ F1 H1 (I1.setD u rfl) e1.1 g1⟩
end
end Pu
set_option Elab.async false
set_option linter.all false
set_option maxRecDepth 100000
set_option maxHeartbeats 4000000
namespace Pu
open PySem L2 Evl
section
variable {J : It} {n : Nat} {G : Hp → Prop} {Y : Nat → Hp → V → Hp → Prop}
theorem dc_it (w : Walk J n G Y) {g : TG} {tt : TT} {tk tv : TE} {vs : List Nat} {σ : St} {H1 : Hp} {D : Addr} {Qd : Hp → Prop} (Pv : Nat → Hp → Prop) (h0 : Pv 0 (upd H1 D (.dK []))) (hG : ∀ i H, i ≤ n → Pv i H → G H)
    (hs : ∀ i x H H', i < n → Pv i H → Y i H x H' → g x (wipe σ vs) H' fun σ2 H2 => wipe σ2 vs = wipe σ vs ∧ tt σ2 H2 fun b H3 =>
      if b = true then tk σ2 H3 fun y H4 => tv σ2 H4 fun z H5 => ∃ kvs k, y = kV k ∧ H5 D = some (.dK kvs) ∧ kvs.length < sizeLine ∧ Pv (i + 1) (upd H5 D (.dK (putK kvs k z))) else Pv (i + 1) H3) (hd : ∀ H, Pv n H → Qd H) :
    ∃ W : Nat → Nat → Hp → Prop, (∃ m, W 0 m (upd H1 D (.dK []))) ∧ ∀ i m H, W i m H →
      (J.stop i H ∧ Qd H) ∨ (J.go i H ∧ ∃ Nx : Hp → Prop, (∀ H', Nx H' → ∃ m', m' < m ∧ W (i + 1) m' H') ∧ ∀ x H', J.yld i H x H' → g x (wipe σ vs) H' fun σ2 H2 => wipe σ2 vs = wipe σ vs ∧ tt σ2 H2 fun b H3 =>
        if b = true then tk σ2 H3 fun y H4 => tv σ2 H4 fun z H5 => ∃ kvs k, y = kV k ∧ H5 D = some (.dK kvs) ∧ kvs.length < sizeLine ∧ Nx (upd H5 D (.dK (putK kvs k z))) else Nx H3) := by
  refine ⟨fun i m H => m = n - i ∧ i ≤ n ∧ Pv i H, ⟨n, by simp, Nat.zero_le _, h0⟩, ?_⟩
  rintro i m H ⟨rfl, hi, p⟩
  have q := hG i H hi p
  by_cases hlt : i < n
  · refine .inr ⟨w.goes i H hlt q, Pv (i + 1), fun H' p' => ⟨n - (i + 1), by omega, rfl, hlt, p'⟩, fun x H' y => hs i x H H' hlt p (w.yields i H x H' hlt q y)⟩
  · have e : i = n := by omega
    subst e
    exact .inl ⟨w.stops H q, hd H p⟩
end
section
variable {p : Bool} {E : XK} {XC : Str → Value} {Rt : Ret} {K : PySem.W.Frag} {Γ Γ' Γ0 Γ1 Γ2 ΓL Γf : List Sl} {te tk tv ta tb tc : TE} {tt tu : TT} {tA : TA} {ti : TI} {tg : TG} {a b c d : DCod} {m m2 : Cod} {cs : List DCod} {ts us : TS} {C : Addr} {names : List Str} {i j : Nat} {k : Kd} {f : Str}
theorem en_dc {vs is : List Nat} {q : Bool} {f : Env Γ → a.α → Env Γ1} {T0 : (R : Type) → (List a.α → Env Γ → Res R) → Env Γ → Res R} {Tk : (R : Type) → (Int → Env Γ1 → Res R) → Env Γ1 → Res R} {Tv : (R : Type) → (c.α → Env Γ1 → Res R) → Env Γ1 → Res R}
    (hv : allNo Γ vs = true) (his : ∀ i, i ∈ is → i ∈ vs) (bk : Bk Γ1 Γ) (h : EvI false E XC Γ ti a T0) (ht : TgE Γ tg a Γ1 f is) (hk : EvE q E0 XC Γ1 tk dInt Tk) (he : EvE q E0 XC Γ1 tv c Tv) :
    EvE false E XC Γ (tDc ti tg (fun σ H Q => Q true H) tk tv vs) (dDict c) (fun R k ρ => T0 R (fun xs ρ => opt (compL (fun x ρ0 => Tk _ (fun y ρ1 => Tv _ (fun z ρ2 => .ok (some (y, z), bk.f ρ2)) ρ1) (f ρ0 x)) xs ρ) fun ys => k (dmerge [] ys.1) ys.2) ρ) := fun B σ F H ρ I R G hG k Q g qq => by
  refine h B σ F H ρ I R G hG _ _ g fun xs ρ1 J F1 H1 I1 e1 w g1 hz D hD => ?_
  obtain ⟨Y, w, hy⟩ := w.ex
  generalize hcl : compL (fun x ρ0 => Tk _ (fun y ρ1 => Tv _ (fun z ρ2 => Res.ok (some (y, z), bk.f ρ2)) ρ1) (f ρ0 x)) xs ρ1 = cl at g1
  cases cl with
  | none => exact absurd g1 hG.1
  | some ys =>
  obtain ⟨ys, ρe⟩ := ys
  have g1 : G (k (dmerge [] ys) ρe) := g1
  have S0 : SApart B Γ σ F1 (upd H1 D (.dK [])) ρ1 D := I1.apart hD
  refine dc_it w (g := tg) (tt := fun σ H Q => Q true H) (tk := tk) (tv := tv) (vs := vs) (σ := σ) (fun i H' => i ≤ xs.length ∧ ∃ F' ρ0 acc vs' rest, SApart B Γ (wipe σ vs) F' H' ρ0 D ∧ Ex F1 F' ∧ H' D = some (.dK vs') ∧ KVR c F' vs' (dmerge [] acc) ∧ acc.length ≤ i ∧ compL (fun x ρ0 => Tk _ (fun y ρ1 => Tv _ (fun z ρ2 => Res.ok (some (y, z), bk.f ρ2)) ρ1) (f ρ0 x)) (xs.drop i) ρ0 = some (rest, ρe) ∧ ys = acc ++ rest)
    ⟨Nat.zero_le _, F1, ρ1, [], [], ys, S0.wiped hv, Ex.refl _, upd_same, .nil, Nat.le_refl _, hcl, rfl⟩ (fun i H' _ ⟨_, F', _, _, _, _, S, e', _⟩ => e'.trans S.inv.fh) ?_ ?_
  · rintro i v H' H2 hi ⟨_, F', ρ0, acc, vs', rest, S, e', hDl, pv, hacc, hcl', hys⟩ y
    obtain ⟨F2, x, hx, pp, r⟩ := hy i H' v H2 F' y e' S.inv.fh
    obtain ⟨hlt, hxe⟩ := List.getElem?_eq_some_iff.mp hx
    have ed : xs.drop i = x :: xs.drop (i + 1) := by rw [← hxe]; exact (List.drop_eq_getElem_cons hlt)
    rw [ed] at hcl'
    obtain ⟨o, ρ3, ys', hbody, hrest, hrr⟩ := compL_cons hcl'
    obtain ⟨B2, I2, hfr, back⟩ := S.go hDl
    have I2' := I2.pext pp
    refine ht B2 _ F2 H2 ρ0 v x I2' r _ fun σ3 I3 hag hln => ⟨?_, ?_⟩
    · have ew : wipe σ3 vs = wipe (wipe σ vs) vs := wipe_eq hln fun j hj => hag j fun z => hj (his j z)
      rw [ew]
      exact wipe_eq (wipe_length _ _) fun j hj => wipe_get _ _ _ hj
    · have hup : ∀ {Fz Hz : Hp} {ρz : Env Γ1}, SInv B2 Γ1 σ3 Fz Hz ρz → SApart B Γ (wipe σ vs) Fz Hz (bk.f ρz) D ∧ Hz D = some (.dK vs') := fun {Fz Hz ρz} Iz => by
        obtain ⟨Sz, hz⟩ := back _ _ _ _ _ (bk.inv Iz)
        have e3 : wipe σ3 vs = wipe σ vs := by
          have ew : wipe σ3 vs = wipe (wipe σ vs) vs := wipe_eq hln fun j hj => hag j fun z => hj (his j z)
          rw [ew]
          exact wipe_eq (wipe_length _ _) fun j hj => wipe_get _ _ _ hj
        have S2 := Sz.wiped hv
        rw [e3] at S2
        exact ⟨S2, hz⟩
      have hsl := sizeLine_eq
      show if true = true then _ else _
      rw [if_pos rfl]
      refine hk B2 σ3 F2 H2 _ I3 _ (fun r => r = Res.ok (o, ρ3)) (rs0 (fun z => nomatch z) fun n z => nomatch z) _ _ hbody fun kx ρ4 u4 F4 H4 I4 e4 r4 g4 => ?_
      refine he B2 σ3 F4 H4 ρ4 I4 _ (fun r => r = Res.ok (o, ρ3)) (rs0 (fun z => nomatch z) fun n z => nomatch z) _ _ g4 fun y ρ5 u F5 H5 I5 e5 r5 g5 => ?_
      cases g5
      obtain ⟨S5, h5⟩ := hup I5
      have pv5 := pv.ext ((pp.ff.trans e4.1).trans e5.1)
      refine ⟨vs', .inl kx, r4, h5, ?_, hlt, F5, _, acc ++ [(kx, y)], _, ys', S5.upd, ((e'.trans pp.ff).trans e4.1).trans e5.1, upd_same, ?_, ?_, hrest, ?_⟩
      · have := dmerge_len acc []
        have h2 : vs'.length = (dmerge [] acc).length := Paired.length pv5
        simp only [List.length_nil, Nat.zero_add] at this
        omega
      · rw [dmerge_snoc]; exact pv5.put r5
      · rw [List.length_append]; show _ + 1 ≤ _; omega
      · rw [hys, hrr]; simp
  · rintro H' ⟨_, F', ρ0, acc, vs', rest, S, e', hDl, pv, hacc, hcl', hys⟩
    rw [List.drop_length] at hcl'
    cases hcl'
    rw [List.append_nil] at hys
    subst hys
    have S2 := S.unwiped hv
    obtain ⟨L2, r2, w2, hn2, hF2, hB2⟩ := S2
    -- the dict joins what never changes
    have hne : ∀ a o, F' a = some o → a ≠ D := fun a o ha e => by rw [e, hF2] at ha; cases ha
    have w3 : Wd B (upd F' D (.dK vs')) H' L2 := ⟨w2.nd, fun k a ha => by
        obtain ⟨q1, o, q2⟩ := w2.fr k a ha
        have hne2 : a ≠ D := fun z => hn2 k (by rw [← z]; exact ha)
        exact ⟨by rw [upd_ne hne2]; exact q1, o, q2⟩, fun a u hu => by
          by_cases hb : a = D
          · subst hb; rw [upd_same] at hu; cases hu; exact hDl
          · rw [upd_ne hb] at hu; exact w2.fh a u hu, w2.bf.trans (Ex.new hF2), w2.keep, w2.there, fun a u hu => by
          by_cases hb : a = D
          · subst hb; exact .inr hB2
          · rw [upd_ne hb] at hu; exact w2.new a u hu, w2.own, w2.loc, w2.con⟩
    exact qq (dmerge [] ys) ρe (.ref D) (upd F' D (.dK vs')) H' ⟨L2, r2.ext (Ex.new hF2) fun _ _ _ => rfl, w3⟩ ⟨(e1.1.trans e').trans (Ex.new hF2), fun z => nomatch z⟩ ⟨D, vs', rfl, upd_same, pv.ext (Ex.new hF2)⟩ g1
end
end Pu
set_option Elab.async false
set_option linter.all false
set_option maxRecDepth 100000
set_option maxHeartbeats 4000000
namespace Pu
open PySem PySem.Spec PyProof.Rows L2 Evl
/-! ### the rules whose walks name the frame's constants, by a name of their own for these -/
section
variable {X : Cx} {K : PySem.W.Frag} {e o l : Expr} {es : List Expr} {ta tl to te tv : TE} {t : TA} {p pos pos' tpos apos cpos : Pos} {f : Str} {tgt value : Expr}
theorem pg_tupK {ks : List Expr} {k : Nat} {t : TGs} {n : Nat} (hc : X.calm = true) (h : PGs X ks t) (hn : (assignEach ks X.env).length = n := by rfl) (hst : (assignEach ks X.env).findIdx? (·.1) = none := by rfl) (hK : X.K = K := by rfl) : PG X (.Tuple ks k pos) (gTup K n t) := by
  subst hK; exact pg_tup hc h hn hst
theorem op_eqDK (hu : X.A.units + 64 < cLine) (hK : X.K = K := by rfl) : OpR X (compareOp .Eq) (rEqD K) := by subst hK; exact op_eqD hu
theorem op_neDK (hu : X.A.units + 64 < cLine) (hK : X.K = K := by rfl) : OpR X (compareOp .NotEq) (rNeD K) := by subst hK; exact op_neD hu
theorem ix_listK (hK : X.K = K := by rfl) : IxR X (rIxL K) := by subst hK; exact ix_list
theorem ix_tupK (hK : X.K = K := by rfl) : IxR X (rIxT K) := by subst hK; exact ix_tup
theorem op_in_seqK (hK : X.K = K := by rfl) : OpR X (compareOp .In) (rIn K false) := by subst hK; exact op_in_seq
theorem call_lenK (hK : X.K = K := by rfl) : CallR X (.builtin "len") (fun xs H Q => ∃ x n, xs = [x] ∧ LenV K x H n ∧ Q (.int n) H) := by subst hK; exact call_len
theorem call_list_ofK (hK : X.K = K := by rfl) : CallR X (.type "list") (fun xs H Q => ∃ p ys, xs = [.ref p] ∧ (SqL K H p ys ∨ SqT K H p ys) ∧ ∀ l, H l = none → Q (.ref l) (upd H l (.lst ys))) := by subst hK; exact call_list_of
theorem cr_maxK (hc : X.calm = true) (hK : X.K = K := by rfl) : CallR X (.builtin "max") (rMax K) := by subst hK; exact cr_max hc
theorem cr_anyK (hc : X.calm = true) (hK : X.K = K := by rfl) : CallR X (.builtin "any") (rAny K) := by subst hK; exact cr_any hc
theorem sl_listK (hK : X.K = K := by rfl) : SlR X (rSlL K) := by subst hK; exact sl_list
theorem sl_tupAK (hK : X.K = K := by rfl) : SlR X (rSlA K) := by subst hK; exact sl_tupA
theorem pe_fldK (he : PE X e ta) (hb : attributeBase e f X.env (eval e X.env) = eval e X.env) (hK : X.K = K := by rfl) : PE X (.Attribute e f pos) (tFld K ta f) := by subst hK; exact pe_fld he hb
theorem pi_listK (hl : PE X l tl) (hK : X.K = K := by rfl) : PI X tgt l (iList K tl) := by subst hK; exact pi_list hl
theorem pi_tupK (hl : PE X l tl) (hK : X.K = K := by rfl) : PI X tgt l (iTup K tl) := by subst hK; exact pi_tup hl
theorem pi_enumK {elts : List Expr} {kk : Nat} (hg : Gl X "enumerate") (hm : X.mg "enumerate" = none) (ha : PA X [e] t) (hs : starEach [e] X.env = [(false, eval e X.env)] := by rfl) (hK : X.K = K := by rfl) :
    PI X (.Tuple elts kk tpos) (.Call (.Name "enumerate" p) [e] [] pos) (iEnum K t) := by subst hK; exact pi_enum hg hm ha hs
theorem pi_enumTK {elts : List Expr} {kk : Nat} (hg : Gl X "enumerate") (hm : X.mg "enumerate" = none) (ha : PA X [e] t) (hs : starEach [e] X.env = [(false, eval e X.env)] := by rfl) (hK : X.K = K := by rfl) :
    PI X (.Tuple elts kk tpos) (.Call (.Name "enumerate" p) [e] [] pos) (iEnumT K t) := by subst hK; exact pi_enumT hg hm ha hs
theorem pe_bmK {T id : String} {name : Str} {r : V → List V → Hp → VK → Prop} (pa : PlainAttrs T) (slot : Slot T name id) (hty : typeOf (.builtin id) = pure (.type "method_descriptor")) (hm : MtR X id r) (ho : PE X o to) (ha : PA X (e :: es) t)
    (hbase : attributeBase o name X.env (eval o X.env) = eval o X.env := by rfl)
    (hfew : ((backTo cpos (starEach (e :: es) X.env)).all (fun x => !x.1) && (backToKw cpos (keywordEach [] X.env)).all (fun x => x.1.isSome)
      && decide ((e :: es).length + ([] : List Keyword).length + (if ([] : List Keyword).isEmpty then 0 else 1) < 30)) = true := by rfl)
    (hline : (apos.endLine == cpos.line) = true := by rfl) (hs : starEach (e :: es) X.env = (false, eval e X.env) :: starEach es X.env := by rfl) (hplain : (backTo cpos (starEach es X.env)).any (·.1) = false := by rfl) (hK : X.K = K := by rfl) :
    PE X (.Call (.Attribute o name apos) (e :: es) [] cpos) (tBM K T r to t) := by subst hK; exact pe_bm pa slot hty hm ho ha hbase hfew hline hs hplain
theorem pt_truthK {a : Expr} (ha : PE X a ta) (he : ∀ whole, isTrue a X.env whole = (do let v ← whole; standAt a.pos; holding [v] (truthy v))) (hK : X.K = K := by rfl) :
    PT X a (fun σ H Q => ta σ H fun x H' => ∃ k, TruV K x H' k ∧ Q k H') := by subst hK; exact pt_truth ha he
theorem call_dictPK (hcalm : X.calm = true) (hK : X.K = K := by rfl) : CallR X (.type "dict") (fun xs H Q => ∃ (a : Addr) (ps : List Addr) (kvs : List (Key × V)), xs = [.ref a] ∧ SqL K H a (ps.map V.ref) ∧ Paired (fun p kv => SqT K H p [kV kv.1, kv.2]) ps kvs ∧
    ∀ p, H p = none → Q (.ref p) (upd H p (.dK (mergeK [] kvs)))) := by subst hK; exact call_dictP hcalm
theorem ps_fldK (ha : PE X o ta) (hv : PE X value tv) (hs : swapsWith value (some (.Attribute o f pos')) pos.line X.env = pure false) (hK : X.K = K := by rfl) : PS X (.Assign [.Attribute o f pos'] value pos) (sFld K ta tv f) := by subst hK; exact ps_fld ha hv hs
theorem pe_tupleNK (hg : Gl X "tuple") (hm : X.mg "tuple" = none) (ha : PE X e ta) (na : starEach [e] X.env = (false, eval e X.env) :: starEach [] X.env := by rfl) (hK : X.K = K := by rfl) :
    PE X (.Call (.Name "tuple" p) [e] [] pos) (tThen ta (kTupN K)) := by subst hK; exact pe_tupleN hg hm ha na
theorem mt_indexTK (hK : X.K = K := by rfl) : MtR X "tuple.index" (rIndexT K) := by subst hK; exact mt_indexT
theorem mt_countTK (hK : X.K = K := by rfl) : MtR X "tuple.count" (rCountT K) := by subst hK; exact mt_countT
end
end Pu
set_option Elab.async false
set_option linter.all false
set_option maxRecDepth 100000
set_option maxHeartbeats 4000000
namespace Pu
open PySem L2 Evl
abbrev dScr (K : PySem.W.Frag) : DCod := ⟨List Int, fun F v xs => ∃ a, v = .ref a ∧ SqL K F a (xs.map V.int) ∧ xs.length ≤ sizeLine, fun h e => let ⟨a, h1, h2, h3⟩ := h; ⟨a, h1, h2.imp (Rd.ext e) id, h3⟩⟩
theorem pv_ints {F : Hp} : ∀ (xs : List Int), PV dInt F (xs.map V.int) xs
  | [] => .nil
  | x :: xs => .cons rfl (pv_ints xs)
def spN (XC : Str → Value) (cs : List DCod) (m : Cod) (f : DEnv cs → Res m.α) : Sp := fun vs H Q E => ∃ F x, Ex F H ∧ DRel cs F vs x ∧ f x ≠ .bad ∧
  (∀ z, f x = .ok z → ∀ u F' H' fp, Pext F F' H H' → New fp H F' H' → m.rel F' H' fp u z → Q u H') ∧ ∀ n, f x = .exc n → ∀ H', Ex H H' → E (XC n) none H'
theorem lenN {XC : Str → Value} {cs : List DCod} {m : Cod} {f : DEnv cs → Res m.α} {n : Nat} (h : cs.length = n) : ∀ vs H Q E, spN XC cs m f vs H Q E → vs.length = n := fun vs H Q E ⟨F, x, e, r, _⟩ => r.len.trans h
abbrev retN (m : Cod) : Ret := ⟨⟨Unit, fun _ _ _ => True, fun _ _ => True.intro⟩, m.α, fun B F H v y => B.M = [] → B.N = [] → ∃ fp, Pext B.F F B.H H ∧ New fp B.H F H ∧ m.rel F H fp v y⟩
abbrev mOne (m : Cod) : Cod := ⟨m.α, fun F H fp v x => ∃ a u, v = .ref a ∧ F a = some (.lst [u]) ∧ m.rel F H fp u x, fun {F F' H H' fp v x} h e k => let ⟨a, u, h1, h2, h3⟩ := h; ⟨a, u, h1, e a _ h2, m.ext h3 e k⟩⟩
def oneOk {α β : Type} (r : Res α) (k : α → Res β) : Res β := match r with
  | .ok x => k x
  | _ => .bad
def oneL {α β : Type} (xs : List α) (k : α → Res β) : Res β := match xs with
  | [x] => k x
  | _ => .bad
section
variable {p : Bool} {E : XK} {XC : Str → Value} {Rt : Ret} {K : PySem.W.Frag} {Γ Γ' Γ0 Γ1 Γ2 ΓL Γf : List Sl} {te tk tv ta tb tc : TE} {tt tu : TT} {tA : TA} {ti : TI} {tg : TG} {a b c d : DCod} {m m2 : Cod} {cs : List DCod} {ts us : TS} {C : Addr} {names : List Str} {i j : Nat} {k : Kd} {f : Str}
theorem en_slScr {to tu : TO} {T : (R : Type) → (List Int → Env Γ → Res R) → Env Γ → Res R} {T1 T2 : (R : Type) → (Option Int → Env Γ → Res R) → Env Γ → Res R} (h : EvE p E XC Γ te (dScr K) T) (h1 : EvO p E XC Γ to T1) (h2 : EvO p E XC Γ tu T2) :
    EvN p E XC Γ (L2.tSl (rSlL K) te to tu) (mLst dInt) (fun R k ρ => T R (fun xs ρ => T1 R (fun lo ρ => T2 R (fun hi ρ => k (cutL xs lo hi) ρ) ρ) ρ) ρ) := fun B σ F H ρ I R G hG k Q g qq =>
  h B σ F H ρ I R G hG _ _ g fun xs ρ1 v F1 H1 I1 e1 r1 g1 => h1 B σ F1 H1 ρ1 I1 R G hG _ _ g1 fun lo ρ2 F2 H2 I2 e2 g2 => h2 B σ F2 H2 ρ2 I2 R G hG _ _ g2 fun hi ρ3 F3 H3 I3 e3 g3 => by
    obtain ⟨a, rfl, q2, q4⟩ := (dScr K).ext ((dScr K).ext r1 (e2.1.trans e3.1)) I3.fh
    exact ⟨a, _, rfl, q2, fun l hl => new_list I3 hl (PV.cut (c := dInt) (pv_ints xs) lo hi) (Nat.le_trans (cutL_len _ _ _) q4) ((e1.trans e2).trans e3) g3 qq⟩
theorem st_retNew {T : (R : Type) → (m.α → Env Γ → Res R) → Env Γ → Res R} (h : EvN p E XC Γ te m T) : StE E XC (retN m) Γ (tRet te) Γ' ΓL (fun R nx rt bk ct ρ => T R (fun x ρ => rt () x) ρ) := fun B σ F H ρ I R G hG nx rt bk ct D g qn qr qb qc =>
  h B σ F H ρ I R G hG _ _ g fun x ρ' v fp F0 H0 F' H' I' e pp n r g' => qr () x v F' H' (fun hM hN => ⟨fp, (I'.pextB hM hN).trans pp, n.later (I'.pextB hM hN).hh, r⟩) True.intro g'
theorem run_N {N : List Str} {n : Nat} (hN : N.length = cs.length + n) {f : DEnv cs → Res m.α} {Γe : List Sl} {T : (R : Type) → (Env Γe → Res R) → (Unit → m.α → Res R) → (Env [] → Res R) → (Env [] → Res R) → Env (slots0 cs n) → Res R} (h : StE E XC (retN m) (slots0 cs n) ts Γe [] T)
    (hf : ∀ x, T m.α (fun _ => .bad) (fun _ z => .ok z) (fun _ => .bad) (fun _ => .bad) (env0 cs n x) = f x) (vs : List V) (H : Hp) (Q : VK) (hsp : spN XC cs m f vs H Q E) : ts { nx := fun _ H' => Q .non H', rt := Q } (L2.start N vs) H := by
  obtain ⟨F, x, e, r, hb, hq, hx⟩ := hsp
  have hl := r.len
  rw [start_eq (n := n) (by rw [hl]; exact hN)]
  refine h ⟨F, H, [], [], [], vs.map some ++ List.replicate n none⟩ _ F H (env0 cs n x) ⟨[], rel0 cs n _ r, wd0 e (by simp) (by simp) (by simp) (by simp) (by simp)⟩ m.α (fun z => z = f x) ⟨fun z => hb z.symm, fun nm H' z fr => hx nm z.symm H' fun a o ha => fr a o ha (by simp) (by simp)⟩ _ _ _ _ _ (hf x) ?_ ?_ ?_ ?_
  · intro ρ' σ' F' H' _ _ z; exact absurd z.symm hb
  · intro u z v F' H' ho _ z2
    obtain ⟨fp, h1, h2, h3⟩ := ho rfl rfl
    exact hq z z2.symm v F' H' fp h1 h2 h3
  · intro ρ' σ' F' H' _ _ z; exact absurd z.symm hb
  · intro ρ' σ' F' H' _ _ z; exact absurd z.symm hb
theorem ev_callN {f : DEnv cs → Res m.α} {TA : (R : Type) → (DEnv cs → Env Γ → Res R) → Env Γ → Res R} (h : EvA p E XC Γ tA cs TA) : EvN p E XC Γ (tCall (spN XC cs m f) [] E tA) m (fun R k ρ => TA R (fun x ρ => (f x).bind fun z => k z ρ) ρ) := fun B σ F H ρ I R G hG k Q g q =>
  h B σ F H ρ I R G hG _ _ g fun x ρ1 vs F1 H1 I1 e1 r1 g1 => ⟨F1, x, I1.fh, r1.app, fun e => (by rw [e] at g1; exact hG.1 g1), fun z e u F' H' fp pp n r => (by
    rw [e] at g1
    exact q z ρ1 u fp F1 H1 F' H' I1 e1 pp n r g1), fun n e H' eh => (by
    rw [e] at g1
    exact hG.2 n H' g1 (I1.frm.ex eh))⟩
theorem en_lc1 {vs is : List Nat} {f : Env Γ → a.α → Env Γ1} {T0 : (R : Type) → (List a.α → Env Γ → Res R) → Env Γ → Res R} {Te : (R : Type) → (m.α → Env Γ1 → Res R) → Env Γ1 → Res R}
    (hv : allNo Γ vs = true) (his : ∀ i, i ∈ is → i ∈ vs) (bk : Bk Γ1 Γ) (h : EvI false E XC Γ ti a T0) (ht : TgE Γ tg a Γ1 f is) (he : EvN false E0 XC Γ1 te m Te) :
    EvN false E XC Γ (tLc ti tg (fun σ H Q => Q true H) te vs) (mOne m) (fun R k ρ => T0 R (fun xs ρ => oneL xs fun x => oneOk (Te _ (fun y ρ2 => .ok (y, bk.f ρ2)) (f ρ x)) fun r => k r.1 r.2) ρ) := fun B σ F H ρ I R G hG k Q g qq => by
  refine h B σ F H ρ I R G hG _ _ g fun xs ρ1 J F1 H1 I1 e1 w g1 hz D hD => ?_
  obtain ⟨Y, w, hy⟩ := w.ex
  match xs, w, hy, g1 with
  | [], _, _, g1 => exact absurd g1 hG.1
  | _ :: _ :: _, _, _, g1 => exact absurd g1 hG.1
  | [x], w, hy, g1 =>
  have g1 : G (oneOk (Te _ (fun y ρ2 => Res.ok (y, bk.f ρ2)) (f ρ1 x)) fun r => k r.1 r.2) := g1
  generalize hbody : Te _ (fun y ρ2 => Res.ok (y, bk.f ρ2)) (f ρ1 x) = br at g1
  match br, g1 with
  | .exc n, g1 => exact absurd g1 hG.1
  | .bad, g1 => exact absurd g1 hG.1
  | .ok (yy, ρe), g1 =>
  have g1 : G (k yy ρe) := g1
  have S0 : SApart B Γ σ F1 (upd H1 D (.lst [])) ρ1 D := I1.apart hD
  refine lc_it w (tt := fun σ H Q => Q true H) (g := tg) (te := te) (vs := vs) (σ := σ) (fun i H2 => match i with
    | 0 => ∃ F', SApart B Γ (wipe σ vs) F' H2 ρ1 D ∧ Ex F1 F' ∧ H2 D = some (.lst [])
    | 1 => ∃ F0 H0 F' H' v fp, SApart B Γ (wipe σ vs) F0 H0 ρe D ∧ H0 D = some (.lst []) ∧ Ex F1 F0 ∧ Pext F0 F' H0 H' ∧ New fp H0 F' H' ∧ m.rel F' H' fp v yy ∧ H2 = upd H' D (.lst [v])
    | _ => False) ⟨F1, S0.wiped hv, Ex.refl _, upd_same⟩ ?_ ?_ ?_
  · intro i H2 hi hp
    match i, hp with
    | 0, ⟨F', S, e', _⟩ => exact e'.trans S.inv.fh
    | 1, ⟨F0, H0, F', H', v, fp, S, hd0, e', pp, n, r, eH⟩ =>
      intro b o hb
      have h1 : F' b = some o := pp.ff b o (e' b o hb)
      have hne : b ≠ D := fun z => by
        subst z
        obtain ⟨_, _, _, _, z1, _⟩ := S
        rw [e' b o hb] at z1; cases z1
      rw [eH, upd_ne hne]
      exact pp.fh b o h1
  · intro i v H2 H3 hi hp y
    match i, hp, hi with
    | 0, ⟨F', S, e', hDl⟩, _ =>
      obtain ⟨F2, x2, hx, pp, r⟩ := hy 0 H2 v H3 F' y e' S.inv.fh
      have hx : x2 = x := by simpa using hx.symm
      subst hx
      obtain ⟨B2, I2, hfr, back⟩ := S.go hDl
      have I2' := I2.pext pp
      refine ht B2 _ F2 H3 ρ1 v x2 I2' r _ fun σ3 I3 hag hln => ⟨?_, ?_⟩
      · have ew : wipe σ3 vs = wipe (wipe σ vs) vs := wipe_eq hln fun j hj => hag j fun z => hj (his j z)
        rw [ew]
        exact wipe_eq (wipe_length _ _) fun j hj => wipe_get _ _ _ hj
      · show if true = true then _ else _
        rw [if_pos rfl]
        refine he B2 σ3 F2 H3 _ I3 _ (fun r => r = Res.ok (yy, ρe)) (rs0 (fun z => nomatch z) fun n z => nomatch z) _ _ hbody fun y2 ρ5 u fp F4 H4 F5 H5 I4 e4 pp5 n5 r5 g5 => ?_
        cases g5
        obtain ⟨Sz, hz4⟩ := back _ _ _ _ _ (bk.inv I4)
        have e3 : wipe σ3 vs = wipe σ vs := by
          have ew : wipe σ3 vs = wipe (wipe σ vs) vs := wipe_eq hln fun j hj => hag j fun z => hj (his j z)
          rw [ew]
          exact wipe_eq (wipe_length _ _) fun j hj => wipe_get _ _ _ hj
        have S2 := Sz.wiped hv
        rw [e3] at S2
        have hsl := sizeLine_eq
        exact ⟨[], pp5.hh D _ hz4, by show 0 < sizeLine; omega, F4, H4, F5, H5, u, fp, S2, hz4, (e'.trans pp.ff).trans e4.1, pp5, n5, r5, rfl⟩
    | 1, _, hi => exact absurd hi (by simp)
  · intro H2 hp
    obtain ⟨F0, H0, F', H', v, fp, S, hd0, e', pp, n, r, rfl⟩ : ∃ F0 H0 F' H' v fp, SApart B Γ (wipe σ vs) F0 H0 ρe D ∧ H0 D = some (.lst []) ∧ Ex F1 F0 ∧ Pext F0 F' H0 H' ∧ New fp H0 F' H' ∧ m.rel F' H' fp v yy ∧ H2 = upd H' D (.lst [v]) := hp
    have S2 := S.unwiped hv
    obtain ⟨L2, r2, w2, hn2, hF2, hB2⟩ := S2
    have hFD : F' D = none := by
      cases e : F' D with
      | none => rfl
      | some u =>
        rcases pp.new D u e with z | z
        · rw [hF2] at z; cases z
        · rw [hd0] at z; cases z
    have hne : ∀ b, b ≠ D → (fun b => if b = D then none else H0 b : Hp) b = H0 b := fun b hb => if_neg hb
    have hDn : (fun b => if b = D then none else H0 b : Hp) D = none := if_pos rfl
    have w3 : Wd B F0 (fun b => if b = D then none else H0 b) L2 := ⟨w2.nd, fun k b hb => by
        obtain ⟨q1, o, q2⟩ := w2.fr k b hb
        exact ⟨q1, o, (hne b fun z => hn2 k (by rw [← z]; exact hb)).trans q2⟩, fun b u hu => (hne b (ne_of_none hu hF2)).trans (w2.fh b u hu), w2.bf, fun b u hu h1 h2 => (hne b (ne_of_none hu hB2)).trans (w2.keep b u hu h1 h2),
        fun b u hu => by
          obtain ⟨o, ho⟩ := w2.there b u hu
          exact ⟨o, (hne b (ne_of_none hu hB2)).trans ho⟩, w2.new, w2.own, w2.loc, w2.con⟩
    have r4 : SRel Γ B.τ σ F0 (fun b => if b = D then none else H0 b) L2 ρe := r2.ext (Ex.refl _) fun k b hb => hne b fun z => hn2 k (by rw [← z]; exact hb)
    have eFf : Ex F' (upd F' D (.lst [v])) := Ex.new hFD
    have fpD : ∀ b, b ∈ fp → b ≠ D := fun b hb z => by
      subst z
      rw [(n.at_ b hb).1] at hd0; cases hd0
    refine qq yy ρe (.ref D) fp F0 _ (upd F' D (.lst [v])) (upd H' D (.lst [v])) ⟨L2, r4, w3⟩ ⟨e1.1.trans e', fun z => nomatch z⟩ ⟨fun b o hb => ?_, pp.ff.trans eFf, ?_, fun b o hb => ?_⟩ ⟨n.nd, fun b hb => ?_⟩ ⟨D, v, rfl, upd_same, m.ext r eFf fun b hb => upd_ne (fpD b hb)⟩ g1
    · by_cases hbD : b = D
      · subst hbD
        have hb : (none : Option HO) = some o := hDn.symm.trans hb
        cases hb
      · rw [upd_ne hbD]
        exact pp.hh b o ((hne b hbD).symm.trans hb)
    · exact ex_upd pp.fh
    · by_cases hbD : b = D
      · subst hbD; exact .inr hDn
      · rw [upd_ne hbD] at hb
        rcases pp.new b o hb with z | z
        · exact .inl z
        · exact .inr ((hne b hbD).trans z)
    · obtain ⟨z1, z2, o, z3⟩ := n.at_ b hb
      have hbD := fpD b hb
      exact ⟨(hne b hbD).trans z1, by rw [upd_ne hbD]; exact z2, o, by rw [upd_ne hbD]; exact z3⟩
theorem st_for1 {s : Sl} (u : Up Γ j s (.m .lo m) Γ') {T0 : (R : Type) → (m.α → Env Γ → Res R) → Env Γ → Res R} {T : (R : Type) → (Env Γ2 → Res R) → (Rt.r.α → Rt.P → Res R) → (Env Γ2 → Res R) → (Env Γ2 → Res R) → Env Γ' → Res R} (h : EvN p E XC Γ te (mOne m) T0) (hb : StE E XC Rt Γ' ts Γ2 Γ2 T) :
    StE E XC Rt Γ (tFor (iList K te) (gName j) ts) Γ2 ΓL (fun R nx rt bk ct ρ => T0 R (fun x ρ => T R nx rt nx nx (u.set ρ x)) ρ) := fun B σ F H ρ I R G hG nx rt bk ct D g qn qr qb qc =>
  h B σ F H ρ I R G hG _ _ g fun x ρ1 v fp F0 H0 F1 H1 I0 e1 pp n r1 g1 => by
    obtain ⟨q, w, rfl, hq, hr⟩ := r1
    have I1 := I0.setM pp n u hr
    refine ⟨q, rfl, ⟨[w], SqL.of (pp.fh q _ hq)⟩, ?_⟩
    refine for_it (walk_list (K := K) (a := q) (xs := [w])) (fun i σ' H' => match i with
      | 0 => σ' = σ ∧ H' = H1
      | 1 => ∃ F' ρ', SInv B Γ2 σ' F' H' ρ' ∧ Ex F1 F' ∧ G (nx ρ')
      | _ => False) ⟨rfl, rfl⟩ ?_ ?_ ?_
    · intro i σ' H' hi hp
      match i, hp with
      | 0, ⟨_, e⟩ => rw [e]; exact SqL.of (pp.fh q _ hq)
      | 1, ⟨F', ρ', I', e', _⟩ => exact SqL.of (I'.fh q _ (e' q _ hq))
    · intro i v' σ' H' H2 hi hp y
      match i, hp, hi with
      | 0, ⟨e2, e3⟩, _ =>
        subst e2 e3
        obtain ⟨e4, e5⟩ := y
        have e5 : v' = w := by simpa using e5.symm
        subst e4 e5
        exact hb B _ F1 _ _ I1 R G hG nx rt nx nx _ g1 (fun ρ4 σ4 F4 H4 I4 e4 g4 => ⟨F4, ρ4, I4, e4, g4⟩) qr (fun ρ4 σ4 F4 H4 I4 e4 g4 => qn ρ4 σ4 F4 H4 I4 ((e1.1.trans pp.ff).trans e4) g4) (fun ρ4 σ4 F4 H4 I4 e4 g4 => ⟨F4, ρ4, I4, e4, g4⟩)
      | 1, _, hi => exact absurd hi (by simp)
    · intro σ' H' hp
      obtain ⟨F', ρ', I', e', g'⟩ : ∃ F' ρ', SInv B Γ2 σ' F' H' ρ' ∧ Ex F1 F' ∧ G (nx ρ') := hp
      exact qn ρ' σ' F' H' I' ((e1.1.trans pp.ff).trans e') g'
end
end Pu
set_option Elab.async false
set_option linter.all false
set_option maxRecDepth 100000
set_option maxHeartbeats 4000000
namespace Pu
open PySem PySem.Spec PyProof.Rows L2 Evl
theorem cx_end {P : Program} (w : World) (H : Hp) (s : Shared) (e : Value) (s' : Shared) (h : L2.CX P w [] H s (fun _ _ _ => False) e s') : False := by
  obtain ⟨a, B, H', cls, d, h1, h2, h3, h4, h5, h6, h7, h8⟩ := h
  exact h8
section
variable {P : Program} {w : World} {K : PySem.W.Frag} {mg : Str → Option Value} {base : Heap} {x qual : Str} {params : Arguments} {body : List Stmt} {scope : Scope} {f : Addr} {N ps : List Str} {k : Nat}
end
end Pu
namespace Pu
open PySem L2 Evl
theorem StE.as {E : XK} {XC : Str → Value} {Rt : Ret} {Γ Γ' ΓL : List Sl} {ts : TS} {T T' : (R : Type) → (Env Γ' → Res R) → (Rt.r.α → Rt.P → Res R) → (Env ΓL → Res R) → (Env ΓL → Res R) → Env Γ → Res R} (h : StE E XC Rt Γ ts Γ' ΓL T) (e : T = T') : StE E XC Rt Γ ts Γ' ΓL T' := e ▸ h
theorem PV.tun {c : DCod} {F : Hp} : ∀ {vs : List V} {xs : List (List c.α)}, PV (dTuN c) F vs xs → PV (dTup c) F vs xs
  | _, _, .nil => .nil
  | _, _, .cons r t => .cons (sb_tun F _ _ r) (PV.tun t)
theorem sb_lstTun {c : DCod} : Sb (dLst (dTuN c)) (dLst (dTup c)) (fun x => x) := fun F v x h => by
  obtain ⟨a, vs, h1, h2, h3, h4⟩ := h
  exact ⟨a, vs, h1, h2, PV.tun h3, h4⟩
def forBody : List Stmt → Nat → List Stmt
  | [], _ => []
  | .For (body := b) .. :: _, 0 => b
  | _ :: r, 0 => []
  | _ :: r, n + 1 => forBody r n
end Pu
set_option Elab.async false
set_option linter.all false
set_option maxRecDepth 100000
set_option maxHeartbeats 4000000
namespace Pu
open PySem PySem.Spec PyProof.Rows L2 Evl
/-! ### tuples that are made and hold no fields; d.get(k) -/
def tTupF (t : TA) : TE := fun σ H Q => t σ H fun xs H1 => xs.length ≤ sizeLine ∧ ∀ p ob, ob.dict = none → ob.cls = .type "tuple" → H1 p = none → Q (.ref p) (upd H1 p (.frz ob (.tup xs)))
section
variable {X : Cx} {K : PySem.W.Frag} {es : List Expr} {t : TA} {pos apos cpos : Pos} {o e : Expr} {td ty : TE}
theorem pe_tupF {x1} (h : PA X es t) : PE X (.Tuple es x1 pos) (tTupF t) :=
  ⟨fun pins s σ H Q I hq => wpAny_Tuple_spliced (thn (h.run pos pins s σ H _ I hq) fun us s1 ⟨xs, H1, I1, r, z, q⟩ => by
    refine ⟨by rw [← r.length]; exact z, ?_⟩
    have I2 : Inv X pins σ (upd H1 s1.heap.objs.size (.frz { cls := .type "tuple", data := .seq us.toArray } (.tup xs))) { s1 with heap := s1.heap.push { cls := .type "tuple", data := .seq us.toArray } } :=
      I1.laid (t' := s1.toks) (fun b u e => Heap.get?_push_of_some _ e) (Nat.le_refl _) ⟨Heap.get?_push_size _ rfl, z, us, r, IsTup.new _ _⟩
    exact ⟨.ref s1.heap.objs.size, _, I2, rfl, q _ { cls := .type "tuple", data := .seq us.toArray } rfl rfl (I1.hok.fresh (Nat.le_refl _))⟩)⟩
def rCatF (K : PySem.W.Frag) : V → V → Hp → VK → Prop := fun x y H Q => ∃ a b xs ys, (x = .ref a ∧ y = .ref b) ∧ SqT K H a xs ∧ SqT K H b ys ∧ xs.length + ys.length ≤ sizeLine ∧
  (xs = [] → Q (.ref b) H) ∧ (xs ≠ [] ∧ ys = [] → Q (.ref a) H) ∧ (xs ≠ [] ∧ ys ≠ [] → ∀ p ob, ob.dict = none → ob.cls = .type "tuple" → H p = none → Q (.ref p) (upd H p (.frz ob (.tup (xs ++ ys)))))
theorem op_catF : OpR X (binaryOp .Add) (rCatF X.K) := fun pins s σ H x y v u Q I rx ry h => by
  obtain ⟨a, b, xs, ys, ⟨rfl, rfl⟩, ha, hb, hz, q0, q1, q2⟩ := h
  cases rx; cases ry
  obtain ⟨i1, r1, p1, _⟩ := I.tuple ha
  obtain ⟨i2, r2, p2, _⟩ := I.tuple hb
  by_cases hx : xs = []
  · subst hx
    cases r1
    exact L2.cat_tup0 p1 p2 ⟨.ref b, H, I, rfl, q0 rfl⟩
  · refine HT.cat_tup p1 p2 (fun z => hx (r1.nil_iff.mp z)) (fun z => ⟨.ref a, H, I, rfl, q1 ⟨hx, r2.nil_iff.mp z⟩⟩) (fun z => ?_) (by rw [← r1.length, ← r2.length]; exact hz)
    have I2 : Inv X pins σ (upd H s.heap.objs.size (.frz { cls := .type "tuple", data := .seq (i1 ++ i2).toArray } (.tup (xs ++ ys)))) { s with heap := s.heap.push { cls := .type "tuple", data := .seq (i1 ++ i2).toArray } } :=
      I.laid (t' := s.toks) (fun b ob q => Heap.get?_push_of_some _ q) (Nat.le_refl _) ⟨Heap.get?_push_size _ rfl, by rw [List.length_append]; exact hz, _, r1.append r2, IsTup.new _ _⟩
    exact ⟨.ref s.heap.objs.size, _, I2, rfl, q2 ⟨hx, fun w => z (r2.nil_iff.mpr w)⟩ _ { cls := .type "tuple", data := .seq (i1 ++ i2).toArray } rfl rfl (I.hok.fresh (Nat.le_refl _))⟩
theorem op_catFK (hK : X.K = K := by rfl) : OpR X (binaryOp .Add) (rCatF K) := by subst hK; exact op_catF
theorem pe_dg1 (hu : X.A.units + 1 < cLine) (ho : PE X o td) (he : PE X e ty) (m : M1 X o "get" apos e cpos := by exact ⟨rfl, rfl, rfl, rfl⟩) : PE X (.Call (.Attribute o "get" apos) [e] [] cpos) (tDGet1 td ty) := pe_dget1 hu ho he m
end
section
variable {p : Bool} {E : XK} {XC : Str → Value} {Rt : Ret} {K : PySem.W.Frag} {Γ Γ' Γ0 Γ1 Γ2 ΓL Γf : List Sl} {te ta tb tc : TE} {tA : TA} {a b c d : DCod}
theorem ev_tupN (n : Nat) (hn : n ≤ 1000) {T : (R : Type) → (DEnv (List.replicate n c) → Env Γ → Res R) → Env Γ → Res R} (h : EvA p E XC Γ tA (List.replicate n c) T) : EvE p E XC Γ (tTupF tA) (dTuN c) (fun R k ρ => T R (fun x ρ => k (lstOf n x) ρ) ρ) := fun B σ F H ρ I R G hG k Q g qq =>
  h B σ F H ρ I R G hG _ _ g fun x ρ' vs F' H' I' e r g' => by
    have hl2 := r.len
    rw [List.length_replicate] at hl2
    have hsz := sizeLine_eq
    exact ⟨by omega, fun l ob h1 h2 hl => qq _ ρ' (.ref l) _ _ (I'.pext (Pext.one I'.fh hl)) (e.pext (Pext.one I'.fh hl)) ⟨l, vs, ob, rfl, upd_same, h1, h2, (lstOf_rel n x vs r).ext (Ex.new (none_of I'.fh hl)), by rw [lstOf_len]; omega⟩ g'⟩
theorem o_catTN : Op2P (rCatF K) (dTuN c) (dTuN c) (dTuN c) catL := fun F H v w x y z Q e h1 h2 hz k => by
  obtain ⟨a, vs, ob, rfl, q2, q5, q6, q3, q4⟩ := h1
  obtain ⟨b, ws, ob2, rfl, s2, s5, s6, s3, s4⟩ := h2
  have hsz := sizeLine_eq
  by_cases hx : x.length + y.length ≤ 16777216
  · have hr : catL x y = some (x ++ y) := if_pos hx
    rw [hr] at hz
    cases hz
    refine ⟨a, b, vs, ws, ⟨rfl, rfl⟩, SqT.rd e (.inr ⟨ob, q2⟩), SqT.rd e (.inr ⟨ob2, s2⟩), by rw [q3.length, s3.length]; omega, fun hv => ?_, fun ⟨hv, hw⟩ => ?_, fun ⟨hv, hw⟩ p ob3 h3 h4 hp => ?_⟩
    · subst hv
      cases q3
      exact k _ F H (Pext.refl e) ⟨b, ws, ob2, rfl, s2, s5, s6, s3, s4⟩
    · subst hw
      cases s3
      have e9 : x ++ ([] : List c.α) = x := List.append_nil x
      exact k _ F H (Pext.refl e) ⟨a, vs, ob, rfl, q2, q5, q6, by rw [e9]; exact q3, by rw [e9]; exact q4⟩
    · exact k _ _ _ (Pext.one e hp) ⟨p, _, ob3, rfl, upd_same, h3, h4, (q3.append s3).ext (Ex.new (none_of e hp)), by rw [List.length_append]; omega⟩
  · have hr : catL x y = none := if_neg hx
    rw [hr] at hz; cases hz
theorem ev_dget1 {Ta : (R : Type) → (List (Int × Int) → Env Γ → Res R) → Env Γ → Res R} {Tb : (R : Type) → (Int → Env Γ → Res R) → Env Γ → Res R} (ha : EvE p E XC Γ ta (dDict dInt) Ta) (hb : EvE p E XC Γ tb dInt Tb) :
    EvE p E XC Γ (tDGet1 ta tb) (dOpt dInt) (fun R k ρ => Ta R (fun x ρ => Tb R (fun y ρ => k (dget x y) ρ) ρ) ρ) := fun B σ F H ρ I R G hG k Q g q =>
  ha B σ F H ρ I R G hG _ _ g fun x ρ1 v F1 H1 I1 e1 r1 g1 => by
    obtain ⟨l, ks, rfl, hl, hk⟩ := id r1
    refine ⟨l, rfl, .inl ⟨ks, .inl (I1.fh l _ hl)⟩, hb B σ F1 H1 ρ1 I1 R G hG _ _ g1 fun y ρ2 w F2 H2 I2 e2 r2 g2 => ?_⟩
    obtain ⟨l', ks', e', hl', hk'⟩ := (dDict dInt).ext r1 e2.1
    cases e'
    obtain ⟨h1, h2⟩ := KVR.get (i := y) hk'
    rw [show w = V.int y from r2]
    refine ⟨_, DGet.k (k := .inl y) (I2.fh l _ hl'), ?_⟩
    cases hz : dget x y with
    | none =>
      rw [h2 hz]
      exact q none ρ2 .non F2 H2 I2 (e1.trans e2) rfl (by rw [hz] at g2; exact g2)
    | some z =>
      obtain ⟨u, hu, ru⟩ := h1 z hz
      rw [hu]
      have ru : u = V.int z := ru
      subst ru
      exact q (some z) ρ2 _ F2 H2 I2 (e1.trans e2) ⟨rfl, fun h => nomatch h⟩ (by rw [hz] at g2; exact g2)
end
end Pu
set_option Elab.async false
set_option linter.all false
set_option maxRecDepth 100000
set_option maxHeartbeats 4000000
namespace Pu
open PySem PySem.Spec PyProof.Rows L2 Evl
section
variable {p : Bool} {E : XK} {XC : Str → Value} {Rt : Ret} {K : PySem.W.Frag} {Γ Γ' Γ0 Γ1 Γ2 ΓL Γf : List Sl} {te ta tb tc : TE} {tA : TA} {a b c d : DCod} {m m2 m3 : Cod} {i j l : Nat}
end
end Pu
set_option Elab.async false
set_option linter.all false
set_option maxRecDepth 100000
set_option maxHeartbeats 4000000
namespace Pu
open PySem PySem.Spec PyProof.Rows L2 Evl SrtO Srt
/-! ### sorted of a tuple -/
section
variable {prog : Program} {w : World} {A : Around} {E : Value → Shared → Prop} {s : Shared}
end
end Pu
set_option Elab.async false
set_option linter.all false
set_option maxRecDepth 100000
set_option maxHeartbeats 4000000
namespace Pu
open PySem PySem.Spec PyProof.Rows L2 Evl
section
variable {X : Cx} {K : PySem.W.Frag}
end
/-! ### their mirrors -/
section
variable {K : PySem.W.Frag}
end
end Pu
set_option Elab.async false
set_option linter.all false
set_option maxRecDepth 100000
set_option maxHeartbeats 4000000
namespace Pu
open PySem L2 Evl
/-! ### comprehensions of two clauses -/
theorem go_it {J : It} {n : Nat} {Gh : Hp → Prop} {Y : Nat → Hp → V → Hp → Prop} (w : Walk J n Gh Y) {g : TG} {σw : St} {body : St → Hp → (Hp → Prop) → Prop} {H0 : Hp} {Qd : Hp → Prop} (Pv : Nat → Hp → Prop) (h0 : Pv 0 H0) (hG : ∀ i H, i ≤ n → Pv i H → Gh H)
    (hs : ∀ i x H H', i < n → Pv i H → Y i H x H' → g x σw H' fun σ2 H2 => body σ2 H2 (Pv (i + 1))) (hd : ∀ H, Pv n H → Qd H) :
    ∃ W : Nat → Nat → Hp → Prop, (∃ m, W 0 m H0) ∧ ∀ i m H, W i m H → (J.stop i H ∧ Qd H) ∨ (J.go i H ∧ ∃ Nx : Hp → Prop, (∀ H', Nx H' → ∃ m', m' < m ∧ W (i + 1) m' H') ∧ ∀ x H', J.yld i H x H' → g x σw H' fun σ2 H2 => body σ2 H2 Nx) := by
  refine ⟨fun i m H => (i ≤ n ∧ Pv i H) ∧ m = n - i, ⟨n, ⟨Nat.zero_le _, h0⟩, by simp⟩, fun i m H ⟨⟨hi, p⟩, e⟩ => ?_⟩
  subst e
  have q := hG i H hi p
  rcases Nat.lt_or_ge i n with hlt | hge
  · exact .inr ⟨w.goes i H hlt q, Pv (i + 1), fun H' p' => ⟨n - (i + 1), by omega, ⟨hlt, p'⟩, rfl⟩, fun x H' y => hs i x H H' hlt p (w.yields i H x H' hlt q y)⟩
  · have e : i = n := by omega
    subst e
    exact .inl ⟨w.stops H q, hd H p⟩
def compM {α β S : Type} (body : α → S → Res (List β × S)) : List α → S → Option (List β × S)
  | [], s => some ([], s)
  | x :: xs, s => match body x s with
    | .ok (o, s1) => (match compM body xs s1 with
      | some (ys, s2) => some (o ++ ys, s2)
      | none => none)
    | _ => none
theorem compM_cons {α β S : Type} {body : α → S → Res (List β × S)} {x : α} {xs : List α} {s s2 : S} {ys : List β} (h : compM body (x :: xs) s = some (ys, s2)) : ∃ o s1 ys', body x s = .ok (o, s1) ∧ compM body xs s1 = some (ys', s2) ∧ ys = o ++ ys' := by
  unfold compM at h
  split at h
  · rename_i o s1 e
    split at h
    · rename_i ys' s2' e2
      cases h
      exact ⟨o, s1, ys', e, e2, rfl⟩
    · cases h
  · cases h
section
variable {p : Bool} {E : XK} {XC : Str → Value} {Rt : Ret} {Γ Γ' Γ0 Γ1 Γ2 ΓL : List Sl} {te ta tb tc : TE} {tt tu : TT} {tA : TA} {ti ti1 : TI} {tg tg1 : TG} {a b c d a1 : DCod} {m : Cod} {cs : List DCod} {ts us : TS}
theorem wiped_on {B B2 : Base} {Γ Γx : List Sl} {σ σ3 : St} {D : Addr} {vs is : List Nat} {o : HO} (his : ∀ i, i ∈ is → i ∈ vs) (hag : ∀ i, i ∉ is → σ3[i]? = (wipe σ vs)[i]?) (hln : σ3.length = (wipe σ vs).length) : wipe σ3 vs = wipe σ vs := by
  rw [wipe_eq hln fun j hj => hag j fun z => hj (his j z)]
  exact wipe_eq (wipe_length _ _) fun j hj => wipe_get _ _ _ hj
theorem en_lc2 {vs vs1 is is1 : List Nat} {q : Bool} {f : Env Γ0 → a.α → Env Γ1} {f1 : Env Γ1 → a1.α → Env Γ2} {T0 : (R : Type) → (List a.α → Env Γ → Res R) → Env Γ → Res R} {T1 : (R : Type) → (List a1.α → Env Γ1 → Res R) → Env Γ1 → Res R}
    {Tt : (R : Type) → (Bool → Env Γ1 → Res R) → Env Γ1 → Res R} {Tu : (R : Type) → (Bool → Env Γ2 → Res R) → Env Γ2 → Res R} {Te : (R : Type) → (c.α → Env Γ2 → Res R) → Env Γ2 → Res R}
    (hd : Hd Γ Γ0) (hv : allNo Γ0 vs = true) (hv1 : allNo Γ1 vs1 = true) (his : ∀ i, i ∈ is → i ∈ vs) (his1 : ∀ i, i ∈ is1 → i ∈ vs1) (hvv : ∀ i, i ∈ vs1 → i ∈ vs) (bk : Bk Γ1 Γ0) (bk1 : Bk Γ2 Γ1)
    (h : EvI false E XC Γ ti a T0) (ht : TgE Γ0 tg a Γ1 f is) (hc : EvT q E0 XC Γ1 tt Tt) (h1 : EvI false E0 XC Γ1 ti1 a1 T1) (ht1 : TgE Γ1 tg1 a1 Γ2 f1 is1) (hc1 : EvT q E0 XC Γ2 tu Tu) (he : EvE q E0 XC Γ2 te c Te) :
    EvN false E XC Γ (tLc2 ti tg tt ti1 tg1 tu te vs vs1) (mLst c) (fun R k ρ => T0 R (fun xs ρ => opt (compM (fun x ρ0 => Tt _ (fun b ρ1 => if b = true then T1 _ (fun ys ρ1 => opt (compL (fun y ρ1 => Tu _ (fun b ρ2 => if b = true then Te _ (fun z ρ3 => .ok (some z, bk1.f ρ3)) ρ2 else .ok (none, bk1.f ρ2)) (f1 ρ1 y)) ys ρ1) fun zs => .ok (zs.1, bk.f zs.2)) ρ1 else .ok ([], bk.f ρ1)) (f ρ0 x)) xs (hd.h ρ)) fun ys => chk (decide (ys.1.length ≤ 16777216)) (k ys.1 (hd.sh ys.2 ρ))) ρ) := fun B σ F H ρ I R G hG k Q g qq => by
  refine h B σ F H ρ I R G hG _ _ g fun xs ρ1 J F1 H1 I1 e1 w g1 hz D hD => ?_
  obtain ⟨Y, w, hy⟩ := w.ex
  generalize hbody0 : (fun (x : a.α) (ρ0 : Env Γ0) => Tt _ (fun b ρ1 => if b = true then T1 _ (fun ys ρ1 => opt (compL (fun y ρ1 => Tu _ (fun b ρ2 => if b = true then Te _ (fun z ρ3 => Res.ok (some z, bk1.f ρ3)) ρ2 else Res.ok (none, bk1.f ρ2)) (f1 ρ1 y)) ys ρ1) fun zs => Res.ok (zs.1, bk.f zs.2)) ρ1 else Res.ok ([], bk.f ρ1)) (f ρ0 x)) = body0 at g1
  generalize hcl : compM body0 xs (hd.h ρ1) = cl at g1
  cases cl with
  | none => exact absurd g1 hG.1
  | some ys =>
  obtain ⟨ys, ρe⟩ := ys
  have g1 : G (chk (decide (ys.length ≤ 16777216)) (k ys (hd.sh ρe ρ1))) := g1
  have hysl : ys.length ≤ 16777216 := by
    by_cases hh : ys.length ≤ 16777216
    · exact hh
    · rw [decide_eq_false hh] at g1; exact absurd g1 hG.1
  rw [decide_eq_true hysl] at g1
  have g1 : G (k ys (hd.sh ρe ρ1)) := g1
  have hsl := sizeLine_eq
  have S1 : SApart B Γ σ F1 (upd H1 D (.lst [])) ρ1 D := I1.apart hD
  obtain ⟨L1, r1, w1, hn1, hF1, hB1⟩ := S1
  have S0 : SApart B Γ0 σ F1 (upd H1 D (.lst [])) (hd.h ρ1) D := ⟨L1, hd.ok r1, w1, hn1, hF1, hB1⟩
  refine go_it (body := fun σ2 H2 Nx => wipe σ2 vs = wipe σ vs ∧ tt σ2 H2 fun b H3 => if b = true then ti1 σ2 H3 fun J1 H4 => ∃ W1 : Nat → Nat → Hp → Prop, (∃ m, W1 0 m H4) ∧ ∀ j k H, W1 j k H →
      (J1.stop j H ∧ Nx H) ∨ (J1.go j H ∧ ∃ Nx1 : Hp → Prop, (∀ H', Nx1 H' → ∃ k', k' < k ∧ W1 (j + 1) k' H') ∧ ∀ x H', J1.yld j H x H' → tg1 x (wipe σ2 vs1) H' fun σ3 H5 => wipe σ3 vs1 = wipe σ2 vs1 ∧ tu σ3 H5 fun b H6 =>
        if b = true then te σ3 H6 fun y H7 => ∃ acc, H7 D = some (.lst acc) ∧ acc.length < sizeLine ∧ Nx1 (upd H7 D (.lst (acc ++ [y]))) else Nx1 H6) else Nx H3)
    w (fun i H' => i ≤ xs.length ∧ ∃ F' ρ0 acc vs' rest, SApart B Γ0 (wipe σ vs) F' H' ρ0 D ∧ Ex F1 F' ∧ H' D = some (.lst vs') ∧ PV c F' vs' acc ∧ compM body0 (xs.drop i) ρ0 = some (rest, ρe) ∧ ys = acc ++ rest)
    ⟨Nat.zero_le _, F1, hd.h ρ1, [], [], ys, S0.wiped hv, Ex.refl _, upd_same, .nil, hcl, rfl⟩ (fun i H' _ ⟨_, F', _, _, _, _, S, e', _⟩ => e'.trans S.inv.fh) ?_ ?_
  · rintro i v H' H2 hi ⟨_, F', ρ0, acc, vs', rest, S, e', hDl, pv, hcl', hys⟩ y
    obtain ⟨F2, x, hx, pp, r⟩ := hy i H' v H2 F' y e' S.inv.fh
    obtain ⟨hlt, hxe⟩ := List.getElem?_eq_some_iff.mp hx
    have ed : xs.drop i = x :: xs.drop (i + 1) := by rw [← hxe]; exact (List.drop_eq_getElem_cons hlt)
    rw [ed] at hcl'
    obtain ⟨o, ρ3, ys', hbody, hrest, hrr⟩ := compM_cons hcl'
    rw [← hbody0] at hbody
    obtain ⟨B2, I2, hfr, back⟩ := S.go hDl
    have I2' := I2.pext pp
    refine ht B2 _ F2 H2 ρ0 v x I2' r _ fun σ3 I3 hag hln => ?_
    have ew3 : wipe σ3 vs = wipe σ vs := wiped_on (B := B) (B2 := B2) (Γ := Γ) (Γx := Γ) (D := D) (o := .lst []) his hag hln
    refine ⟨ew3, ?_⟩
    refine hc B2 σ3 F2 H2 _ I3 _ (fun r => r = Res.ok (o, ρ3)) (rs0 (fun z => nomatch z) fun n z => nomatch z) _ _ hbody fun bb ρ4 F4 H4 I4 e4 g4 => ?_
    have hup : ∀ {Fz Hz : Hp} {ρz : Env Γ1} {σz : St}, wipe σz vs = wipe σ vs → SApart B Γ1 σz Fz Hz ρz D → SApart B Γ0 (wipe σ vs) Fz Hz (bk.f ρz) D := fun {Fz Hz ρz σz} ez Sz => by
      have S2 := (bk.apart Sz).wiped hv
      rw [ez] at S2
      exact S2
    cases bb with
    | false =>
      rw [if_neg (by decide)] at g4 ⊢
      cases g4
      obtain ⟨S5, h5⟩ := back _ _ _ _ _ I4
      exact ⟨hlt, F4, _, acc, vs', ys', hup ew3 S5, (e'.trans pp.ff).trans e4.1, h5, pv.ext (pp.ff.trans e4.1), hrest, by rw [hys, hrr]; simp⟩
    | true =>
      rw [if_pos rfl] at g4 ⊢
      refine h1 B2 σ3 F4 H4 ρ4 I4 _ (fun r => r = Res.ok (o, ρ3)) (rs0 (fun z => nomatch z) fun n z => nomatch z) _ _ g4 fun xs1 ρ5 J1 F5 H5 I5 e5 w5 g5 hz5 => ?_
      obtain ⟨Y1, w5, hy5⟩ := w5.ex
      generalize hbody1 : (fun (y : a1.α) (ρ1 : Env Γ1) => Tu _ (fun b ρ2 => if b = true then Te _ (fun z ρ3 => Res.ok (some z, bk1.f ρ3)) ρ2 else Res.ok (none, bk1.f ρ2)) (f1 ρ1 y)) = body1 at g5
      generalize hcl1 : compL body1 xs1 ρ5 = cl1 at g5
      cases cl1 with
      | none => exact absurd g5 (fun z => nomatch z)
      | some zs =>
      obtain ⟨zs, ρz⟩ := zs
      have g5 : Res.ok (zs, bk.f ρz) = Res.ok (o, ρ3) := g5
      obtain ⟨S5, h5⟩ := back _ _ _ _ _ I5
      refine go_it (body := fun σ3' H5 Nx1 => wipe σ3' vs1 = wipe σ3 vs1 ∧ tu σ3' H5 fun b H6 => if b = true then te σ3' H6 fun y H7 => ∃ acc, H7 D = some (.lst acc) ∧ acc.length < sizeLine ∧ Nx1 (upd H7 D (.lst (acc ++ [y]))) else Nx1 H6)
        w5 (fun j Hj => j ≤ xs1.length ∧ ∃ Fj ρj acc1 vsj rest1, SApart B Γ1 (wipe σ3 vs1) Fj Hj ρj D ∧ Ex F5 Fj ∧ Hj D = some (.lst vsj) ∧ PV c Fj vsj (acc ++ acc1) ∧ compL body1 (xs1.drop j) ρj = some (rest1, ρz) ∧ zs = acc1 ++ rest1)
        ⟨Nat.zero_le _, F5, ρ5, [], vs', zs, S5.wiped hv1, Ex.refl _, h5, by rw [List.append_nil]; exact pv.ext ((pp.ff.trans e4.1).trans e5.1), hcl1, rfl⟩ (fun j Hj _ ⟨_, Fj, _, _, _, _, Sj, ej, _⟩ => ej.trans Sj.inv.fh) ?_ ?_
      · rintro j vj Hj Hj' hj ⟨_, Fj, ρj, acc1, vsj, rest1, Sj, ej, hDj, pvj, hclj, hzs⟩ yj
        obtain ⟨F6, y1, hy1, pp1, r6⟩ := hy5 j Hj vj Hj' Fj yj ej Sj.inv.fh
        obtain ⟨hlt1, hye⟩ := List.getElem?_eq_some_iff.mp hy1
        have ed1 : xs1.drop j = y1 :: xs1.drop (j + 1) := by rw [← hye]; exact (List.drop_eq_getElem_cons hlt1)
        rw [ed1] at hclj
        obtain ⟨o1, ρ7, rest2, hb1, hrest1, hrr1⟩ := compL_cons hclj
        rw [← hbody1] at hb1
        obtain ⟨B3, I6, hfr3, back3⟩ := Sj.go hDj
        have I6' := I6.pext pp1
        refine ht1 B3 _ F6 Hj' ρj vj y1 I6' r6 _ fun σ7 I7 hag7 hln7 => ?_
        have ew7 : wipe σ7 vs1 = wipe σ3 vs1 := wiped_on (B := B) (B2 := B3) (Γ := Γ) (Γx := Γ) (D := D) (o := .lst []) his1 hag7 hln7
        refine ⟨ew7, ?_⟩
        refine hc1 B3 σ7 F6 Hj' _ I7 _ (fun r => r = Res.ok (o1, ρ7)) (rs0 (fun z => nomatch z) fun n z => nomatch z) _ _ hb1 fun bb1 ρ8 F8 H8 I8 e8 g8 => ?_
        have hup1 : ∀ {Fz Hz : Hp} {ρy : Env Γ2}, SInv B3 Γ2 σ7 Fz Hz ρy → SApart B Γ1 (wipe σ3 vs1) Fz Hz (bk1.f ρy) D ∧ Hz D = some (.lst vsj) := fun {Fz Hz ρy} Iz => by
          obtain ⟨Sz, hz⟩ := back3 _ _ _ _ _ (bk1.inv Iz)
          have S2 := Sz.wiped hv1
          rw [ew7] at S2
          exact ⟨S2, hz⟩
        cases bb1 with
        | true =>
          rw [if_pos rfl] at g8 ⊢
          refine he B3 σ7 F8 H8 ρ8 I8 _ (fun r => r = Res.ok (o1, ρ7)) (rs0 (fun z => nomatch z) fun n z => nomatch z) _ _ g8 fun z1 ρ9 u9 F9 H9 I9 e9 r9 g9 => ?_
          cases g9
          obtain ⟨S9, h9⟩ := hup1 I9
          have hzl : (acc ++ acc1).length + 1 ≤ ys.length := by
            cases g5
            rw [hys, hrr, hzs, hrr1]
            simp only [List.length_append, Option.toList, List.length_cons]
            omega
          refine ⟨vsj, h9, ?_, hlt1, F9, _, acc1 ++ [z1], vsj ++ [u9], rest2, S9.upd, ((ej.trans pp1.ff).trans e8.1).trans e9.1, upd_same, ?_, hrest1, ?_⟩
          · rw [pvj.length]; omega
          · rw [← List.append_assoc]; exact (pvj.ext ((pp1.ff.trans e8.1).trans e9.1)).append (.cons r9 .nil)
          · rw [hzs, hrr1]; simp
        | false =>
          rw [if_neg (by decide)] at g8 ⊢
          cases g8
          obtain ⟨S9, h9⟩ := hup1 I8
          exact ⟨hlt1, F8, _, acc1, vsj, rest2, S9, (ej.trans pp1.ff).trans e8.1, h9, pvj.ext (pp1.ff.trans e8.1), hrest1, by rw [hzs, hrr1]; simp⟩
      · rintro Hj ⟨_, Fj, ρj, acc1, vsj, rest1, Sj, ej, hDj, pvj, hclj, hzs⟩
        rw [List.drop_length] at hclj
        cases hclj
        rw [List.append_nil] at hzs
        subst hzs
        cases g5
        have Sk : SApart B Γ1 σ3 Fj Hj ρz D := Sj.unwiped hv1
        exact ⟨hlt, Fj, _, acc ++ o, vsj, ys', hup ew3 Sk, (((e'.trans pp.ff).trans e4.1).trans e5.1).trans ej, hDj, pvj, hrest, by rw [hys, hrr]; simp⟩
  · rintro H' ⟨_, F', ρ0, acc, vs', rest, S, e', hDl, pv, hcl', hys⟩
    rw [List.drop_length] at hcl'
    cases hcl'
    rw [List.append_nil] at hys
    subst hys
    have S2 := S.unwiped hv
    obtain ⟨L2, r2, w2, hn2, hF2, hB2⟩ := S2
    have r3 : SRel Γ B.τ σ F' H' L2 (hd.sh ρe ρ1) := hd.re r1 e' r2
    have hne : ∀ a, a ≠ D → (fun b => if b = D then none else H' b : Hp) a = H' a := fun a ha => if_neg ha
    have hDn : (fun b => if b = D then none else H' b : Hp) D = none := if_pos rfl
    have w3 : Wd B F' (fun b => if b = D then none else H' b) L2 := ⟨w2.nd, fun k a ha => by
        obtain ⟨q1, o, q2⟩ := w2.fr k a ha
        exact ⟨q1, o, (hne a fun z => hn2 k (z ▸ ha)).trans q2⟩, fun a u hu => (hne a (ne_of_none hu hF2)).trans (w2.fh a u hu), w2.bf, fun a u hu h1 h2 => (hne a (ne_of_none hu hB2)).trans (w2.keep a u hu h1 h2),
        fun a u hu => by
          obtain ⟨o, ho⟩ := w2.there a u hu
          exact ⟨o, (hne a (ne_of_none hu hB2)).trans ho⟩, w2.new, w2.own, w2.loc, w2.con⟩
    have r4 : SRel Γ B.τ σ F' (fun b => if b = D then none else H' b) L2 (hd.sh ρe ρ1) := r3.ext (Ex.refl _) fun k a ha => hne a fun z => hn2 k (z ▸ ha)
    refine qq ys _ (.ref D) [D] F' _ F' H' ⟨L2, r4, w3⟩ ⟨e1.1.trans e', fun z => nomatch z⟩ ⟨fun a o ho => ?_, Ex.refl _, w2.fh, fun a o ho => .inl ho⟩ ⟨by simp, fun a ha => ?_⟩ ⟨D, vs', rfl, rfl, hDl, pv, ?_⟩ g1
    · by_cases ha : a = D
      · subst ha
        have ho : (none : Option HO) = some o := hDn.symm.trans ho
        cases ho
      · exact (hne a ha).symm.trans ho
    · have ha : a = D := by simpa using ha
      subst ha
      exact ⟨hDn, hF2, _, hDl⟩
    · omega
end
end Pu
set_option Elab.async false
set_option linter.all false
set_option maxRecDepth 100000
set_option maxHeartbeats 4000000
namespace Pu
open PySem L2 Evl
section
variable {p : Bool} {E : XK} {XC : Str → Value} {Rt : Ret} {K : PySem.W.Frag} {Γ Γ' Γ0 Γ1 Γ2 ΓL Γf : List Sl} {te ta tb tc : TE} {tA : TA} {a b c d : DCod}
end
end Pu
set_option Elab.async false
set_option linter.all false
set_option maxRecDepth 100000
set_option maxHeartbeats 4000000
namespace PuMin
open PySem PySem.SeqAt
open PySem.AutoSeq1 (wpAny_loadPart')
open PySem.MeetsSeq PySem.MeetsSeq2 PySem.MeetsSeq3
section
variable {prog : Program} {w : World} {A : Around} {E : Value → Shared → Prop} {s : Shared}
end
end PuMin
namespace Pu
open PySem L2 Evl PySem.W
/-! ### str(x) of an int or nothing; min of (int, text, int or nothing) -/
section
variable {X : Cx} {K : PySem.W.Frag}
end
end Pu
set_option Elab.async false
set_option linter.all false
set_option maxRecDepth 100000
set_option maxHeartbeats 4000000
namespace Pu
open PySem L2 Evl
section
variable {K : PySem.W.Frag}
end
def dqTuN {K : PySem.W.Frag} {c : DCod} {n : Nat} (q : Dq K n c) : Dq K (n + 1) (dTuN c) := { toD := (dqTup q).toD, dec := (dqTup q).dec, dp := fun {F H v x} e h => (dqTup q).dp e (sb_tun F v x h), lay := (dqTup q).lay, dep := (dqTup q).dep, eqv := (dqTup q).eqv }
end Pu
set_option Elab.async false
set_option linter.all false
set_option maxRecDepth 100000
set_option maxHeartbeats 4000000
namespace PuMin
open PySem PySem.SeqAt
open PySem.AutoSeq1 (wpAny_loadPart')
open PySem.MeetsSeq PySem.MeetsSeq2 PySem.MeetsSeq3
end PuMin
namespace Pu
open PySem L2 Evl PySem.W
section
variable {X : Cx} {K : PySem.W.Frag}
end
end Pu
set_option Elab.async false
set_option linter.all false
set_option maxRecDepth 100000
set_option maxHeartbeats 4000000
namespace Pu
open PySem L2 Evl
/-! ### x in l, items of any depth -/
section
variable {K : PySem.W.Frag} {c : DCod} {n : Nat}
theorem any_eqv (q : Dq K n c) (x : c.α) (xs : List c.α) : ((xs.map q.toD).any fun z => PyData.eqv z (q.toD x)) = isIn q.dec x xs := by
  unfold isIn
  rw [List.any_map]
  congr 1
  funext y
  exact q.eqv y x
theorem o_ninD (q : Dq K n c) (hn : n + 1 ≤ 64) : Op2 (rNotInD K) c (dLst c) dBl (fun x xs => !isIn q.dec x xs) := fun F H v w x y Q e h1 h2 k =>
  ⟨q.toD x, List.map q.toD y, q.dp e h1, (dqLst q).dp e h2, q.shaped (by omega) x, (dqLst q).shaped hn y, by rw [any_eqv]; exact k _ F H (Pext.refl e) rfl⟩
end
section
variable {X : Cx} {K : PySem.W.Frag}
theorem op_notInDK (hu : X.A.units + 65 < cLine) (hK : X.K = K := by rfl) : OpR X (compareOp .NotIn) (rNotInD K) := by subst hK; exact op_notInD hu
end
theorem _root_.L2.Room.units65 {k : Nat} {A : PySem.Around} (r : Room k A) : A.units + 65 < cLine := by have := r.un; omega
end Pu
set_option Elab.async false
set_option linter.all false
set_option maxRecDepth 100000
set_option maxHeartbeats 4000000
namespace Pu
open PySem L2 Evl
/-! ### two things that change at once -/
theorem Wd.change {B : Base} {F H F' H' : Hp} {k : Kd} {fp fp' : List Addr} {Lr : Fps} (hk : k ≠ .co) (w : Wd B F H (tag k fp ++ Lr)) (st : Step F H fp F' H' fp') : Wd B F' H' (tag k fp' ++ Lr) ∧ ∀ q a, (q, a) ∈ Lr → H' a = H a := by
  have hin : ∀ a, a ∈ fp → (k, a) ∈ tag k fp ++ Lr := fun a ha => List.mem_append_left _ (mem_tag.mpr ⟨rfl, ha⟩)
  have old : ∀ k' a, (k', a) ∈ Lr → (k', a) ∈ tag k fp ++ Lr := fun k' a ha => List.mem_append_right _ ha
  have nd := w.nd
  rw [List.map_append, tag_map] at nd
  have nd1 := List.nodup_append.mp nd
  have hrest : ∀ k' a, (k', a) ∈ Lr → ∃ o, H a = some o ∧ H' a = some o ∧ a ∉ fp := fun k' a ha => by
    obtain ⟨_, o, ho⟩ := w.fr k' a (old k' a ha)
    have hnot : a ∉ fp := fun hf => nd1.2.2 a hf a (List.mem_map.mpr ⟨_, ha, rfl⟩) rfl
    exact ⟨o, ho, st.keep a o ho hnot, hnot⟩
  have cases_ : ∀ k' a, (k', a) ∈ tag k fp' ++ Lr → (k', a) ∈ Lr ∨ (k' = k ∧ a ∈ fp') := fun k' a ha => by
    rcases List.mem_append.mp ha with ha | ha
    · exact .inr (mem_tag.mp ha)
    · exact .inl ha
  refine ⟨⟨?_, fun k' a ha => ?_, st.fh, w.bf.trans st.ff, fun a o h hm hn => ?_, fun a o h => ?_, fun a o e => ?_, fun a ha => ?_, fun a ha => ?_, fun a ha => ?_⟩, fun q a ha => ?_⟩
  · rw [List.map_append, tag_map]
    refine List.nodup_append.mpr ⟨st.nd, nd1.2.1, fun a ha b hb e => ?_⟩
    subst e
    obtain ⟨q, hq, e⟩ := List.mem_map.mp hb
    obtain ⟨k', a'⟩ := q
    have e : a' = a := e
    subst e
    obtain ⟨o, g1, g2, g3⟩ := hrest k' a' hq
    rcases (st.own a' ha).1 with q | q
    · exact g3 q
    · rw [g1] at q; cases q
  · rcases cases_ k' a ha with q | ⟨_, q⟩
    · obtain ⟨o, g1, g2, _⟩ := hrest k' a q
      refine ⟨?_, o, g2⟩
      have g0 := (w.fr k' a (old k' a q)).1
      cases e : F' a with
      | none => rfl
      | some u =>
        rcases st.new a u e with z | z
        · rw [g0] at z; cases z
        · rw [g1] at z; cases z
    · exact (st.own a q).2
  · by_cases hf : a ∈ fp
    · exfalso
      cases k with
      | pa =>
        rcases w.own a (hin a hf) with z | z
        · exact hm z
        · rw [h] at z; cases z
      | lo =>
        rcases w.loc a (hin a hf) with z | z
        · exact hn z
        · rw [h] at z; cases z
      | co => exact hk rfl
    · exact st.keep a o (w.keep a o h hm hn) hf
  · obtain ⟨o', h'⟩ := w.there a o h
    exact st.there a o' h'
  · rcases st.new a o e with q | q
    · exact w.new a o q
    · right
      cases e2 : B.H a with
      | none => rfl
      | some u =>
        obtain ⟨o', h'⟩ := w.there a u e2
        rw [q] at h'; cases h'
  · rcases cases_ _ a ha with q | ⟨e, q⟩
    · exact w.own a (old _ a q)
    · subst e
      rcases (st.own a q).1 with z | z
      · exact w.own a (hin a z)
      · right
        cases e2 : B.H a with
        | none => rfl
        | some u =>
          obtain ⟨o', h'⟩ := w.there a u e2
          rw [z] at h'; cases h'
  · rcases cases_ _ a ha with q | ⟨e, q⟩
    · exact w.loc a (old _ a q)
    · subst e
      rcases (st.own a q).1 with z | z
      · exact w.loc a (hin a z)
      · right
        cases e2 : B.H a with
        | none => rfl
        | some u =>
          obtain ⟨o', h'⟩ := w.there a u e2
          rw [z] at h'; cases h'
  · rcases cases_ _ a ha with q | ⟨e, q⟩
    · exact w.con a (old _ a q)
    · exact absurd e.symm hk
  · obtain ⟨o, g1, g2, _⟩ := hrest q a ha
    rw [g1, g2]
/-! ### a def with two arguments, side by side, that it may change -/
section
variable {p : Bool} {E : XK} {XC : Str → Value} {Γ : List Sl} {c : DCod} {m1 m2 : Cod} {cs0 cs : List DCod} {ts : TS}
end
end Pu
set_option Elab.async false
set_option linter.all false
set_option maxRecDepth 100000
set_option maxHeartbeats 4000000
namespace Pu
open PySem L2 Evl
/-! ### dicts by pairs of whole numbers, that may change -/
abbrev PK := Int × Int
def pkey (k : PK) : List Key := [.inl k.1, .inl k.2]
theorem pkey_inj {k k' : PK} (h : pkey k = pkey k') : k = k' := by
  unfold pkey at h
  obtain ⟨a, b⟩ := k
  obtain ⟨a', b'⟩ := k'
  simp at h
  rw [h.1, h.2]
def KTR (c : DCod) (F : Hp) (ks : List (List Key × V)) (kvs : List (PK × c.α)) : Prop := Paired (fun (p : List Key × V) (q : PK × c.α) => p.1 = pkey q.1 ∧ c.rel F p.2 q.2) ks kvs
def pget {α : Type} : List (PK × α) → PK → Option α
  | [], _ => none
  | p :: r, k => if p.1 = k then some p.2 else pget r k
def pput {α : Type} (kvs : List (PK × α)) (k : PK) (v : α) : List (PK × α) :=
  if (kvs.any fun q => decide (q.1 = k)) = true then kvs.map (fun q => if q.1 = k then (q.1, v) else q) else kvs ++ [(k, v)]
section
variable {c : DCod}
theorem KTR.ext {F F' : Hp} (e : Ex F F') {ks : List (List Key × V)} {kvs : List (PK × c.α)} (h : KTR c F ks kvs) : KTR c F' ks kvs := Paired.mapP h fun _ _ q => ⟨q.1, c.ext q.2 e⟩
theorem KTR.get {F : Hp} {i : PK} : ∀ {ks : List (List Key × V)} {kvs : List (PK × c.α)}, KTR c F ks kvs → (∀ z, pget kvs i = some z → ∃ v, valV ks (pkey i) = some v ∧ c.rel F v z) ∧ (pget kvs i = none → valV ks (pkey i) = none)
  | _, _, .nil => ⟨fun z h => (nomatch h), fun _ => rfl⟩
  | _, _, .cons (a := p) (b := q) r t => by
    obtain ⟨h1, h2⟩ := KTR.get (i := i) t
    unfold pget
    by_cases e : q.1 = i
    · rw [if_pos e]
      have e2 : p.1 = pkey i := by rw [r.1, e]
      exact ⟨fun z hz => by cases hz; exact ⟨p.2, valV_pos e2, r.2⟩, fun z => (nomatch z)⟩
    · rw [if_neg e]
      have e2 : ¬ p.1 = pkey i := fun z => by
        rw [r.1] at z
        exact e (pkey_inj z)
      rw [valV_neg e2]
      exact ⟨h1, h2⟩
theorem KTR.any {F : Hp} {i : PK} : ∀ {ks : List (List Key × V)} {kvs : List (PK × c.α)}, KTR c F ks kvs → (ks.any fun p => decide (p.1 = pkey i)) = kvs.any fun q => decide (q.1 = i)
  | _, _, .nil => rfl
  | _, _, .cons (a := p) (b := q) r t => by
    rw [List.any_cons, List.any_cons, KTR.any t, r.1]
    congr 1
    by_cases e : q.1 = i
    · simp [e]
    · have : ¬ pkey q.1 = pkey i := fun z => e (pkey_inj z)
      rw [decide_eq_false this, decide_eq_false e]
theorem KTR.map {F : Hp} {i : PK} {v : V} {x : c.α} (hx : c.rel F v x) : ∀ {ks : List (List Key × V)} {kvs : List (PK × c.α)}, KTR c F ks kvs → KTR c F (ks.map fun p => if p.1 = pkey i then (p.1, v) else p) (kvs.map fun q => if q.1 = i then (q.1, x) else q)
  | _, _, .nil => .nil
  | _, _, .cons (a := p) (b := q) r t => by
    refine .cons ?_ (KTR.map hx t)
    by_cases e : q.1 = i
    · have e2 : p.1 = pkey i := by rw [r.1, e]
      dsimp only
      rw [if_pos e, if_pos e2]
      exact ⟨r.1, hx⟩
    · have e2 : ¬ p.1 = pkey i := fun z => by
        rw [r.1] at z
        exact e (pkey_inj z)
      dsimp only
      rw [if_neg e, if_neg e2]
      exact r
theorem KTR.app {F : Hp} : ∀ {ks ls : List (List Key × V)} {kvs lvs : List (PK × c.α)}, KTR c F ks kvs → KTR c F ls lvs → KTR c F (ks ++ ls) (kvs ++ lvs)
  | _, _, _, _, .nil, s => s
  | _, _, _, _, .cons r t, s => .cons r (KTR.app t s)
theorem KTR.put {F : Hp} {i : PK} {v : V} {x : c.α} (hx : c.rel F v x) {ks : List (List Key × V)} {kvs : List (PK × c.α)} (h : KTR c F ks kvs) : KTR c F (putK ks (pkey i) v) (pput kvs i x) := by
  unfold putK pput
  rw [h.any (i := i)]
  by_cases e : (kvs.any fun q => decide (q.1 = i)) = true
  · rw [if_pos e, if_pos e]; exact h.map hx
  · rw [if_neg e, if_neg e]; exact h.app (.cons ⟨rfl, hx⟩ .nil)
end
section
variable {p : Bool} {E : XK} {XC : Str → Value} {Rt : Ret} {K : PySem.W.Frag} {Γ ΓL : List Sl} {te tb ta : TE} {c : DCod}
theorem ei_enumSV {i : Nat} (at_ : At Γ i (.da (dSeq c))) : EvI p E XC Γ (iEith (iEnum K (tCons (tVar i) tNil)) (iEnumT K (tCons (tVar i) tNil))) (dP2 dInt c) (fun R k ρ => k (enumL (at_.get ρ)) ρ) := fun B σ F H ρ I R G hG k Q g qq => by
  obtain ⟨v, h1, h2⟩ := I.data at_
  obtain ⟨a, vs, rfl, g2, g3, g4⟩ := h2
  rcases g2 with g2 | g2
  · exact .inl ⟨_, h1, a, vs, rfl, SqL.of (I.fh a _ g2), qq _ ρ _ F H I (Gt.refl I.fh) (walks_enum (a := a) walk_enum (fun H2 e2 => SqL.of (e2 a _ g2)) g3) g (Nat.le_trans (Nat.le_of_eq (enumL_len (α := c.α) (xs := at_.get ρ))) g4)⟩
  · exact .inr ⟨_, h1, a, vs, rfl, SqT.rd I.fh g2, qq _ ρ _ F H I (Gt.refl I.fh) (walks_enum (a := a) walk_enumT (fun H2 e2 => SqT.rd e2 g2) g3) g (Nat.le_trans (Nat.le_of_eq (enumL_len (α := c.α) (xs := at_.get ρ))) g4)⟩
end
end Pu
set_option Elab.async false
set_option linter.all false
set_option maxRecDepth 100000
set_option maxHeartbeats 4000000
namespace Pu
open PySem L2 Evl
section
variable {p : Bool} {E : XK} {XC : Str → Value} {Γ Γ' : List Sl} {te : TE} {c : DCod}
end
end Pu
set_option Elab.async false
set_option linter.all false
set_option maxRecDepth 100000
set_option maxHeartbeats 4000000
namespace Pu
open PySem PySem.Spec PyProof.Rows L2 Evl
/-! ### lambdas handed to a def that tells what they give -/
theorem Inv.ghost {X : Cx} {pins : List (Addr × Obj)} {σ : L2.St} {H : Hp} {s : Shared} {i : Nat} {x : Str} {v : V} (I : L2.Inv X pins σ H s) (hN : X.N[i]? = some x) (hv : ¬ Vis X.env.scope x) : L2.Inv X pins (σ.set i (some v)) H s := by
  obtain ⟨m, hn, hl⟩ := I.loc
  exact { I with
    loc := ⟨m, hn, fun j y w e1 e2 e3 => by
      by_cases e : i = j
      · subst e
        rw [hN] at e1
        cases e1
        exact absurd e3 hv
      · rw [List.getElem?_set_ne e] at e2
        exact hl j y w e1 e2 e3⟩
    len := by rw [List.length_set]; exact I.len }
theorem PSs.ghost {X : Cx} {body : List Stmt} {t : TS} {i : Nat} {x : Str} {v : V} (h : PSs X body t) (hN : X.N[i]? = some x) (hv : ¬ Vis X.env.scope x) : PSs X body (fun D σ H => t D (σ.set i (some v)) H) :=
  ⟨fun pins s σ H D I q => h.run pins s (σ.set i (some v)) H D (Pu.Inv.ghost I hN hv) q⟩
def TabF (F H : Hp) (P : Addr) (q : Str) : Prop := ∃ ps : Array Value, H P = some (.tbl ps) ∧ TriplesOk ps.toList ∧ ∀ (pos : Pos) (cv : Value), codeAmong pos ps.toList = some cv → ∃ c, cv = .ref c ∧ F c = some (LamX.CodeO c q)
def mTab (P : Addr) (q : Str) : Cod := ⟨Unit, fun F H fp v _ => v = .ref P ∧ fp = [P] ∧ TabF F H P q, fun {F F' H H' fp v x} h e k => by
  obtain ⟨h1, h2, ps, h3, h4, h5⟩ := h
  refine ⟨h1, h2, ps, by rw [k P (by rw [h2]; simp)]; exact h3, h4, fun pos cv hc => ?_⟩
  obtain ⟨c, e1, e2⟩ := h5 pos cv hc
  exact ⟨c, e1, e c _ e2⟩⟩
def dAny : DCod := ⟨Unit, fun _ _ _ => True, fun _ _ => True.intro⟩
def fzTab {P : Addr} {q : Str} : Fz (mTab P q) dAny := ⟨fun x => x, fun _ _ _ => True.intro, fun {F H fp v x} h a ha o ho => by
  obtain ⟨h1, h2, ps, h3, h4, h5⟩ := h
  rw [h2] at ha
  have ha : a = P := by simpa using ha
  subst ha
  rw [h3] at ho
  cases ho
  exact True.intro⟩
def Grown (H : Hp) (P : Addr) (ps : Array Value) (q : Str) (H1 : Hp) (c' : Addr) : Prop :=
  (H1 = H ∧ ∃ o, H c' = some o) ∨ (H c' = none ∧ ∃ qs : Array Value, H1 = upd (upd H P (.tbl qs)) c' (LamX.CodeO c' q) ∧ TriplesOk qs.toList ∧ ∀ (p : Pos) (cv : Value), codeAmong p qs.toList = some cv → codeAmong p ps.toList = some cv ∨ cv = .ref c')
section
variable {X : Cx} {pins : List (Addr × Obj)} {σ : L2.St} {H : Hp} {s : Shared}
theorem lam_ex {c P : Addr} {ps : Array Value} {params : Arguments} {body : Expr} {scope : Scope} {pos : Pos} {E : Value → Shared → Prop} {Q : Value → Shared → Prop} (I : Inv X pins σ H s) (TB : LamX.TabB X.base X.mg c P)
    (hcode : X.env.code = .ref c) (hP : H P = some (.tbl ps)) (ht : TriplesOk ps.toList) (ha : ∀ (pos : Pos) (cv : Value), codeAmong pos ps.toList = some cv → ∃ c, cv = .ref c ∧ H c = some (LamX.CodeO c (X.env.qual ++ "<lambda>")))
    (hdef : defaultsOf params X.env = ([], [])) (hfree : ∀ y ∈ scope.names, y.2 = .free → ∃ c, X.env.cells.lookup y.1 = some c)
    (h : ∀ (f c' : Addr) (pm ctv : Value) (H1 : Hp) (s' : Shared), Inv X pins σ H1 s' → Grown H P ps (X.env.qual ++ "<lambda>") H1 c' →
      s'.heap.get? f = some (PySem.W.kla_obj "<lambda>" (X.env.qual ++ "<lambda>") params body scope (cloFrom X.env.cells scope.names []) pm c' ctv) → H1 f = none → f ∉ frs X.stack → H1 c' = some (LamX.CodeO c' (X.env.qual ++ "<lambda>")) → Q (.ref f) s') :
    wpAny (model X.prog X.w) X.A (eval (.Lambda params body scope pos) X.env) Q E s := by
  have bP : s.heap.BuiltinsAt X.mg P := TB.bm.keeps I.bk
  have oP : s.heap.get? P = some { cls := .none, data := .fields ps } := I.hok P _ hP
  have out : ∀ f, s.heap.objs.size ≤ f → f ∉ frs X.stack := fun f hf z => (List.mem_cons.mp (I.stkSub _ z)).elim (fun e => Nat.lt_irrefl _ (Nat.lt_of_lt_of_le (e ▸ I.lt) hf)) fun e => I.nofs hf e
  cases hc : codeAmong pos ps.toList with
  | some cv =>
    obtain ⟨c', rfl, hco⟩ := ha pos cv hc
    refine PySem.W.kla_eval hdef (PySem.W.kla_makeFunctionHit (mg := X.mg) (c := c) (P := P) (ps := ps) (closure_ok hfree) I.ok.glob (I.mod.glob.keeps I.bk) hcode (TB.code.keeps I.bk) oP ht hc bP fun ctv h' tk hx hsz => ?_)
    exact h h'.objs.size c' _ ctv H _ (I.kept fun b o e => Heap.get?_push_of_some _ (hx b o e)) (.inl ⟨rfl, _, hco⟩) (Heap.get?_push_size _ rfl) (I.hok.fresh hsz) (out _ hsz) hco
  | none =>
    refine PySem.W.kla_eval hdef (PySem.W.kla_makeFunction (mg := X.mg) (c := c) (P := P) (ps := ps) (closure_ok hfree) I.ok.glob (I.mod.glob.keeps I.bk) hcode (TB.code.keeps I.bk) oP ht hc TB.gP bP fun c' ctv h' tk hx hge hlt hrec htb => ?_)
    obtain ⟨c2, oc, vs, t, e2, hoc, hd, hv⟩ := hrec
    cases e2
    have hsz : s.heap.objs.size ≤ h'.objs.size := Nat.le_trans hge (Nat.le_of_lt hlt)
    have nC : H c' = none := I.hok.fresh hge
    have eL : (ps ++ #[rawInt pos.line, rawInt pos.col, .ref c']).toList = ps.toList ++ [rawInt pos.line, rawInt pos.col, .ref c'] := by simp
    refine h h'.objs.size c' _ ctv _ _ (LamX.inv_table (t' := tk) (q := X.env.qual ++ "<lambda>") (more := #[rawInt pos.line, rawInt pos.col, .ref c']) (h' := h'.push (PySem.W.kla_obj "<lambda>" (X.env.qual ++ "<lambda>") params body scope (cloFrom X.env.cells scope.names []) ((X.mg "__name__").getD .none) c' ctv)) I hP
      (fun b o hb e => Heap.get?_push_of_some _ (hx b o hb e)) (Heap.get?_push_of_some _ htb) hge ⟨oc, vs, t, Heap.get?_push_of_some _ hoc, hd, hv⟩) (.inr ⟨nC, _, rfl, ?_, fun p cv hcv => ?_⟩) (Heap.get?_push_size _ rfl) ?_ (out _ hsz) upd_same
    · rw [eL]
      exact PySem.TriplesOk_snoc _ _ _ _ ht
    · rw [eL] at hcv
      exact LamX.among_app _ ht hcv
    · rw [upd_ne (Nat.ne_of_gt hlt), upd_ne (Nat.ne_of_gt (Nat.lt_of_lt_of_le (Heap.lt_size oP) hsz))]
      exact I.hok.fresh hsz
end
def tLamX (P : Addr) (q : Str) (TT : (XK → Hp → VK → Prop) → Hp → VK → Prop) (t : XK → TE) : TE := fun σ H Q => ∃ ps : Array Value, H P = some (.tbl ps) ∧ TriplesOk ps.toList ∧ (∀ (pos : Pos) (cv : Value), codeAmong pos ps.toList = some cv → ∃ c, cv = .ref c ∧ H c = some (LamX.CodeO c q)) ∧
  ∀ (H1 : Hp) (c' : Addr), Grown H P ps q H1 c' → TT (fun E H' Q' => t E σ H' Q') H1 Q
structure Teller (X : Cx) (x : Str) (g : Addr) (pg : Arguments) (bg : List Stmt) (sg : Scope) (Ng : List Str) (a : Str) (TT : (XK → Hp → VK → Prop) → Hp → VK → Prop) : Prop where
  fn : ∃ fd, FunD X.K x x pg bg sg [] [] g fd
  bnd : ∀ (kV doc pm : Value) (an : Option Addr) (cdv ct : Value) (us : List Value), us.length = ([a] : List Str).length → bindArgs (PySem.W.fnOf x x pg bg sg .none kV doc pm an cdv ct) ⟨us, []⟩ = pure (([a] : List Str).zip us)
  sc : FnScope Ng [a] sg
  at0 : Ng[0]? = some a
  vis : Vis sg a
  gives : ∀ (q : Str) (cdg : Value), LamX.GivesTo X Ng x sg g cdg bg a q TT
section
variable {X : Cx}
theorem pe_lamX {TT : (XK → Hp → VK → Prop) → Hp → VK → Prop} {x a : Str} {g c P : Addr} {k j : Nat} {pg : Arguments} {bg : List Stmt} {sg : Scope} {Ng : List Str} {params : Arguments} {body : Expr} {scope : Scope} {t : XK → TE} {p lpos pos : Pos}
    (Te : Teller X x g pg bg sg Ng a TT) (hm : X.mg x = some (.ref g)) (TB : LamX.TabB X.base X.mg c P) (hcode : X.env.code = .ref c) (hr : Room j X.A) (hj : k + 2 ≤ j) (L : LamX.LamS X.env.scope scope) (hdef : defaultsOf params X.env = ([], []))
    (hbody : ∀ (A : Around) (outer : List PySem.Env) (s : Shared) (H : Hp) (E : XK) (f c' : Addr), Room k (A.deeper (LamX.lamEnv X scope s.heap.objs.size f c')) → PE (LamX.lamCx X A outer s H E scope f c') body (t E))
    (hbind : ∀ (q : Str) (cl : List (Str × Addr)) (pm cv ctv : Value), bindArgs (PySem.W.kla_fn "<lambda>" q params body scope cl pm cv ctv) ⟨[], []⟩ = pure [] := by intros; rfl) (hg : Gl X x := by rfl)
    (hdb : (x == ("__debug__" : Str)) = false := by decide) (hd : (a == ("__debug__" : Str)) = false := by decide) (hcd : (a == ("__classdict__" : Str)) = false := by decide) :
    PE X (.Call (.Name x p) [.Lambda params body scope lpos] [] pos) (tLamX P (X.env.qual ++ "<lambda>") TT t) := by
  obtain ⟨fd, F⟩ := Te.fn
  have kp := F.kp
  have bd := F.bindsN Te.bnd
  obtain ⟨oc, od, dV, kV, doc, pm, an, cdv, ct, osl, rfl, lk, hcg, _, _⟩ := F.ex
  have hr2 : Room (k + 2) X.A := hr.mono hj
  refine ⟨fun pins s σ H Q I ⟨ps, hP, ht, ha, hT⟩ => wpAny_Call_Name_kw (ld_glob I hg hm (PySem.W.callWith_K (h₀ := X.base) I.ok.mod.kin kp ?_ (by rfl) (by rfl)) hdb)⟩
  show wpAny _ _ (spliced ((false, eval (.Lambda params body scope lpos) X.env) :: backTo pos (starEach [] X.env))) _ _ s
  refine Calls.spliced_cons (lam_ex I TB hcode hP ht ha hdef (L.has I.ok) fun f c' pm' ctv H1 s' I1 gr hf hfn hfr hco => Calls.spliced_nil ⟨I1.kIn, ?_⟩)
  have rc : codeAny (model X.prog X.w) X.A (.call (.ref g) ⟨[.ref f], []⟩) (CR C8.CX0 X.stack X.prog X.w H1 s' Q C8.E0) s' :=
    LamX.run_ofS (N := Ng) (ps := [a]) (us := [.ref f]) (vs := [.ref f]) lk hcg Te.sc hr2 I1.env0 (bd s' [.ref f] I1.kIn rfl) (.cons rfl .nil) rfl fun hr' => by
      obtain ⟨t', ht', hq'⟩ := Te.gives (X.env.qual ++ "<lambda>") cdv f c' s' H1 Q (fun E H' Q' => t E σ H' Q') (fun W pn xe E p1 p2 tk hW => LamX.pe_act (i := 0) I1 L hf hfn hfr (hbind _ _ _ _ _) tk hW hr' (fun A outer s H hr3 => hbody A outer s H E f c' hr3) Te.at0 Te.vis hd hcd) hco (hT H1 c' gr)
      exact ⟨t', ht'.nox, hq'⟩
  refine wpAny_call (codeAny_mono rc fun r s2 hq => ?_)
  match r, hq with
  | .error e, hq => exact (show False from hq).elim
  | .ok (.ret u), hq => exact I1.after hq
  | .ok .next, hq => exact False.elim hq
  | .ok .brk, hq => exact False.elim hq
  | .ok .cont, hq => exact False.elim hq
end
end Pu
set_option Elab.async false
set_option linter.all false
set_option maxRecDepth 100000
set_option maxHeartbeats 4000000
namespace Pu
open PySem PySem.Spec PyProof.Rows L2 Evl
def caught (K : PySem.W.Frag) : List (Addr × Str) → Value → (Str → Prop) → Prop
  | [], _, _ => False
  | (C, w) :: r, cls, k => ∃ b, PySem.W.exmOne K cls (.ref C) = some b ∧ (b = true → k w) ∧ (b = false → caught K r cls k)
def TTm (K : PySem.W.Frag) (cs : List (Addr × Str)) : (XK → Hp → VK → Prop) → Hp → VK → Prop := fun tl H Q => tl (fun cls _ H' => caught K cs cls fun w => Q (.str w) H') H Q
inductive HdTold (sg : Scope) (mg : Str → Option Value) : List ExceptHandler → List (Addr × Str) → Prop
  | nil : HdTold sg mg [] []
  | cons {e w : Str} {C : Addr} {j : Nat} {p4 p5 p6 p7 : Pos} {hds : List ExceptHandler} {cs : List (Addr × Str)} (hge : sg.names.lookup e = some .globalImplicit) (hme : mg e = some (.ref C)) (hde : (e == ("__debug__" : Str)) = false) (r : HdTold sg mg hds cs) :
      HdTold sg mg (.ExceptHandler (some (.Name e p4)) none [.Return (some (.Constant (.str w) j p5)) p6] p7 :: hds) ((C, w) :: cs)
def tellTs (w : Str) : Addr → Value → Option Addr → TS := fun _ _ _ => tRet (tC (.str w))
theorem wMany_of {K : PySem.W.Frag} {D : Ends} {cls : Value} {d : Option Addr} {σ : L2.St} {H : Hp} : ∀ {cs : List (Addr × Str)}, caught K cs cls (fun w => D.rt (.str w) H) → wMany K (fun _ _ _ _ => False) D (cs.map fun p => (Value.ref p.1, tellTs p.2)) cls d σ H
  | [], h => h
  | (C, w) :: r, ⟨b, h1, h2, h3⟩ => ⟨b, h1, fun e a _ => h2 e, fun e => wMany_of (h3 e)⟩
section
variable {X : Cx}
theorem hds_ok {sg : Scope} {hds : List ExceptHandler} {cs : List (Addr × Str)} (h : HdTold sg X.mg hds cs) (hsc : X.env.scope = sg) : HdsOk X hds (cs.map fun p => (Value.ref p.1, tellTs p.2)) := by
  induction h with
  | nil => exact .nil
  | cons hge hme hde r ih => exact .cons ⟨by unfold Gl PySem.Env.kindOf; rw [hsc]; exact hge, hde, .inl hme⟩ (fun _ _ _ _ _ _ _ => pss_one (ps_ret pe_str)) ih
theorem gives_many {Ng : List Str} {x a q : Str} {sg : Scope} {g : Addr} {cdg : Value} {h1 : ExceptHandler} {hds : List ExceptHandler} {cs : List (Addr × Str)} {p1 p2 p3 p8 : Pos} (hh : HdTold sg X.mg (h1 :: hds) cs) (h0 : ∀ f : Addr, (L2.start Ng [V.ref f])[0]? = some (some (V.ref f))) :
    LamX.GivesTo X Ng x sg g cdg [.Try [.Return (some (.Call (.Name a p1) [] [] p2)) p3] (h1 :: hds) [] [] p8] a q (TTm X.K cs) := by
  intro f c' s H Q tl act hc h
  refine ⟨_, pss_one (ps_try_many (X := (cxOf C8.CX0 X.prog X.w X.K X.mg X.base Ng x sg g cdg X.A X.stack s H C8.E0).nox) (l := cs.map fun p => (Value.ref p.1, tellTs p.2)) (Wout := fun _ _ _ _ => False)
      (tb := fun W D σ H => ∃ Ech : XK, (∀ cls d σ' H', Ech cls d H' → W cls d σ' H') ∧ σ[0]? = some (some (.ref f)) ∧ H c' = some (LamX.CodeO c' q) ∧ tl Ech H D.rt) rfl rfl LamX.takes0 (fun W pn xe tk _ => ?_) (hds_ok (X := (cxOf C8.CX0 X.prog X.w X.K X.mg X.base Ng x sg g cdg X.A X.stack s H C8.E0).nox) hh rfl)), ?_⟩
  · exact ⟨fun pins s' σ H' D I ⟨Ech, hW, e1, e2, e3⟩ => (pss_one (ps_ret (pos := p3) (act W pn xe Ech p1 p2 tk hW))).run pins s' σ H' D I ⟨e1, e2, e3⟩⟩
  · exact ⟨fun cls _ H' => caught X.K cs cls fun w => Q (.str w) H', fun cls d σ' H' hca => wMany_of hca, h0 f, hc, h⟩
end
/-! ### a value or a word -/
abbrev Wrd := {x : Str // PyData.strOk x = true}
def wrd (x : Str) (h : PyData.strOk x = true := by decide +kernel) : Wrd := ⟨x, h⟩
abbrev dWord : DCod := ⟨Wrd, fun _ v x => v = V.str x.1, fun h _ => h⟩
abbrev dOr (a : DCod) : DCod := ⟨a.α ⊕ Wrd, fun F v x => match x with
  | .inl y => a.rel F v y
  | .inr w => v = V.str w.1, fun {F F' v x} h e => match x, h with
  | .inl y, h => a.ext h e
  | .inr w, h => h⟩
def told {α : Type} (tab : List (Str × Wrd)) (r : Res α) : Res (α ⊕ Wrd) := match r with
  | .ok a => .ok (.inl a)
  | .exc n => (match tab.lookup n with
    | some w => .ok (.inr w)
    | none => .bad)
  | .bad => .bad
theorem At.put_get : ∀ {Γ : List Sl} {i : Nat} {s : Sl} (a : At Γ i s) (ρ : Env Γ), a.put ρ (a.get ρ) = ρ
  | _, _, _, .z, ρ => rfl
  | _, _, _, .s r, ρ => by
    show (ρ.1, r.put ρ.2 (r.get ρ.2)) = ρ
    rw [At.put_get r ρ.2]; rfl
theorem froze {B : Base} {Γ Γ' : List Sl} {σ : L2.St} {F H : Hp} {ρ : Env Γ} (fz : FzG Γ Γ') (I : SInv B Γ σ F H ρ) : ∃ F2, SInv ⟨F2, H, [], [], [], B.τ⟩ Γ' σ F2 H (fz.conv ρ) ∧ ∀ F3 H3, Pext F2 F3 H H3 → ∃ F4, Pext F F4 H H3 ∧ ∀ (c : DCod), Und c → ∀ v x, c.rel F3 v x → c.rel F4 v x := by
  obtain ⟨L, r, w⟩ := id I
  have hno : ∀ a, a ∈ L.map (·.2) → F a = none := fun a ha => by
    obtain ⟨⟨kk, b⟩, hb, e⟩ := List.mem_map.mp ha
    exact e ▸ (w.fr kk b hb).1
  have hin : ∀ k a, (k, a) ∈ L → a ∈ L.map (·.2) := fun k a ha => List.mem_map.mpr ⟨_, ha, rfl⟩
  have out : ∀ {a : Addr} {o : HO}, F a = some o → a ∉ L.map (·.2) := fun {a o} h hm => by rw [hno a hm] at h; cases h
  have eF : Ex F (frz F H (L.map (·.2))) := fun a o ha => by unfold frz; rw [if_neg (out ha)]; exact ha
  have hfz : ∀ a, a ∈ L.map (·.2) → frz F H (L.map (·.2)) a = H a := fun a ha => by unfold frz; rw [if_pos ha]
  have eFH : Ex (frz F H (L.map (·.2))) H := fun a o ha => by
    unfold frz at ha
    split at ha
    · exact ha
    · exact w.fh a o ha
  refine ⟨_, ⟨[], fz.rel eF r fun k a ha => hfz a (hin k a ha), ⟨by simp, fun k a ha => (nomatch ha), eFH, Ex.refl _, fun a o h _ _ => h, fun a o h => ⟨o, h⟩, fun a o h => .inl h, fun a ha => (nomatch ha), fun a ha => (nomatch ha), fun a ha => (nomatch ha)⟩⟩, fun F3 H3 pe => ⟨thaw F3 (L.map (·.2)), ⟨pe.hh, fun a o ha => ?_, fun a o ha => ?_, fun a o ha => ?_⟩, fun c u v x hr => u F3 _ v x (fun a ha o ho => ?_) hr⟩⟩
  · unfold thaw
    rw [if_neg (out ha)]
    exact pe.ff a o (eF a o ha)
  · unfold thaw at ha
    split at ha
    · cases ha
    · exact pe.fh a o ha
  · unfold thaw at ha
    split at ha
    · cases ha
    · rename_i hm
      rcases pe.new a o ha with z | z
      · unfold frz at z
        rw [if_neg hm] at z
        exact .inl z
      · exact .inr z
  · obtain ⟨⟨kk, b⟩, hb, e⟩ := List.mem_map.mp ha
    have e : b = a := e
    subst e
    obtain ⟨_, o', ho'⟩ := w.fr kk b hb
    have q1 : F3 b = some o' := pe.ff b o' ((hfz b ha).trans ho')
    rw [q1] at ho
    cases ho
    exact fz.mu r kk b hb _ ho'
section
variable {E : XK} {XC : Str → Value} {K : PySem.W.Frag} {Γ Γ' : List Sl} {c : DCod} {P : Addr} {q : Str} {i : Nat} {cs : List (Addr × Str)} {tab : List (Str × Wrd)}
theorem ev_told {te : XK → TE} {T : (R : Type) → (c.α → Env Γ' → Res R) → Env Γ' → Res R} (at_ : At Γ i (.m .pa (mTab P q))) (hx : ∀ n w, tab.lookup n = some w → ∀ k : Str → Prop, k w.1 → caught K cs (XC n) k) (fz : FzG Γ Γ') (und : Und c)
    (h : ∀ E', EvE true E' XC Γ' (te E') c T) : EvE false E XC Γ (tLamX P q (TTm K cs) te) (dOr c) (fun R k ρ => (told tab (T c.α (fun x _ => .ok x) (fz.conv ρ))).bind fun z => k z ρ) := fun B σ F H ρ I R G hG k Q g qq => by
  obtain ⟨v, fp, hv, _, hr, nd, hfp, hst⟩ := I.mut at_
  obtain ⟨rfl, rfl, ps, hP, ht, ha⟩ := hr
  have fP : F P = none := (hfp P (by simp)).1
  refine ⟨ps, hP, ht, fun pos cv hc => ?_, fun H1 c' gr => ?_⟩
  · obtain ⟨c1, e1, e2⟩ := ha pos cv hc
    exact ⟨c1, e1, I.fh _ _ e2⟩
  have big : ∃ F1, SInv B Γ σ F1 H1 ρ ∧ Ex F F1 := by
    rcases gr with ⟨rfl, _⟩ | ⟨hn, qs, rfl, hts, hq⟩
    · exact ⟨F, I, Ex.refl F⟩
    · have nPc : P ≠ c' := fun z => by rw [z, hn] at hP; cases hP
      have fc : F c' = none := none_of I.fh hn
      have hH : ∀ b, b ≠ P → b ≠ c' → upd (upd H P (.tbl qs)) c' (LamX.CodeO c' q) b = H b := fun b h1 h2 => by rw [upd_ne h2, upd_ne h1]
      refine ⟨upd F c' (LamX.CodeO c' q), ?_, Ex.new fc⟩
      have := hst (by decide) (upd F c' (LamX.CodeO c' q)) (upd (upd H P (.tbl qs)) c' (LamX.CodeO c' q)) [P] () ⟨Ex.new fc, fun a o e => ?_, fun a o e hm => ?_, fun a o e => ?_, fun a o e => ?_, by simp, fun a e => ?_⟩ ⟨rfl, rfl, qs, by rw [upd_ne nPc, upd_same], hts, fun pos cv hc => ?_⟩
      · rw [show at_.put ρ () = ρ from At.put_get at_ ρ] at this
        exact this
      · by_cases hb : a = c'
        · subst hb
          rw [upd_same] at e ⊢
          exact e
        · rw [upd_ne hb] at e
          rw [hH a (fun z => by rw [z, fP] at e; cases e) hb]
          exact I.fh a o e
      · have h1 : a ≠ P := fun z => hm (by simp [z])
        rw [hH a h1 (fun z => by rw [z, hn] at e; cases e)]
        exact e
      · by_cases h1 : a = P
        · exact ⟨_, by rw [h1, upd_ne nPc, upd_same]⟩
        · exact ⟨o, by rw [hH a h1 (fun z => by rw [z, hn] at e; cases e)]; exact e⟩
      · by_cases hb : a = c'
        · exact .inr (by rw [hb]; exact hn)
        · rw [upd_ne hb] at e
          exact .inl e
      · have e : a = P := by simpa using e
        subst e
        exact ⟨.inl (by simp), by rw [upd_ne nPc]; exact fP, _, by rw [upd_ne nPc, upd_same]⟩
      · rcases hq pos cv hc with z | z
        · obtain ⟨c1, e1, e2⟩ := ha pos cv z
          exact ⟨c1, e1, Ex.new fc _ _ e2⟩
        · exact ⟨c', z, upd_same⟩
  obtain ⟨F1, I1, eF1⟩ := big
  obtain ⟨F2, I2, back⟩ := froze fz I1
  refine h _ _ σ F2 H1 _ I2 c.α (fun r => G ((told tab r).bind fun z => k z ρ)) ⟨hG.1, fun n H' gn fr => ?_⟩ _ _ g fun x ρ' v F' H' I3 e3 r3 g3 => ?_
  · have gn : G ((match tab.lookup n with
      | some w => .ok (.inr w)
      | none => .bad : Res (c.α ⊕ Wrd)).bind fun z => k z ρ) := gn
    cases hl : tab.lookup n with
    | none =>
      rw [hl] at gn
      exact absurd gn hG.1
    | some w =>
      rw [hl] at gn
      have eH : Ex H1 H' := fun a o e => fr a o e (by simp) (by simp)
      exact hx n w hl _ (qq (.inr w) ρ (.str w.1) F1 H' (I1.pext ⟨eH, Ex.refl _, I1.fh.trans eH, fun _ _ e => .inl e⟩) ⟨eF1, fun z => (nomatch z)⟩ rfl gn)
  · obtain ⟨_, pe⟩ := e3.2 rfl
    obtain ⟨F4, p4, u4⟩ := back F' H' pe
    exact qq (.inl x) ρ v F4 H' (I1.pext p4) ⟨eF1.trans p4.ff, fun z => (nomatch z)⟩ (u4 c und v x r3) g3
end
end Pu
set_option Elab.async false
set_option linter.all false
set_option maxRecDepth 100000
set_option maxHeartbeats 4000000
namespace Pu
open PySem PySem.Spec PyProof.Rows L2 Evl
/-! ### == and is of a value or a word -/
section
variable {K : PySem.W.Frag}
def orD {c : DCod} {n : Nat} (q : Dq K n c) : c.α ⊕ Wrd → PyData
  | .inl y => q.toD y
  | .inr w => .str w.1
def orDec {α : Type} (d : DecidableEq α) : DecidableEq (α ⊕ Wrd) := inferInstance
def dqOr {c : DCod} {n : Nat} (q : Dq K n c) (h1 : ∀ w y, PyData.eqv (.str w) (q.toD y) = false) (h2 : ∀ w y, PyData.eqv (q.toD y) (.str w) = false) : Dq K n (dOr c) := ⟨orD q, orDec q.dec, fun {F H v x} e h => by
    cases x with
    | inl y => exact q.dp e h
    | inr w => have h : v = V.str w.1 := h; rw [h]; exact .str _, fun x => by
    cases x with
    | inl y => exact q.lay y
    | inr w => simp [orD, PyData.canLay0, w.2], fun x => by
    cases x with
    | inl y => exact q.dep y
    | inr w => simp [orD, PyData.depth], fun x y => by
    have d := q.dec
    cases x with
    | inl x => cases y with
      | inl y =>
        show PyData.eqv (q.toD x) (q.toD y) = _
        rw [q.eqv]
        by_cases e : x = y
        · exact (@decide_eq_true (x = y) (q.dec x y) e).trans (@decide_eq_true _ (orDec q.dec (.inl x) (.inl y)) (congrArg Sum.inl e)).symm
        · exact (@decide_eq_false (x = y) (q.dec x y) e).trans (@decide_eq_false _ (orDec q.dec (.inl x) (.inl y)) (fun z => e (Sum.inl.inj z))).symm
      | inr w => show PyData.eqv (q.toD x) (.str w.1) = _; rw [h2]; rfl
    | inr w => cases y with
      | inl y => show PyData.eqv (.str w.1) (q.toD y) = _; rw [h1]; rfl
      | inr z =>
        show ((w.1 : Str) == z.1) = _
        by_cases e : w = z
        · exact (beq_iff_eq.mpr (congrArg Subtype.val e)).trans (@decide_eq_true _ (orDec q.dec (.inr w) (.inr z)) (congrArg Sum.inr e)).symm
        · exact (beq_eq_false_iff_ne.mpr fun k => e (Subtype.ext k)).trans (@decide_eq_false _ (orDec q.dec (.inr w) (.inr z)) (fun k => e (Sum.inr.inj k))).symm⟩
end
section
variable {X : Cx}
end
theorem inlI {c : DCod} : ∀ (F : Hp) (v : V) (x : c.α), c.rel F v x → (dOr c).rel F v (.inl x) := fun _ _ _ h => h
theorem inrI {c : DCod} : ∀ (F : Hp) (v : V) (x : Wrd), dWord.rel F v x → (dOr c).rel F v (.inr x) := fun _ _ _ h => h
theorem sb_inlL {c : DCod} : Sb (dLst c) (dLst (dOr c)) (fun xs => xs.map .inl) := fun F v x h => by
  obtain ⟨a, vs, h1, h2, h3, h4⟩ := h
  exact ⟨a, vs, h1, h2, h3.sb (b := dOr c) (f := .inl) (fun F v x r => r), Nat.le_trans (Nat.le_of_eq (List.length_map (as := x) Sum.inl)) h4⟩
/-! ### defaults -/
def DEnv.snoc {d : DCod} : (cs : List DCod) → DEnv cs → d.α → DEnv (cs ++ [d])
  | [], _, y => (y, ())
  | _ :: cs, x, y => (x.1, DEnv.snoc cs x.2 y)
theorem DRel.snoc {d : DCod} {F : Hp} {w : V} {y : d.α} (r : d.rel F w y) : ∀ {cs : List DCod} {vs : List V} {x : DEnv cs}, DRel cs F vs x → DRel (cs ++ [d]) F (vs ++ [w]) (DEnv.snoc cs x y)
  | [], vs, x, h => by rw [show vs = [] from h]; exact ⟨w, [], rfl, r, rfl⟩
  | c :: cs, vs, x, ⟨v, vs', e, h1, h2⟩ => by rw [e]; exact ⟨v, vs' ++ [w], rfl, h1, DRel.snoc r h2⟩
def OkFd (P : Program) (w : World) (K : PySem.W.Frag) (mg : Str → Option Value) (base : Heap) (k : Nat) (f : Addr) (ps : List Str) (dvs : List V) (sp : Sp) : Prop :=
  ∃ (fd : FuncData) (ds : List Value), FnOk P w K mg base (L2.CX P w) k f fd ps sp ∧ Vals dvs ds ∧ Binds K fd ps ds ∧ PySem.W.keepIn K (.ref f) = true
section
variable {P : Program} {w : World} {K : PySem.W.Frag} {mg : Str → Option Value} {base : Heap} {x qual : Str} {params : Arguments} {body : List Stmt} {scope : Scope} {f : Addr} {N ps : List Str} {dvs : List V} {k : Nat}
theorem okFd {sp : Sp} (F : ∃ fd, FunD K x qual params body scope dvs [] f fd) (S : FnScope N ps scope) (len : ∀ vs H Q E, sp vs H Q E → vs.length = ps.length) (n : Nat) (hd : dvs ≠ []) (hn : n + (dvs.length - 0) = ps.length)
    (bnd : ∀ (T : Addr) (kV doc pm : Value) (an : Option Addr) (cdv ct : Value) (us its : List Value), us.length = n → its.length = dvs.length →
      ∃ k, bindArgs (PySem.W.fnOf x qual params body scope (.ref T) kV doc pm an cdv ct) ⟨us, []⟩ = seqItems? (.ref T) >>= k ∧ k (some its.toArray) = pure (ps.zip (us ++ its.drop 0)))
    (hbody : ∀ (cdv : Value) (A : Around) (outer : List PySem.Env) (s : Shared) (H : Hp) (E : XK), Room k (A.deeper (envOfC qual scope s.heap.objs.size f cdv)) →
      ∃ t, PSs (cxOf (L2.CX P w) P w K mg base N qual scope f cdv A outer s H E) body t ∧ ∀ (vs : List V) (Q : VK), sp vs H Q E → t { nx := fun _ H' => Q .non H', rt := Q } (L2.start N vs) H) : OkFd P w K mg base (k + 1) f ps dvs sp := by
  obtain ⟨fd, F⟩ := F
  obtain ⟨ds, hv, hb⟩ := F.binds1 n 0 hd hn bnd
  exact ⟨fd, ds, F.ok S len fun cdv A outer s H vs Q E hr h => (let ⟨t, h1, h2⟩ := hbody cdv A outer s H E hr; ⟨t, h1, h2 vs Q h⟩), hv, hb, F.kp⟩
theorem pcallD {X : Cx} {j k : Nat} {f : Addr} {ps : List Str} {dvs : List V} {sp : Sp} {E : XK} {x : Str} {p pos : Pos} {e : Expr} {es : List Expr} {t : TA} (F : OkFd X.prog X.w X.K X.mg X.base k f ps dvs sp) (hr : Room j X.A) (hk : k ≤ j) (hm : X.mg x = some (.ref f)) (hx : Passes (L2.CX X.prog X.w) X E)
    (ha : PA X (e :: es) t) (hg : Gl X x := by rfl) (hdb : (x == ("__debug__" : Str)) = false := by decide) (he : starEach (e :: es) X.env = (false, eval e X.env) :: starEach es X.env := by rfl) (hpl : (backTo pos (starEach es X.env)).any (·.1) = false := by rfl) :
    PE X (.Call (.Name x p) (e :: es) [] pos) (tCall sp dvs E t) :=
  let ⟨_, _, F1, hv, b, kp⟩ := F
  pe_call F1 (hr.mono hk) hg hm kp b hv hx ha hdb he hpl
end
section
variable {p : Bool} {E : XK} {XC : Str → Value} {Γ : List Sl} {c d : DCod} {cs : List DCod} {tA : TA}
theorem ev_callD {w : V} {y : d.α} (hd : ∀ F, d.rel F w y) {f : DEnv (cs ++ [d]) → Res c.α} {TA : (R : Type) → (DEnv cs → Env Γ → Res R) → Env Γ → Res R} (h : EvA p E XC Γ tA cs TA) : EvE p E XC Γ (tCall (spD XC (cs ++ [d]) c f) [w] E tA) c (fun R k ρ => TA R (fun x ρ => (f (DEnv.snoc cs x y)).bind fun z => k z ρ) ρ) := fun B σ F H ρ I R G hG k Q g q =>
  h B σ F H ρ I R G hG _ _ g fun x ρ1 vs F1 H1 I1 e1 r1 g1 => ⟨F1, _, I1.fh, r1.snoc (hd F1), call_goes hG I1 g1 fun z u F' H' _ pp r g2 => q z ρ1 u F' H' (I1.pext pp) (e1.pext pp) r g2⟩
end
/-! ### the law with a table of code objects -/
abbrev retA (c : DCod) : Ret := ⟨c, Unit, fun _ _ _ _ _ => True⟩
def prA {c : DCod} {Γ : List Sl} : Pr (retA c) Γ := ⟨fun _ => (), fun _ _ => True.intro⟩
def slotsT (P : Addr) (q : Str) : Nat → List Sl
  | 0 => [.m .pa (mTab P q)]
  | n + 1 => .no :: slotsT P q n
def envT {P : Addr} {q : Str} : (n : Nat) → Env (slotsT P q n)
  | 0 => ((), ())
  | n + 1 => ((), envT n)
def sigT (P : Addr) : Nat → L2.St
  | 0 => [some (.ref P)]
  | n + 1 => none :: sigT P n
theorem relT {P : Addr} {q : Str} {F H : Hp} (h : TabF F H P q) : ∀ n, SRel (slotsT P q n) (sigT P n) (sigT P n) F H [(.pa, P)] (envT n)
  | 0 => ⟨.ref P, [], [P], [], rfl, .inr rfl, rfl, ⟨rfl, rfl, h⟩, rfl, rfl⟩
  | n + 1 => ⟨none, sigT P n, rfl, relT h n⟩
theorem start_T {N : List Str} {v : V} {P : Addr} : ∀ (n : Nat), N.length = 1 + n + 1 → (L2.start N [v]).set (1 + n) (some (.ref P)) = some v :: sigT P n := fun n h => by
  unfold L2.start
  rw [h, show 1 + n + 1 - ([v] : List V).length = n + 1 from by simp; omega, show 1 + n = n + 1 from by omega]
  show some v :: ((List.replicate (n + 1) none).set n (some (V.ref P))) = _
  congr 1
  clear h
  induction n with
  | zero => rfl
  | succ n ih => exact congrArg (none :: ·) ih
def spLT (K : PySem.W.Frag) (P : Addr) (f : List Int → Res Bool) : Sp := fun vs H Q E => ∃ a ns, vs = [.ref a] ∧ SqL K H a (ns.map V.int) ∧ ns.length ≤ sizeLine ∧ H P = some (.tbl #[]) ∧ f ns = .ok true ∧ ∀ H', Q (.bl true) H'
theorem lenLT {K : PySem.W.Frag} {P : Addr} {f : List Int → Res Bool} : ∀ vs H Q E, spLT K P f vs H Q E → vs.length = 1 := fun vs H Q E ⟨a, ns, e, _⟩ => by rw [e]; rfl
theorem run_LT {K : PySem.W.Frag} {E : XK} {XC : Str → Value} {N : List Str} {n : Nat} (hN : N.length = 1 + n + 1) {P : Addr} {q : Str} {f : List Int → Res Bool} {ts : TS} {Γe : List Sl} {T : (R : Type) → (Env Γe → Res R) → (Bool → Unit → Res R) → (Env [] → Res R) → (Env [] → Res R) → Env (.da (dScr K) :: slotsT P q n) → Res R}
    (h : StE E XC (retA dBl) (.da (dScr K) :: slotsT P q n) ts Γe [] T) (hf : ∀ x : List Int, T Bool (fun _ => .bad) (fun z _ => .ok z) (fun _ => .bad) (fun _ => .bad) (x, envT n) = f x) (vs : List V) (H : Hp) (Q : VK) (hsp : spLT K P f vs H Q E) :
    ts { nx := fun _ H' => Q .non H', rt := Q } ((L2.start N vs).set (1 + n) (some (.ref P))) H := by
  obtain ⟨a, ns, rfl, hS, hz, hP, hy, hq⟩ := hsp
  rw [start_T n hN]
  have hne : a = P → ¬ Rd H a (.lst (ns.map V.int)) := fun e r => by
    rw [e] at r
    rcases r with r | ⟨o, r⟩ <;> (rw [hP] at r; cases r)
  have hF : ∀ b, b ≠ P → (fun b => if b = P then none else H b : Hp) b = H b := fun b hb => if_neg hb
  have fP : (fun b => if b = P then none else H b : Hp) P = none := if_pos rfl
  have ex : Ex (fun b => if b = P then none else H b : Hp) H := fun b o e => by
    by_cases hb : b = P
    · rw [hb, fP] at e; cases e
    · rw [hF b hb] at e; exact e
  have hS' : SqL K (fun b => if b = P then none else H b : Hp) a (ns.map V.int) := by
    rcases hS with r | r
    · have ha : a ≠ P := fun e => hne e r
      left
      rcases r with r | ⟨o, r⟩
      · exact .inl ((hF a ha).trans r)
      · exact .inr ⟨o, (hF a ha).trans r⟩
    · exact .inr r
  refine h ⟨_, H, [P], [], [], some (.ref a) :: sigT P n⟩ _ _ H (ns, envT n) ⟨[(.pa, P)], ⟨.ref a, sigT P n, rfl, ⟨a, rfl, hS', hz⟩, relT ⟨#[], hP, True.intro, fun pos cv hc => ?_⟩ n⟩, wd0 ex (by simp) (fun k b hb => ?_) (fun b hb => by simpa using hb) (fun b hb => by simp at hb) (fun b hb => by simp at hb)⟩
    Bool (fun z => z = .ok true) ⟨(fun z => nomatch z), (fun nm H2 z fr => nomatch z)⟩ _ _ _ _ _ ((hf ns).trans hy) ?_ ?_ ?_ ?_
  · have z : codeAmong pos [] = some cv := hc
    simp [codeAmong] at z
  · have hb : b = P := by
      have : (k, b) = (Kd.pa, P) := by simpa using hb
      exact (Prod.mk.inj this).2
    subst hb
    exact ⟨fP, _, hP⟩
  · intro ρ' σ' F' H' _ _ z; exact nomatch z
  · intro z y v F' H' ho rv z2
    cases z2
    rw [show v = V.bl true from rv]
    exact hq H'
  · intro ρ' σ' F' H' _ _ z; exact nomatch z
  · intro ρ' σ' F' H' _ _ z; exact nomatch z
section
variable {P : Program} {w : World} {K : PySem.W.Frag} {mg : Str → Option Value} {base : Heap} {x qual : Str} {params : Arguments} {body : List Stmt} {scope : Scope} {N ps : List Str} {k : Nat} {dn : He.Defn}
theorem okF2T {sp : Sp} {fd : FuncData} (F : FunD K x qual params body scope [] [] (He.fAd K dn) fd) (S : FnScope N ps scope) (len : ∀ vs H Q E, sp vs H Q E → vs.length = ps.length)
    (hbody : ∀ (A : Around) (outer : List PySem.Env) (s : Shared) (H : Hp) (E : XK), Room k (A.deeper (envOfC qual scope s.heap.objs.size (He.fAd K dn) (.ref (He.cT K dn).1))) →
      ∃ t, PSs (cxOf (L2.CX P w) P w K mg base N qual scope (He.fAd K dn) (.ref (He.cT K dn).1) A outer s H E) body t ∧ ∀ (vs : List V) (Q : VK), sp vs H Q E → t { nx := fun _ H' => Q .non H', rt := Q } (L2.start N vs) H) : FnOk P w K mg base (L2.CX P w) (k + 1) (He.fAd K dn) fd ps sp := by
  obtain ⟨oc, od, dV, kV, doc, pm, an, cdv, ct, osl, rfl, lk, hcd, _, _⟩ := F.ex
  obtain ⟨c, rfl⟩ := He.codeIn_ref hcd
  have e : (He.cT K dn).1 = c := He.codeOf_eq lk rfl
  rw [e] at hbody
  exact fn_of lk hcd S len fun A outer s H vs Q E hr h => let ⟨t, h1, h2⟩ := hbody A outer s H E hr; ⟨t, h1, h2 vs Q h⟩
end
theorem walk_endT {l : PySem.W.OpenLaw} {n k : Nat} {q : Program} {loose : List Str} {XP : (Str → Option Value) → Heap → Prop} {YP : World → Heap → Prop} {d : DefRec} {CX : World → CXT} {x : Str}
    (hn : l.most = some n) (hn2 : n ≤ sizeLine) (hdf : d.params.defaults = []) (hr : Room k callerA)
    (F : ∀ (w : World) (mg : Str → Option Value) (fa : Addr) (h : Heap), YP w h → h.Ns mainGlobals mg → mg d.name = some (.ref fa) → ∃ K : PySem.W.Frag, K.In h ∧ LamX.LawAtS l w K (CX w) k n x mg fa h)
    (hCX : ∀ (w : World) (H : Hp) (s : Shared) (e : Value) (s' : Shared), CX w [] H s (fun _ _ _ => False) e s' → False) :
    PySem.W.WalkO q loose XP YP l.row.toRowW d [] (fun f vs => PySem.call f vs) :=
  Att.attach_callB hn hdf fun w s₀ s₁ mg mb fa o pm cd doc a vs ns G Y ho hd hcd hmg hobj hints hlen hbits hg => by
    obtain ⟨K, KX, fd, cs, sp, hT, nT, C, hb, hsp, hF⟩ := F w mg fa _ Y G.T.g hmg
    exact LamX.law_callTs KX G.T.g G.T.b G.T.builtins G.T.nolimit hg hT nT C G.T.bmain hobj hints (Nat.le_trans hlen hn2) hr hF hb (fun H hH hS => hsp H a ns hlen hbits hH hS) fun H e s' => hCX w H s₁ e s'
end Pu
namespace Pu
open PySem PySem.Spec PyProof.Rows L2 Evl
theorem no_vis {sc : Scope} {x : Str} (h : sc.names.lookup x = none) : ¬ Vis sc x := fun v => by
  rcases v with v | v | v <;> (rw [h] at v; cases v)
theorem pxA {X : Cx} {E : XK} (hs : X.stack = X.env :: X.outer := by rfl) (hf : X.env.frame = some X.env.locals := by rfl) (hex : X.ex = [] := by rfl)
    (hx : X.xe = (fun e s' => wpAny (model X.prog X.w) X.A (leaving X.env e) (fun _ s'' => L2.CX X.prog X.w X.outer X.H_0 X.s_0 E e s'') (fun e' s'' => L2.CX X.prog X.w X.outer X.H_0 X.s_0 E e' s'') s') := by rfl) : Passes (L2.CX X.prog X.w) X E := passes_call (takes_of hs hf hex hx) fun _ _ _ _ h => h
theorem Tx.exm {fa : List He.Fa} {fn : List He.DefD} {K : PySem.W.Frag} {mg : Str → Option Value} (T : Tx fa fn K mg) (i : Nat) {x y : Str} {b : Bool} (h : fa[i]? = some (.exm x y b) := by rfl) : PySem.W.exmOne K (xcK K x) (.ref (He.ga K y)) = some b := He.exm_ok (T.c.fact i h)
theorem lookup_in {α : Type} {n : Str} {w : α} : ∀ {l : List (Str × α)}, l.lookup n = some w → (n, w) ∈ l
  | (m, v) :: r, h => by
    unfold List.lookup at h
    split at h
    · rename_i e
      cases h
      rw [show n = m from beq_iff_eq.mp e]
      exact List.mem_cons_self ..
    · exact List.mem_cons_of_mem _ (lookup_in h)
end Pu
set_option Elab.async false
set_option linter.all false
set_option maxRecDepth 100000
set_option maxHeartbeats 0
set_option profiler true
set_option profiler.threshold 2000
namespace G
open PySem PySem.Spec PyProof.Rows L2 Evl Pu
def top (i : Nat) : Stmt := PySem.Challenge.pw_pairmart_k32_blocking_pairs_put_together.main.body.getD i (.Pass ⟨0, 0, 0, 0⟩)
abbrev s_law_told : Stmt := top 29
theorem sc_law_told : FnScope ["what"] ["what"] (defScope s_law_told) := ⟨rfl, rfl, rfl, by decide +kernel, rfl, by decide +kernel, by decide +kernel⟩
abbrev lamQ : Str := (("law" : Str) ++ (".<locals>." : Str)) ++ ("<lambda>" : Str)
abbrev lamC (K : PySem.W.Frag) : Addr := (He.cT K ("law", none)).1
abbrev lamP (K : PySem.W.Frag) : Addr := (He.cT K ("law", none)).2
def tellTab : List (Str × Wrd) := [("BadWish", wrd "wish"), ("BadRoom", wrd "room"), ("BadSize", wrd "size")]
def tellCs (K : PySem.W.Frag) : List (Addr × Str) := [(He.ga K "BadWish", "wish"), (He.ga K "BadRoom", "room"), (He.ga K "BadMatch", "match"), (He.ga K "BadPaper", "paper"), (He.ga K "BadSize", "size"), (He.ga K "BadText", "text"), (He.ga K "BadStore", "store"), (He.ga K "NoSuch", "no such"), (He.ga K "BadDeed", "deed")]
abbrev s_law_dice : Stmt := top 26
theorem sc_law_dice : FnScope ["cell"] ["cell"] (defScope s_law_dice) := ⟨rfl, rfl, rfl, by decide +kernel, rfl, by decide +kernel, by decide +kernel⟩
abbrev s_law_rounds : Stmt := top 28
theorem sc_law_rounds : FnScope ["script", "most_now", "cells", "cell"] ["script", "most_now"] (defScope s_law_rounds) := ⟨rfl, rfl, rfl, by decide +kernel, rfl, by decide +kernel, by decide +kernel⟩
abbrev s_law_roll : Stmt := top 27
theorem sc_law_roll : FnScope ["dice", "many", "found"] ["dice", "many"] (defScope s_law_roll) := ⟨rfl, rfl, rfl, by decide +kernel, rfl, by decide +kernel, by decide +kernel⟩
abbrev s_law_list : Stmt := top 30
theorem sc_law_list : FnScope ["dice", "many", "left", "found", "turn", "one"] ["dice", "many"] (defScope s_law_list) := ⟨rfl, rfl, rfl, by decide +kernel, rfl, by decide +kernel, by decide +kernel⟩
abbrev s_law_place : Stmt := top 33
theorem sc_law_place : FnScope ["order", "one"] ["order", "one"] (defScope s_law_place) := ⟨rfl, rfl, rfl, by decide +kernel, rfl, by decide +kernel, by decide +kernel⟩
abbrev s_Wish_init : Stmt := inClass (top 13) 0
theorem sc_Wish_init : FnScope ["self", "order", "place", "one"] ["self", "order"] (defScope s_Wish_init) := ⟨rfl, rfl, rfl, by decide +kernel, rfl, by decide +kernel, by decide +kernel⟩
abbrev s_Wish_has : Stmt := inClass (top 13) 1
theorem sc_Wish_has : FnScope ["self", "one"] ["self", "one"] (defScope s_Wish_has) := ⟨rfl, rfl, rfl, by decide +kernel, rfl, by decide +kernel, by decide +kernel⟩
abbrev s_Wish_rank : Stmt := inClass (top 13) 2
theorem sc_Wish_rank : FnScope ["self", "one"] ["self", "one"] (defScope s_Wish_rank) := ⟨rfl, rfl, rfl, by decide +kernel, rfl, by decide +kernel, by decide +kernel⟩
abbrev s_Wish_better : Stmt := inClass (top 13) 3
theorem sc_Wish_better : FnScope ["self", "one", "other", "place", "other_place"] ["self", "one", "other"] (defScope s_Wish_better) := ⟨rfl, rfl, rfl, by decide +kernel, rfl, by decide +kernel, by decide +kernel⟩
abbrev s_Wish_ahead_of : Stmt := inClass (top 13) 4
theorem sc_Wish_ahead_of : FnScope ["self", "one", "listed"] ["self", "one"] (defScope s_Wish_ahead_of) := ⟨rfl, rfl, rfl, by decide +kernel, rfl, by decide +kernel, by decide +kernel⟩
abbrev s_Wish_worst : Stmt := inClass (top 13) 5
theorem sc_Wish_worst : FnScope ["self", "ones", "places", "one"] ["self", "ones"] (defScope s_Wish_worst) := ⟨rfl, rfl, rfl, by decide +kernel, rfl, by decide +kernel, by decide +kernel⟩
abbrev s_check_list : Stmt := top 14
theorem sc_check_list : FnScope ["order", "many", "found", "one"] ["order", "many"] (defScope s_check_list) := ⟨rfl, rfl, rfl, by decide +kernel, rfl, by decide +kernel, by decide +kernel⟩
abbrev s_Market_init : Stmt := inClass (top 16) 0
theorem sc_Market_init : FnScope ["self", "lists", "orders", "seats", "count", "order"] ["self", "lists", "orders", "seats"] (defScope s_Market_init) := ⟨rfl, rfl, rfl, by decide +kernel, rfl, by decide +kernel, by decide +kernel⟩
abbrev s_those_in : Stmt := top 17
theorem sc_those_in : FnScope ["match", "room", "asker", "had"] ["match", "room"] (defScope s_those_in) := ⟨rfl, rfl, rfl, by decide +kernel, rfl, by decide +kernel, by decide +kernel⟩
abbrev s_has_free_seat : Stmt := top 18
theorem sc_has_free_seat : FnScope ["market", "match", "room"] ["market", "match", "room"] (defScope s_has_free_seat) := ⟨rfl, rfl, rfl, by decide +kernel, rfl, by decide +kernel, by decide +kernel⟩
abbrev s_first_to_go : Stmt := top 19
theorem sc_first_to_go : FnScope ["market", "match", "room", "inside", "unlisted", "asker"] ["market", "match", "room"] (defScope s_first_to_go) := ⟨rfl, rfl, rfl, by decide +kernel, rfl, by decide +kernel, by decide +kernel⟩
abbrev s_would_take : Stmt := top 20
theorem sc_would_take : FnScope ["market", "match", "room", "asker", "wish", "last"] ["market", "match", "room", "asker"] (defScope s_would_take) := ⟨rfl, rfl, rfl, by decide +kernel, rfl, by decide +kernel, by decide +kernel⟩
abbrev s_blocks : Stmt := top 21
theorem sc_blocks : FnScope ["market", "match", "asker", "wish", "room"] ["market", "match"] (defScope s_blocks) := ⟨rfl, rfl, rfl, by decide +kernel, rfl, by decide +kernel, by decide +kernel⟩
abbrev s_settled : Stmt := top 22
theorem sc_settled : FnScope ["market", "match", "pair", "asker", "room", "found", "gone"] ["market", "match", "pair"] (defScope s_settled) := ⟨rfl, rfl, rfl, by decide +kernel, rfl, by decide +kernel, by decide +kernel⟩
abbrev s_by_blocks : Stmt := top 24
theorem sc_by_blocks : FnScope ["market", "match", "draws", "most", "found", "pairs", "done", "draw"] ["market", "match", "draws", "most"] (defScope s_by_blocks) := ⟨rfl, rfl, rfl, by decide +kernel, rfl, by decide +kernel, by decide +kernel⟩
abbrev s_law_matches : Stmt := top 32
theorem sc_law_matches : FnScope ["lists", "orders", "seats", "found", "k", "rooms", "room", "fresh", "row"] ["lists", "orders", "seats"] (defScope s_law_matches) := ⟨rfl, rfl, rfl, by decide +kernel, rfl, by decide +kernel, by decide +kernel⟩
abbrev s_law_blocks : Stmt := top 34
theorem sc_law_blocks : FnScope ["lists", "orders", "seats", "match", "found", "k", "room", "inside", "j", "worse"] ["lists", "orders", "seats", "match"] (defScope s_law_blocks) := ⟨rfl, rfl, rfl, by decide +kernel, rfl, by decide +kernel, by decide +kernel⟩
abbrev s_law_stable : Stmt := top 35
theorem sc_law_stable : FnScope ["lists", "orders", "seats", "match"] ["lists", "orders", "seats"] (defScope s_law_stable) := ⟨rfl, rfl, rfl, by decide +kernel, rfl, by decide +kernel, by decide +kernel⟩
abbrev s_law_market : Stmt := top 31
theorem sc_law_market : FnScope ["dice", "askers", "rooms", "lists", "k", "orders"] ["dice", "askers", "rooms"] (defScope s_law_market) := ⟨rfl, rfl, rfl, by decide +kernel, rfl, by decide +kernel, by decide +kernel⟩
abbrev s_law : Stmt := top 36
theorem sc_law : FnScope ["script", "dice", "lists", "orders", "seats", "market", "every", "stable", "match", "draws", "k", "told_now", "here", "number", "pairs", "pair", "after", "one", "#tab"] ["script"] (defScope s_law) := ⟨rfl, rfl, rfl, by decide +kernel, rfl, by decide +kernel, by decide +kernel⟩
abbrev nm_Wish : List Str := ["order", "ranks"]
abbrev A_Wish := (List Int) × (List (Int × Int)) × Unit
abbrev fs_Wish (K : PySem.W.Frag) : List DCod := [(dTup dInt), (dDict dInt)]
abbrev dI_Wish (K : PySem.W.Frag) : DCod := dIns (He.ga K "Wish") nm_Wish (fs_Wish K)
abbrev nm_Market : List Str := ["askers", "rooms", "seats"]
abbrev A_Market := (List A_Wish) × (List A_Wish) × (List Int) × Unit
abbrev fs_Market (K : PySem.W.Frag) : List DCod := [(dTup (dI_Wish K)), (dTup (dI_Wish K)), (dTup dInt)]
abbrev dI_Market (K : PySem.W.Frag) : DCod := dIns (He.ga K "Market") nm_Market (fs_Market K)
def m_law_dice (a_cell : Int) : Pu.Res (List Int) := let k1 := fun (x2 : Bool) (r3 : Int × Unit) => if x2 = true then .ok [(absI r3.1), (0 : Int), (2 : Int)] else opt (if 0 < (1009 : Int) then some (r3.1 % (1009 : Int)) else none) fun x4 => opt (if CPow (10 : Int) (18 : Int) then some ((10 : Int) ^ ((18 : Int)).toNat) else none) fun x5 => .ok [r3.1, ((1 : Int) + x4), (if (decide (x5 ≤ r3.1)) then (1 : Int) else 0)]; if (decide (((0 : Int) - (10 : Int)) < a_cell)) = true then k1 (decide (a_cell < (10 : Int))) (a_cell, ()) else k1 false (a_cell, ())
def m_law_rounds (a_script : (List Int)) (a_most_now : Int) : Pu.Res (List Int) := let k6 := fun (r7 : (List Int) × Int × (List Int) × Unit × Unit) => oneL r7.2.2.1 fun (x8 : Int) => oneOk (α := (List Int) × (List Int) × Int × (List Int) × Unit × Unit) ((m_law_dice x8).bind fun x10 => .ok (x10, (r7.1, r7.2.1, r7.2.2.1, (), ()))) fun r9 => .ok r9.1; if (decide ((cutL a_script none (some a_most_now)) = [])) = true then k6 (a_script, a_most_now, [(0 : Int)], (), ()) else k6 (a_script, a_most_now, (cutL a_script none (some a_most_now)), (), ())
def m_law_roll (a_dice : (List Int)) (a_many : Int) : Pu.Res (Int × (List Int)) := let k11 := fun (x12 : Bool) (r13 : (List Int) × Int × Unit × Unit) => if x12 = true then opt (L2.atI r13.1 (0 : Int)) fun x14 => opt (if 0 < r13.2.1 then some (x14 % r13.2.1) else none) fun x15 => opt (L2.atI r13.1 (0 : Int)) fun x16 => opt (if CDiv x16 r13.2.1 then some (x16 / r13.2.1) else none) fun x17 => opt (setL r13.1 (0 : Int) x17) fun xs18 => .ok (x15, xs18) else opt (setL r13.1 (2 : Int) (0 : Int)) fun xs19 => opt (L2.atI xs19 (0 : Int)) fun x20 => opt (if CMul x20 (48271 : Int) then some (x20 * (48271 : Int)) else none) fun x21 => opt (L2.atI xs19 (1 : Int)) fun x22 => opt (if CMul x22 (69621 : Int) then some (x22 * (69621 : Int)) else none) fun x23 => opt (if 0 < (2147483647 : Int) then some (((x21 + x23) + (11 : Int)) % (2147483647 : Int)) else none) fun x24 => opt (setL xs19 (0 : Int) x24) fun xs25 => opt (L2.atI xs25 (1 : Int)) fun x26 => opt (setL xs25 (1 : Int) (x26 + (1 : Int))) fun xs27 => opt (L2.atI xs27 (0 : Int)) fun x28 => opt (if CDiv x28 (7 : Int) then some (x28 / (7 : Int)) else none) fun x29 => opt (L2.atI xs27 (0 : Int)) fun x30 => opt (if 0 < r13.2.1 then some ((x29 + x30) % r13.2.1) else none) fun x31 => .ok (x31, xs27); opt (L2.atI a_dice (2 : Int)) fun x32 => if (decide (x32 = (2 : Int))) = true then k11 true (a_dice, a_many, (), ()) else opt (L2.atI a_dice (2 : Int)) fun x33 => if (decide (x33 = (1 : Int))) = true then opt (L2.atI a_dice (0 : Int)) fun x34 => k11 (decide ((0 : Int) < x34)) (a_dice, a_many, (), ()) else k11 false (a_dice, a_many, (), ())
def m_law_list (a_dice : (List Int)) (a_many : Int) : Pu.Res ((List Int) × (List Int)) := opt (rng a_many) fun x35 => (m_law_roll a_dice (a_many + (1 : Int))).bind fun x36 => opt (rng x36.1) fun xs37 => let nx42 := fun (r41 : (List Int) × Int × (List Int) × (List Int) × Unit × Unit × Unit) => .ok (r41.2.2.2.1, r41.1); List.foldr (fun (x38 : Int) (k39 : (List Int) × Int × (List Int) × (List Int) × Unit × Unit × Unit → Res _) (r40 : (List Int) × Int × (List Int) × (List Int) × Unit × Unit × Unit) => (m_law_roll r40.1 (r40.2.2.1.length : Int)).bind fun x43 => opt (L2.atI r40.2.2.1 x43.1) fun x44 => chk (decide (List.length (α := Int) r40.2.2.2.1 < 16777216)) (chk (List.contains (α := Int) r40.2.2.1 x44) (k39 (x43.2, r40.2.1, (List.erase (α := Int) r40.2.2.1 x44), (app1 r40.2.2.2.1 x44), (), (), ())))) nx42 xs37 (x36.2, a_many, x35, [], (), (), ())
def m_law_place (a_order : (List Int)) (a_one : (Option Int)) : Pu.Res Int := let k45 := fun (x46 : Int) (r47 : (List Int) × (Option Int) × Unit) => .ok x46; if (isIn flOI.dec a_one (a_order.map some)) = true then opt a_one fun x48 => opt (indexL flInt.dec a_order x48) fun x49 => k45 x49 (a_order, a_one, ()) else k45 (a_order.length : Int) (a_order, a_one, ())
def m_Wish_init (a_order : (List Int)) : Pu.Res A_Wish := opt (compL (β := Int × Int) (S := ((List Int) × Unit) × (List Int) × Unit × Unit × Unit) (fun (x50 : (Int × Int)) r51 => .ok (some (x50.2, x50.1), (r51.1, r51.2.1, (), (), ()))) (enumL (a_order, ()).1) ((a_order, ()), a_order, (), (), ())) fun ys52 => .ok (ys52.2.1.1, (dmerge [] ys52.1), ())
def m_Wish_has (a_self : A_Wish) (a_one : Int) : Pu.Res Bool := .ok ((dget a_self.2.1 a_one).isSome)
def m_Wish_rank (a_self : A_Wish) (a_one : (Option Int)) : Pu.Res (Option Int) := if (a_one.isNone) = true then .ok (some (a_self.1.length : Int)) else opt a_one fun x53 => .ok (dget a_self.2.1 x53)
def m_Wish_better (a_self : A_Wish) (a_one : (Option Int)) (a_other : (Option Int)) : Pu.Res Bool := (m_Wish_rank a_self a_one).bind fun x54 => (m_Wish_rank a_self a_other).bind fun x55 => if (x54.isNone) = true then .ok false else let k56 := fun (x57 : Bool) (r58 : A_Wish × (Option Int) × (Option Int) × (Option Int) × (Option Int) × Unit) => .ok x57; if (x55.isNone) = true then k56 true (a_self, a_one, a_other, x54, x55, ()) else opt x54 fun x59 => opt x55 fun x60 => k56 (decide (x59 < x60)) (a_self, a_one, a_other, x54, x55, ())
def m_Wish_ahead_of (a_self : A_Wish) (a_one : (Option Int)) : Pu.Res (List Int) := opt (compL (β := Int) (S := A_Wish × (Option Int) × Unit × Unit) (fun (x61 : Int) r62 => (m_Wish_better r62.1 (some x61) r62.2.1).bind fun x64 => if x64 = true then .ok (some x61, (r62.1, r62.2.1, (), ())) else .ok (none, (r62.1, r62.2.1, (), ()))) a_self.1 (a_self, a_one, (), ())) fun ys63 => .ok ys63.1
def m_Wish_worst (a_self : A_Wish) (a_ones : (List Int)) : Pu.Res (Option Int) := opt (compL (β := Int) (S := A_Wish × (List Int) × Unit × Unit × Unit) (fun (x65 : Int) r66 => (m_Wish_has r66.1 x65).bind fun x68 => if x68 = true then opt (dget r66.1.2.1 x65) fun x69 => .ok (some x69, (r66.1, r66.2.1, (), (), ())) else .ok (none, (r66.1, r66.2.1, (), (), ()))) a_ones (a_self, a_ones, (), (), ())) fun ys67 => let k70 := fun (x71 : (Option Int)) (r72 : A_Wish × (List Int) × (List Int) × Unit × Unit) => .ok x71; if (!ys67.1.isEmpty) = true then opt (maxI ys67.1) fun x73 => opt (L2.atI ys67.2.1.1 x73) fun x74 => k70 (some x74) (ys67.2.1, ys67.2.2.1, ys67.1, (), ()) else k70 (none : (Option Int)) (ys67.2.1, ys67.2.2.1, ys67.1, (), ())
def m_check_list (a_order : (List Int)) (a_many : Int) : Pu.Res (List Int) := opt (compL (β := (Int × Int)) (S := (List Int) × Int × (List Int) × Unit × Unit) (fun (x75 : Int) r76 => if true = true then .ok (some (x75, (1 : Int)), (r76.1, r76.2.1, r76.2.2.1, (), ())) else .ok (none, (r76.1, r76.2.1, r76.2.2.1, (), ()))) a_order (a_order, a_many, a_order, (), ())) fun ys77 => if (!decide (((dmerge [] ys77.1).length : Int) = (ys77.2.2.2.1.length : Int))) = true then .exc "BadWish" else opt (compL (β := Bool) (S := (List Int) × Int × (List Int) × Unit × Unit) (fun (x78 : Int) r79 => if true = true then let k81 := fun (x82 : Bool) (r83 : (List Int) × Int × (List Int) × Int × Unit) => .ok (some (!x82), (r83.1, r83.2.1, r83.2.2.1, (), ())); if (decide ((0 : Int) ≤ x78)) = true then k81 (decide (x78 < r79.2.1)) (r79.1, r79.2.1, r79.2.2.1, x78, ()) else k81 false (r79.1, r79.2.1, r79.2.2.1, x78, ()) else .ok (none, (r79.1, r79.2.1, r79.2.2.1, (), ()))) ys77.2.2.2.1 (ys77.2.1, ys77.2.2.1, ys77.2.2.2.1, (), ())) fun ys80 => if (ys80.1.any id) = true then .exc "BadWish" else .ok ys80.2.2.2.1
def m_Market_init (a_lists : (List (List Int))) (a_orders : (List (List Int))) (a_seats : (List Int)) : Pu.Res A_Market := let k84 := fun (x85 : Bool) (r86 : (Unit) × (List (List Int)) × (List (List Int)) × (List Int) × Unit × Unit × Unit) => if x85 = true then .exc "BadRoom" else opt (compL (β := A_Wish) (S := (Unit) × (List (List Int)) × (List (List Int)) × (List Int) × Unit × Unit × Unit) (fun (x87 : (List Int)) r88 => if true = true then (m_check_list x87 (r88.2.2.1.length : Int)).bind fun x90 => (m_Wish_init x90).bind fun x91 => .ok (some (x91), (r88.1, r88.2.1, r88.2.2.1, r88.2.2.2.1, (), (), ())) else .ok (none, (r88.1, r88.2.1, r88.2.2.1, r88.2.2.2.1, (), (), ()))) r86.2.1 (r86.1, r86.2.1, r86.2.2.1, r86.2.2.2.1, (), (), ())) fun ys89 => opt (compL (β := A_Wish) (S := ((List A_Wish) × Unit) × (List (List Int)) × (List (List Int)) × (List Int) × Unit × Unit × Unit) (fun (x92 : (List Int)) r93 => if true = true then (m_check_list x92 (r93.2.1.length : Int)).bind fun x95 => (m_Wish_init x95).bind fun x96 => .ok (some (x96), (r93.1, r93.2.1, r93.2.2.1, r93.2.2.2.1, (), (), ())) else .ok (none, (r93.1, r93.2.1, r93.2.2.1, r93.2.2.2.1, (), (), ()))) ys89.2.2.2.1 ((ys89.1, ()), ys89.2.2.1, ys89.2.2.2.1, ys89.2.2.2.2.1, (), (), ())) fun ys94 => .ok ((ys94.2.1.1, ys94.1, ()).1, (ys94.2.1.1, ys94.1, ()).2.1, ys94.2.2.2.2.1, ()); if (!decide ((a_orders.length : Int) = (a_seats.length : Int))) = true then k84 true ((), a_lists, a_orders, a_seats, (), (), ()) else opt (compL (β := Bool) (S := (Unit) × (List (List Int)) × (List (List Int)) × (List Int) × Unit × Unit × Unit) (fun (x97 : Int) r98 => if true = true then .ok (some (decide (x97 < (0 : Int))), (r98.1, r98.2.1, r98.2.2.1, r98.2.2.2.1, (), (), ())) else .ok (none, (r98.1, r98.2.1, r98.2.2.1, r98.2.2.2.1, (), (), ()))) a_seats ((), a_lists, a_orders, a_seats, (), (), ())) fun ys99 => k84 (ys99.1.any id) (ys99.2.1, ys99.2.2.1, ys99.2.2.2.1, ys99.2.2.2.2.1, (), (), ())
def m_those_in (a_match : (List (Option Int))) (a_room : Int) : Pu.Res (List Int) := opt (compL (β := Int) (S := (List (Option Int)) × Int × Unit × Unit × Unit) (fun (x100 : (Int × (Option Int))) r101 => if (decide (x100.2 = (some r101.2.1))) = true then .ok (some x100.1, (r101.1, r101.2.1, (), (), ())) else .ok (none, (r101.1, r101.2.1, (), (), ()))) (enumL a_match) (a_match, a_room, (), (), ())) fun ys102 => .ok ys102.1
def m_has_free_seat (a_market : A_Market) (a_match : (List (Option Int))) (a_room : Int) : Pu.Res Bool := (m_those_in a_match a_room).bind fun x103 => opt (L2.atI a_market.2.2.1 a_room) fun x104 => .ok (decide ((x103.length : Int) < x104))
def m_first_to_go (a_market : A_Market) (a_match : (List (Option Int))) (a_room : Int) : Pu.Res (Option Int) := (m_those_in a_match a_room).bind fun x105 => opt (compL (β := Int) (S := A_Market × (List (Option Int)) × Int × (List Int) × Unit × Unit × Unit) (fun (x106 : Int) r107 => opt (L2.atI r107.1.2.1 r107.2.2.1) fun x109 => (m_Wish_has x109 x106).bind fun x110 => if (!x110) = true then .ok (some x106, (r107.1, r107.2.1, r107.2.2.1, r107.2.2.2.1, (), (), ())) else .ok (none, (r107.1, r107.2.1, r107.2.2.1, r107.2.2.2.1, (), (), ()))) x105 (a_market, a_match, a_room, x105, (), (), ())) fun ys108 => let k111 := fun (x112 : (Option Int)) (r113 : A_Market × (List (Option Int)) × Int × (List Int) × (List Int) × Unit × Unit) => .ok x112; if (!ys108.1.isEmpty) = true then opt (L2.atI ys108.1 (0 : Int)) fun x114 => k111 (some x114) (ys108.2.1, ys108.2.2.1, ys108.2.2.2.1, ys108.2.2.2.2.1, ys108.1, (), ()) else opt (L2.atI ys108.2.1.2.1 ys108.2.2.2.1) fun x115 => (m_Wish_worst x115 ys108.2.2.2.2.1).bind fun x116 => k111 x116 (ys108.2.1, ys108.2.2.1, ys108.2.2.2.1, ys108.2.2.2.2.1, ys108.1, (), ())
def m_would_take (a_market : A_Market) (a_match : (List (Option Int))) (a_room : Int) (a_asker : Int) : Pu.Res Bool := opt (L2.atI a_market.2.1 a_room) fun x117 => (m_Wish_has x117 a_asker).bind fun x118 => if (!x118) = true then .ok false else (m_has_free_seat a_market a_match a_room).bind fun x119 => if x119 = true then .ok true else (m_first_to_go a_market a_match a_room).bind fun x120 => let k121 := fun (x122 : Bool) (r123 : A_Market × (List (Option Int)) × Int × Int × A_Wish × (Option Int) × Unit) => .ok x122; if (x120.isSome) = true then (m_Wish_better x117 (some a_asker) x120).bind fun x124 => k121 x124 (a_market, a_match, a_room, a_asker, x117, x120, ()) else k121 false (a_market, a_match, a_room, a_asker, x117, x120, ())
def m_blocks (a_market : A_Market) (a_match : (List (Option Int))) : Pu.Res (List (Int × Int)) := opt (compM (β := (Int × Int)) (S := A_Market × (List (Option Int)) × Unit × Unit × Unit × Unit) (fun (x125 : (Int × A_Wish)) r126 => if true = true then opt (L2.atI r126.2.1 x125.1) fun x131 => (m_Wish_ahead_of x125.2 x131).bind fun x132 => opt (compL (β := (Int × Int)) (S := A_Market × (List (Option Int)) × Int × A_Wish × Unit × Unit) (fun (x128 : Int) r129 => (m_would_take r129.1 r129.2.1 x128 r129.2.2.1).bind fun x133 => if x133 = true then .ok (some (r129.2.2.1, x128), (r129.1, r129.2.1, r129.2.2.1, r129.2.2.2.1, (), ())) else .ok (none, (r129.1, r129.2.1, r129.2.2.1, r129.2.2.2.1, (), ()))) x132 (r126.1, r126.2.1, x125.1, x125.2, (), ())) fun zs130 => .ok (zs130.1, (zs130.2.1, zs130.2.2.1, (), (), (), ())) else .ok ([], (r126.1, r126.2.1, (), (), (), ()))) (enumL a_market.1) (a_market, a_match, (), (), (), ())) fun ys127 => chk (decide (ys127.1.length ≤ 16777216)) (.ok ys127.1)
def m_settled (a_market : A_Market) (a_match : (List (Option Int))) (a_pair : (Int × Int)) : Pu.Res (List (Option Int)) := let k134 := fun (r135 : A_Market × (List (Option Int)) × (Int × Int) × Int × Int × (List (Option Int)) × Unit × Unit) => opt (setL r135.2.2.2.2.2.1 r135.2.2.2.1 (some r135.2.2.2.2.1)) fun xs136 => .ok xs136; (m_has_free_seat a_market a_match a_pair.2).bind fun x137 => if (!x137) = true then (m_first_to_go a_market a_match a_pair.2).bind fun x138 => let k139 := fun (r140 : A_Market × (List (Option Int)) × (Int × Int) × Int × Int × (List (Option Int)) × (Option Int) × Unit) => k134 (r140.1, r140.2.1, r140.2.2.1, r140.2.2.2.1, r140.2.2.2.2.1, r140.2.2.2.2.2.1, (), ()); if (x138.isSome) = true then opt x138 fun x141 => opt (setL a_match x141 (none : (Option Int))) fun xs142 => k139 (a_market, a_match, a_pair, a_pair.1, a_pair.2, xs142, x138, ()) else k139 (a_market, a_match, a_pair, a_pair.1, a_pair.2, a_match, x138, ()) else k134 (a_market, a_match, a_pair, a_pair.1, a_pair.2, a_match, (), ())
def m_by_blocks (a_market : A_Market) (a_match : (List (Option Int))) (a_draws : (List Int)) (a_most : Int) : Pu.Res (List (Option Int)) := (m_blocks a_market a_match).bind fun x143 => let nx147 := fun (r146 : A_Market × (List (Option Int)) × (List Int) × Int × (List (Option Int)) × (List (Int × Int)) × Int × Unit × Unit) => .ok r146.2.2.2.2.1; whl (fun (k144 : A_Market × (List (Option Int)) × (List Int) × Int × (List (Option Int)) × (List (Int × Int)) × Int × Unit × Unit → Res _) (r145 : A_Market × (List (Option Int)) × (List Int) × Int × (List (Option Int)) × (List (Int × Int)) × Int × Unit × Unit) => if (!decide (r145.2.2.2.2.2.1 = [])) = true then if (decide (r145.2.2.2.1 ≤ r145.2.2.2.2.2.2.1)) = true then .exc "BadSize" else opt (if 0 < (r145.2.2.1.length : Int) then some (r145.2.2.2.2.2.2.1 % (r145.2.2.1.length : Int)) else none) fun x148 => opt (L2.atI r145.2.2.1 x148) fun x149 => opt (if 0 < (r145.2.2.2.2.2.1.length : Int) then some (x149 % (r145.2.2.2.2.2.1.length : Int)) else none) fun x150 => opt (L2.atI r145.2.2.2.2.2.1 x150) fun x151 => (m_settled r145.1 r145.2.2.2.2.1 x151).bind fun x152 => (m_blocks r145.1 x152).bind fun x153 => k144 (r145.1, r145.2.1, r145.2.2.1, r145.2.2.2.1, x152, x153, (r145.2.2.2.2.2.2.1 + (1 : Int)), (), ()) else nx147 (r145.1, r145.2.1, r145.2.2.1, r145.2.2.2.1, r145.2.2.2.2.1, r145.2.2.2.2.2.1, r145.2.2.2.2.2.2.1, (), ())) 100000 (a_market, a_match, a_draws, a_most, a_match, x143, (0 : Int), (), ())
def m_law_matches (a_lists : (List (List Int))) (a_orders : (List (List Int))) (a_seats : (List Int)) : Pu.Res (List (List (Option Int))) := opt (rng (a_lists.length : Int)) fun xs154 => let nx159 := fun (r158 : (List (List Int)) × (List (List Int)) × (List Int) × (List (List (Option Int))) × Unit × Unit × Unit × Unit × Unit × Unit) => .ok r158.2.2.2.1; List.foldr (fun (x155 : Int) (k156 : (List (List Int)) × (List (List Int)) × (List Int) × (List (List (Option Int))) × Unit × Unit × Unit × Unit × Unit × Unit → Res _) (r157 : (List (List Int)) × (List (List Int)) × (List Int) × (List (List (Option Int))) × Unit × Unit × Unit × Unit × Unit × Unit) => opt (L2.atI r157.1 x155) fun x160 => opt (compL (β := Int) (S := (List (List Int)) × (List (List Int)) × (List Int) × (List (List (Option Int))) × Int × Unit × Unit × Unit × Unit × Unit) (fun (x161 : Int) r162 => opt (L2.atI r162.2.1 x161) fun x164 => if (isIn flInt.dec r162.2.2.2.2.1 x164) = true then .ok (some x161, (r162.1, r162.2.1, r162.2.2.1, r162.2.2.2.1, r162.2.2.2.2.1, (), (), (), (), ())) else .ok (none, (r162.1, r162.2.1, r162.2.2.1, r162.2.2.2.1, r162.2.2.2.2.1, (), (), (), (), ()))) x160 (r157.1, r157.2.1, r157.2.2.1, r157.2.2.2.1, x155, (), (), (), (), ())) fun ys163 => opt (catL ([()].map fun _ => (none : (Option Int))) (ys163.1.map some)) fun x165 => let nx170 := fun (r169 : (List (List Int)) × (List (List Int)) × (List Int) × (List (List (Option Int))) × Int × (List (Option Int)) × Unit × (List (List (Option Int))) × Unit × Unit) => k156 (r169.1, r169.2.1, r169.2.2.1, r169.2.2.2.2.2.2.2.1, (), (), (), (), (), ()); List.foldr (fun (x166 : (List (Option Int))) (k167 : (List (List Int)) × (List (List Int)) × (List Int) × (List (List (Option Int))) × Int × (List (Option Int)) × Unit × (List (List (Option Int))) × Unit × Unit → Res _) (r168 : (List (List Int)) × (List (List Int)) × (List Int) × (List (List (Option Int))) × Int × (List (Option Int)) × Unit × (List (List (Option Int))) × Unit × Unit) => opt (compL (β := (List (Option Int))) (S := (List (List Int)) × (List (List Int)) × (List Int) × (List (List (Option Int))) × Int × (List (Option Int)) × Unit × (List (List (Option Int))) × (List (Option Int)) × Unit) (fun (x171 : (Option Int)) r172 => let k174 := fun (x175 : Bool) (r176 : (List (List Int)) × (List (List Int)) × (List Int) × (List (List (Option Int))) × Int × (List (Option Int)) × (Option Int) × (List (List (Option Int))) × (List (Option Int)) × Unit) => if x175 = true then opt (catL r176.2.2.2.2.2.2.2.2.1 [r176.2.2.2.2.2.2.1]) fun x177 => .ok (some x177, (r176.1, r176.2.1, r176.2.2.1, r176.2.2.2.1, r176.2.2.2.2.1, r176.2.2.2.2.2.1, (), r176.2.2.2.2.2.2.2.1, r176.2.2.2.2.2.2.2.2.1, ())) else .ok (none, (r176.1, r176.2.1, r176.2.2.1, r176.2.2.2.1, r176.2.2.2.2.1, r176.2.2.2.2.2.1, (), r176.2.2.2.2.2.2.2.1, r176.2.2.2.2.2.2.2.2.1, ())); if (x171.isNone) = true then k174 true (r172.1, r172.2.1, r172.2.2.1, r172.2.2.2.1, r172.2.2.2.2.1, r172.2.2.2.2.2.1, x171, r172.2.2.2.2.2.2.2.1, r172.2.2.2.2.2.2.2.2.1, ()) else opt x171 fun x178 => opt (L2.atI r172.2.2.1 x178) fun x179 => k174 (decide ((countL flOI.dec r172.2.2.2.2.2.2.2.2.1 x171) < x179)) (r172.1, r172.2.1, r172.2.2.1, r172.2.2.2.1, r172.2.2.2.2.1, r172.2.2.2.2.2.1, x171, r172.2.2.2.2.2.2.2.1, r172.2.2.2.2.2.2.2.2.1, ())) r168.2.2.2.2.2.1 (r168.1, r168.2.1, r168.2.2.1, r168.2.2.2.1, r168.2.2.2.2.1, r168.2.2.2.2.2.1, (), r168.2.2.2.2.2.2.2.1, x166, ())) fun ys173 => opt (catL r168.2.2.2.2.2.2.2.1 ys173.1) fun x180 => k167 (ys173.2.1, ys173.2.2.1, ys173.2.2.2.1, ys173.2.2.2.2.1, ys173.2.2.2.2.2.1, ys173.2.2.2.2.2.2.1, (), x180, (), ())) nx170 ys163.2.2.2.2.1 (ys163.2.1, ys163.2.2.1, ys163.2.2.2.1, ys163.2.2.2.2.1, ys163.2.2.2.2.2.1, x165, (), [], (), ())) nx159 xs154 (a_lists, a_orders, a_seats, [[]], (), (), (), (), (), ())
def m_law_blocks (a_lists : (List (List Int))) (a_orders : (List (List Int))) (a_seats : (List Int)) (a_match : (List (Option Int))) : Pu.Res (List (Int × Int)) := opt (rng (a_lists.length : Int)) fun xs181 => let nx186 := fun (r185 : (List (List Int)) × (List (List Int)) × (List Int) × (List (Option Int)) × (List (Int × Int)) × Unit × Unit × Unit × Unit × Unit × Unit) => .ok r185.2.2.2.2.1; List.foldr (fun (x182 : Int) (k183 : (List (List Int)) × (List (List Int)) × (List Int) × (List (Option Int)) × (List (Int × Int)) × Unit × Unit × Unit × Unit × Unit × Unit → Res _) (r184 : (List (List Int)) × (List (List Int)) × (List Int) × (List (Option Int)) × (List (Int × Int)) × Unit × Unit × Unit × Unit × Unit × Unit) => opt (L2.atI r184.1 x182) fun x187 => opt (L2.atI r184.1 x182) fun x188 => opt (L2.atI r184.2.2.2.1 x182) fun x189 => (m_law_place x188 x189).bind fun x190 => let nx195 := fun (r194 : (List (List Int)) × (List (List Int)) × (List Int) × (List (Option Int)) × (List (Int × Int)) × Int × Unit × Unit × Unit × Unit × Unit) => k183 (r194.1, r194.2.1, r194.2.2.1, r194.2.2.2.1, r194.2.2.2.2.1, (), (), (), (), (), ()); List.foldr (fun (x191 : Int) (k192 : (List (List Int)) × (List (List Int)) × (List Int) × (List (Option Int)) × (List (Int × Int)) × Int × Unit × Unit × Unit × Unit × Unit → Res _) (r193 : (List (List Int)) × (List (List Int)) × (List Int) × (List (Option Int)) × (List (Int × Int)) × Int × Unit × Unit × Unit × Unit × Unit) => opt (rng (r193.1.length : Int)) fun xs196 => opt (compL (β := Int) (S := (List (List Int)) × (List (List Int)) × (List Int) × (List (Option Int)) × (List (Int × Int)) × Int × Int × Unit × Unit × Unit × Unit) (fun (x197 : Int) r198 => opt (L2.atI r198.2.2.2.1 x197) fun x200 => if (decide (x200 = (some r198.2.2.2.2.2.2.1))) = true then .ok (some x197, (r198.1, r198.2.1, r198.2.2.1, r198.2.2.2.1, r198.2.2.2.2.1, r198.2.2.2.2.2.1, r198.2.2.2.2.2.2.1, (), (), (), ())) else .ok (none, (r198.1, r198.2.1, r198.2.2.1, r198.2.2.2.1, r198.2.2.2.2.1, r198.2.2.2.2.2.1, r198.2.2.2.2.2.2.1, (), (), (), ()))) xs196 (r193.1, r193.2.1, r193.2.2.1, r193.2.2.2.1, r193.2.2.2.2.1, r193.2.2.2.2.2.1, x191, (), (), (), ())) fun ys199 => opt (compL (β := Int) (S := (List (List Int)) × (List (List Int)) × (List Int) × (List (Option Int)) × (List (Int × Int)) × Int × Int × (List Int) × Unit × Unit × Unit) (fun (x201 : Int) r202 => opt (L2.atI r202.2.1 r202.2.2.2.2.2.2.1) fun x204 => (m_law_place x204 (some x201)).bind fun x205 => opt (L2.atI r202.2.1 r202.2.2.2.2.2.2.1) fun x206 => (m_law_place x206 (some r202.2.2.2.2.2.1)).bind fun x207 => if (decide (x207 < x205)) = true then .ok (some x201, (r202.1, r202.2.1, r202.2.2.1, r202.2.2.2.1, r202.2.2.2.2.1, r202.2.2.2.2.2.1, r202.2.2.2.2.2.2.1, r202.2.2.2.2.2.2.2.1, (), (), ())) else .ok (none, (r202.1, r202.2.1, r202.2.2.1, r202.2.2.2.1, r202.2.2.2.2.1, r202.2.2.2.2.2.1, r202.2.2.2.2.2.2.1, r202.2.2.2.2.2.2.2.1, (), (), ()))) ys199.1 (ys199.2.1, ys199.2.2.1, ys199.2.2.2.1, ys199.2.2.2.2.1, ys199.2.2.2.2.2.1, ys199.2.2.2.2.2.2.1, ys199.2.2.2.2.2.2.2.1, ys199.1, (), (), ())) fun ys203 => let k208 := fun (r209 : (List (List Int)) × (List (List Int)) × (List Int) × (List (Option Int)) × (List (Int × Int)) × Int × Int × (List Int) × Unit × (List Int) × Unit) => k192 (r209.1, r209.2.1, r209.2.2.1, r209.2.2.2.1, r209.2.2.2.2.1, r209.2.2.2.2.2.1, (), (), (), (), ()); let k210 := fun (x211 : Bool) (r212 : (List (List Int)) × (List (List Int)) × (List Int) × (List (Option Int)) × (List (Int × Int)) × Int × Int × (List Int) × Unit × (List Int) × Unit) => if x211 = true then chk (decide (List.length (α := (Int × Int)) r212.2.2.2.2.1 < 16777216)) (k208 (r212.1, r212.2.1, r212.2.2.1, r212.2.2.2.1, (app1 r212.2.2.2.2.1 (r212.2.2.2.2.2.1, r212.2.2.2.2.2.2.1)), r212.2.2.2.2.2.1, r212.2.2.2.2.2.2.1, r212.2.2.2.2.2.2.2.1, (), r212.2.2.2.2.2.2.2.2.2.1, ())) else k208 (r212.1, r212.2.1, r212.2.2.1, r212.2.2.2.1, r212.2.2.2.2.1, r212.2.2.2.2.2.1, r212.2.2.2.2.2.2.1, r212.2.2.2.2.2.2.2.1, (), r212.2.2.2.2.2.2.2.2.2.1, ()); opt (L2.atI ys203.2.2.1 ys203.2.2.2.2.2.2.2.1) fun x213 => if (isIn flInt.dec ys203.2.2.2.2.2.2.1 x213) = true then opt (L2.atI ys203.2.2.2.1 ys203.2.2.2.2.2.2.2.1) fun x214 => if (decide ((ys203.2.2.2.2.2.2.2.2.1.length : Int) < x214)) = true then k210 true (ys203.2.1, ys203.2.2.1, ys203.2.2.2.1, ys203.2.2.2.2.1, ys203.2.2.2.2.2.1, ys203.2.2.2.2.2.2.1, ys203.2.2.2.2.2.2.2.1, ys203.2.2.2.2.2.2.2.2.1, (), ys203.1, ()) else k210 (!decide (ys203.1 = [])) (ys203.2.1, ys203.2.2.1, ys203.2.2.2.1, ys203.2.2.2.2.1, ys203.2.2.2.2.2.1, ys203.2.2.2.2.2.2.1, ys203.2.2.2.2.2.2.2.1, ys203.2.2.2.2.2.2.2.2.1, (), ys203.1, ()) else k210 false (ys203.2.1, ys203.2.2.1, ys203.2.2.2.1, ys203.2.2.2.2.1, ys203.2.2.2.2.2.1, ys203.2.2.2.2.2.2.1, ys203.2.2.2.2.2.2.2.1, ys203.2.2.2.2.2.2.2.2.1, (), ys203.1, ())) nx195 (cutL x187 none (some x190)) (r184.1, r184.2.1, r184.2.2.1, r184.2.2.2.1, r184.2.2.2.2.1, x182, (), (), (), (), ())) nx186 xs181 (a_lists, a_orders, a_seats, a_match, [], (), (), (), (), (), ())
def m_law_stable (a_lists : (List (List Int))) (a_orders : (List (List Int))) (a_seats : (List Int)) : Pu.Res (List (List (Option Int))) := (m_law_matches a_lists a_orders a_seats).bind fun x215 => opt (compL (β := (List (Option Int))) (S := (List (List Int)) × (List (List Int)) × (List Int) × Unit × Unit) (fun (x216 : (List (Option Int))) r217 => (m_law_blocks r217.1 r217.2.1 r217.2.2.1 x216).bind fun x219 => if (decide (x219 = [])) = true then .ok (some x216, (r217.1, r217.2.1, r217.2.2.1, (), ())) else .ok (none, (r217.1, r217.2.1, r217.2.2.1, (), ()))) x215 (a_lists, a_orders, a_seats, (), ())) fun ys218 => .ok ys218.1
def m_law_market (a_dice : (List Int)) (a_askers : Int) (a_rooms : Int) : Pu.Res (((List (List Int)) × (List (List Int)) × (List Int)) × (List Int)) := opt (rng a_askers) fun xs220 => opt (compL (β := (List Int)) (S := (List Int) × Int × Int × Unit × Unit × Unit × Unit) (fun (x221 : Int) r222 => if true = true then (m_law_list r222.1 r222.2.2.1).bind fun x224 => .ok (some x224.1, (x224.2, r222.2.1, r222.2.2.1, (), (), (), ())) else .ok (none, (r222.1, r222.2.1, r222.2.2.1, (), (), (), ()))) xs220 (a_dice, a_askers, a_rooms, (), (), (), ())) fun ys223 => opt (rng ys223.2.2.2.1) fun xs225 => opt (compL (β := (List Int)) (S := (List Int) × Int × Int × (List (List Int)) × Unit × Unit × Unit) (fun (x226 : Int) r227 => if true = true then (m_law_list r227.1 r227.2.1).bind fun x229 => .ok (some x229.1, (x229.2, r227.2.1, r227.2.2.1, r227.2.2.2.1, (), (), ())) else .ok (none, (r227.1, r227.2.1, r227.2.2.1, r227.2.2.2.1, (), (), ()))) xs225 (ys223.2.1, ys223.2.2.1, ys223.2.2.2.1, ys223.1, (), (), ())) fun ys228 => opt (rng ys228.2.2.2.1) fun xs230 => opt (compL (β := Int) (S := (List Int) × Int × Int × (List (List Int)) × Unit × (List (List Int)) × Unit) (fun (x231 : Int) r232 => if true = true then (m_law_roll r232.1 (3 : Int)).bind fun x234 => .ok (some x234.1, (x234.2, r232.2.1, r232.2.2.1, r232.2.2.2.1, (), r232.2.2.2.2.2.1, ())) else .ok (none, (r232.1, r232.2.1, r232.2.2.1, r232.2.2.2.1, (), r232.2.2.2.2.2.1, ()))) xs230 (ys228.2.1, ys228.2.2.1, ys228.2.2.2.1, ys228.2.2.2.2.1, (), ys228.1, ())) fun ys233 => .ok ((ys228.2.2.2.2.1, ys228.1, ys233.1), ys233.2.1)
def m_law_s0 {R : Type} (nx : (List Int) × (List Int) × (List (List Int)) × (List (List Int)) × (List Int) × Unit × Unit × Unit × Unit × Unit × Unit × Unit × Unit × Unit × Unit × Unit × Unit × Unit × Unit × Unit → Pu.Res R) (rt : Bool → Pu.Res R) (r : (List Int) × (List Int) × Unit × Unit × Unit × Unit × Unit × Unit × Unit × Unit × Unit × Unit × Unit × Unit × Unit × Unit × Unit × Unit × Unit × Unit) : Pu.Res R := (m_law_roll r.2.1 (3 : Int)).bind fun x235 => (m_law_roll x235.2 (3 : Int)).bind fun x236 => (m_law_market x236.2 ((1 : Int) + x235.1) ((1 : Int) + x236.1)).bind fun x237 => nx (r.1, x237.2, x237.1.1, x237.1.2.1, x237.1.2.2, (), (), (), (), (), (), (), (), (), (), (), (), (), r.2.2.2.2.2.2.2.2.2.2.2.2.2.2.2.2.2.2.1, ())
def m_law_s1 {R : Type} (nx : (List Int) × (List Int) × (List (List Int)) × (List (List Int)) × (List Int) × A_Market × (List (List (Option Int))) × Unit × Unit × Unit × Unit × Unit × Unit × Unit × Unit × Unit × Unit × Unit × Unit × Unit → Pu.Res R) (rt : Bool → Pu.Res R) (r : (List Int) × (List Int) × (List (List Int)) × (List (List Int)) × (List Int) × Unit × Unit × Unit × Unit × Unit × Unit × Unit × Unit × Unit × Unit × Unit × Unit × Unit × Unit × Unit) : Pu.Res R := (m_Market_init r.2.2.1 r.2.2.2.1 r.2.2.2.2.1).bind fun x238 => (m_law_matches r.2.2.1 r.2.2.2.1 r.2.2.2.2.1).bind fun x239 => nx (r.1, r.2.1, r.2.2.1, r.2.2.2.1, r.2.2.2.2.1, ((x238), x239).1, ((x238), x239).2, (), (), (), (), (), (), (), (), (), (), (), r.2.2.2.2.2.2.2.2.2.2.2.2.2.2.2.2.2.2.1, ())
def m_law_s2 {R : Type} (nx : (List Int) × (List Int) × (List (List Int)) × (List (List Int)) × (List Int) × A_Market × (List (List (Option Int))) × (List (List (Option Int))) × Unit × Unit × Unit × Unit × Unit × Unit × Unit × Unit × Unit × Unit × Unit × Unit → Pu.Res R) (rt : Bool → Pu.Res R) (r : (List Int) × (List Int) × (List (List Int)) × (List (List Int)) × (List Int) × A_Market × (List (List (Option Int))) × Unit × Unit × Unit × Unit × Unit × Unit × Unit × Unit × Unit × Unit × Unit × Unit × Unit) : Pu.Res R := (m_law_stable r.2.2.1 r.2.2.2.1 r.2.2.2.2.1).bind fun x240 => nx (r.1, r.2.1, r.2.2.1, r.2.2.2.1, r.2.2.2.2.1, r.2.2.2.2.2.1, r.2.2.2.2.2.2.1, x240, (), (), (), (), (), (), (), (), (), (), r.2.2.2.2.2.2.2.2.2.2.2.2.2.2.2.2.2.2.1, ())
def m_law_s3 {R : Type} (nx : (List Int) × (List Int) × (List (List Int)) × (List (List Int)) × (List Int) × A_Market × (List (List (Option Int))) × (List (List (Option Int))) × (List (Option Int)) × Unit × Unit × Unit × Unit × Unit × Unit × Unit × Unit × Unit × Unit × Unit → Pu.Res R) (rt : Bool → Pu.Res R) (r : (List Int) × (List Int) × (List (List Int)) × (List (List Int)) × (List Int) × A_Market × (List (List (Option Int))) × (List (List (Option Int))) × Unit × Unit × Unit × Unit × Unit × Unit × Unit × Unit × Unit × Unit × Unit × Unit) : Pu.Res R := (m_law_roll r.2.1 (r.2.2.2.2.2.2.1.length : Int)).bind fun x241 => opt (L2.atI r.2.2.2.2.2.2.1 x241.1) fun x242 => nx (r.1, x241.2, r.2.2.1, r.2.2.2.1, r.2.2.2.2.1, r.2.2.2.2.2.1, r.2.2.2.2.2.2.1, r.2.2.2.2.2.2.2.1, x242, (), (), (), (), (), (), (), (), (), r.2.2.2.2.2.2.2.2.2.2.2.2.2.2.2.2.2.2.1, ())
def m_law_s4 {R : Type} (nx : (List Int) × (List Int) × (List (List Int)) × (List (List Int)) × (List Int) × A_Market × (List (List (Option Int))) × (List (List (Option Int))) × (List (Option Int)) × (List Int) × Unit × Unit × Unit × Unit × Unit × Unit × Unit × Unit × Unit × Unit → Pu.Res R) (rt : Bool → Pu.Res R) (r : (List Int) × (List Int) × (List (List Int)) × (List (List Int)) × (List Int) × A_Market × (List (List (Option Int))) × (List (List (Option Int))) × (List (Option Int)) × Unit × Unit × Unit × Unit × Unit × Unit × Unit × Unit × Unit × Unit × Unit) : Pu.Res R := opt (rng (5 : Int)) fun xs243 => opt (compL (β := Int) (S := (List Int) × (List Int) × (List (List Int)) × (List (List Int)) × (List Int) × A_Market × (List (List (Option Int))) × (List (List (Option Int))) × (List (Option Int)) × Unit × Unit × Unit × Unit × Unit × Unit × Unit × Unit × Unit × Unit × Unit) (fun (x244 : Int) r245 => if true = true then (m_law_roll r245.2.1 (12 : Int)).bind fun x247 => .ok (some x247.1, (r245.1, x247.2, r245.2.2.1, r245.2.2.2.1, r245.2.2.2.2.1, r245.2.2.2.2.2.1, r245.2.2.2.2.2.2.1, r245.2.2.2.2.2.2.2.1, r245.2.2.2.2.2.2.2.2.1, (), (), (), (), (), (), (), (), (), r245.2.2.2.2.2.2.2.2.2.2.2.2.2.2.2.2.2.2.1, ())) else .ok (none, (r245.1, r245.2.1, r245.2.2.1, r245.2.2.2.1, r245.2.2.2.2.1, r245.2.2.2.2.2.1, r245.2.2.2.2.2.2.1, r245.2.2.2.2.2.2.2.1, r245.2.2.2.2.2.2.2.2.1, (), (), (), (), (), (), (), (), (), r245.2.2.2.2.2.2.2.2.2.2.2.2.2.2.2.2.2.2.1, ()))) xs243 (r.1, r.2.1, r.2.2.1, r.2.2.2.1, r.2.2.2.2.1, r.2.2.2.2.2.1, r.2.2.2.2.2.2.1, r.2.2.2.2.2.2.2.1, r.2.2.2.2.2.2.2.2.1, (), (), (), (), (), (), (), (), (), r.2.2.2.2.2.2.2.2.2.2.2.2.2.2.2.2.2.2.1, ())) fun ys246 => nx (ys246.2.1, ys246.2.2.1, ys246.2.2.2.1, ys246.2.2.2.2.1, ys246.2.2.2.2.2.1, ys246.2.2.2.2.2.2.1, ys246.2.2.2.2.2.2.2.1, ys246.2.2.2.2.2.2.2.2.1, ys246.2.2.2.2.2.2.2.2.2.1, ys246.1, (), (), (), (), (), (), (), (), ys246.2.2.2.2.2.2.2.2.2.2.2.2.2.2.2.2.2.2.2.1, ())
def m_law_s5 {R : Type} (nx : (List Int) × (List Int) × (List (List Int)) × (List (List Int)) × (List Int) × A_Market × (List (List (Option Int))) × (List (List (Option Int))) × (List (Option Int)) × (List Int) × Unit × ((List (Option Int)) ⊕ Wrd) × Unit × Unit × Unit × Unit × Unit × Unit × Unit × Unit → Pu.Res R) (rt : Bool → Pu.Res R) (r : (List Int) × (List Int) × (List (List Int)) × (List (List Int)) × (List Int) × A_Market × (List (List (Option Int))) × (List (List (Option Int))) × (List (Option Int)) × (List Int) × Unit × Unit × Unit × Unit × Unit × Unit × Unit × Unit × Unit × Unit) : Pu.Res R := (told (α := (List (Option Int))) tellTab ((m_by_blocks r.2.2.2.2.2.1 r.2.2.2.2.2.2.2.2.1 r.2.2.2.2.2.2.2.2.2.1 (200 : Int)).bind fun x249 => .ok x249)).bind fun x248 => nx (r.1, r.2.1, r.2.2.1, r.2.2.2.1, r.2.2.2.2.1, r.2.2.2.2.2.1, r.2.2.2.2.2.2.1, r.2.2.2.2.2.2.2.1, r.2.2.2.2.2.2.2.2.1, r.2.2.2.2.2.2.2.2.2.1, (), x248, (), (), (), (), (), (), r.2.2.2.2.2.2.2.2.2.2.2.2.2.2.2.2.2.2.1, ())
def m_law_s6 {R : Type} (nx : (List Int) × (List Int) × (List (List Int)) × (List (List Int)) × (List Int) × A_Market × (List (List (Option Int))) × (List (List (Option Int))) × (List (Option Int)) × (List Int) × Unit × ((List (Option Int)) ⊕ Wrd) × (List (Option Int)) × Int × Unit × Unit × Unit × Unit × Unit × Unit → Pu.Res R) (rt : Bool → Pu.Res R) (r : (List Int) × (List Int) × (List (List Int)) × (List (List Int)) × (List Int) × A_Market × (List (List (Option Int))) × (List (List (Option Int))) × (List (Option Int)) × (List Int) × Unit × ((List (Option Int)) ⊕ Wrd) × Unit × Unit × Unit × Unit × Unit × Unit × Unit × Unit) : Pu.Res R := nx (r.1, r.2.1, r.2.2.1, r.2.2.2.1, r.2.2.2.2.1, r.2.2.2.2.2.1, r.2.2.2.2.2.2.1, r.2.2.2.2.2.2.2.1, r.2.2.2.2.2.2.2.2.1, r.2.2.2.2.2.2.2.2.2.1, (), r.2.2.2.2.2.2.2.2.2.2.2.1, r.2.2.2.2.2.2.2.2.1, (0 : Int), (), (), (), (), r.2.2.2.2.2.2.2.2.2.2.2.2.2.2.2.2.2.2.1, ())
def m_law_s7 {R : Type} (nx : (List Int) × (List Int) × (List (List Int)) × (List (List Int)) × (List Int) × A_Market × (List (List (Option Int))) × (List (List (Option Int))) × (List (Option Int)) × (List Int) × Unit × ((List (Option Int)) ⊕ Wrd) × (List (Option Int)) × Int × Unit × Unit × Unit × Unit × Unit × Unit → Pu.Res R) (rt : Bool → Pu.Res R) (r : (List Int) × (List Int) × (List (List Int)) × (List (List Int)) × (List Int) × A_Market × (List (List (Option Int))) × (List (List (Option Int))) × (List (Option Int)) × (List Int) × Unit × ((List (Option Int)) ⊕ Wrd) × (List (Option Int)) × Int × Unit × Unit × Unit × Unit × Unit × Unit) : Pu.Res R := let nx253 := fun (r252 : (List Int) × (List Int) × (List (List Int)) × (List (List Int)) × (List Int) × A_Market × (List (List (Option Int))) × (List (List (Option Int))) × (List (Option Int)) × (List Int) × Unit × ((List (Option Int)) ⊕ Wrd) × (List (Option Int)) × Int × Unit × Unit × Unit × Unit × Unit × Unit) => nx (r252.1, r252.2.1, r252.2.2.1, r252.2.2.2.1, r252.2.2.2.2.1, r252.2.2.2.2.2.1, r252.2.2.2.2.2.2.1, r252.2.2.2.2.2.2.2.1, r252.2.2.2.2.2.2.2.2.1, r252.2.2.2.2.2.2.2.2.2.1, (), r252.2.2.2.2.2.2.2.2.2.2.2.1, r252.2.2.2.2.2.2.2.2.2.2.2.2.1, r252.2.2.2.2.2.2.2.2.2.2.2.2.2.1, (), (), (), (), r252.2.2.2.2.2.2.2.2.2.2.2.2.2.2.2.2.2.2.1, ()); whl (fun (k250 : (List Int) × (List Int) × (List (List Int)) × (List (List Int)) × (List Int) × A_Market × (List (List (Option Int))) × (List (List (Option Int))) × (List (Option Int)) × (List Int) × Unit × ((List (Option Int)) ⊕ Wrd) × (List (Option Int)) × Int × Unit × Unit × Unit × Unit × Unit × Unit → Res _) (r251 : (List Int) × (List Int) × (List (List Int)) × (List (List Int)) × (List Int) × A_Market × (List (List (Option Int))) × (List (List (Option Int))) × (List (Option Int)) × (List Int) × Unit × ((List (Option Int)) ⊕ Wrd) × (List (Option Int)) × Int × Unit × Unit × Unit × Unit × Unit × Unit) => let k254 := fun (x255 : Bool) (r256 : (List Int) × (List Int) × (List (List Int)) × (List (List Int)) × (List Int) × A_Market × (List (List (Option Int))) × (List (List (Option Int))) × (List (Option Int)) × (List Int) × Unit × ((List (Option Int)) ⊕ Wrd) × (List (Option Int)) × Int × Unit × Unit × Unit × Unit × Unit × Unit) => if x255 = true then (m_law_blocks r256.2.2.1 r256.2.2.2.1 r256.2.2.2.2.1 r256.2.2.2.2.2.2.2.2.2.2.2.2.1).bind fun x257 => opt (if 0 < (5 : Int) then some (r256.2.2.2.2.2.2.2.2.2.2.2.2.2.1 % (5 : Int)) else none) fun x258 => opt (L2.atI r256.2.2.2.2.2.2.2.2.2.1 x258) fun x259 => opt (if 0 < (x257.length : Int) then some (x259 % (x257.length : Int)) else none) fun x260 => opt (L2.atI x257 x260) fun x261 => (m_settled r256.2.2.2.2.2.1 r256.2.2.2.2.2.2.2.2.2.2.2.2.1 x261).bind fun x262 => let k263 := fun (x264 : Bool) (r265 : (List Int) × (List Int) × (List (List Int)) × (List (List Int)) × (List Int) × A_Market × (List (List (Option Int))) × (List (List (Option Int))) × (List (Option Int)) × (List Int) × Unit × ((List (Option Int)) ⊕ Wrd) × (List (Option Int)) × Int × (List (Int × Int)) × (Int × Int) × (List (Option Int)) × Unit × Unit × Unit) => if x264 = true then rt false else k250 (r265.1, r265.2.1, r265.2.2.1, r265.2.2.2.1, r265.2.2.2.2.1, r265.2.2.2.2.2.1, r265.2.2.2.2.2.2.1, r265.2.2.2.2.2.2.2.1, r265.2.2.2.2.2.2.2.2.1, r265.2.2.2.2.2.2.2.2.2.1, (), r265.2.2.2.2.2.2.2.2.2.2.2.1, r265.2.2.2.2.2.2.2.2.2.2.2.2.2.2.2.2.1, (r265.2.2.2.2.2.2.2.2.2.2.2.2.2.1 + (1 : Int)), (), (), (), (), r265.2.2.2.2.2.2.2.2.2.2.2.2.2.2.2.2.2.2.1, ()); opt (if (0 : Int) = 0 then some x261.1 else none) fun x266 => opt (L2.atI x262 x266) fun x267 => opt (if (1 : Int) = 1 then some x261.2 else none) fun x268 => if (!decide (x267 = (some x268))) = true then k263 true (r256.1, r256.2.1, r256.2.2.1, r256.2.2.2.1, r256.2.2.2.2.1, r256.2.2.2.2.2.1, r256.2.2.2.2.2.2.1, r256.2.2.2.2.2.2.2.1, r256.2.2.2.2.2.2.2.2.1, r256.2.2.2.2.2.2.2.2.2.1, (), r256.2.2.2.2.2.2.2.2.2.2.2.1, r256.2.2.2.2.2.2.2.2.2.2.2.2.1, r256.2.2.2.2.2.2.2.2.2.2.2.2.2.1, x257, x261, x262, (), r256.2.2.2.2.2.2.2.2.2.2.2.2.2.2.2.2.2.2.1, ()) else if (!isIn inferInstance x262 r256.2.2.2.2.2.2.1) = true then k263 true (r256.1, r256.2.1, r256.2.2.1, r256.2.2.2.1, r256.2.2.2.2.1, r256.2.2.2.2.2.1, r256.2.2.2.2.2.2.1, r256.2.2.2.2.2.2.2.1, r256.2.2.2.2.2.2.2.2.1, r256.2.2.2.2.2.2.2.2.2.1, (), r256.2.2.2.2.2.2.2.2.2.2.2.1, r256.2.2.2.2.2.2.2.2.2.2.2.2.1, r256.2.2.2.2.2.2.2.2.2.2.2.2.2.1, x257, x261, x262, (), r256.2.2.2.2.2.2.2.2.2.2.2.2.2.2.2.2.2.2.1, ()) else (m_blocks r256.2.2.2.2.2.1 r256.2.2.2.2.2.2.2.2.2.2.2.2.1).bind fun x269 => k263 (!decide (x269 = x257)) (r256.1, r256.2.1, r256.2.2.1, r256.2.2.2.1, r256.2.2.2.2.1, r256.2.2.2.2.2.1, r256.2.2.2.2.2.2.1, r256.2.2.2.2.2.2.2.1, r256.2.2.2.2.2.2.2.2.1, r256.2.2.2.2.2.2.2.2.2.1, (), r256.2.2.2.2.2.2.2.2.2.2.2.1, r256.2.2.2.2.2.2.2.2.2.2.2.2.1, r256.2.2.2.2.2.2.2.2.2.2.2.2.2.1, x257, x261, x262, (), r256.2.2.2.2.2.2.2.2.2.2.2.2.2.2.2.2.2.2.1, ()) else nx253 (r256.1, r256.2.1, r256.2.2.1, r256.2.2.2.1, r256.2.2.2.2.1, r256.2.2.2.2.2.1, r256.2.2.2.2.2.2.1, r256.2.2.2.2.2.2.2.1, r256.2.2.2.2.2.2.2.2.1, r256.2.2.2.2.2.2.2.2.2.1, (), r256.2.2.2.2.2.2.2.2.2.2.2.1, r256.2.2.2.2.2.2.2.2.2.2.2.2.1, r256.2.2.2.2.2.2.2.2.2.2.2.2.2.1, (), (), (), (), r256.2.2.2.2.2.2.2.2.2.2.2.2.2.2.2.2.2.2.1, ()); if (decide (r251.2.2.2.2.2.2.2.2.2.2.2.2.2.1 < (200 : Int))) = true then (m_law_blocks r251.2.2.1 r251.2.2.2.1 r251.2.2.2.2.1 r251.2.2.2.2.2.2.2.2.2.2.2.2.1).bind fun x270 => k254 (!decide (x270 = [])) (r251.1, r251.2.1, r251.2.2.1, r251.2.2.2.1, r251.2.2.2.2.1, r251.2.2.2.2.2.1, r251.2.2.2.2.2.2.1, r251.2.2.2.2.2.2.2.1, r251.2.2.2.2.2.2.2.2.1, r251.2.2.2.2.2.2.2.2.2.1, (), r251.2.2.2.2.2.2.2.2.2.2.2.1, r251.2.2.2.2.2.2.2.2.2.2.2.2.1, r251.2.2.2.2.2.2.2.2.2.2.2.2.2.1, (), (), (), (), r251.2.2.2.2.2.2.2.2.2.2.2.2.2.2.2.2.2.2.1, ()) else k254 false (r251.1, r251.2.1, r251.2.2.1, r251.2.2.2.1, r251.2.2.2.2.1, r251.2.2.2.2.2.1, r251.2.2.2.2.2.2.1, r251.2.2.2.2.2.2.2.1, r251.2.2.2.2.2.2.2.2.1, r251.2.2.2.2.2.2.2.2.2.1, (), r251.2.2.2.2.2.2.2.2.2.2.2.1, r251.2.2.2.2.2.2.2.2.2.2.2.2.1, r251.2.2.2.2.2.2.2.2.2.2.2.2.2.1, (), (), (), (), r251.2.2.2.2.2.2.2.2.2.2.2.2.2.2.2.2.2.2.1, ())) 100000 (r.1, r.2.1, r.2.2.1, r.2.2.2.1, r.2.2.2.2.1, r.2.2.2.2.2.1, r.2.2.2.2.2.2.1, r.2.2.2.2.2.2.2.1, r.2.2.2.2.2.2.2.2.1, r.2.2.2.2.2.2.2.2.2.1, (), r.2.2.2.2.2.2.2.2.2.2.2.1, r.2.2.2.2.2.2.2.2.2.2.2.2.1, r.2.2.2.2.2.2.2.2.2.2.2.2.2.1, (), (), (), (), r.2.2.2.2.2.2.2.2.2.2.2.2.2.2.2.2.2.2.1, ())
def m_law_s8 {R : Type} (nx : (List Int) × (List Int) × (List (List Int)) × (List (List Int)) × (List Int) × A_Market × (List (List (Option Int))) × (List (List (Option Int))) × (List (Option Int)) × (List Int) × Unit × ((List (Option Int)) ⊕ Wrd) × (List (Option Int)) × Int × Unit × Unit × Unit × Unit × Unit × Unit → Pu.Res R) (rt : Bool → Pu.Res R) (r : (List Int) × (List Int) × (List (List Int)) × (List (List Int)) × (List Int) × A_Market × (List (List (Option Int))) × (List (List (Option Int))) × (List (Option Int)) × (List Int) × Unit × ((List (Option Int)) ⊕ Wrd) × (List (Option Int)) × Int × Unit × Unit × Unit × Unit × Unit × Unit) : Pu.Res R := let k271 := fun (x272 : Bool) (r273 : (List Int) × (List Int) × (List (List Int)) × (List (List Int)) × (List Int) × A_Market × (List (List (Option Int))) × (List (List (Option Int))) × (List (Option Int)) × (List Int) × Unit × ((List (Option Int)) ⊕ Wrd) × (List (Option Int)) × Int × Unit × Unit × Unit × Unit × Unit × Unit) => if x272 = true then rt false else nx (r273.1, r273.2.1, r273.2.2.1, r273.2.2.2.1, r273.2.2.2.2.1, r273.2.2.2.2.2.1, r273.2.2.2.2.2.2.1, r273.2.2.2.2.2.2.2.1, r273.2.2.2.2.2.2.2.2.1, r273.2.2.2.2.2.2.2.2.2.1, (), r273.2.2.2.2.2.2.2.2.2.2.2.1, r273.2.2.2.2.2.2.2.2.2.2.2.2.1, r273.2.2.2.2.2.2.2.2.2.2.2.2.2.1, (), (), (), (), r273.2.2.2.2.2.2.2.2.2.2.2.2.2.2.2.2.2.2.1, ()); let k274 := fun (x275 : ((List (Option Int)) ⊕ Wrd)) (r276 : (List Int) × (List Int) × (List (List Int)) × (List (List Int)) × (List Int) × A_Market × (List (List (Option Int))) × (List (List (Option Int))) × (List (Option Int)) × (List Int) × Unit × ((List (Option Int)) ⊕ Wrd) × (List (Option Int)) × Int × Unit × Unit × Unit × Unit × Unit × Unit) => if (!decide (r.2.2.2.2.2.2.2.2.2.2.2.1 = x275)) = true then k271 true (r276.1, r276.2.1, r276.2.2.1, r276.2.2.2.1, r276.2.2.2.2.1, r276.2.2.2.2.2.1, r276.2.2.2.2.2.2.1, r276.2.2.2.2.2.2.2.1, r276.2.2.2.2.2.2.2.2.1, r276.2.2.2.2.2.2.2.2.2.1, (), r276.2.2.2.2.2.2.2.2.2.2.2.1, r276.2.2.2.2.2.2.2.2.2.2.2.2.1, r276.2.2.2.2.2.2.2.2.2.2.2.2.2.1, (), (), (), (), r276.2.2.2.2.2.2.2.2.2.2.2.2.2.2.2.2.2.2.1, ()) else if (!decide (r276.2.2.2.2.2.2.2.2.2.2.2.1 = (Sum.inr (wrd "size") : ((List (Option Int)) ⊕ Wrd)))) = true then k271 (!isIn inferInstance r276.2.2.2.2.2.2.2.2.2.2.2.1 (r276.2.2.2.2.2.2.2.1.map Sum.inl)) (r276.1, r276.2.1, r276.2.2.1, r276.2.2.2.1, r276.2.2.2.2.1, r276.2.2.2.2.2.1, r276.2.2.2.2.2.2.1, r276.2.2.2.2.2.2.2.1, r276.2.2.2.2.2.2.2.2.1, r276.2.2.2.2.2.2.2.2.2.1, (), r276.2.2.2.2.2.2.2.2.2.2.2.1, r276.2.2.2.2.2.2.2.2.2.2.2.2.1, r276.2.2.2.2.2.2.2.2.2.2.2.2.2.1, (), (), (), (), r276.2.2.2.2.2.2.2.2.2.2.2.2.2.2.2.2.2.2.1, ()) else k271 false (r276.1, r276.2.1, r276.2.2.1, r276.2.2.2.1, r276.2.2.2.2.1, r276.2.2.2.2.2.1, r276.2.2.2.2.2.2.1, r276.2.2.2.2.2.2.2.1, r276.2.2.2.2.2.2.2.2.1, r276.2.2.2.2.2.2.2.2.2.1, (), r276.2.2.2.2.2.2.2.2.2.2.2.1, r276.2.2.2.2.2.2.2.2.2.2.2.2.1, r276.2.2.2.2.2.2.2.2.2.2.2.2.2.1, (), (), (), (), r276.2.2.2.2.2.2.2.2.2.2.2.2.2.2.2.2.2.2.1, ()); if (decide (r.2.2.2.2.2.2.2.2.2.2.2.2.2.1 < (200 : Int))) = true then k274 (Sum.inl r.2.2.2.2.2.2.2.2.2.2.2.2.1 : ((List (Option Int)) ⊕ Wrd)) (r.1, r.2.1, r.2.2.1, r.2.2.2.1, r.2.2.2.2.1, r.2.2.2.2.2.1, r.2.2.2.2.2.2.1, r.2.2.2.2.2.2.2.1, r.2.2.2.2.2.2.2.2.1, r.2.2.2.2.2.2.2.2.2.1, (), r.2.2.2.2.2.2.2.2.2.2.2.1, r.2.2.2.2.2.2.2.2.2.2.2.2.1, r.2.2.2.2.2.2.2.2.2.2.2.2.2.1, (), (), (), (), r.2.2.2.2.2.2.2.2.2.2.2.2.2.2.2.2.2.2.1, ()) else k274 (Sum.inr (wrd "size") : ((List (Option Int)) ⊕ Wrd)) (r.1, r.2.1, r.2.2.1, r.2.2.2.1, r.2.2.2.2.1, r.2.2.2.2.2.1, r.2.2.2.2.2.2.1, r.2.2.2.2.2.2.2.1, r.2.2.2.2.2.2.2.2.1, r.2.2.2.2.2.2.2.2.2.1, (), r.2.2.2.2.2.2.2.2.2.2.2.1, r.2.2.2.2.2.2.2.2.2.2.2.2.1, r.2.2.2.2.2.2.2.2.2.2.2.2.2.1, (), (), (), (), r.2.2.2.2.2.2.2.2.2.2.2.2.2.2.2.2.2.2.1, ())
def m_law_s9 {R : Type} (nx : (List Int) × (List Int) × (List (List Int)) × (List (List Int)) × (List Int) × A_Market × (List (List (Option Int))) × (List (List (Option Int))) × (List (Option Int)) × (List Int) × Unit × ((List (Option Int)) ⊕ Wrd) × (List (Option Int)) × Int × Unit × Unit × Unit × (List (Option Int)) × Unit × Unit → Pu.Res R) (rt : Bool → Pu.Res R) (r : (List Int) × (List Int) × (List (List Int)) × (List (List Int)) × (List Int) × A_Market × (List (List (Option Int))) × (List (List (Option Int))) × (List (Option Int)) × (List Int) × Unit × ((List (Option Int)) ⊕ Wrd) × (List (Option Int)) × Int × Unit × Unit × Unit × Unit × Unit × Unit) : Pu.Res R := (m_law_roll r.2.1 (r.2.2.2.2.2.2.2.1.length : Int)).bind fun x277 => opt (L2.atI r.2.2.2.2.2.2.2.1 x277.1) fun x278 => nx (r.1, x277.2, r.2.2.1, r.2.2.2.1, r.2.2.2.2.1, r.2.2.2.2.2.1, r.2.2.2.2.2.2.1, r.2.2.2.2.2.2.2.1, r.2.2.2.2.2.2.2.2.1, r.2.2.2.2.2.2.2.2.2.1, (), r.2.2.2.2.2.2.2.2.2.2.2.1, r.2.2.2.2.2.2.2.2.2.2.2.2.1, r.2.2.2.2.2.2.2.2.2.2.2.2.2.1, (), (), (), x278, r.2.2.2.2.2.2.2.2.2.2.2.2.2.2.2.2.2.2.1, ())
def m_law_s10 {R : Type} (nx : (List Int) × (List Int) × (List (List Int)) × (List (List Int)) × (List Int) × A_Market × (List (List (Option Int))) × (List (List (Option Int))) × (List (Option Int)) × (List Int) × Unit × ((List (Option Int)) ⊕ Wrd) × (List (Option Int)) × Int × Unit × Unit × Unit × (List (Option Int)) × Unit × Unit → Pu.Res R) (rt : Bool → Pu.Res R) (r : (List Int) × (List Int) × (List (List Int)) × (List (List Int)) × (List Int) × A_Market × (List (List (Option Int))) × (List (List (Option Int))) × (List (Option Int)) × (List Int) × Unit × ((List (Option Int)) ⊕ Wrd) × (List (Option Int)) × Int × Unit × Unit × Unit × (List (Option Int)) × Unit × Unit) : Pu.Res R := (m_by_blocks r.2.2.2.2.2.1 r.2.2.2.2.2.2.2.2.2.2.2.2.2.2.2.2.2.1 r.2.2.2.2.2.2.2.2.2.1 (200 : Int)).bind fun x279 => if (!decide (x279 = r.2.2.2.2.2.2.2.2.2.2.2.2.2.2.2.2.2.1)) = true then rt false else nx (r.1, r.2.1, r.2.2.1, r.2.2.2.1, r.2.2.2.2.1, r.2.2.2.2.2.1, r.2.2.2.2.2.2.1, r.2.2.2.2.2.2.2.1, r.2.2.2.2.2.2.2.2.1, r.2.2.2.2.2.2.2.2.2.1, (), r.2.2.2.2.2.2.2.2.2.2.2.1, r.2.2.2.2.2.2.2.2.2.2.2.2.1, r.2.2.2.2.2.2.2.2.2.2.2.2.2.1, (), (), (), r.2.2.2.2.2.2.2.2.2.2.2.2.2.2.2.2.2.1, r.2.2.2.2.2.2.2.2.2.2.2.2.2.2.2.2.2.2.1, ())
def m_law (a_script : (List Int)) : Pu.Res Bool := let nx280 := fun (r281 : (List Int) × (List Int) × (List (List Int)) × (List (List Int)) × (List Int) × A_Market × (List (List (Option Int))) × (List (List (Option Int))) × (List (Option Int)) × (List Int) × Unit × ((List (Option Int)) ⊕ Wrd) × (List (Option Int)) × Int × Unit × Unit × Unit × (List (Option Int)) × Unit × Unit) => .ok true; (m_law_rounds a_script (1 : Int)).bind fun x292 => m_law_s0 (fun (r291 : (List Int) × (List Int) × (List (List Int)) × (List (List Int)) × (List Int) × Unit × Unit × Unit × Unit × Unit × Unit × Unit × Unit × Unit × Unit × Unit × Unit × Unit × Unit × Unit) => m_law_s1 (fun (r290 : (List Int) × (List Int) × (List (List Int)) × (List (List Int)) × (List Int) × A_Market × (List (List (Option Int))) × Unit × Unit × Unit × Unit × Unit × Unit × Unit × Unit × Unit × Unit × Unit × Unit × Unit) => m_law_s2 (fun (r289 : (List Int) × (List Int) × (List (List Int)) × (List (List Int)) × (List Int) × A_Market × (List (List (Option Int))) × (List (List (Option Int))) × Unit × Unit × Unit × Unit × Unit × Unit × Unit × Unit × Unit × Unit × Unit × Unit) => m_law_s3 (fun (r288 : (List Int) × (List Int) × (List (List Int)) × (List (List Int)) × (List Int) × A_Market × (List (List (Option Int))) × (List (List (Option Int))) × (List (Option Int)) × Unit × Unit × Unit × Unit × Unit × Unit × Unit × Unit × Unit × Unit × Unit) => m_law_s4 (fun (r287 : (List Int) × (List Int) × (List (List Int)) × (List (List Int)) × (List Int) × A_Market × (List (List (Option Int))) × (List (List (Option Int))) × (List (Option Int)) × (List Int) × Unit × Unit × Unit × Unit × Unit × Unit × Unit × Unit × Unit × Unit) => m_law_s5 (fun (r286 : (List Int) × (List Int) × (List (List Int)) × (List (List Int)) × (List Int) × A_Market × (List (List (Option Int))) × (List (List (Option Int))) × (List (Option Int)) × (List Int) × Unit × ((List (Option Int)) ⊕ Wrd) × Unit × Unit × Unit × Unit × Unit × Unit × Unit × Unit) => m_law_s6 (fun (r285 : (List Int) × (List Int) × (List (List Int)) × (List (List Int)) × (List Int) × A_Market × (List (List (Option Int))) × (List (List (Option Int))) × (List (Option Int)) × (List Int) × Unit × ((List (Option Int)) ⊕ Wrd) × (List (Option Int)) × Int × Unit × Unit × Unit × Unit × Unit × Unit) => m_law_s7 (fun (r284 : (List Int) × (List Int) × (List (List Int)) × (List (List Int)) × (List Int) × A_Market × (List (List (Option Int))) × (List (List (Option Int))) × (List (Option Int)) × (List Int) × Unit × ((List (Option Int)) ⊕ Wrd) × (List (Option Int)) × Int × Unit × Unit × Unit × Unit × Unit × Unit) => m_law_s8 (fun (r283 : (List Int) × (List Int) × (List (List Int)) × (List (List Int)) × (List Int) × A_Market × (List (List (Option Int))) × (List (List (Option Int))) × (List (Option Int)) × (List Int) × Unit × ((List (Option Int)) ⊕ Wrd) × (List (Option Int)) × Int × Unit × Unit × Unit × Unit × Unit × Unit) => m_law_s9 (fun (r282 : (List Int) × (List Int) × (List (List Int)) × (List (List Int)) × (List Int) × A_Market × (List (List (Option Int))) × (List (List (Option Int))) × (List (Option Int)) × (List Int) × Unit × ((List (Option Int)) ⊕ Wrd) × (List (Option Int)) × Int × Unit × Unit × Unit × (List (Option Int)) × Unit × Unit) => m_law_s10 nx280 (fun x => .ok x) r282) (fun x => .ok x) r283) (fun x => .ok x) r284) (fun x => .ok x) r285) (fun x => .ok x) r286) (fun x => .ok x) r287) (fun x => .ok x) r288) (fun x => .ok x) r289) (fun x => .ok x) r290) (fun x => .ok x) r291) (fun x => .ok x) (a_script, x292, (), (), (), (), (), (), (), (), (), (), (), (), (), (), (), (), (), ())
def d_0 : He.DefD := ⟨("_law_told", none), "_law_told", "_law_told", defArgs s_law_told, defBody s_law_told, defScope s_law_told, [], []⟩
def d_1 : He.DefD := ⟨("_law_dice", none), "_law_dice", "_law_dice", defArgs s_law_dice, defBody s_law_dice, defScope s_law_dice, [], []⟩
def d_2 : He.DefD := ⟨("_law_rounds", none), "_law_rounds", "_law_rounds", defArgs s_law_rounds, defBody s_law_rounds, defScope s_law_rounds, [], []⟩
def d_3 : He.DefD := ⟨("_law_roll", none), "_law_roll", "_law_roll", defArgs s_law_roll, defBody s_law_roll, defScope s_law_roll, [], []⟩
def d_4 : He.DefD := ⟨("_law_list", none), "_law_list", "_law_list", defArgs s_law_list, defBody s_law_list, defScope s_law_list, [], []⟩
def d_5 : He.DefD := ⟨("_law_place", none), "_law_place", "_law_place", defArgs s_law_place, defBody s_law_place, defScope s_law_place, [], []⟩
def d_6 : He.DefD := ⟨("Wish", some "__init__"), "__init__", "Wish.__init__", defArgs s_Wish_init, defBody s_Wish_init, defScope s_Wish_init, [], []⟩
def d_7 : He.DefD := ⟨("Wish", some "has"), "has", "Wish.has", defArgs s_Wish_has, defBody s_Wish_has, defScope s_Wish_has, [], []⟩
def d_8 : He.DefD := ⟨("Wish", some "rank"), "rank", "Wish.rank", defArgs s_Wish_rank, defBody s_Wish_rank, defScope s_Wish_rank, [], []⟩
def d_9 : He.DefD := ⟨("Wish", some "better"), "better", "Wish.better", defArgs s_Wish_better, defBody s_Wish_better, defScope s_Wish_better, [], []⟩
def d_10 : He.DefD := ⟨("Wish", some "ahead_of"), "ahead_of", "Wish.ahead_of", defArgs s_Wish_ahead_of, defBody s_Wish_ahead_of, defScope s_Wish_ahead_of, [], []⟩
def d_11 : He.DefD := ⟨("Wish", some "worst"), "worst", "Wish.worst", defArgs s_Wish_worst, defBody s_Wish_worst, defScope s_Wish_worst, [], []⟩
def d_12 : He.DefD := ⟨("check_list", none), "check_list", "check_list", defArgs s_check_list, defBody s_check_list, defScope s_check_list, [], []⟩
def d_13 : He.DefD := ⟨("Market", some "__init__"), "__init__", "Market.__init__", defArgs s_Market_init, defBody s_Market_init, defScope s_Market_init, [], []⟩
def d_14 : He.DefD := ⟨("those_in", none), "those_in", "those_in", defArgs s_those_in, defBody s_those_in, defScope s_those_in, [], []⟩
def d_15 : He.DefD := ⟨("has_free_seat", none), "has_free_seat", "has_free_seat", defArgs s_has_free_seat, defBody s_has_free_seat, defScope s_has_free_seat, [], []⟩
def d_16 : He.DefD := ⟨("first_to_go", none), "first_to_go", "first_to_go", defArgs s_first_to_go, defBody s_first_to_go, defScope s_first_to_go, [], []⟩
def d_17 : He.DefD := ⟨("would_take", none), "would_take", "would_take", defArgs s_would_take, defBody s_would_take, defScope s_would_take, [], []⟩
def d_18 : He.DefD := ⟨("blocks", none), "blocks", "blocks", defArgs s_blocks, defBody s_blocks, defScope s_blocks, [], []⟩
def d_19 : He.DefD := ⟨("settled", none), "settled", "settled", defArgs s_settled, defBody s_settled, defScope s_settled, [], []⟩
def d_20 : He.DefD := ⟨("by_blocks", none), "by_blocks", "by_blocks", defArgs s_by_blocks, defBody s_by_blocks, defScope s_by_blocks, [.int 200], []⟩
def d_21 : He.DefD := ⟨("_law_matches", none), "_law_matches", "_law_matches", defArgs s_law_matches, defBody s_law_matches, defScope s_law_matches, [], []⟩
def d_22 : He.DefD := ⟨("_law_blocks", none), "_law_blocks", "_law_blocks", defArgs s_law_blocks, defBody s_law_blocks, defScope s_law_blocks, [], []⟩
def d_23 : He.DefD := ⟨("_law_stable", none), "_law_stable", "_law_stable", defArgs s_law_stable, defBody s_law_stable, defScope s_law_stable, [], []⟩
def d_24 : He.DefD := ⟨("_law_market", none), "_law_market", "_law_market", defArgs s_law_market, defBody s_law_market, defScope s_law_market, [], []⟩
def d_25 : He.DefD := ⟨("law", none), "law", "law", defArgs s_law, defBody s_law, defScope s_law, [], []⟩
def fn : List He.DefD := [d_0, d_1, d_2, d_3, d_4, d_5, d_6, d_7, d_8, d_9, d_10, d_11, d_12, d_13, d_14, d_15, d_16, d_17, d_18, d_19, d_20, d_21, d_22, d_23, d_24, d_25]
def fa : List He.Fa := [.glo "BadDeed", .glo "NoSuch", .glo "BadStore", .glo "BadText", .glo "BadSize", .glo "BadPaper", .glo "BadMatch", .glo "BadRoom", .glo "BadWish", .exm "BadWish" "BadWish" true, .exm "BadRoom" "BadRoom" true, .exm "BadRoom" "BadWish" false, .exm "BadSize" "BadSize" true, .exm "BadSize" "BadPaper" false, .exm "BadSize" "BadMatch" false, .exm "BadSize" "BadRoom" false, .exm "BadSize" "BadWish" false, .free "abs", .free "int", .glo "_law_dice", .free "list", .free "range", .glo "_law_roll", .free "len", .free "tuple", .cls "Wish", .noat "Wish" "order", .free "enumerate", .noat "Wish" "ranks", .meth "Wish" "rank", .meth "Wish" "better", .meth "Wish" "has", .free "max", .free "dict", .exc "BadWish", .free "any", .exc "BadRoom", .glo "check_list", .mkr "Wish", .glo "Wish", .cls "Market", .noat "Market" "askers", .noat "Market" "rooms", .noat "Market" "seats", .glo "those_in", .meth "Wish" "worst", .glo "has_free_seat", .glo "first_to_go", .meth "Wish" "ahead_of", .glo "would_take", .glo "blocks", .exc "BadSize", .glo "settled", .glo "_law_place", .glo "_law_matches", .glo "_law_blocks", .glo "_law_list", .glo "_law_rounds", .glo "_law_market", .mkr "Market", .glo "Market", .glo "_law_stable", .glo "by_blocks", .glo "_law_told", .glo "law"]
section
variable {P : Program} {w : World} {K : PySem.W.Frag} {mg : Str → Option Value} {base : Heap}
theorem tell {X : Cx} (T : Tx fa fn X.K X.mg) : Teller X "_law_told" (He.ga X.K "_law_told") (defArgs s_law_told) (defBody s_law_told) (defScope s_law_told) ["what"] "what" (TTm X.K (tellCs X.K)) :=
  ⟨T.c.def_ 0 (d := d_0) rfl, fun _ _ _ _ _ _ us hl => match us, hl with | [_], _ => rfl, sc_law_told, rfl, .inl rfl, fun q cdg => gives_many (cs := tellCs X.K) (.cons (by decide +kernel) (T.glo 8) (by decide) (.cons (by decide +kernel) (T.glo 7) (by decide) (.cons (by decide +kernel) (T.glo 6) (by decide) (.cons (by decide +kernel) (T.glo 5) (by decide) (.cons (by decide +kernel) (T.glo 4) (by decide) (.cons (by decide +kernel) (T.glo 3) (by decide) (.cons (by decide +kernel) (T.glo 2) (by decide) (.cons (by decide +kernel) (T.glo 1) (by decide) (.cons (by decide +kernel) (T.glo 0) (by decide) .nil))))))))) (fun _ => rfl)⟩
theorem tell_ok (T : Tx fa fn K mg) : ∀ n w, tellTab.lookup n = some w → ∀ k : Str → Prop, k w.1 → caught K (tellCs K) (xcK K n) k := by
  intro n w h k hk
  have h := lookup_in h
  unfold tellTab at h
  rcases List.mem_cons.mp h with e | h
  · cases e
    exact ⟨true, T.exm 9, (fun _ => hk), (fun z => nomatch z)⟩
  rcases List.mem_cons.mp h with e | h
  · cases e
    exact ⟨false, T.exm 11, (fun z => nomatch z), (fun _ => ⟨true, T.exm 10, (fun _ => hk), (fun z => nomatch z)⟩)⟩
  rcases List.mem_cons.mp h with e | h
  · cases e
    exact ⟨false, T.exm 16, (fun z => nomatch z), (fun _ => ⟨false, T.exm 15, (fun z => nomatch z), (fun _ => ⟨false, T.exm 14, (fun z => nomatch z), (fun _ => ⟨false, T.exm 13, (fun z => nomatch z), (fun _ => ⟨true, T.exm 12, (fun _ => hk), (fun z => nomatch z)⟩)⟩)⟩)⟩)⟩
  cases h
theorem ok_law_dice (T : Tx fa fn K mg) : OkF P w K mg base 1 (He.ga K "_law_dice") ["cell"] (spN (xcK K) [dInt] (mLst dInt) (fun x => m_law_dice x.1)) := by
  refine okF (T.c.def_ 1 (d := d_1) rfl) sc_law_dice (lenN rfl) (fun _ _ _ _ _ _ us hl => match us, hl with | [_], _ => rfl) ?_
  intro cdv A outer s H E hr
  refine ⟨_, (pss_cons (ps_if (pt_chain op_lt op_lt (pe_op op_sub pe_int pe_int) (pv 0) pe_int) (pss_one (ps_ret (pe_lst (pa_cons (pe_callB call_abs (by rfl) (T.free 17) (by decide +kernel) (pa_cons (pv 0) pa_nil)) (pa_cons pe_int (pa_cons pe_int pa_nil)))))) pss_nil) (pss_one (ps_ret (pe_lst (pa_cons (pv 0) (pa_cons (pe_op op_add pe_int (pe_op op_mod (pe_callTy call_int1 (by rfl) (T.free 18) (by decide +kernel) (pa_cons (pv 0) pa_nil)) pe_int)) (pa_cons (pe_callTy call_int1 (by rfl) (T.free 18) (by decide +kernel) (pa_cons (pe_cmpR op_ge (pv 0) (pe_op op_pow pe_int pe_int) (nomark _)) pa_nil)) pa_nil))))))), ?_⟩
  intro vs Q h
  refine run_N (Γe := []) (cs := [dInt]) (n := 0) (T := ?T) rfl ?h ?f vs H Q h
  case h => exact (Pu.st_seq (Pu.st_if (p := false) (Pu.et_test (Pu.ev_chain Pu.o_cmp Pu.o_cmp (Pu.ev_op Pu.o_int (Pu.ev_c (c := dInt) (x := 0) fun _ => rfl) (Pu.ev_c (c := dInt) (x := 10) fun _ => rfl)) (Pu.ev_var .z) (Pu.ev_c (c := dInt) (x := 10) fun _ => rfl))) (Pu.st_retNew (p := false) (Pu.en_lst (c := dInt) 3 (by decide) (Pu.ea_cons (Pu.ev_b1 Pu.o_abs (Pu.ev_var .z)) (Pu.ea_cons (Pu.ev_c (c := dInt) (x := 0) fun _ => rfl) (Pu.ea_cons (Pu.ev_c (c := dInt) (x := 2) fun _ => rfl) Pu.ea_nil))))) Pu.st_next) (Pu.st_retNew (p := false) (Pu.en_lst (c := dInt) 3 (by decide) (Pu.ea_cons (Pu.ev_var .z) (Pu.ea_cons (Pu.ev_op Pu.o_int (Pu.ev_c (c := dInt) (x := 1) fun _ => rfl) (Pu.ev_opP Pu.o_mod (Pu.ev_b1 Pu.o_intI (Pu.ev_var .z)) (Pu.ev_c (c := dInt) (x := 1009) fun _ => rfl))) (Pu.ea_cons (Pu.ev_b1 Pu.o_intB (Pu.ev_op Pu.o_cmp (Pu.ev_var .z) (Pu.ev_opP Pu.o_pow (Pu.ev_c (c := dInt) (x := 10) fun _ => rfl) (Pu.ev_c (c := dInt) (x := 18) fun _ => rfl)))) Pu.ea_nil))))))
  case f => intros; kernel_rfl
theorem ok_law_rounds (T : Tx fa fn K mg) : OkF P w K mg base 2 (He.ga K "_law_rounds") ["script", "most_now"] (spN (xcK K) [(dScr K), dInt] (mOne (mLst dInt)) (fun x => m_law_rounds x.1 x.2.1)) := by
  refine okF (T.c.def_ 2 (d := d_2) rfl) sc_law_rounds (lenN rfl) (fun _ _ _ _ _ _ us hl => match us, hl with | [_, _], _ => rfl) ?_
  intro cdv A outer s H E hr
  refine ⟨_, (pss_cons (ps_set (i := 2) sc_law_rounds.nd (by rfl) (by first | exact Or.inl rfl | exact Or.inr rfl) (pe_slice (Pu.sl_listK (K := K)) (pv 0) po_none (po_some (pv 1)))) (pss_cons (ps_if (pt_cmpR (Pu.op_eqDK (K := K) hr.units) (pv 2) (pe_lst pa_nil) (nomark _)) (pss_one (ps_set (i := 2) sc_law_rounds.nd (by rfl) (by first | exact Or.inl rfl | exact Or.inr rfl) (pe_lst (pa_cons pe_int pa_nil)))) pss_nil) (pss_one (ps_ret (pe_lc (own := [("cell", 3)]) (by rfl) sc_law_rounds.nd (Pu.pi_listK (K := K) (pv 2)) (blkOk_by (N := ["script", "most_now", "cells", "cell"]) (sc := defScope s_law_rounds) (by decide +kernel)) (fun _ _ _ _ _ => (pg_name (i := 3) sc_law_rounds.nd (by rfl) (by first | exact Or.inl rfl | exact Or.inr rfl))) (fun _ _ _ _ _ => pts_nil) (fun _ _ _ _ _ => (pcall (ok_law_dice T) hr (by decide) (T.glo 19) passL (pa_cons (pv 3) pa_nil)))))))), ?_⟩
  intro vs Q h
  refine run_N (Γe := []) (cs := [(dScr K), dInt]) (n := 2) (T := ?T) rfl ?h ?f vs H Q h
  case h => exact (Pu.st_seq (Pu.st_set (p := false) (.s (.s (.z))) (Pu.freeze (c := dInt) (Pu.en_slScr (Pu.ev_var .z) Pu.eo_no (Pu.eo_some (Pu.ev_var (.s (.z))))))) (Pu.st_seq (Pu.st_if (p := false) (Pu.et_test (Pu.ev_op (Pu.o_eq (dqLst dqInt) (by decide)) (Pu.ev_var (.s (.s (.z)))) (Pu.freeze Pu.en_nil))) (Pu.st_set (p := false) (.s (.s (.z))) (Pu.freeze (c := dInt) (Pu.en_lst (c := dInt) 1 (by decide) (Pu.ea_cons (Pu.ev_c (c := dInt) (x := 0) fun _ => rfl) Pu.ea_nil)))) Pu.st_next) (Pu.st_retNew (p := false) (Pu.en_lc1 (vs := [3]) (Γ1 := [.da (dScr K), .da dInt, .da (dLst dInt), .da dInt]) (by rfl) (by decide) (Bk.drop Bk.id (.s (.s (.s (.z))))) (Pu.ei_list (Pu.ev_var (.s (.s (.z))))) (Pu.tg_name (.s (.s (.s (.z))))) (Pu.ev_callN (Pu.ea_cons (Pu.ev_var (.s (.s (.s (.z))))) Pu.ea_nil))))))
  case f => intros; kernel_rfl
theorem ok_law_roll (T : Tx fa fn K mg) : OkF P w K mg base 1 (He.ga K "_law_roll") ["dice", "many"] (spM (xcK K) (mLst dInt) [dInt] dInt (fun y x => m_law_roll y x.1)) := by
  refine okF (T.c.def_ 3 (d := d_3) rfl) sc_law_roll (lenM rfl) (fun _ _ _ _ _ _ us hl => match us, hl with | [_, _], _ => rfl) ?_
  intro cdv A outer s H E hr
  refine ⟨_, (pss_cons (ps_if (PW.pt (pw_or (pt_cmpR (Pu.op_eqDK (K := K) hr.units) (pe_ix (Pu.ix_listK (K := K)) (pv 0) pe_int (fun _ _ => rfl)) pe_int (nomark _)) (pw_or1 (PW.pt (pw_and (pt_cmpR (Pu.op_eqDK (K := K) hr.units) (pe_ix (Pu.ix_listK (K := K)) (pv 0) pe_int (fun _ _ => rfl)) pe_int (nomark _)) (pw_and1 (pt_cmpR op_gt (pe_ix (Pu.ix_listK (K := K)) (pv 0) pe_int (fun _ _ => rfl)) pe_int (nomark _)))))))) (pss_cons (ps_set (i := 2) sc_law_roll.nd (by rfl) (by first | exact Or.inl rfl | exact Or.inr rfl) (pe_op op_mod (pe_callTy call_int1 (by rfl) (T.free 18) (by decide +kernel) (pa_cons (pe_ix (Pu.ix_listK (K := K)) (pv 0) pe_int (fun _ _ => rfl)) pa_nil)) (pv 1))) (pss_cons (ps_asg (pe_op op_fdiv (pe_ix (Pu.ix_listK (K := K)) (pv 0) pe_int (fun _ _ => rfl)) (pv 1)) (pg_sub (pv 0) pe_int set_list)) (pss_one (ps_ret (pv 2))))) pss_nil) (pss_cons (ps_asg pe_int (pg_sub (pv 0) pe_int set_list)) (pss_cons (ps_asg (pe_op op_mod (pe_callTy call_int1 (by rfl) (T.free 18) (by decide +kernel) (pa_cons (pe_op op_add (pe_op op_add (pe_op op_mul (pe_ix (Pu.ix_listK (K := K)) (pv 0) pe_int (fun _ _ => rfl)) pe_int) (pe_op op_mul (pe_ix (Pu.ix_listK (K := K)) (pv 0) pe_int (fun _ _ => rfl)) pe_int)) pe_int) pa_nil)) pe_int) (pg_sub (pv 0) pe_int set_list)) (pss_cons (ps_asg (pe_op op_add (pe_ix (Pu.ix_listK (K := K)) (pv 0) pe_int (fun _ _ => rfl)) pe_int) (pg_sub (pv 0) pe_int set_list)) (pss_one (ps_ret (pe_op op_mod (pe_callTy call_int1 (by rfl) (T.free 18) (by decide +kernel) (pa_cons (pe_op op_add (pe_op op_fdiv (pe_ix (Pu.ix_listK (K := K)) (pv 0) pe_int (fun _ _ => rfl)) pe_int) (pe_ix (Pu.ix_listK (K := K)) (pv 0) pe_int (fun _ _ => rfl))) pa_nil)) (pv 1)))))))), ?_⟩
  intro vs Q h
  refine run_M (Γe := []) (cs := [dInt]) (n := 1) (T := ?T) rfl ?h ?f vs H Q h
  case h => exact (Pu.st_seq (Pu.st_if (p := false) (Pu.et_or (Pu.et_test (Pu.ev_op (Pu.o_eq dqInt (by decide)) (Pu.ev_ixM .z (Pu.ev_c (c := dInt) (x := 2) fun _ => rfl)) (Pu.ev_c (c := dInt) (x := 2) fun _ => rfl))) (Pu.et_and (Pu.et_test (Pu.ev_op (Pu.o_eq dqInt (by decide)) (Pu.ev_ixM .z (Pu.ev_c (c := dInt) (x := 2) fun _ => rfl)) (Pu.ev_c (c := dInt) (x := 1) fun _ => rfl))) (Pu.et_test (Pu.ev_op Pu.o_cmp (Pu.ev_ixM .z (Pu.ev_c (c := dInt) (x := 0) fun _ => rfl)) (Pu.ev_c (c := dInt) (x := 0) fun _ => rfl))))) (Pu.st_seq (Pu.st_set (p := false) (.s (.s (.z))) (Pu.ev_opP Pu.o_mod (Pu.ev_b1 Pu.o_intI (Pu.ev_ixM .z (Pu.ev_c (c := dInt) (x := 0) fun _ => rfl))) (Pu.ev_var (.s (.z))))) (Pu.st_seq (Pu.st_setIx (p := false) (by decide) .z (Pu.ev_opP Pu.o_fdiv (Pu.ev_ixM .z (Pu.ev_c (c := dInt) (x := 0) fun _ => rfl)) (Pu.ev_var (.s (.z)))) (Pu.ev_c (c := dInt) (x := 0) fun _ => rfl)) (Pu.st_ret (p := false) (prM .z) (Pu.ev_var (.s (.s (.z))))))) Pu.st_next) (Pu.st_seq (Pu.st_setIx (p := false) (by decide) .z (Pu.ev_c (c := dInt) (x := 0) fun _ => rfl) (Pu.ev_c (c := dInt) (x := 2) fun _ => rfl)) (Pu.st_seq (Pu.st_setIx (p := false) (by decide) .z (Pu.ev_opP Pu.o_mod (Pu.ev_b1 Pu.o_intI (Pu.ev_op Pu.o_int (Pu.ev_op Pu.o_int (Pu.ev_opP Pu.o_mul (Pu.ev_ixM .z (Pu.ev_c (c := dInt) (x := 0) fun _ => rfl)) (Pu.ev_c (c := dInt) (x := 48271) fun _ => rfl)) (Pu.ev_opP Pu.o_mul (Pu.ev_ixM .z (Pu.ev_c (c := dInt) (x := 1) fun _ => rfl)) (Pu.ev_c (c := dInt) (x := 69621) fun _ => rfl))) (Pu.ev_c (c := dInt) (x := 11) fun _ => rfl))) (Pu.ev_c (c := dInt) (x := 2147483647) fun _ => rfl)) (Pu.ev_c (c := dInt) (x := 0) fun _ => rfl)) (Pu.st_seq (Pu.st_setIx (p := false) (by decide) .z (Pu.ev_op Pu.o_int (Pu.ev_ixM .z (Pu.ev_c (c := dInt) (x := 1) fun _ => rfl)) (Pu.ev_c (c := dInt) (x := 1) fun _ => rfl)) (Pu.ev_c (c := dInt) (x := 1) fun _ => rfl)) (Pu.st_ret (p := false) (prM .z) (Pu.ev_opP Pu.o_mod (Pu.ev_b1 Pu.o_intI (Pu.ev_op Pu.o_int (Pu.ev_opP Pu.o_fdiv (Pu.ev_ixM .z (Pu.ev_c (c := dInt) (x := 0) fun _ => rfl)) (Pu.ev_c (c := dInt) (x := 7) fun _ => rfl)) (Pu.ev_ixM .z (Pu.ev_c (c := dInt) (x := 0) fun _ => rfl)))) (Pu.ev_var (.s (.z)))))))))
  case f => intros; kernel_rfl
theorem ok_law_list (T : Tx fa fn K mg) : OkF P w K mg base 2 (He.ga K "_law_list") ["dice", "many"] (spM (xcK K) (mLst dInt) [dInt] (dTuN dInt) (fun y x => m_law_list y x.1)) := by
  refine okF (T.c.def_ 4 (d := d_4) rfl) sc_law_list (lenM rfl) (fun _ _ _ _ _ _ us hl => match us, hl with | [_, _], _ => rfl) ?_
  intro cdv A outer s H E hr
  refine ⟨_, (pss_cons (ps_par (i := 2) (j := 3) rfl sc_law_list.nd rfl rfl (by decide) rfl rfl (pa_cons (pe_listRg (by rfl) (by rfl) (T.free 20) (prg_1 (by rfl) (T.free 21) (pv 1))) (pa_cons (pe_lst pa_nil) pa_nil)) (by rfl)) (pss_cons (ps_for poB (by rfl) (pi_range1 (by rfl) (T.free 21) (pa_cons (pcall (ok_law_roll T) hr (by decide) (T.glo 22) pxB (pa_cons (pv 0) (pa_cons (pe_op op_add (pv 1) pe_int) pa_nil))) pa_nil)) (pg_name (i := 4) sc_law_list.nd (by rfl) (by first | exact Or.inl rfl | exact Or.inr rfl)) (pss_cons (ps_set (i := 5) sc_law_list.nd (by rfl) (by first | exact Or.inl rfl | exact Or.inr rfl) (pe_ix (Pu.ix_listK (K := K)) (pv 2) (pcall (ok_law_roll T) hr (by decide) (T.glo 22) pxB (pa_cons (pv 0) (pa_cons (pe_callB (Pu.call_lenK (K := K)) (by rfl) (T.free 23) PySem.boot_len (pa_cons (pv 2) pa_nil)) pa_nil))) (fun _ _ => rfl))) (pss_cons (ps_expr (Pu.pe_bmK (K := K) PySem.F.plainAttrs_list PySem.F.slot_list_append PySem.F.type_list_append mt_append (pv 3) (pa_cons (pv 5) pa_nil))) (pss_one (ps_expr (Pu.pe_bmK (K := K) PySem.F.plainAttrs_list PySem.F.slot_list_remove PySem.F.type_list_remove mt_remove (pv 2) (pa_cons (pv 5) pa_nil))))))) (pss_one (ps_ret (Pu.pe_tupleNK (K := K) (by rfl) (T.free 24) (pv 3)))))), ?_⟩
  intro vs Q h
  refine run_M (Γe := []) (cs := [dInt]) (n := 4) (T := ?T) rfl ?h ?f vs H Q h
  case h => exact (Pu.st_seq (Pu.st_parNN (p := false) (.s (.s (.z))) (.s (.s (.s (.z)))) (Pu.en_listRg (Pu.ev_var (.s (.z)))) Pu.en_nil) (Pu.st_seq (Pu.st_for (p := false) (Γ' := [.m .pa (mLst dInt), .da dInt, .m .lo (mLst dInt), .m .lo (mLst dInt), .da dInt, .no]) (Pu.ei_rng1 (Pu.ea_cons (Pu.ev_callM (k := .pa) (by decide) .z (Pu.ea_cons (Pu.ev_op Pu.o_int (Pu.ev_var (.s (.z))) (Pu.ev_c (c := dInt) (x := 1) fun _ => rfl)) Pu.ea_nil)) Pu.ea_nil)) (Pu.tg_name (.s (.s (.s (.s (.z)))))) (Pu.st_post (Bk.drop (Bk.drop Bk.id (.s (.s (.s (.s (.s (.z))))))) (.s (.s (.s (.s (.z)))))) (Pu.st_seq (Pu.st_set (p := false) (.s (.s (.s (.s (.s (.z)))))) (Pu.ev_ixM (.s (.s (.z))) (Pu.ev_callM (k := .pa) (by decide) .z (Pu.ea_cons (Pu.ev_lenM (.s (.s (.z)))) Pu.ea_nil)))) (Pu.st_seq (Pu.st_app (p := false) (by decide) (.s (.s (.s (.z)))) (Pu.ev_var (.s (.s (.s (.s (.s (.z)))))))) (Pu.st_rem (p := false) (by decide) (.s (.s (.z))) (Pu.ev_var (.s (.s (.s (.s (.s (.z)))))))))))) (Pu.st_ret (p := false) (prM .z) (Pu.ev_tupNM (.s (.s (.s (.z))))))))
  case f => intros; kernel_rfl
theorem ok_law_place (T : Tx fa fn K mg) : OkF P w K mg base 1 (He.ga K "_law_place") ["order", "one"] (spD (xcK K) [(dTuN dInt), (dOpt dInt)] dInt (fun x => m_law_place x.1 x.2.1)) := by
  refine okF (T.c.def_ 5 (d := d_5) rfl) sc_law_place (lenD rfl) (fun _ _ _ _ _ _ us hl => match us, hl with | [_, _], _ => rfl) ?_
  intro cdv A outer s H E hr
  refine ⟨_, (pss_one (ps_ret (pe_ifExp (pt_cmpR (Pu.op_in_seqK (K := K)) (pv 1) (pv 0) rfl) (pe_bmT PySem.F.slot_tuple_index PySem.F.type_tuple_index (Pu.mt_indexTK (K := K)) (pv 0) (pa_cons (pv 1) pa_nil)) (pe_callB (Pu.call_lenK (K := K)) (by rfl) (T.free 23) PySem.boot_len (pa_cons (pv 0) pa_nil))))), ?_⟩
  intro vs Q h
  refine run_D (Γe := []) (cs := [(dTuN dInt), (dOpt dInt)]) (n := 0) (T := ?T) rfl ?h ?f vs H Q h
  case h => exact (Pu.st_ret (p := false) prD (Pu.ev_if (Pu.et_test (Pu.ev_op (Pu.o_inT flOI false) (Pu.ev_var (.s (.z))) (Pu.ev_sb Pu.sb_someT (Pu.ev_sb (Pu.sb_tun (c := dInt)) (Pu.ev_var .z))))) (Pu.ev_indexT flInt (Pu.ev_var .z) (Pu.ev_asP (fun x => x) Pu.o_someI (Pu.ev_var (.s (.z))))) (Pu.ev_b1 Pu.o_lenT (Pu.ev_sb (Pu.sb_tun (c := dInt)) (Pu.ev_var .z)))))
  case f => intros; kernel_rfl
theorem ok_Wish_init (T : Tx fa fn K mg) : OkF P w K mg base 1 (He.ma K (He.ga K "Wish") "__init__") ["self", "order"] (spI (xcK K) (He.ga K "Wish") nm_Wish ((fs_Wish K).map Sl.da) [(dTup dInt)] (fun x => m_Wish_init x.1)) := by
  refine okF (T.c.def_ 6 (d := d_6) rfl) sc_Wish_init (lenI rfl) (fun _ _ _ _ _ _ us hl => match us, hl with | [_, _], _ => rfl) ?_
  intro cdv A outer s H E hr
  refine ⟨_, (pss_cons (Pu.ps_fldK (K := K) (pv 0) (Pu.pe_tupleNK (K := K) (by rfl) (T.free 24) (pv 1)) rfl) (pss_one (Pu.ps_fldK (K := K) (pv 0) (pe_dc (own := [("place", 2), ("one", 3)]) (by rfl) sc_Wish_init.nd (Pu.pi_enumTK (K := K) (by rfl) (T.free 27) (pa_cons (Pu.pe_fldK (K := K) (pv 0) (by rfl)) pa_nil)) (blkOk_by (N := ["self", "order", "place", "one"]) (sc := defScope s_Wish_init) (by decide +kernel)) (fun _ _ _ _ _ => (Pu.pg_tupK (K := K) (n := 2) (by rfl) (pgs_cons (pg_name (i := 2) sc_Wish_init.nd (by rfl) (by first | exact Or.inl rfl | exact Or.inr rfl)) (pgs_cons (pg_name (i := 3) sc_Wish_init.nd (by rfl) (by first | exact Or.inl rfl | exact Or.inr rfl)) pgs_nil)))) (fun _ _ _ _ _ => pts_nil) (fun _ _ _ _ _ => (pv 3)) (fun _ _ _ _ _ => (pv 2))) rfl))), ?_⟩
  intro vs Q h
  refine run_I (Γe := [.m .pa (mObj (He.ga K "Wish") nm_Wish ((fs_Wish K).map Sl.da)), .da (dTup dInt), .no, .no]) (cs := [(dTup dInt)]) (n := 2) (T := ?T) rfl .z ?h ?f vs H Q h
  case h => exact (Pu.st_seq (Pu.st_fldD (p := false) (k := .pa) (names := []) (Γf := []) (f := "order") (by decide) .z (T.cls 25) (T.noat 26) (by decide +kernel) (by decide) (Pu.ev_1 Pu.o_tupNT (Pu.ev_var (.s (.z))))) (Pu.st_fldD (p := false) (k := .pa) (names := ["order"]) (Γf := [.da (dTup dInt)]) (f := "ranks") (by decide) .z (T.cls 25) (T.noat 28) (by decide +kernel) (by decide) (Pu.en_dc (q := false) (vs := [2, 3]) (Γ1 := [.m .pa (mObj (He.ga K "Wish") ["order"] [.da (dTup dInt)]), .da (dTup dInt), .da dInt, .da dInt]) (by rfl) (by decide) (Bk.drop (Bk.drop Bk.id (.s (.s (.z)))) (.s (.s (.s (.z))))) (Pu.ei_enumT (Pu.ea_cons (Pu.ev_fldM .z .z rfl (T.cls 25) (T.noat 26)) Pu.ea_nil)) (Pu.tg_p2 (Pu.tg_name (.s (.s (.z)))) (Pu.tg_name (.s (.s (.s (.z)))))) (Pu.ev_var (.s (.s (.s (.z))))) (Pu.ev_var (.s (.s (.z)))))))
  case f => intros; kernel_rfl
theorem ok_Wish_has (T : Tx fa fn K mg) : OkF P w K mg base 1 (He.ma K (He.ga K "Wish") "has") ["self", "one"] (spD (xcK K) [(dI_Wish K), dInt] dBl (fun x => m_Wish_has x.1 x.2.1)) := by
  refine okF (T.c.def_ 7 (d := d_7) rfl) sc_Wish_has (lenD rfl) (fun _ _ _ _ _ _ us hl => match us, hl with | [_, _], _ => rfl) ?_
  intro cdv A outer s H E hr
  refine ⟨_, (pss_one (ps_ret (pe_cmp (pc_din (hu_of hr) (pv 1) (Pu.pe_fldK (K := K) (pv 0) (by rfl)))))), ?_⟩
  intro vs Q h
  refine run_D (Γe := []) (cs := [(dI_Wish K), dInt]) (n := 0) (T := ?T) rfl ?h ?f vs H Q h
  case h => exact (Pu.st_ret (p := false) prD (Pu.ev_din (Pu.ev_var (.s (.z))) (Pu.ev_fld (names := nm_Wish) (fs := fs_Wish K) (T.cls 25) (T.noat 28) (.s (by decide +kernel) (.z)) (Pu.ev_var .z))))
  case f => intros; kernel_rfl
theorem ok_Wish_rank (T : Tx fa fn K mg) : OkF P w K mg base 1 (He.ma K (He.ga K "Wish") "rank") ["self", "one"] (spD (xcK K) [(dI_Wish K), (dOpt dInt)] (dOpt dInt) (fun x => m_Wish_rank x.1 x.2.1)) := by
  refine okF (T.c.def_ 8 (d := d_8) rfl) sc_Wish_rank (lenD rfl) (fun _ _ _ _ _ _ us hl => match us, hl with | [_, _], _ => rfl) ?_
  intro cdv A outer s H E hr
  refine ⟨_, (pss_cons (ps_if (pt_cmpR op_isN (pv 1) pe_non (nomark _)) (pss_one (ps_ret (pe_callB (Pu.call_lenK (K := K)) (by rfl) (T.free 23) PySem.boot_len (pa_cons (Pu.pe_fldK (K := K) (pv 0) (by rfl)) pa_nil)))) pss_nil) (pss_one (ps_ret (pe_dg1 (hu_of hr) (Pu.pe_fldK (K := K) (pv 0) (by rfl)) (pv 1))))), ?_⟩
  intro vs Q h
  refine run_D (Γe := []) (cs := [(dI_Wish K), (dOpt dInt)]) (n := 0) (T := ?T) rfl ?h ?f vs H Q h
  case h => exact (Pu.st_seq (Pu.st_if (p := false) (Pu.et_test (Pu.ev_op Pu.o_isN (Pu.ev_var (.s (.z))) (Pu.ev_c (c := dNon) (x := ()) fun _ => rfl))) (Pu.st_ret (p := false) prD (Pu.ev_as (a := dInt) (b := dOpt dInt) some someI (Pu.ev_b1 Pu.o_lenT (Pu.ev_fld (names := nm_Wish) (fs := fs_Wish K) (T.cls 25) (T.noat 26) .z (Pu.ev_var .z))))) Pu.st_next) (Pu.st_ret (p := false) prD (Pu.ev_dget1 (Pu.ev_fld (names := nm_Wish) (fs := fs_Wish K) (T.cls 25) (T.noat 28) (.s (by decide +kernel) (.z)) (Pu.ev_var .z)) (Pu.ev_asP (fun x => x) Pu.o_someI (Pu.ev_var (.s (.z)))))))
  case f => intros; kernel_rfl
theorem ok_Wish_better (T : Tx fa fn K mg) : OkF P w K mg base 2 (He.ma K (He.ga K "Wish") "better") ["self", "one", "other"] (spD (xcK K) [(dI_Wish K), (dOpt dInt), (dOpt dInt)] dBl (fun x => m_Wish_better x.1 x.2.1 x.2.2.1)) := by
  refine okF (T.c.def_ 9 (d := d_9) rfl) sc_Wish_better (lenD rfl) (fun _ _ _ _ _ _ us hl => match us, hl with | [_, _, _], _ => rfl) ?_
  intro cdv A outer s H E hr
  refine ⟨_, (pss_cons (ps_set (i := 3) sc_Wish_better.nd (by rfl) (by first | exact Or.inl rfl | exact Or.inr rfl) (pmeth (ok_Wish_rank T) hr (by decide) (T.cls 25) (T.meth 29) pxB (pv 0) (pa_cons (pv 1) pa_nil))) (pss_cons (ps_set (i := 4) sc_Wish_better.nd (by rfl) (by first | exact Or.inl rfl | exact Or.inr rfl) (pmeth (ok_Wish_rank T) hr (by decide) (T.cls 25) (T.meth 29) pxB (pv 0) (pa_cons (pv 2) pa_nil))) (pss_cons (ps_if (pt_cmpR op_isN (pv 3) pe_non (nomark _)) (pss_one (ps_ret pe_bl)) pss_nil) (pss_one (ps_ret (pe_or (pe_cmpR op_isN (pv 4) pe_non (nomark _)) (pe_one (pe_cmpR op_lt (pv 3) (pv 4) (nomark _))))))))), ?_⟩
  intro vs Q h
  refine run_D (Γe := []) (cs := [(dI_Wish K), (dOpt dInt), (dOpt dInt)]) (n := 2) (T := ?T) rfl ?h ?f vs H Q h
  case h => exact (Pu.st_seq (Pu.st_set (p := false) (.s (.s (.s (.z)))) (Pu.ev_meth (nm := "rank") (names := nm_Wish) (by decide +kernel) (Pu.ev_var .z) (Pu.ea_cons (Pu.ev_var (.s (.z))) Pu.ea_nil))) (Pu.st_seq (Pu.st_set (p := false) (.s (.s (.s (.s (.z))))) (Pu.ev_meth (nm := "rank") (names := nm_Wish) (by decide +kernel) (Pu.ev_var .z) (Pu.ea_cons (Pu.ev_var (.s (.s (.z)))) Pu.ea_nil))) (Pu.st_seq (Pu.st_if (p := false) (Pu.et_test (Pu.ev_op Pu.o_isN (Pu.ev_var (.s (.s (.s (.z))))) (Pu.ev_c (c := dNon) (x := ()) fun _ => rfl))) (Pu.st_ret (p := false) prD (Pu.ev_c (c := dBl) (x := false) fun _ => rfl)) Pu.st_next) (Pu.st_ret (p := false) prD (Pu.ev_or (Pu.ev_op Pu.o_isN (Pu.ev_var (.s (.s (.s (.s (.z)))))) (Pu.ev_c (c := dNon) (x := ()) fun _ => rfl)) (Pu.ev_op Pu.o_cmp (Pu.ev_asP (fun x => x) Pu.o_someI (Pu.ev_var (.s (.s (.s (.z)))))) (Pu.ev_asP (fun x => x) Pu.o_someI (Pu.ev_var (.s (.s (.s (.s (.z)))))))))))))
  case f => intros; kernel_rfl
theorem ok_Wish_ahead_of (T : Tx fa fn K mg) : OkF P w K mg base 3 (He.ma K (He.ga K "Wish") "ahead_of") ["self", "one"] (spD (xcK K) [(dI_Wish K), (dOpt dInt)] (dTuN dInt) (fun x => m_Wish_ahead_of x.1 x.2.1)) := by
  refine okF (T.c.def_ 10 (d := d_10) rfl) sc_Wish_ahead_of (lenD rfl) (fun _ _ _ _ _ _ us hl => match us, hl with | [_, _], _ => rfl) ?_
  intro cdv A outer s H E hr
  refine ⟨_, (pss_one (ps_ret (Pu.pe_tupleNK (K := K) (by rfl) (T.free 24) (pe_lc (own := [("listed", 2)]) (by rfl) sc_Wish_ahead_of.nd (Pu.pi_tupK (K := K) (Pu.pe_fldK (K := K) (pv 0) (by rfl))) (blkOk_by (N := ["self", "one", "listed"]) (sc := defScope s_Wish_ahead_of) (by decide +kernel)) (fun _ _ _ _ _ => (pg_name (i := 2) sc_Wish_ahead_of.nd (by rfl) (by first | exact Or.inl rfl | exact Or.inr rfl))) (fun _ _ _ _ _ => pts_one (pt_val (pmeth (ok_Wish_better T) hr (by decide) (T.cls 25) (T.meth 30) passL (pv 0) (pa_cons (pv 2) (pa_cons (pv 1) pa_nil))))) (fun _ _ _ _ _ => (pv 2)))))), ?_⟩
  intro vs Q h
  refine run_D (Γe := []) (cs := [(dI_Wish K), (dOpt dInt)]) (n := 1) (T := ?T) rfl ?h ?f vs H Q h
  case h => exact (Pu.st_ret (p := false) prD (Pu.ev_1 Pu.o_tupNL (Pu.freeze (c := dInt) (Pu.en_lc (q := false) (vs := [2]) (Γ0 := [.da (dI_Wish K), .da (dOpt dInt), .no]) (Γ1 := [.da (dI_Wish K), .da (dOpt dInt), .da dInt]) Hd.id (by rfl) (by decide) (Bk.drop Bk.id (.s (.s (.z)))) (Pu.ei_tup (Pu.ev_fld (names := nm_Wish) (fs := fs_Wish K) (T.cls 25) (T.noat 26) .z (Pu.ev_var .z))) (Pu.tg_name (.s (.s (.z)))) (Pu.et_B (Pu.ev_meth (nm := "better") (names := nm_Wish) (by decide +kernel) (Pu.ev_var .z) (Pu.ea_cons (Pu.ev_as (a := dInt) (b := dOpt dInt) some someI (Pu.ev_var (.s (.s (.z))))) (Pu.ea_cons (Pu.ev_var (.s (.z))) Pu.ea_nil)))) (Pu.ev_var (.s (.s (.z))))))))
  case f => intros; kernel_rfl
theorem ok_Wish_worst (T : Tx fa fn K mg) : OkF P w K mg base 2 (He.ma K (He.ga K "Wish") "worst") ["self", "ones"] (spD (xcK K) [(dI_Wish K), (dTup dInt)] (dOpt dInt) (fun x => m_Wish_worst x.1 x.2.1)) := by
  refine okF (T.c.def_ 11 (d := d_11) rfl) sc_Wish_worst (lenD rfl) (fun _ _ _ _ _ _ us hl => match us, hl with | [_, _], _ => rfl) ?_
  intro cdv A outer s H E hr
  refine ⟨_, (pss_cons (ps_setLc (i := 2) (own := [("one", 3)]) (by rfl) sc_Wish_worst.nd rfl rfl (sw_true rfl rfl rfl (by decide +kernel)) (Pu.pi_tupK (K := K) (pv 1)) (blkOk_by (N := ["self", "ones", "places", "one"]) (sc := defScope s_Wish_worst) (by decide +kernel)) (fun _ _ _ _ _ => (pg_name (i := 3) sc_Wish_worst.nd (by rfl) (by first | exact Or.inl rfl | exact Or.inr rfl))) (fun _ _ _ _ _ => pts_one (pt_val (pmeth (ok_Wish_has T) hr (by decide) (T.cls 25) (T.meth 31) passL (pv 0) (pa_cons (pv 3) pa_nil)))) (fun _ _ _ _ _ => (pe_dget (hu_of hr) (Pu.pe_fldK (K := K) (pv 0) (by rfl)) (pv 3) (fun _ _ => rfl)))) (pss_one (ps_ret (pe_ifExp (Pu.pt_truthK (K := K) (pv 2) (fun _ => rfl)) (pe_ix (Pu.ix_tupK (K := K)) (Pu.pe_fldK (K := K) (pv 0) (by rfl)) (pe_callB (Pu.cr_maxK (K := K) (by rfl)) (by rfl) (T.free 32) (by decide +kernel) (pa_cons (pv 2) pa_nil)) (fun _ _ => rfl)) pe_non)))), ?_⟩
  intro vs Q h
  refine run_D (Γe := []) (cs := [(dI_Wish K), (dTup dInt)]) (n := 2) (T := ?T) rfl ?h ?f vs H Q h
  case h => exact (Pu.st_seq (Pu.st_set (p := false) (.s (.s (.z))) (Pu.freeze (c := dInt) (Pu.en_lc (q := false) (vs := [3]) (Γ0 := [.da (dI_Wish K), .da (dTup dInt), .no, .no]) (Γ1 := [.da (dI_Wish K), .da (dTup dInt), .no, .da dInt]) Hd.id (by rfl) (by decide) (Bk.drop Bk.id (.s (.s (.s (.z))))) (Pu.ei_tup (Pu.ev_var (.s (.z)))) (Pu.tg_name (.s (.s (.s (.z))))) (Pu.et_B (Pu.ev_meth (nm := "has") (names := nm_Wish) (by decide +kernel) (Pu.ev_var .z) (Pu.ea_cons (Pu.ev_var (.s (.s (.s (.z))))) Pu.ea_nil))) (Pu.ev_dget (Pu.ev_fld (names := nm_Wish) (fs := fs_Wish K) (T.cls 25) (T.noat 28) (.s (by decide +kernel) (.z)) (Pu.ev_var .z)) (Pu.ev_var (.s (.s (.s (.z))))))))) (Pu.st_ret (p := false) prD (Pu.ev_if (Pu.et_truL (Pu.ev_var (.s (.s (.z))))) (Pu.ev_as (a := dInt) (b := dOpt dInt) some someI (Pu.ev_opP Pu.o_ixT (Pu.ev_fld (names := nm_Wish) (fs := fs_Wish K) (T.cls 25) (T.noat 26) .z (Pu.ev_var .z)) (Pu.ev_b1P Pu.o_max (Pu.ev_var (.s (.s (.z))))))) (Pu.ev_as (b := (dOpt dInt)) (fun _ => none) noneI (Pu.ev_c (c := dNon) (x := ()) fun _ => rfl)))))
  case f => intros; kernel_rfl
theorem ok_check_list (T : Tx fa fn K mg) : OkF P w K mg base 1 (He.ga K "check_list") ["order", "many"] (spD (xcK K) [(dTup dInt), dInt] (dTup dInt) (fun x => m_check_list x.1 x.2.1)) := by
  refine okF (T.c.def_ 12 (d := d_12) rfl) sc_check_list (lenD rfl) (fun _ _ _ _ _ _ us hl => match us, hl with | [_, _], _ => rfl) ?_
  intro cdv A outer s H E hr
  refine ⟨_, (pss_cons (ps_set (i := 2) sc_check_list.nd (by rfl) (by first | exact Or.inl rfl | exact Or.inr rfl) (Pu.pe_tupleNK (K := K) (by rfl) (T.free 24) (pv 0))) (pss_cons (ps_if (pt_cmpR (Pu.op_neDK (K := K) hr.units) (pe_callB call_lenD (by rfl) (T.free 23) PySem.boot_len (pa_cons (pe_callTy (Pu.call_dictPK (K := K) (by rfl)) (by rfl) (T.free 33) (by decide +kernel) (pa_cons (pe_lc (own := [("one", 3)]) (by rfl) sc_check_list.nd (Pu.pi_tupK (K := K) (pv 2)) (blkOk_by (N := ["order", "many", "found", "one"]) (sc := defScope s_check_list) (by decide +kernel)) (fun _ _ _ _ _ => (pg_name (i := 3) sc_check_list.nd (by rfl) (by first | exact Or.inl rfl | exact Or.inr rfl))) (fun _ _ _ _ _ => pts_nil) (fun _ _ _ _ _ => (pe_tup (pa_cons (pv 3) (pa_cons pe_int pa_nil))))) pa_nil)) pa_nil)) (pe_callB (Pu.call_lenK (K := K)) (by rfl) (T.free 23) PySem.boot_len (pa_cons (pv 2) pa_nil)) (nomark _)) (pss_one (ps_raise rfl (takes_of rfl rfl rfl rfl) (let X := He.exc_ok (T.c.fact 34 (f := .exc "BadWish") rfl); pmk_own PySem.F.excBase_ValueError X.1 (T.glo 8) X.2.1 (raises_own X.2.2.1 X.2.2.2) rfl))) pss_nil) (pss_cons (ps_if (pt_val (pe_callB (Pu.cr_anyK (K := K) (by rfl)) (by rfl) (T.free 35) (by decide +kernel) (pa_cons (pe_lc (own := [("one", 3)]) (by rfl) sc_check_list.nd (Pu.pi_tupK (K := K) (pv 2)) (blkOk_by (N := ["order", "many", "found", "one"]) (sc := defScope s_check_list) (by decide +kernel)) (fun _ _ _ _ _ => (pg_name (i := 3) sc_check_list.nd (by rfl) (by first | exact Or.inl rfl | exact Or.inr rfl))) (fun _ _ _ _ _ => pts_nil) (fun _ _ _ _ _ => (pe_not (pe_chain op_le op_lt pe_int (pv 3) (pv 1))))) pa_nil))) (pss_one (ps_raise rfl (takes_of rfl rfl rfl rfl) (let X := He.exc_ok (T.c.fact 34 (f := .exc "BadWish") rfl); pmk_own PySem.F.excBase_ValueError X.1 (T.glo 8) X.2.1 (raises_own X.2.2.1 X.2.2.2) rfl))) pss_nil) (pss_one (ps_ret (pv 2)))))), ?_⟩
  intro vs Q h
  refine run_D (Γe := []) (cs := [(dTup dInt), dInt]) (n := 2) (T := ?T) rfl ?h ?f vs H Q h
  case h => exact (Pu.st_seq (Pu.st_set (p := false) (.s (.s (.z))) (Pu.ev_1 Pu.o_tupNT (Pu.ev_var .z))) (Pu.st_seq (Pu.st_if (p := false) (Pu.et_test (Pu.ev_op (Pu.o_ne dqInt (by decide)) (Pu.ev_b1 Pu.o_lenD (Pu.ev_b1 Pu.o_dict (Pu.freeze (c := (dP2 dInt dInt)) (Pu.en_lc (q := false) (vs := [3]) (Γ0 := [.da (dTup dInt), .da dInt, .da (dTup dInt), .no]) (Γ1 := [.da (dTup dInt), .da dInt, .da (dTup dInt), .da dInt]) Hd.id (by rfl) (by decide) (Bk.drop Bk.id (.s (.s (.s (.z))))) (Pu.ei_tup (Pu.ev_var (.s (.s (.z))))) (Pu.tg_name (.s (.s (.s (.z))))) Pu.pts_et (Pu.ev_p2 (Pu.ea_cons (Pu.ev_var (.s (.s (.s (.z))))) (Pu.ea_cons (Pu.ev_c (c := dInt) (x := 1) fun _ => rfl) Pu.ea_nil))))))) (Pu.ev_b1 Pu.o_lenT (Pu.ev_var (.s (.s (.z))))))) (Pu.st_raise (n := "BadWish")) Pu.st_next) (Pu.st_seq (Pu.st_if (p := false) (Pu.et_B (Pu.ev_b1 Pu.o_any (Pu.freeze (c := dBl) (Pu.en_lc (q := false) (vs := [3]) (Γ0 := [.da (dTup dInt), .da dInt, .da (dTup dInt), .no]) (Γ1 := [.da (dTup dInt), .da dInt, .da (dTup dInt), .da dInt]) Hd.id (by rfl) (by decide) (Bk.drop Bk.id (.s (.s (.s (.z))))) (Pu.ei_tup (Pu.ev_var (.s (.s (.z))))) (Pu.tg_name (.s (.s (.s (.z))))) Pu.pts_et (Pu.ev_not (Pu.ev_chain Pu.o_cmp Pu.o_cmp (Pu.ev_c (c := dInt) (x := 0) fun _ => rfl) (Pu.ev_var (.s (.s (.s (.z))))) (Pu.ev_var (.s (.z))))))))) (Pu.st_raise (n := "BadWish")) Pu.st_next) (Pu.st_ret (p := false) prD (Pu.ev_var (.s (.s (.z))))))))
  case f => intros; kernel_rfl
theorem ok_Market_init (T : Tx fa fn K mg) : OkF P w K mg base 3 (He.ma K (He.ga K "Market") "__init__") ["self", "lists", "orders", "seats"] (spI (xcK K) (He.ga K "Market") nm_Market ((fs_Market K).map Sl.da) [(dSeq (dTup dInt)), (dSeq (dTup dInt)), (dSeq dInt)] (fun x => m_Market_init x.1 x.2.1 x.2.2.1)) := by
  refine okF (T.c.def_ 13 (d := d_13) rfl) sc_Market_init (lenI rfl) (fun _ _ _ _ _ _ us hl => match us, hl with | [_, _, _, _], _ => rfl) ?_
  intro cdv A outer s H E hr
  refine ⟨_, (pss_cons (ps_if (PW.pt (pw_or (pt_cmpR (Pu.op_neDK (K := K) hr.units) (pe_callB (Pu.call_lenK (K := K)) (by rfl) (T.free 23) PySem.boot_len (pa_cons (pv 2) pa_nil)) (pe_callB (Pu.call_lenK (K := K)) (by rfl) (T.free 23) PySem.boot_len (pa_cons (pv 3) pa_nil)) (nomark _)) (pw_or1 (pt_val (pe_callB (Pu.cr_anyK (K := K) (by rfl)) (by rfl) (T.free 35) (by decide +kernel) (pa_cons (pe_lc (own := [("count", 4)]) (by rfl) sc_Market_init.nd (pi_eith (Pu.pi_listK (K := K) (pv 3)) (Pu.pi_tupK (K := K) (pv 3))) (blkOk_by (N := ["self", "lists", "orders", "seats", "count", "order"]) (sc := defScope s_Market_init) (by decide +kernel)) (fun _ _ _ _ _ => (pg_name (i := 4) sc_Market_init.nd (by rfl) (by first | exact Or.inl rfl | exact Or.inr rfl))) (fun _ _ _ _ _ => pts_nil) (fun _ _ _ _ _ => (pe_cmpR op_lt (pv 4) pe_int (nomark _)))) pa_nil)))))) (pss_one (ps_raise rfl (takes_of rfl rfl rfl rfl) (let X := He.exc_ok (T.c.fact 36 (f := .exc "BadRoom") rfl); pmk_own PySem.F.excBase_ValueError X.1 (T.glo 7) X.2.1 (raises_own X.2.2.1 X.2.2.2) rfl))) pss_nil) (pss_cons (Pu.ps_fldK (K := K) (pv 0) (Pu.pe_tupleNK (K := K) (by rfl) (T.free 24) (pe_lc (own := [("order", 5)]) (by rfl) sc_Market_init.nd (pi_eith (Pu.pi_listK (K := K) (pv 1)) (Pu.pi_tupK (K := K) (pv 1))) (blkOk_by (N := ["self", "lists", "orders", "seats", "count", "order"]) (sc := defScope s_Market_init) (by decide +kernel)) (fun _ _ _ _ _ => (pg_name (i := 5) sc_Market_init.nd (by rfl) (by first | exact Or.inl rfl | exact Or.inr rfl))) (fun _ _ _ _ _ => pts_nil) (fun _ _ _ _ _ => (pmake (ok_Wish_init T) hr (by decide) (T.mkr 38) (T.glo 39) passL (pa_cons (pcall (ok_check_list T) hr (by decide) (T.glo 37) passL (pa_cons (pv 5) (pa_cons (pe_callB (Pu.call_lenK (K := K)) (by rfl) (T.free 23) PySem.boot_len (pa_cons (pv 2) pa_nil)) pa_nil))) pa_nil))))) rfl) (pss_cons (Pu.ps_fldK (K := K) (pv 0) (Pu.pe_tupleNK (K := K) (by rfl) (T.free 24) (pe_lc (own := [("order", 5)]) (by rfl) sc_Market_init.nd (pi_eith (Pu.pi_listK (K := K) (pv 2)) (Pu.pi_tupK (K := K) (pv 2))) (blkOk_by (N := ["self", "lists", "orders", "seats", "count", "order"]) (sc := defScope s_Market_init) (by decide +kernel)) (fun _ _ _ _ _ => (pg_name (i := 5) sc_Market_init.nd (by rfl) (by first | exact Or.inl rfl | exact Or.inr rfl))) (fun _ _ _ _ _ => pts_nil) (fun _ _ _ _ _ => (pmake (ok_Wish_init T) hr (by decide) (T.mkr 38) (T.glo 39) passL (pa_cons (pcall (ok_check_list T) hr (by decide) (T.glo 37) passL (pa_cons (pv 5) (pa_cons (pe_callB (Pu.call_lenK (K := K)) (by rfl) (T.free 23) PySem.boot_len (pa_cons (pv 1) pa_nil)) pa_nil))) pa_nil))))) rfl) (pss_one (Pu.ps_fldK (K := K) (pv 0) (Pu.pe_tupleNK (K := K) (by rfl) (T.free 24) (pv 3)) rfl))))), ?_⟩
  intro vs Q h
  refine run_I (Γe := [.m .pa (mObj (He.ga K "Market") nm_Market ((fs_Market K).map Sl.da)), .da (dSeq (dTup dInt)), .da (dSeq (dTup dInt)), .da (dSeq dInt), .no, .no]) (cs := [(dSeq (dTup dInt)), (dSeq (dTup dInt)), (dSeq dInt)]) (n := 2) (T := ?T) rfl .z ?h ?f vs H Q h
  case h => exact (Pu.st_seq (Pu.st_if (p := false) (Pu.et_or (Pu.et_test (Pu.ev_op (Pu.o_ne dqInt (by decide)) (Pu.ev_b1 Pu.o_lenS (Pu.ev_var (.s (.s (.z))))) (Pu.ev_b1 Pu.o_lenS (Pu.ev_var (.s (.s (.s (.z)))))))) (Pu.et_B (Pu.ev_b1 Pu.o_any (Pu.freeze (c := dBl) (Pu.en_lc (q := false) (vs := [4]) (Γ0 := [.m .pa (mObj (He.ga K "Market") [] []), .da (dSeq (dTup dInt)), .da (dSeq (dTup dInt)), .da (dSeq dInt), .no, .no]) (Γ1 := [.m .pa (mObj (He.ga K "Market") [] []), .da (dSeq (dTup dInt)), .da (dSeq (dTup dInt)), .da (dSeq dInt), .da dInt, .no]) Hd.id (by rfl) (by decide) (Bk.drop Bk.id (.s (.s (.s (.s (.z)))))) (Pu.ei_seqV (.s (.s (.s (.z))))) (Pu.tg_name (.s (.s (.s (.s (.z)))))) Pu.pts_et (Pu.ev_op Pu.o_cmp (Pu.ev_var (.s (.s (.s (.s (.z)))))) (Pu.ev_c (c := dInt) (x := 0) fun _ => rfl))))))) (Pu.st_raise (n := "BadRoom")) Pu.st_next) (Pu.st_seq (Pu.st_fldD (p := false) (k := .pa) (names := []) (Γf := []) (f := "askers") (by decide) .z (T.cls 40) (T.noat 41) (by decide +kernel) (by decide) (Pu.ev_sb (Pu.sb_tun (c := (dI_Wish K))) (Pu.ev_1 Pu.o_tupNL (Pu.freeze (c := (dI_Wish K)) (Pu.en_lc (q := false) (vs := [5]) (Γ0 := [.m .pa (mObj (He.ga K "Market") [] []), .da (dSeq (dTup dInt)), .da (dSeq (dTup dInt)), .da (dSeq dInt), .no, .no]) (Γ1 := [.m .pa (mObj (He.ga K "Market") [] []), .da (dSeq (dTup dInt)), .da (dSeq (dTup dInt)), .da (dSeq dInt), .no, .da (dTup dInt)]) Hd.id (by rfl) (by decide) (Bk.drop Bk.id (.s (.s (.s (.s (.s (.z))))))) (Pu.ei_seqV (.s (.z))) (Pu.tg_name (.s (.s (.s (.s (.s (.z))))))) Pu.pts_et (Pu.freezeO (fs := fs_Wish K) (Pu.en_make (Pu.ea_cons (Pu.ev_call (Pu.ea_cons (Pu.ev_var (.s (.s (.s (.s (.s (.z))))))) (Pu.ea_cons (Pu.ev_b1 Pu.o_lenS (Pu.ev_var (.s (.s (.z))))) Pu.ea_nil))) Pu.ea_nil)))))))) (Pu.st_seq (Pu.st_fldD (p := false) (k := .pa) (names := ["askers"]) (Γf := [.da (dTup (dI_Wish K))]) (f := "rooms") (by decide) .z (T.cls 40) (T.noat 42) (by decide +kernel) (by decide) (Pu.ev_sb (Pu.sb_tun (c := (dI_Wish K))) (Pu.ev_1 Pu.o_tupNL (Pu.freeze (c := (dI_Wish K)) (Pu.en_lc (q := false) (vs := [5]) (Γ0 := [.m .pa (mObj (He.ga K "Market") ["askers"] [.da (dTup (dI_Wish K))]), .da (dSeq (dTup dInt)), .da (dSeq (dTup dInt)), .da (dSeq dInt), .no, .no]) (Γ1 := [.m .pa (mObj (He.ga K "Market") ["askers"] [.da (dTup (dI_Wish K))]), .da (dSeq (dTup dInt)), .da (dSeq (dTup dInt)), .da (dSeq dInt), .no, .da (dTup dInt)]) Hd.id (by rfl) (by decide) (Bk.drop Bk.id (.s (.s (.s (.s (.s (.z))))))) (Pu.ei_seqV (.s (.s (.z)))) (Pu.tg_name (.s (.s (.s (.s (.s (.z))))))) Pu.pts_et (Pu.freezeO (fs := fs_Wish K) (Pu.en_make (Pu.ea_cons (Pu.ev_call (Pu.ea_cons (Pu.ev_var (.s (.s (.s (.s (.s (.z))))))) (Pu.ea_cons (Pu.ev_b1 Pu.o_lenS (Pu.ev_var (.s (.z)))) Pu.ea_nil))) Pu.ea_nil)))))))) (Pu.st_fldD (p := false) (k := .pa) (names := ["askers", "rooms"]) (Γf := [.da (dTup (dI_Wish K)), .da (dTup (dI_Wish K))]) (f := "seats") (by decide) .z (T.cls 40) (T.noat 43) (by decide +kernel) (by decide) (Pu.ev_1 Pu.o_tupNS (Pu.ev_var (.s (.s (.s (.z))))))))))
  case f => intros; kernel_rfl
theorem ok_those_in (T : Tx fa fn K mg) : OkF P w K mg base 1 (He.ga K "those_in") ["match", "room"] (spD (xcK K) [(dSeq (dOpt dInt)), dInt] (dTuN dInt) (fun x => m_those_in x.1 x.2.1)) := by
  refine okF (T.c.def_ 14 (d := d_14) rfl) sc_those_in (lenD rfl) (fun _ _ _ _ _ _ us hl => match us, hl with | [_, _], _ => rfl) ?_
  intro cdv A outer s H E hr
  refine ⟨_, (pss_one (ps_ret (Pu.pe_tupleNK (K := K) (by rfl) (T.free 24) (pe_lc (own := [("asker", 2), ("had", 3)]) (by rfl) sc_those_in.nd (pi_eith (Pu.pi_enumK (K := K) (by rfl) (T.free 27) (pa_cons (pv 0) pa_nil)) (Pu.pi_enumTK (K := K) (by rfl) (T.free 27) (pa_cons (pv 0) pa_nil))) (blkOk_by (N := ["match", "room", "asker", "had"]) (sc := defScope s_those_in) (by decide +kernel)) (fun _ _ _ _ _ => (Pu.pg_tupK (K := K) (n := 2) (by rfl) (pgs_cons (pg_name (i := 2) sc_those_in.nd (by rfl) (by first | exact Or.inl rfl | exact Or.inr rfl)) (pgs_cons (pg_name (i := 3) sc_those_in.nd (by rfl) (by first | exact Or.inl rfl | exact Or.inr rfl)) pgs_nil)))) (fun _ _ _ _ _ => pts_one (pt_cmpR (Pu.op_eqDK (K := K) hr.units) (pv 3) (pv 1) (nomark _))) (fun _ _ _ _ _ => (pv 2)))))), ?_⟩
  intro vs Q h
  refine run_D (Γe := []) (cs := [(dSeq (dOpt dInt)), dInt]) (n := 2) (T := ?T) rfl ?h ?f vs H Q h
  case h => exact (Pu.st_ret (p := false) prD (Pu.ev_1 Pu.o_tupNL (Pu.freeze (c := dInt) (Pu.en_lc (q := false) (vs := [2, 3]) (Γ0 := [.da (dSeq (dOpt dInt)), .da dInt, .no, .no]) (Γ1 := [.da (dSeq (dOpt dInt)), .da dInt, .da dInt, .da (dOpt dInt)]) Hd.id (by rfl) (by decide) (Bk.drop (Bk.drop Bk.id (.s (.s (.z)))) (.s (.s (.s (.z))))) (Pu.ei_enumSV .z) (Pu.tg_p2 (Pu.tg_name (.s (.s (.z)))) (Pu.tg_name (.s (.s (.s (.z)))))) (Pu.et_test (Pu.ev_op (Pu.o_eq dqOI (by decide)) (Pu.ev_var (.s (.s (.s (.z))))) (Pu.ev_as (a := dInt) (b := dOpt dInt) some someI (Pu.ev_var (.s (.z)))))) (Pu.ev_var (.s (.s (.z))))))))
  case f => intros; kernel_rfl
theorem ok_has_free_seat (T : Tx fa fn K mg) : OkF P w K mg base 2 (He.ga K "has_free_seat") ["market", "match", "room"] (spD (xcK K) [(dI_Market K), (dSeq (dOpt dInt)), dInt] dBl (fun x => m_has_free_seat x.1 x.2.1 x.2.2.1)) := by
  refine okF (T.c.def_ 15 (d := d_15) rfl) sc_has_free_seat (lenD rfl) (fun _ _ _ _ _ _ us hl => match us, hl with | [_, _, _], _ => rfl) ?_
  intro cdv A outer s H E hr
  refine ⟨_, (pss_one (ps_ret (pe_cmpR op_lt (pe_callB (Pu.call_lenK (K := K)) (by rfl) (T.free 23) PySem.boot_len (pa_cons (pcall (ok_those_in T) hr (by decide) (T.glo 44) pxB (pa_cons (pv 1) (pa_cons (pv 2) pa_nil))) pa_nil)) (pe_ix (Pu.ix_tupK (K := K)) (Pu.pe_fldK (K := K) (pv 0) (by rfl)) (pv 2) (fun _ _ => rfl)) (nomark _)))), ?_⟩
  intro vs Q h
  refine run_D (Γe := []) (cs := [(dI_Market K), (dSeq (dOpt dInt)), dInt]) (n := 0) (T := ?T) rfl ?h ?f vs H Q h
  case h => exact (Pu.st_ret (p := false) prD (Pu.ev_op Pu.o_cmp (Pu.ev_b1 Pu.o_lenT (Pu.ev_sb (Pu.sb_tun (c := dInt)) (Pu.ev_call (Pu.ea_cons (Pu.ev_var (.s (.z))) (Pu.ea_cons (Pu.ev_var (.s (.s (.z)))) Pu.ea_nil))))) (Pu.ev_opP Pu.o_ixT (Pu.ev_fld (names := nm_Market) (fs := fs_Market K) (T.cls 40) (T.noat 43) (.s (by decide +kernel) (.s (by decide +kernel) (.z))) (Pu.ev_var .z)) (Pu.ev_var (.s (.s (.z)))))))
  case f => intros; kernel_rfl
theorem ok_first_to_go (T : Tx fa fn K mg) : OkF P w K mg base 3 (He.ga K "first_to_go") ["market", "match", "room"] (spD (xcK K) [(dI_Market K), (dTuN (dOpt dInt)), dInt] (dOpt dInt) (fun x => m_first_to_go x.1 x.2.1 x.2.2.1)) := by
  refine okF (T.c.def_ 16 (d := d_16) rfl) sc_first_to_go (lenD rfl) (fun _ _ _ _ _ _ us hl => match us, hl with | [_, _, _], _ => rfl) ?_
  intro cdv A outer s H E hr
  refine ⟨_, (pss_cons (ps_set (i := 3) sc_first_to_go.nd (by rfl) (by first | exact Or.inl rfl | exact Or.inr rfl) (pcall (ok_those_in T) hr (by decide) (T.glo 44) pxB (pa_cons (pv 1) (pa_cons (pv 2) pa_nil)))) (pss_cons (ps_setLc (i := 4) (own := [("asker", 5)]) (by rfl) sc_first_to_go.nd rfl rfl (sw_true rfl rfl rfl (by decide +kernel)) (Pu.pi_tupK (K := K) (pv 3)) (blkOk_by (N := ["market", "match", "room", "inside", "unlisted", "asker"]) (sc := defScope s_first_to_go) (by decide +kernel)) (fun _ _ _ _ _ => (pg_name (i := 5) sc_first_to_go.nd (by rfl) (by first | exact Or.inl rfl | exact Or.inr rfl))) (fun _ _ _ _ _ => pts_one (pt_not (pt_val (pmeth (ok_Wish_has T) hr (by decide) (T.cls 25) (T.meth 31) passL (pe_ix (Pu.ix_tupK (K := K)) (Pu.pe_fldK (K := K) (pv 0) (by rfl)) (pv 2) (fun _ _ => rfl)) (pa_cons (pv 5) pa_nil))))) (fun _ _ _ _ _ => (pv 5))) (pss_one (ps_ret (pe_ifExp (Pu.pt_truthK (K := K) (pv 4) (fun _ => rfl)) (pe_ix (Pu.ix_listK (K := K)) (pv 4) pe_int (fun _ _ => rfl)) (pmeth (ok_Wish_worst T) hr (by decide) (T.cls 25) (T.meth 45) pxB (pe_ix (Pu.ix_tupK (K := K)) (Pu.pe_fldK (K := K) (pv 0) (by rfl)) (pv 2) (fun _ _ => rfl)) (pa_cons (pv 3) pa_nil))))))), ?_⟩
  intro vs Q h
  refine run_D (Γe := []) (cs := [(dI_Market K), (dTuN (dOpt dInt)), dInt]) (n := 3) (T := ?T) rfl ?h ?f vs H Q h
  case h => exact (Pu.st_seq (Pu.st_set (p := false) (.s (.s (.s (.z)))) (Pu.ev_call (Pu.ea_cons (Pu.ev_sb (Pu.sb_tunS (c := (dOpt dInt))) (Pu.ev_var (.s (.z)))) (Pu.ea_cons (Pu.ev_var (.s (.s (.z)))) Pu.ea_nil)))) (Pu.st_seq (Pu.st_set (p := false) (.s (.s (.s (.s (.z))))) (Pu.freeze (c := dInt) (Pu.en_lc (q := false) (vs := [5]) (Γ0 := [.da (dI_Market K), .da (dTuN (dOpt dInt)), .da dInt, .da (dTuN dInt), .no, .no]) (Γ1 := [.da (dI_Market K), .da (dTuN (dOpt dInt)), .da dInt, .da (dTuN dInt), .no, .da dInt]) Hd.id (by rfl) (by decide) (Bk.drop Bk.id (.s (.s (.s (.s (.s (.z))))))) (Pu.ei_tup (Pu.ev_sb (Pu.sb_tun (c := dInt)) (Pu.ev_var (.s (.s (.s (.z))))))) (Pu.tg_name (.s (.s (.s (.s (.s (.z))))))) (Pu.et_not (Pu.et_B (Pu.ev_meth (nm := "has") (names := nm_Wish) (by decide +kernel) (Pu.ev_opP Pu.o_ixT (Pu.ev_fld (names := nm_Market) (fs := fs_Market K) (T.cls 40) (T.noat 42) (.s (by decide +kernel) (.z)) (Pu.ev_var .z)) (Pu.ev_var (.s (.s (.z))))) (Pu.ea_cons (Pu.ev_var (.s (.s (.s (.s (.s (.z))))))) Pu.ea_nil)))) (Pu.ev_var (.s (.s (.s (.s (.s (.z)))))))))) (Pu.st_ret (p := false) prD (Pu.ev_if (Pu.et_truL (Pu.ev_var (.s (.s (.s (.s (.z))))))) (Pu.ev_as (a := dInt) (b := dOpt dInt) some someI (Pu.ev_opP Pu.o_ixL (Pu.ev_var (.s (.s (.s (.s (.z)))))) (Pu.ev_c (c := dInt) (x := 0) fun _ => rfl))) (Pu.ev_meth (nm := "worst") (names := nm_Wish) (by decide +kernel) (Pu.ev_opP Pu.o_ixT (Pu.ev_fld (names := nm_Market) (fs := fs_Market K) (T.cls 40) (T.noat 42) (.s (by decide +kernel) (.z)) (Pu.ev_var .z)) (Pu.ev_var (.s (.s (.z))))) (Pu.ea_cons (Pu.ev_sb (Pu.sb_tun (c := dInt)) (Pu.ev_var (.s (.s (.s (.z)))))) Pu.ea_nil))))))
  case f => intros; kernel_rfl
theorem ok_would_take (T : Tx fa fn K mg) : OkF P w K mg base 4 (He.ga K "would_take") ["market", "match", "room", "asker"] (spD (xcK K) [(dI_Market K), (dTuN (dOpt dInt)), dInt, dInt] dBl (fun x => m_would_take x.1 x.2.1 x.2.2.1 x.2.2.2.1)) := by
  refine okF (T.c.def_ 17 (d := d_17) rfl) sc_would_take (lenD rfl) (fun _ _ _ _ _ _ us hl => match us, hl with | [_, _, _, _], _ => rfl) ?_
  intro cdv A outer s H E hr
  refine ⟨_, (pss_cons (ps_set (i := 4) sc_would_take.nd (by rfl) (by first | exact Or.inl rfl | exact Or.inr rfl) (pe_ix (Pu.ix_tupK (K := K)) (Pu.pe_fldK (K := K) (pv 0) (by rfl)) (pv 2) (fun _ _ => rfl))) (pss_cons (ps_if (pt_not (pt_val (pmeth (ok_Wish_has T) hr (by decide) (T.cls 25) (T.meth 31) pxB (pv 4) (pa_cons (pv 3) pa_nil)))) (pss_one (ps_ret pe_bl)) pss_nil) (pss_cons (ps_if (pt_val (pcall (ok_has_free_seat T) hr (by decide) (T.glo 46) pxB (pa_cons (pv 0) (pa_cons (pv 1) (pa_cons (pv 2) pa_nil))))) (pss_one (ps_ret pe_bl)) pss_nil) (pss_cons (ps_set (i := 5) sc_would_take.nd (by rfl) (by first | exact Or.inl rfl | exact Or.inr rfl) (pcall (ok_first_to_go T) hr (by decide) (T.glo 47) pxB (pa_cons (pv 0) (pa_cons (pv 1) (pa_cons (pv 2) pa_nil))))) (pss_one (ps_ret (pe_and (pe_cmpR op_notN (pv 5) pe_non (nomark _)) (pe_one (pmeth (ok_Wish_better T) hr (by decide) (T.cls 25) (T.meth 30) pxB (pv 4) (pa_cons (pv 3) (pa_cons (pv 5) pa_nil))))))))))), ?_⟩
  intro vs Q h
  refine run_D (Γe := []) (cs := [(dI_Market K), (dTuN (dOpt dInt)), dInt, dInt]) (n := 2) (T := ?T) rfl ?h ?f vs H Q h
  case h => exact (Pu.st_seq (Pu.st_set (p := false) (.s (.s (.s (.s (.z))))) (Pu.ev_opP Pu.o_ixT (Pu.ev_fld (names := nm_Market) (fs := fs_Market K) (T.cls 40) (T.noat 42) (.s (by decide +kernel) (.z)) (Pu.ev_var .z)) (Pu.ev_var (.s (.s (.z)))))) (Pu.st_seq (Pu.st_if (p := false) (Pu.et_not (Pu.et_B (Pu.ev_meth (nm := "has") (names := nm_Wish) (by decide +kernel) (Pu.ev_var (.s (.s (.s (.s (.z)))))) (Pu.ea_cons (Pu.ev_var (.s (.s (.s (.z))))) Pu.ea_nil)))) (Pu.st_ret (p := false) prD (Pu.ev_c (c := dBl) (x := false) fun _ => rfl)) Pu.st_next) (Pu.st_seq (Pu.st_if (p := false) (Pu.et_B (Pu.ev_call (Pu.ea_cons (Pu.ev_var .z) (Pu.ea_cons (Pu.ev_sb (Pu.sb_tunS (c := (dOpt dInt))) (Pu.ev_var (.s (.z)))) (Pu.ea_cons (Pu.ev_var (.s (.s (.z)))) Pu.ea_nil))))) (Pu.st_ret (p := false) prD (Pu.ev_c (c := dBl) (x := true) fun _ => rfl)) Pu.st_next) (Pu.st_seq (Pu.st_set (p := false) (.s (.s (.s (.s (.s (.z)))))) (Pu.ev_call (Pu.ea_cons (Pu.ev_var .z) (Pu.ea_cons (Pu.ev_var (.s (.z))) (Pu.ea_cons (Pu.ev_var (.s (.s (.z)))) Pu.ea_nil))))) (Pu.st_ret (p := false) prD (Pu.ev_and (Pu.ev_op Pu.o_notN (Pu.ev_var (.s (.s (.s (.s (.s (.z))))))) (Pu.ev_c (c := dNon) (x := ()) fun _ => rfl)) (Pu.ev_meth (nm := "better") (names := nm_Wish) (by decide +kernel) (Pu.ev_var (.s (.s (.s (.s (.z)))))) (Pu.ea_cons (Pu.ev_as (a := dInt) (b := dOpt dInt) some someI (Pu.ev_var (.s (.s (.s (.z)))))) (Pu.ea_cons (Pu.ev_var (.s (.s (.s (.s (.s (.z))))))) Pu.ea_nil)))))))))
  case f => intros; kernel_rfl
theorem ok_blocks (T : Tx fa fn K mg) : OkF P w K mg base 5 (He.ga K "blocks") ["market", "match"] (spD (xcK K) [(dI_Market K), (dTuN (dOpt dInt))] (dTuN (dP2 dInt dInt)) (fun x => m_blocks x.1 x.2.1)) := by
  refine okF (T.c.def_ 18 (d := d_18) rfl) sc_blocks (lenD rfl) (fun _ _ _ _ _ _ us hl => match us, hl with | [_, _], _ => rfl) ?_
  intro cdv A outer s H E hr
  refine ⟨_, (pss_one (ps_ret (Pu.pe_tupleNK (K := K) (by rfl) (T.free 24) (pe_lc2 (own := [("asker", 2), ("wish", 3), ("room", 4)]) (vs1 := [4]) (by rfl) sc_blocks.nd (Pu.pi_enumTK (K := K) (by rfl) (T.free 27) (pa_cons (Pu.pe_fldK (K := K) (pv 0) (by rfl)) pa_nil)) (blkOk_by (N := ["market", "match", "asker", "wish", "room"]) (sc := defScope s_blocks) (by decide +kernel)) (by decide) (fun _ _ _ _ _ => (Pu.pg_tupK (K := K) (n := 2) (by rfl) (pgs_cons (pg_name (i := 2) sc_blocks.nd (by rfl) (by first | exact Or.inl rfl | exact Or.inr rfl)) (pgs_cons (pg_name (i := 3) sc_blocks.nd (by rfl) (by first | exact Or.inl rfl | exact Or.inr rfl)) pgs_nil)))) (fun _ _ _ _ _ => pts_nil) (fun _ _ _ _ _ => (Pu.pi_tupK (K := K) (pmeth (ok_Wish_ahead_of T) hr (by decide) (T.cls 25) (T.meth 48) passL (pv 3) (pa_cons (pe_ix (Pu.ix_tupK (K := K)) (pv 1) (pv 2) (fun _ _ => rfl)) pa_nil)))) (fun _ _ _ _ _ => (pg_name (i := 4) sc_blocks.nd (by rfl) (by first | exact Or.inl rfl | exact Or.inr rfl))) (fun _ _ _ _ _ => pts_one (pt_val (pcall (ok_would_take T) hr (by decide) (T.glo 49) passL (pa_cons (pv 0) (pa_cons (pv 1) (pa_cons (pv 4) (pa_cons (pv 2) pa_nil))))))) (fun _ _ _ _ _ => (pe_tup (pa_cons (pv 2) (pa_cons (pv 4) pa_nil)))))))), ?_⟩
  intro vs Q h
  refine run_D (Γe := []) (cs := [(dI_Market K), (dTuN (dOpt dInt))]) (n := 3) (T := ?T) rfl ?h ?f vs H Q h
  case h => exact (Pu.st_ret (p := false) prD (Pu.ev_1 Pu.o_tupNL (Pu.freeze (c := (dP2 dInt dInt)) (Pu.en_lc2 (q := false) (vs := [2, 3, 4]) (vs1 := [4]) (Γ0 := [.da (dI_Market K), .da (dTuN (dOpt dInt)), .no, .no, .no]) (Γ1 := [.da (dI_Market K), .da (dTuN (dOpt dInt)), .da dInt, .da (dI_Wish K), .no]) (Γ2 := [.da (dI_Market K), .da (dTuN (dOpt dInt)), .da dInt, .da (dI_Wish K), .da dInt]) Hd.id (by rfl) (by rfl) (by decide) (by decide) (by decide) (Bk.drop (Bk.drop Bk.id (.s (.s (.z)))) (.s (.s (.s (.z))))) (Bk.drop Bk.id (.s (.s (.s (.s (.z)))))) (Pu.ei_enumT (Pu.ea_cons (Pu.ev_fld (names := nm_Market) (fs := fs_Market K) (T.cls 40) (T.noat 41) .z (Pu.ev_var .z)) Pu.ea_nil)) (Pu.tg_p2 (Pu.tg_name (.s (.s (.z)))) (Pu.tg_name (.s (.s (.s (.z)))))) Pu.pts_et (Pu.ei_tup (Pu.ev_sb (Pu.sb_tun (c := dInt)) (Pu.ev_meth (nm := "ahead_of") (names := nm_Wish) (by decide +kernel) (Pu.ev_var (.s (.s (.s (.z))))) (Pu.ea_cons (Pu.ev_opP Pu.o_ixT (Pu.ev_sb (Pu.sb_tun (c := (dOpt dInt))) (Pu.ev_var (.s (.z)))) (Pu.ev_var (.s (.s (.z))))) Pu.ea_nil)))) (Pu.tg_name (.s (.s (.s (.s (.z)))))) (Pu.et_B (Pu.ev_call (Pu.ea_cons (Pu.ev_var .z) (Pu.ea_cons (Pu.ev_var (.s (.z))) (Pu.ea_cons (Pu.ev_var (.s (.s (.s (.s (.z)))))) (Pu.ea_cons (Pu.ev_var (.s (.s (.z)))) Pu.ea_nil)))))) (Pu.ev_p2 (Pu.ea_cons (Pu.ev_var (.s (.s (.z)))) (Pu.ea_cons (Pu.ev_var (.s (.s (.s (.s (.z)))))) Pu.ea_nil)))))))
  case f => intros; kernel_rfl
theorem ok_settled (T : Tx fa fn K mg) : OkF P w K mg base 4 (He.ga K "settled") ["market", "match", "pair"] (spD (xcK K) [(dI_Market K), (dTuN (dOpt dInt)), (dP2 dInt dInt)] (dTuN (dOpt dInt)) (fun x => m_settled x.1 x.2.1 x.2.2.1)) := by
  refine okF (T.c.def_ 19 (d := d_19) rfl) sc_settled (lenD rfl) (fun _ _ _ _ _ _ us hl => match us, hl with | [_, _, _], _ => rfl) ?_
  intro cdv A outer s H E hr
  refine ⟨_, (pss_cons (ps_asg (pv 2) (Pu.pg_tupK (K := K) (n := 2) (by rfl) (pgs_cons (pg_name (i := 3) sc_settled.nd (by rfl) (by first | exact Or.inl rfl | exact Or.inr rfl)) (pgs_cons (pg_name (i := 4) sc_settled.nd (by rfl) (by first | exact Or.inl rfl | exact Or.inr rfl)) pgs_nil)))) (pss_cons (ps_set (i := 5) sc_settled.nd (by rfl) (by first | exact Or.inl rfl | exact Or.inr rfl) (pe_callTy (Pu.call_list_ofK (K := K)) (by rfl) (T.free 20) (by decide +kernel) (pa_cons (pv 1) pa_nil))) (pss_cons (ps_if (pt_not (pt_val (pcall (ok_has_free_seat T) hr (by decide) (T.glo 46) pxB (pa_cons (pv 0) (pa_cons (pv 1) (pa_cons (pv 4) pa_nil)))))) (pss_cons (ps_set (i := 6) sc_settled.nd (by rfl) (by first | exact Or.inl rfl | exact Or.inr rfl) (pcall (ok_first_to_go T) hr (by decide) (T.glo 47) pxB (pa_cons (pv 0) (pa_cons (pv 1) (pa_cons (pv 4) pa_nil))))) (pss_one (ps_if (pt_cmpR op_notN (pv 6) pe_non (nomark _)) (pss_one (ps_asg pe_non (pg_sub (pv 5) (pv 6) set_list))) pss_nil))) pss_nil) (pss_cons (ps_asg (pv 4) (pg_sub (pv 5) (pv 3) set_list)) (pss_one (ps_ret (Pu.pe_tupleNK (K := K) (by rfl) (T.free 24) (pv 5)))))))), ?_⟩
  intro vs Q h
  refine run_D (Γe := []) (cs := [(dI_Market K), (dTuN (dOpt dInt)), (dP2 dInt dInt)]) (n := 4) (T := ?T) rfl ?h ?f vs H Q h
  case h => exact (Pu.st_seq (Pu.st_asg (p := false) (Pu.ev_var (.s (.s (.z)))) (Pu.tg_p2 (Pu.tg_name (.s (.s (.s (.z))))) (Pu.tg_name (.s (.s (.s (.s (.z)))))))) (Pu.st_seq (Pu.st_setN (p := false) (.s (.s (.s (.s (.s (.z)))))) (Pu.en_listS rfl (Pu.ev_sb (Pu.sb_tunS (c := (dOpt dInt))) (Pu.ev_var (.s (.z)))))) (Pu.st_seq (Pu.st_if (p := false) (Pu.et_not (Pu.et_B (Pu.ev_call (Pu.ea_cons (Pu.ev_var .z) (Pu.ea_cons (Pu.ev_sb (Pu.sb_tunS (c := (dOpt dInt))) (Pu.ev_var (.s (.z)))) (Pu.ea_cons (Pu.ev_var (.s (.s (.s (.s (.z)))))) Pu.ea_nil)))))) (Pu.st_post (Bk.drop Bk.id (.s (.s (.s (.s (.s (.s (.z)))))))) (Pu.st_seq (Pu.st_set (p := false) (.s (.s (.s (.s (.s (.s (.z))))))) (Pu.ev_call (Pu.ea_cons (Pu.ev_var .z) (Pu.ea_cons (Pu.ev_var (.s (.z))) (Pu.ea_cons (Pu.ev_var (.s (.s (.s (.s (.z)))))) Pu.ea_nil))))) (Pu.st_if (p := false) (Pu.et_test (Pu.ev_op Pu.o_notN (Pu.ev_var (.s (.s (.s (.s (.s (.s (.z)))))))) (Pu.ev_c (c := dNon) (x := ()) fun _ => rfl))) (Pu.st_setIx (p := false) (by decide) (.s (.s (.s (.s (.s (.z)))))) (Pu.ev_as (b := (dOpt dInt)) (fun _ => none) noneI (Pu.ev_c (c := dNon) (x := ()) fun _ => rfl)) (Pu.ev_asP (fun x => x) Pu.o_someI (Pu.ev_var (.s (.s (.s (.s (.s (.s (.z)))))))))) Pu.st_next))) Pu.st_next) (Pu.st_seq (Pu.st_setIx (p := false) (by decide) (.s (.s (.s (.s (.s (.z)))))) (Pu.ev_as (a := dInt) (b := dOpt dInt) some someI (Pu.ev_var (.s (.s (.s (.s (.z))))))) (Pu.ev_var (.s (.s (.s (.z)))))) (Pu.st_ret (p := false) prD (Pu.ev_tupNM (.s (.s (.s (.s (.s (.z))))))))))))
  case f => intros; kernel_rfl
theorem ok_by_blocks (T : Tx fa fn K mg) : OkFd P w K mg base 6 (He.ga K "by_blocks") ["market", "match", "draws", "most"] [V.int 200] (spD (xcK K) [(dI_Market K), (dTuN (dOpt dInt)), (dLst dInt), dInt] (dTuN (dOpt dInt)) (fun x => m_by_blocks x.1 x.2.1 x.2.2.1 x.2.2.2.1)) := by
  refine okFd (T.c.def_ 20 (d := d_20) rfl) sc_by_blocks (lenD rfl) 3 (fun z => nomatch z) rfl (fun _ _ _ _ _ _ _ us its hl hl2 => match us, hl, its, hl2 with | [_, _, _], _, [_], _ => ⟨_, rfl, rfl⟩) ?_
  intro cdv A outer s H E hr
  refine ⟨_, (pss_cons (ps_set (i := 4) sc_by_blocks.nd (by rfl) (by first | exact Or.inl rfl | exact Or.inr rfl) (Pu.pe_tupleNK (K := K) (by rfl) (T.free 24) (pv 1))) (pss_cons (ps_set (i := 5) sc_by_blocks.nd (by rfl) (by first | exact Or.inl rfl | exact Or.inr rfl) (pcall (ok_blocks T) hr (by decide) (T.glo 50) pxB (pa_cons (pv 0) (pa_cons (pv 4) pa_nil)))) (pss_cons (ps_set (i := 6) sc_by_blocks.nd (by rfl) (by first | exact Or.inl rfl | exact Or.inr rfl) pe_int) (pss_cons (ps_while poB (pt_cmpR (Pu.op_neDK (K := K) hr.units) (pv 5) (pe_tup pa_nil) (nomark _)) (pss_cons (ps_if (pt_cmpR op_ge (pv 6) (pv 3) (nomark _)) (pss_one (ps_raise rfl (takes_of rfl rfl rfl rfl) (let X := He.exc_ok (T.c.fact 51 (f := .exc "BadSize") rfl); pmk_own PySem.F.excBase_ValueError X.1 (T.glo 4) X.2.1 (raises_own X.2.2.1 X.2.2.2) rfl))) pss_nil) (pss_cons (ps_set (i := 7) sc_by_blocks.nd (by rfl) (by first | exact Or.inl rfl | exact Or.inr rfl) (pe_ix (Pu.ix_listK (K := K)) (pv 2) (pe_op op_mod (pv 6) (pe_callB (Pu.call_lenK (K := K)) (by rfl) (T.free 23) PySem.boot_len (pa_cons (pv 2) pa_nil))) (fun _ _ => rfl))) (pss_cons (ps_set (i := 4) sc_by_blocks.nd (by rfl) (by first | exact Or.inl rfl | exact Or.inr rfl) (pcall (ok_settled T) hr (by decide) (T.glo 52) pxB (pa_cons (pv 0) (pa_cons (pv 4) (pa_cons (pe_ix (Pu.ix_tupK (K := K)) (pv 5) (pe_op op_mod (pv 7) (pe_callB (Pu.call_lenK (K := K)) (by rfl) (T.free 23) PySem.boot_len (pa_cons (pv 5) pa_nil))) (fun _ _ => rfl)) pa_nil))))) (pss_cons (ps_set (i := 5) sc_by_blocks.nd (by rfl) (by first | exact Or.inl rfl | exact Or.inr rfl) (pcall (ok_blocks T) hr (by decide) (T.glo 50) pxB (pa_cons (pv 0) (pa_cons (pv 4) pa_nil)))) (pss_one (ps_aug (i := 6) sc_by_blocks.nd (by rfl) (by first | exact Or.inl rfl | exact Or.inr rfl) pe_int ip_add))))))) (pss_one (ps_ret (pv 4))))))), ?_⟩
  intro vs Q h
  refine run_D (Γe := []) (cs := [(dI_Market K), (dTuN (dOpt dInt)), (dLst dInt), dInt]) (n := 4) (T := ?T) rfl ?h ?f vs H Q h
  case h => exact (Pu.st_seq (Pu.st_set (p := false) (.s (.s (.s (.s (.z))))) (Pu.ev_1 Pu.o_tupNN (Pu.ev_var (.s (.z))))) (Pu.st_seq (Pu.st_set (p := false) (.s (.s (.s (.s (.s (.z)))))) (Pu.ev_call (Pu.ea_cons (Pu.ev_var .z) (Pu.ea_cons (Pu.ev_var (.s (.s (.s (.s (.z)))))) Pu.ea_nil)))) (Pu.st_seq (Pu.st_set (p := false) (.s (.s (.s (.s (.s (.s (.z))))))) (Pu.ev_c (c := dInt) (x := 0) fun _ => rfl)) (Pu.st_seq (Pu.st_while (p := false) 100000 (Pu.et_test (Pu.ev_op (Pu.o_ne (dqTup (dqP2 dqInt dqInt)) (by decide)) (Pu.ev_sb (Pu.sb_tun (c := (dP2 dInt dInt))) (Pu.ev_var (.s (.s (.s (.s (.s (.z)))))))) (Pu.ev_tup 0 (by decide) Pu.ea_nil))) (Pu.st_post (Bk.drop Bk.id (.s (.s (.s (.s (.s (.s (.s (.z))))))))) (Pu.st_seq (Pu.st_if (p := false) (Pu.et_test (Pu.ev_op Pu.o_cmp (Pu.ev_var (.s (.s (.s (.s (.s (.s (.z)))))))) (Pu.ev_var (.s (.s (.s (.z))))))) (Pu.st_raise (n := "BadSize")) Pu.st_next) (Pu.st_seq (Pu.st_set (p := false) (.s (.s (.s (.s (.s (.s (.s (.z)))))))) (Pu.ev_opP Pu.o_ixL (Pu.ev_var (.s (.s (.z)))) (Pu.ev_opP Pu.o_mod (Pu.ev_var (.s (.s (.s (.s (.s (.s (.z)))))))) (Pu.ev_b1 Pu.o_lenL (Pu.ev_var (.s (.s (.z)))))))) (Pu.st_seq (Pu.st_set (p := false) (.s (.s (.s (.s (.z))))) (Pu.ev_call (Pu.ea_cons (Pu.ev_var .z) (Pu.ea_cons (Pu.ev_var (.s (.s (.s (.s (.z)))))) (Pu.ea_cons (Pu.ev_opP Pu.o_ixT (Pu.ev_sb (Pu.sb_tun (c := (dP2 dInt dInt))) (Pu.ev_var (.s (.s (.s (.s (.s (.z)))))))) (Pu.ev_opP Pu.o_mod (Pu.ev_var (.s (.s (.s (.s (.s (.s (.s (.z))))))))) (Pu.ev_b1 Pu.o_lenT (Pu.ev_sb (Pu.sb_tun (c := (dP2 dInt dInt))) (Pu.ev_var (.s (.s (.s (.s (.s (.z))))))))))) Pu.ea_nil))))) (Pu.st_seq (Pu.st_set (p := false) (.s (.s (.s (.s (.s (.z)))))) (Pu.ev_call (Pu.ea_cons (Pu.ev_var .z) (Pu.ea_cons (Pu.ev_var (.s (.s (.s (.s (.z)))))) Pu.ea_nil)))) (Pu.st_aug (.s (.s (.s (.s (.s (.s (.z))))))) (.s (.s (.s (.s (.s (.s (.z))))))) (Pu.ev_c (c := dInt) (x := 1) fun _ => rfl)))))))) (Pu.st_ret (p := false) prD (Pu.ev_var (.s (.s (.s (.s (.z)))))))))))
  case f => intros; kernel_rfl
theorem ok_law_matches (T : Tx fa fn K mg) : OkF P w K mg base 1 (He.ga K "_law_matches") ["lists", "orders", "seats"] (spD (xcK K) [(dLst (dTuN dInt)), (dLst (dTuN dInt)), (dLst dInt)] (dLst (dTuN (dOpt dInt))) (fun x => m_law_matches x.1 x.2.1 x.2.2.1)) := by
  refine okF (T.c.def_ 21 (d := d_21) rfl) sc_law_matches (lenD rfl) (fun _ _ _ _ _ _ us hl => match us, hl with | [_, _, _], _ => rfl) ?_
  intro cdv A outer s H E hr
  refine ⟨_, (pss_cons (ps_set (i := 3) sc_law_matches.nd (by rfl) (by first | exact Or.inl rfl | exact Or.inr rfl) (pe_lst (pa_cons (pe_tupF pa_nil) pa_nil))) (pss_cons (ps_for poB (by rfl) (pi_range1 (by rfl) (T.free 21) (pa_cons (pe_callB (Pu.call_lenK (K := K)) (by rfl) (T.free 23) PySem.boot_len (pa_cons (pv 0) pa_nil)) pa_nil)) (pg_name (i := 4) sc_law_matches.nd (by rfl) (by first | exact Or.inl rfl | exact Or.inr rfl)) (pss_cons (ps_set (i := 5) sc_law_matches.nd (by rfl) (by first | exact Or.inl rfl | exact Or.inr rfl) (pe_op op_cat (pe_lst (pa_cons pe_non pa_nil)) (pe_lc (own := [("room", 6)]) (by rfl) sc_law_matches.nd (Pu.pi_tupK (K := K) (pe_ix (Pu.ix_listK (K := K)) (pv 0) (pv 4) (fun _ _ => rfl))) (blkOk_by (N := ["lists", "orders", "seats", "found", "k", "rooms", "room", "fresh", "row"]) (sc := defScope s_law_matches) (by decide +kernel)) (fun _ _ _ _ _ => (pg_name (i := 6) sc_law_matches.nd (by rfl) (by first | exact Or.inl rfl | exact Or.inr rfl))) (fun _ _ _ _ _ => pts_one (pt_cmpR (Pu.op_in_seqK (K := K)) (pv 4) (pe_ix (Pu.ix_listK (K := K)) (pv 1) (pv 6) (fun _ _ => rfl)) rfl)) (fun _ _ _ _ _ => (pv 6))))) (pss_cons (ps_set (i := 7) sc_law_matches.nd (by rfl) (by first | exact Or.inl rfl | exact Or.inr rfl) (pe_lst pa_nil)) (pss_cons (ps_for poB (by rfl) (Pu.pi_listK (K := K) (pv 3)) (pg_name (i := 8) sc_law_matches.nd (by rfl) (by first | exact Or.inl rfl | exact Or.inr rfl)) (pss_one (ps_set (i := 7) sc_law_matches.nd (by rfl) (by first | exact Or.inl rfl | exact Or.inr rfl) (pe_op op_cat (pv 7) (pe_lc (own := [("room", 6)]) (by rfl) sc_law_matches.nd (Pu.pi_listK (K := K) (pv 5)) (blkOk_by (N := ["lists", "orders", "seats", "found", "k", "rooms", "room", "fresh", "row"]) (sc := defScope s_law_matches) (by decide +kernel)) (fun _ _ _ _ _ => (pg_name (i := 6) sc_law_matches.nd (by rfl) (by first | exact Or.inl rfl | exact Or.inr rfl))) (fun _ _ _ _ _ => pts_one (PW.pt (pw_or (pt_cmpR op_isN (pv 6) pe_non (nomark _)) (pw_or1 (pt_cmpR op_lt (pe_bmT PySem.F.slot_tuple_count PySem.F.type_tuple_count (Pu.mt_countTK (K := K)) (pv 8) (pa_cons (pv 6) pa_nil)) (pe_ix (Pu.ix_listK (K := K)) (pv 2) (pv 6) (fun _ _ => rfl)) (nomark _)))))) (fun _ _ _ _ _ => (pe_op (Pu.op_catFK (K := K)) (pv 8) (pe_tupF (pa_cons (pv 6) pa_nil))))))))) (pss_one (ps_set (i := 3) sc_law_matches.nd (by rfl) (by first | exact Or.inl rfl | exact Or.inr rfl) (pv 7))))))) (pss_one (ps_ret (pv 3))))), ?_⟩
  intro vs Q h
  refine run_D (Γe := []) (cs := [(dLst (dTuN dInt)), (dLst (dTuN dInt)), (dLst dInt)]) (n := 6) (T := ?T) rfl ?h ?f vs H Q h
  case h => exact (Pu.st_seq (Pu.st_set (p := false) (.s (.s (.s (.z)))) (Pu.freeze (c := (dTuN (dOpt dInt))) (Pu.en_lst (c := (dTuN (dOpt dInt))) 1 (by decide) (Pu.ea_cons (Pu.ev_tupN (c := (dOpt dInt)) 0 (by decide) Pu.ea_nil) Pu.ea_nil)))) (Pu.st_seq (Pu.st_for (p := false) (Γ' := [.da (dLst (dTuN dInt)), .da (dLst (dTuN dInt)), .da (dLst dInt), .da (dLst (dTuN (dOpt dInt))), .da dInt, .no, .no, .no, .no]) (Pu.ei_rng1 (Pu.ea_cons (Pu.ev_b1 Pu.o_lenL (Pu.ev_var .z)) Pu.ea_nil)) (Pu.tg_name (.s (.s (.s (.s (.z)))))) (Pu.st_post (Bk.drop (Bk.drop (Bk.drop Bk.id (.s (.s (.s (.s (.s (.s (.s (.z))))))))) (.s (.s (.s (.s (.s (.z))))))) (.s (.s (.s (.s (.z)))))) (Pu.st_seq (Pu.st_set (p := false) (.s (.s (.s (.s (.s (.z)))))) (Pu.freeze (c := (dOpt dInt)) (Pu.en_cat (Pu.ev_sb Pu.sb_noneL (Pu.freeze (c := dNon) (Pu.en_lst (c := dNon) 1 (by decide) (Pu.ea_cons (Pu.ev_c (c := dNon) (x := ()) fun _ => rfl) Pu.ea_nil)))) (Pu.ev_sb Pu.sb_someL (Pu.freeze (c := dInt) (Pu.en_lc (q := false) (vs := [6]) (Γ0 := [.da (dLst (dTuN dInt)), .da (dLst (dTuN dInt)), .da (dLst dInt), .da (dLst (dTuN (dOpt dInt))), .da dInt, .no, .no, .no, .no]) (Γ1 := [.da (dLst (dTuN dInt)), .da (dLst (dTuN dInt)), .da (dLst dInt), .da (dLst (dTuN (dOpt dInt))), .da dInt, .no, .da dInt, .no, .no]) Hd.id (by rfl) (by decide) (Bk.drop Bk.id (.s (.s (.s (.s (.s (.s (.z)))))))) (Pu.ei_tup (Pu.ev_sb (Pu.sb_tun (c := dInt)) (Pu.ev_opP Pu.o_ixL (Pu.ev_var .z) (Pu.ev_var (.s (.s (.s (.s (.z))))))))) (Pu.tg_name (.s (.s (.s (.s (.s (.s (.z)))))))) (Pu.et_test (Pu.ev_op (Pu.o_inT flInt false) (Pu.ev_var (.s (.s (.s (.s (.z)))))) (Pu.ev_sb (Pu.sb_tun (c := dInt)) (Pu.ev_opP Pu.o_ixL (Pu.ev_var (.s (.z))) (Pu.ev_var (.s (.s (.s (.s (.s (.s (.z)))))))))))) (Pu.ev_var (.s (.s (.s (.s (.s (.s (.z)))))))))))))) (Pu.st_seq (Pu.st_set (p := false) (.s (.s (.s (.s (.s (.s (.s (.z)))))))) (Pu.freeze (c := (dTuN (dOpt dInt))) Pu.en_nil)) (Pu.st_seq (Pu.st_for (p := false) (Γ' := [.da (dLst (dTuN dInt)), .da (dLst (dTuN dInt)), .da (dLst dInt), .da (dLst (dTuN (dOpt dInt))), .da dInt, .da (dLst (dOpt dInt)), .no, .da (dLst (dTuN (dOpt dInt))), .da (dTuN (dOpt dInt))]) (Pu.ei_list (Pu.ev_var (.s (.s (.s (.z)))))) (Pu.tg_name (.s (.s (.s (.s (.s (.s (.s (.s (.z)))))))))) (Pu.st_post (Bk.drop Bk.id (.s (.s (.s (.s (.s (.s (.s (.s (.z)))))))))) (Pu.st_set (p := false) (.s (.s (.s (.s (.s (.s (.s (.z)))))))) (Pu.freeze (c := (dTuN (dOpt dInt))) (Pu.en_cat (Pu.ev_var (.s (.s (.s (.s (.s (.s (.s (.z))))))))) (Pu.freeze (c := (dTuN (dOpt dInt))) (Pu.en_lc (q := false) (vs := [6]) (Γ0 := [.da (dLst (dTuN dInt)), .da (dLst (dTuN dInt)), .da (dLst dInt), .da (dLst (dTuN (dOpt dInt))), .da dInt, .da (dLst (dOpt dInt)), .no, .da (dLst (dTuN (dOpt dInt))), .da (dTuN (dOpt dInt))]) (Γ1 := [.da (dLst (dTuN dInt)), .da (dLst (dTuN dInt)), .da (dLst dInt), .da (dLst (dTuN (dOpt dInt))), .da dInt, .da (dLst (dOpt dInt)), .da (dOpt dInt), .da (dLst (dTuN (dOpt dInt))), .da (dTuN (dOpt dInt))]) Hd.id (by rfl) (by decide) (Bk.drop Bk.id (.s (.s (.s (.s (.s (.s (.z)))))))) (Pu.ei_list (Pu.ev_var (.s (.s (.s (.s (.s (.z)))))))) (Pu.tg_name (.s (.s (.s (.s (.s (.s (.z)))))))) (Pu.et_or (Pu.et_test (Pu.ev_op Pu.o_isN (Pu.ev_var (.s (.s (.s (.s (.s (.s (.z)))))))) (Pu.ev_c (c := dNon) (x := ()) fun _ => rfl))) (Pu.et_test (Pu.ev_op Pu.o_cmp (Pu.ev_countT flOI (Pu.ev_var (.s (.s (.s (.s (.s (.s (.s (.s (.z)))))))))) (Pu.ev_var (.s (.s (.s (.s (.s (.s (.z))))))))) (Pu.ev_opP Pu.o_ixL (Pu.ev_var (.s (.s (.z)))) (Pu.ev_asP (fun x => x) Pu.o_someI (Pu.ev_var (.s (.s (.s (.s (.s (.s (.z))))))))))))) (Pu.ev_opP Pu.o_catTN (Pu.ev_var (.s (.s (.s (.s (.s (.s (.s (.s (.z)))))))))) (Pu.ev_tupN (c := (dOpt dInt)) 1 (by decide) (Pu.ea_cons (Pu.ev_var (.s (.s (.s (.s (.s (.s (.z)))))))) Pu.ea_nil)))))))))) (Pu.st_set (p := false) (.s (.s (.s (.z)))) (Pu.ev_var (.s (.s (.s (.s (.s (.s (.s (.z))))))))))))))) (Pu.st_ret (p := false) prD (Pu.ev_var (.s (.s (.s (.z))))))))
  case f => intros; kernel_rfl
theorem ok_law_blocks (T : Tx fa fn K mg) : OkF P w K mg base 2 (He.ga K "_law_blocks") ["lists", "orders", "seats", "match"] (spD (xcK K) [(dLst (dTuN dInt)), (dLst (dTuN dInt)), (dLst dInt), (dTuN (dOpt dInt))] (dLst (dP2 dInt dInt)) (fun x => m_law_blocks x.1 x.2.1 x.2.2.1 x.2.2.2.1)) := by
  refine okF (T.c.def_ 22 (d := d_22) rfl) sc_law_blocks (lenD rfl) (fun _ _ _ _ _ _ us hl => match us, hl with | [_, _, _, _], _ => rfl) ?_
  intro cdv A outer s H E hr
  refine ⟨_, (pss_cons (ps_set (i := 4) sc_law_blocks.nd (by rfl) (by first | exact Or.inl rfl | exact Or.inr rfl) (pe_lst pa_nil)) (pss_cons (ps_for poB (by rfl) (pi_range1 (by rfl) (T.free 21) (pa_cons (pe_callB (Pu.call_lenK (K := K)) (by rfl) (T.free 23) PySem.boot_len (pa_cons (pv 0) pa_nil)) pa_nil)) (pg_name (i := 5) sc_law_blocks.nd (by rfl) (by first | exact Or.inl rfl | exact Or.inr rfl)) (pss_one (ps_for poB (by rfl) (Pu.pi_tupK (K := K) (pe_slice (Pu.sl_tupAK (K := K)) (pe_ix (Pu.ix_listK (K := K)) (pv 0) (pv 5) (fun _ _ => rfl)) po_none (po_some (pcall (ok_law_place T) hr (by decide) (T.glo 53) pxB (pa_cons (pe_ix (Pu.ix_listK (K := K)) (pv 0) (pv 5) (fun _ _ => rfl)) (pa_cons (pe_ix (Pu.ix_tupK (K := K)) (pv 3) (pv 5) (fun _ _ => rfl)) pa_nil)))))) (pg_name (i := 6) sc_law_blocks.nd (by rfl) (by first | exact Or.inl rfl | exact Or.inr rfl)) (pss_cons (ps_setLc (i := 7) (own := [("j", 8)]) (by rfl) sc_law_blocks.nd rfl rfl (sw_true rfl rfl rfl (by decide +kernel)) (pi_range1 (by rfl) (T.free 21) (pa_cons (pe_callB (Pu.call_lenK (K := K)) (by rfl) (T.free 23) PySem.boot_len (pa_cons (pv 0) pa_nil)) pa_nil)) (blkOk_by (N := ["lists", "orders", "seats", "match", "found", "k", "room", "inside", "j", "worse"]) (sc := defScope s_law_blocks) (by decide +kernel)) (fun _ _ _ _ _ => (pg_name (i := 8) sc_law_blocks.nd (by rfl) (by first | exact Or.inl rfl | exact Or.inr rfl))) (fun _ _ _ _ _ => pts_one (pt_cmpR (Pu.op_eqDK (K := K) hr.units) (pe_ix (Pu.ix_tupK (K := K)) (pv 3) (pv 8) (fun _ _ => rfl)) (pv 6) (nomark _))) (fun _ _ _ _ _ => (pv 8))) (pss_cons (ps_setLc (i := 9) (own := [("j", 8)]) (by rfl) sc_law_blocks.nd rfl rfl (sw_true rfl rfl rfl (by decide +kernel)) (Pu.pi_listK (K := K) (pv 7)) (blkOk_by (N := ["lists", "orders", "seats", "match", "found", "k", "room", "inside", "j", "worse"]) (sc := defScope s_law_blocks) (by decide +kernel)) (fun _ _ _ _ _ => (pg_name (i := 8) sc_law_blocks.nd (by rfl) (by first | exact Or.inl rfl | exact Or.inr rfl))) (fun _ _ _ _ _ => pts_one (pt_cmpR op_gt (pcall (ok_law_place T) hr (by decide) (T.glo 53) passL (pa_cons (pe_ix (Pu.ix_listK (K := K)) (pv 1) (pv 6) (fun _ _ => rfl)) (pa_cons (pv 8) pa_nil))) (pcall (ok_law_place T) hr (by decide) (T.glo 53) passL (pa_cons (pe_ix (Pu.ix_listK (K := K)) (pv 1) (pv 6) (fun _ _ => rfl)) (pa_cons (pv 5) pa_nil))) (nomark _))) (fun _ _ _ _ _ => (pv 8))) (pss_one (ps_if (PW.pt (pw_and (pt_cmpR (Pu.op_in_seqK (K := K)) (pv 5) (pe_ix (Pu.ix_listK (K := K)) (pv 1) (pv 6) (fun _ _ => rfl)) rfl) (pw_and1 (PW.pt (pw_or (pt_cmpR op_lt (pe_callB (Pu.call_lenK (K := K)) (by rfl) (T.free 23) PySem.boot_len (pa_cons (pv 7) pa_nil)) (pe_ix (Pu.ix_listK (K := K)) (pv 2) (pv 6) (fun _ _ => rfl)) (nomark _)) (pw_or1 (pt_cmpR (Pu.op_neDK (K := K) hr.units) (pv 9) (pe_lst pa_nil) (nomark _)))))))) (pss_one (ps_expr (Pu.pe_bmK (K := K) PySem.F.plainAttrs_list PySem.F.slot_list_append PySem.F.type_list_append mt_append (pv 4) (pa_cons (pe_tup (pa_cons (pv 5) (pa_cons (pv 6) pa_nil))) pa_nil)))) pss_nil))))))) (pss_one (ps_ret (pv 4))))), ?_⟩
  intro vs Q h
  refine run_D (Γe := []) (cs := [(dLst (dTuN dInt)), (dLst (dTuN dInt)), (dLst dInt), (dTuN (dOpt dInt))]) (n := 6) (T := ?T) rfl ?h ?f vs H Q h
  case h => exact (Pu.st_seq (Pu.st_setN (p := false) (.s (.s (.s (.s (.z))))) Pu.en_nil) (Pu.st_seq (Pu.st_for (p := false) (Γ' := [.da (dLst (dTuN dInt)), .da (dLst (dTuN dInt)), .da (dLst dInt), .da (dTuN (dOpt dInt)), .m .lo (mLst (dP2 dInt dInt)), .da dInt, .no, .no, .no, .no]) (Pu.ei_rng1 (Pu.ea_cons (Pu.ev_b1 Pu.o_lenL (Pu.ev_var .z)) Pu.ea_nil)) (Pu.tg_name (.s (.s (.s (.s (.s (.z))))))) (Pu.st_post (Bk.drop Bk.id (.s (.s (.s (.s (.s (.z))))))) (Pu.st_for (p := false) (Γ' := [.da (dLst (dTuN dInt)), .da (dLst (dTuN dInt)), .da (dLst dInt), .da (dTuN (dOpt dInt)), .m .lo (mLst (dP2 dInt dInt)), .da dInt, .da dInt, .no, .no, .no]) (Pu.ei_tup (Pu.ev_slT (Pu.ev_sb (Pu.sb_tun (c := dInt)) (Pu.ev_opP Pu.o_ixL (Pu.ev_var .z) (Pu.ev_var (.s (.s (.s (.s (.s (.z))))))))) Pu.eo_no (Pu.eo_some (Pu.ev_call (Pu.ea_cons (Pu.ev_opP Pu.o_ixL (Pu.ev_var .z) (Pu.ev_var (.s (.s (.s (.s (.s (.z)))))))) (Pu.ea_cons (Pu.ev_opP Pu.o_ixT (Pu.ev_sb (Pu.sb_tun (c := (dOpt dInt))) (Pu.ev_var (.s (.s (.s (.z)))))) (Pu.ev_var (.s (.s (.s (.s (.s (.z)))))))) Pu.ea_nil)))))) (Pu.tg_name (.s (.s (.s (.s (.s (.s (.z)))))))) (Pu.st_post (Bk.drop (Bk.drop (Bk.drop Bk.id (.s (.s (.s (.s (.s (.s (.s (.s (.s (.z))))))))))) (.s (.s (.s (.s (.s (.s (.s (.z))))))))) (.s (.s (.s (.s (.s (.s (.z)))))))) (Pu.st_seq (Pu.st_set (p := false) (.s (.s (.s (.s (.s (.s (.s (.z)))))))) (Pu.freeze (c := dInt) (Pu.en_lc (q := false) (vs := [8]) (Γ0 := [.da (dLst (dTuN dInt)), .da (dLst (dTuN dInt)), .da (dLst dInt), .da (dTuN (dOpt dInt)), .m .lo (mLst (dP2 dInt dInt)), .da dInt, .da dInt, .no, .no, .no]) (Γ1 := [.da (dLst (dTuN dInt)), .da (dLst (dTuN dInt)), .da (dLst dInt), .da (dTuN (dOpt dInt)), .m .lo (mLst (dP2 dInt dInt)), .da dInt, .da dInt, .no, .da dInt, .no]) Hd.id (by rfl) (by decide) (Bk.drop Bk.id (.s (.s (.s (.s (.s (.s (.s (.s (.z)))))))))) (Pu.ei_rng1 (Pu.ea_cons (Pu.ev_b1 Pu.o_lenL (Pu.ev_var .z)) Pu.ea_nil)) (Pu.tg_name (.s (.s (.s (.s (.s (.s (.s (.s (.z)))))))))) (Pu.et_test (Pu.ev_op (Pu.o_eq dqOI (by decide)) (Pu.ev_opP Pu.o_ixT (Pu.ev_sb (Pu.sb_tun (c := (dOpt dInt))) (Pu.ev_var (.s (.s (.s (.z)))))) (Pu.ev_var (.s (.s (.s (.s (.s (.s (.s (.s (.z))))))))))) (Pu.ev_as (a := dInt) (b := dOpt dInt) some someI (Pu.ev_var (.s (.s (.s (.s (.s (.s (.z))))))))))) (Pu.ev_var (.s (.s (.s (.s (.s (.s (.s (.s (.z))))))))))))) (Pu.st_seq (Pu.st_set (p := false) (.s (.s (.s (.s (.s (.s (.s (.s (.s (.z)))))))))) (Pu.freeze (c := dInt) (Pu.en_lc (q := false) (vs := [8]) (Γ0 := [.da (dLst (dTuN dInt)), .da (dLst (dTuN dInt)), .da (dLst dInt), .da (dTuN (dOpt dInt)), .m .lo (mLst (dP2 dInt dInt)), .da dInt, .da dInt, .da (dLst dInt), .no, .no]) (Γ1 := [.da (dLst (dTuN dInt)), .da (dLst (dTuN dInt)), .da (dLst dInt), .da (dTuN (dOpt dInt)), .m .lo (mLst (dP2 dInt dInt)), .da dInt, .da dInt, .da (dLst dInt), .da dInt, .no]) Hd.id (by rfl) (by decide) (Bk.drop Bk.id (.s (.s (.s (.s (.s (.s (.s (.s (.z)))))))))) (Pu.ei_list (Pu.ev_var (.s (.s (.s (.s (.s (.s (.s (.z)))))))))) (Pu.tg_name (.s (.s (.s (.s (.s (.s (.s (.s (.z)))))))))) (Pu.et_test (Pu.ev_op Pu.o_cmp (Pu.ev_call (Pu.ea_cons (Pu.ev_opP Pu.o_ixL (Pu.ev_var (.s (.z))) (Pu.ev_var (.s (.s (.s (.s (.s (.s (.z))))))))) (Pu.ea_cons (Pu.ev_as (a := dInt) (b := dOpt dInt) some someI (Pu.ev_var (.s (.s (.s (.s (.s (.s (.s (.s (.z))))))))))) Pu.ea_nil))) (Pu.ev_call (Pu.ea_cons (Pu.ev_opP Pu.o_ixL (Pu.ev_var (.s (.z))) (Pu.ev_var (.s (.s (.s (.s (.s (.s (.z))))))))) (Pu.ea_cons (Pu.ev_as (a := dInt) (b := dOpt dInt) some someI (Pu.ev_var (.s (.s (.s (.s (.s (.z)))))))) Pu.ea_nil))))) (Pu.ev_var (.s (.s (.s (.s (.s (.s (.s (.s (.z))))))))))))) (Pu.st_if (p := false) (Pu.et_and (Pu.et_test (Pu.ev_op (Pu.o_inT flInt false) (Pu.ev_var (.s (.s (.s (.s (.s (.z))))))) (Pu.ev_sb (Pu.sb_tun (c := dInt)) (Pu.ev_opP Pu.o_ixL (Pu.ev_var (.s (.z))) (Pu.ev_var (.s (.s (.s (.s (.s (.s (.z)))))))))))) (Pu.et_or (Pu.et_test (Pu.ev_op Pu.o_cmp (Pu.ev_b1 Pu.o_lenL (Pu.ev_var (.s (.s (.s (.s (.s (.s (.s (.z)))))))))) (Pu.ev_opP Pu.o_ixL (Pu.ev_var (.s (.s (.z)))) (Pu.ev_var (.s (.s (.s (.s (.s (.s (.z))))))))))) (Pu.et_test (Pu.ev_op (Pu.o_ne (dqLst dqInt) (by decide)) (Pu.ev_var (.s (.s (.s (.s (.s (.s (.s (.s (.s (.z))))))))))) (Pu.freeze Pu.en_nil))))) (Pu.st_app (p := false) (by decide) (.s (.s (.s (.s (.z))))) (Pu.ev_p2 (Pu.ea_cons (Pu.ev_var (.s (.s (.s (.s (.s (.z))))))) (Pu.ea_cons (Pu.ev_var (.s (.s (.s (.s (.s (.s (.z)))))))) Pu.ea_nil)))) Pu.st_next))))))) (Pu.st_retL (.s (.s (.s (.s (.z))))))))
  case f => intros; kernel_rfl
theorem ok_law_stable (T : Tx fa fn K mg) : OkF P w K mg base 3 (He.ga K "_law_stable") ["lists", "orders", "seats"] (spD (xcK K) [(dLst (dTuN dInt)), (dLst (dTuN dInt)), (dLst dInt)] (dLst (dTuN (dOpt dInt))) (fun x => m_law_stable x.1 x.2.1 x.2.2.1)) := by
  refine okF (T.c.def_ 23 (d := d_23) rfl) sc_law_stable (lenD rfl) (fun _ _ _ _ _ _ us hl => match us, hl with | [_, _, _], _ => rfl) ?_
  intro cdv A outer s H E hr
  refine ⟨_, (pss_one (ps_ret (pe_lc (own := [("match", 3)]) (by rfl) sc_law_stable.nd (Pu.pi_listK (K := K) (pcall (ok_law_matches T) hr (by decide) (T.glo 54) pxB (pa_cons (pv 0) (pa_cons (pv 1) (pa_cons (pv 2) pa_nil))))) (blkOk_by (N := ["lists", "orders", "seats", "match"]) (sc := defScope s_law_stable) (by decide +kernel)) (fun _ _ _ _ _ => (pg_name (i := 3) sc_law_stable.nd (by rfl) (by first | exact Or.inl rfl | exact Or.inr rfl))) (fun _ _ _ _ _ => pts_one (pt_cmpR (Pu.op_eqDK (K := K) hr.units) (pcall (ok_law_blocks T) hr (by decide) (T.glo 55) passL (pa_cons (pv 0) (pa_cons (pv 1) (pa_cons (pv 2) (pa_cons (pv 3) pa_nil))))) (pe_lst pa_nil) (nomark _))) (fun _ _ _ _ _ => (pv 3))))), ?_⟩
  intro vs Q h
  refine run_D (Γe := []) (cs := [(dLst (dTuN dInt)), (dLst (dTuN dInt)), (dLst dInt)]) (n := 1) (T := ?T) rfl ?h ?f vs H Q h
  case h => exact (Pu.st_ret (p := false) prD (Pu.freeze (c := (dTuN (dOpt dInt))) (Pu.en_lc (q := false) (vs := [3]) (Γ0 := [.da (dLst (dTuN dInt)), .da (dLst (dTuN dInt)), .da (dLst dInt), .no]) (Γ1 := [.da (dLst (dTuN dInt)), .da (dLst (dTuN dInt)), .da (dLst dInt), .da (dTuN (dOpt dInt))]) Hd.id (by rfl) (by decide) (Bk.drop Bk.id (.s (.s (.s (.z))))) (Pu.ei_list (Pu.ev_call (Pu.ea_cons (Pu.ev_var .z) (Pu.ea_cons (Pu.ev_var (.s (.z))) (Pu.ea_cons (Pu.ev_var (.s (.s (.z)))) Pu.ea_nil))))) (Pu.tg_name (.s (.s (.s (.z))))) (Pu.et_test (Pu.ev_op (Pu.o_eq (dqLst (dqP2 dqInt dqInt)) (by decide)) (Pu.ev_call (Pu.ea_cons (Pu.ev_var .z) (Pu.ea_cons (Pu.ev_var (.s (.z))) (Pu.ea_cons (Pu.ev_var (.s (.s (.z)))) (Pu.ea_cons (Pu.ev_var (.s (.s (.s (.z))))) Pu.ea_nil))))) (Pu.freeze Pu.en_nil))) (Pu.ev_var (.s (.s (.s (.z))))))))
  case f => intros; kernel_rfl
theorem ok_law_market (T : Tx fa fn K mg) : OkF P w K mg base 3 (He.ga K "_law_market") ["dice", "askers", "rooms"] (spM (xcK K) (mLst dInt) [dInt, dInt] (dP3 (dLst (dTuN dInt)) (dLst (dTuN dInt)) (dLst dInt)) (fun y x => m_law_market y x.1 x.2.1)) := by
  refine okF (T.c.def_ 24 (d := d_24) rfl) sc_law_market (lenM rfl) (fun _ _ _ _ _ _ us hl => match us, hl with | [_, _, _], _ => rfl) ?_
  intro cdv A outer s H E hr
  refine ⟨_, (pss_cons (ps_setLc (i := 3) (own := [("k", 4)]) (by rfl) sc_law_market.nd rfl rfl (sw_true rfl rfl rfl (by decide +kernel)) (pi_range1 (by rfl) (T.free 21) (pa_cons (pv 1) pa_nil)) (blkOk_by (N := ["dice", "askers", "rooms", "lists", "k", "orders"]) (sc := defScope s_law_market) (by decide +kernel)) (fun _ _ _ _ _ => (pg_name (i := 4) sc_law_market.nd (by rfl) (by first | exact Or.inl rfl | exact Or.inr rfl))) (fun _ _ _ _ _ => pts_nil) (fun _ _ _ _ _ => (pcall (ok_law_list T) hr (by decide) (T.glo 56) passL (pa_cons (pv 0) (pa_cons (pv 2) pa_nil))))) (pss_cons (ps_setLc (i := 5) (own := [("k", 4)]) (by rfl) sc_law_market.nd rfl rfl (sw_true rfl rfl rfl (by decide +kernel)) (pi_range1 (by rfl) (T.free 21) (pa_cons (pv 2) pa_nil)) (blkOk_by (N := ["dice", "askers", "rooms", "lists", "k", "orders"]) (sc := defScope s_law_market) (by decide +kernel)) (fun _ _ _ _ _ => (pg_name (i := 4) sc_law_market.nd (by rfl) (by first | exact Or.inl rfl | exact Or.inr rfl))) (fun _ _ _ _ _ => pts_nil) (fun _ _ _ _ _ => (pcall (ok_law_list T) hr (by decide) (T.glo 56) passL (pa_cons (pv 0) (pa_cons (pv 1) pa_nil))))) (pss_one (ps_ret (pe_tup (pa_cons (pv 3) (pa_cons (pv 5) (pa_cons (pe_lc (own := [("k", 4)]) (by rfl) sc_law_market.nd (pi_range1 (by rfl) (T.free 21) (pa_cons (pv 2) pa_nil)) (blkOk_by (N := ["dice", "askers", "rooms", "lists", "k", "orders"]) (sc := defScope s_law_market) (by decide +kernel)) (fun _ _ _ _ _ => (pg_name (i := 4) sc_law_market.nd (by rfl) (by first | exact Or.inl rfl | exact Or.inr rfl))) (fun _ _ _ _ _ => pts_nil) (fun _ _ _ _ _ => (pcall (ok_law_roll T) hr (by decide) (T.glo 22) passL (pa_cons (pv 0) (pa_cons pe_int pa_nil))))) pa_nil)))))))), ?_⟩
  intro vs Q h
  refine run_M (Γe := []) (cs := [dInt, dInt]) (n := 3) (T := ?T) rfl ?h ?f vs H Q h
  case h => exact (Pu.st_seq (Pu.st_set (p := false) (.s (.s (.s (.z)))) (Pu.freeze (c := (dTuN dInt)) (Pu.en_lc (q := false) (vs := [4]) (Γ0 := [.m .pa (mLst dInt), .da dInt, .da dInt, .no, .no, .no]) (Γ1 := [.m .pa (mLst dInt), .da dInt, .da dInt, .no, .da dInt, .no]) Hd.id (by rfl) (by decide) (Bk.drop Bk.id (.s (.s (.s (.s (.z)))))) (Pu.ei_rng1 (Pu.ea_cons (Pu.ev_var (.s (.z))) Pu.ea_nil)) (Pu.tg_name (.s (.s (.s (.s (.z)))))) Pu.pts_et (Pu.ev_callM (k := .pa) (by decide) .z (Pu.ea_cons (Pu.ev_var (.s (.s (.z)))) Pu.ea_nil))))) (Pu.st_seq (Pu.st_set (p := false) (.s (.s (.s (.s (.s (.z)))))) (Pu.freeze (c := (dTuN dInt)) (Pu.en_lc (q := false) (vs := [4]) (Γ0 := [.m .pa (mLst dInt), .da dInt, .da dInt, .da (dLst (dTuN dInt)), .no, .no]) (Γ1 := [.m .pa (mLst dInt), .da dInt, .da dInt, .da (dLst (dTuN dInt)), .da dInt, .no]) Hd.id (by rfl) (by decide) (Bk.drop Bk.id (.s (.s (.s (.s (.z)))))) (Pu.ei_rng1 (Pu.ea_cons (Pu.ev_var (.s (.s (.z)))) Pu.ea_nil)) (Pu.tg_name (.s (.s (.s (.s (.z)))))) Pu.pts_et (Pu.ev_callM (k := .pa) (by decide) .z (Pu.ea_cons (Pu.ev_var (.s (.z))) Pu.ea_nil))))) (Pu.st_ret (p := false) (prM .z) (Pu.ev_p3 (Pu.ea_cons (Pu.ev_var (.s (.s (.s (.z))))) (Pu.ea_cons (Pu.ev_var (.s (.s (.s (.s (.s (.z))))))) (Pu.ea_cons (Pu.freeze (c := dInt) (Pu.en_lc (q := false) (vs := [4]) (Γ0 := [.m .pa (mLst dInt), .da dInt, .da dInt, .da (dLst (dTuN dInt)), .no, .da (dLst (dTuN dInt))]) (Γ1 := [.m .pa (mLst dInt), .da dInt, .da dInt, .da (dLst (dTuN dInt)), .da dInt, .da (dLst (dTuN dInt))]) Hd.id (by rfl) (by decide) (Bk.drop Bk.id (.s (.s (.s (.s (.z)))))) (Pu.ei_rng1 (Pu.ea_cons (Pu.ev_var (.s (.s (.z)))) Pu.ea_nil)) (Pu.tg_name (.s (.s (.s (.s (.z)))))) Pu.pts_et (Pu.ev_callM (k := .pa) (by decide) .z (Pu.ea_cons (Pu.ev_c (c := dInt) (x := 3) fun _ => rfl) Pu.ea_nil)))) Pu.ea_nil)))))))
  case f => intros; kernel_rfl
theorem law_s0 (T : Tx fa fn K mg) (TB : LamX.TabB base mg (lamC K) (lamP K)) {A : Around} {outer : List PySem.Env} {s : Shared} {H : Hp} {E : XK} (hr : Room 8 (A.deeper (envOfC "law" (defScope s_law) s.heap.objs.size (He.fAd K ("law", none)) (.ref (lamC K))))) :
    ∃ ts, PS (cxOf (L2.CX P w) P w K mg base ["script", "dice", "lists", "orders", "seats", "market", "every", "stable", "match", "draws", "k", "told_now", "here", "number", "pairs", "pair", "after", "one", "#tab"] "law" (defScope s_law) (He.fAd K ("law", none)) (.ref (lamC K)) A outer s H E) ((forBody (defBody s_law) 0).getD 0 (.Pass ⟨0, 0, 0, 0⟩)) ts ∧ StE E (xcK K) (retA dBl) [.da (dScr K), .m .lo (mLst dInt), .no, .no, .no, .no, .no, .no, .no, .no, .no, .no, .no, .no, .no, .no, .no, .no, .m .pa (mTab (lamP K) lamQ)] ts [.da (dScr K), .m .lo (mLst dInt), .da (dLst (dTuN dInt)), .da (dLst (dTuN dInt)), .da (dLst dInt), .no, .no, .no, .no, .no, .no, .no, .no, .no, .no, .no, .no, .no, .m .pa (mTab (lamP K) lamQ)] [.da (dScr K), .m .lo (mLst dInt), .da (dLst (dTuN dInt)), .da (dLst (dTuN dInt)), .da (dLst dInt), .da (dI_Market K), .da (dLst (dTuN (dOpt dInt))), .da (dLst (dTuN (dOpt dInt))), .da (dTuN (dOpt dInt)), .da (dLst dInt), .no, .da (dOr (dTuN (dOpt dInt))), .da (dTuN (dOpt dInt)), .da dInt, .no, .no, .no, .da (dTuN (dOpt dInt)), .m .pa (mTab (lamP K) lamQ)] (fun R nx rt bk ct ρ => m_law_s0 nx (fun x => rt x ()) ρ) := by
  refine ⟨_, (ps_asg (pcall (ok_law_market T) hr (by decide) (T.glo 58) pxB (pa_cons (pv 1) (pa_cons (pe_op op_add pe_int (pcall (ok_law_roll T) hr (by decide) (T.glo 22) pxB (pa_cons (pv 1) (pa_cons pe_int pa_nil)))) (pa_cons (pe_op op_add pe_int (pcall (ok_law_roll T) hr (by decide) (T.glo 22) pxB (pa_cons (pv 1) (pa_cons pe_int pa_nil)))) pa_nil)))) (Pu.pg_tupK (K := K) (n := 3) (by rfl) (pgs_cons (pg_name (i := 2) sc_law.nd (by rfl) (by first | exact Or.inl rfl | exact Or.inr rfl)) (pgs_cons (pg_name (i := 3) sc_law.nd (by rfl) (by first | exact Or.inl rfl | exact Or.inr rfl)) (pgs_cons (pg_name (i := 4) sc_law.nd (by rfl) (by first | exact Or.inl rfl | exact Or.inr rfl)) pgs_nil))))), ?_⟩
  refine StE.as (T := ?T) ?h ?f
  case h => exact (Pu.st_asg (p := false) (Pu.ev_callM (k := .lo) (by decide) (.s (.z)) (Pu.ea_cons (Pu.ev_op Pu.o_int (Pu.ev_c (c := dInt) (x := 1) fun _ => rfl) (Pu.ev_callM (k := .lo) (by decide) (.s (.z)) (Pu.ea_cons (Pu.ev_c (c := dInt) (x := 3) fun _ => rfl) Pu.ea_nil))) (Pu.ea_cons (Pu.ev_op Pu.o_int (Pu.ev_c (c := dInt) (x := 1) fun _ => rfl) (Pu.ev_callM (k := .lo) (by decide) (.s (.z)) (Pu.ea_cons (Pu.ev_c (c := dInt) (x := 3) fun _ => rfl) Pu.ea_nil))) Pu.ea_nil))) (Pu.tg_p3 (Pu.tg_name (.s (.s (.z)))) (Pu.tg_name (.s (.s (.s (.z))))) (Pu.tg_name (.s (.s (.s (.s (.z))))))))
  case f => kernel_rfl
theorem law_s1 (T : Tx fa fn K mg) (TB : LamX.TabB base mg (lamC K) (lamP K)) {A : Around} {outer : List PySem.Env} {s : Shared} {H : Hp} {E : XK} (hr : Room 8 (A.deeper (envOfC "law" (defScope s_law) s.heap.objs.size (He.fAd K ("law", none)) (.ref (lamC K))))) :
    ∃ ts, PS (cxOf (L2.CX P w) P w K mg base ["script", "dice", "lists", "orders", "seats", "market", "every", "stable", "match", "draws", "k", "told_now", "here", "number", "pairs", "pair", "after", "one", "#tab"] "law" (defScope s_law) (He.fAd K ("law", none)) (.ref (lamC K)) A outer s H E) ((forBody (defBody s_law) 0).getD 1 (.Pass ⟨0, 0, 0, 0⟩)) ts ∧ StE E (xcK K) (retA dBl) [.da (dScr K), .m .lo (mLst dInt), .da (dLst (dTuN dInt)), .da (dLst (dTuN dInt)), .da (dLst dInt), .no, .no, .no, .no, .no, .no, .no, .no, .no, .no, .no, .no, .no, .m .pa (mTab (lamP K) lamQ)] ts [.da (dScr K), .m .lo (mLst dInt), .da (dLst (dTuN dInt)), .da (dLst (dTuN dInt)), .da (dLst dInt), .da (dI_Market K), .da (dLst (dTuN (dOpt dInt))), .no, .no, .no, .no, .no, .no, .no, .no, .no, .no, .no, .m .pa (mTab (lamP K) lamQ)] [.da (dScr K), .m .lo (mLst dInt), .da (dLst (dTuN dInt)), .da (dLst (dTuN dInt)), .da (dLst dInt), .da (dI_Market K), .da (dLst (dTuN (dOpt dInt))), .da (dLst (dTuN (dOpt dInt))), .da (dTuN (dOpt dInt)), .da (dLst dInt), .no, .da (dOr (dTuN (dOpt dInt))), .da (dTuN (dOpt dInt)), .da dInt, .no, .no, .no, .da (dTuN (dOpt dInt)), .m .pa (mTab (lamP K) lamQ)] (fun R nx rt bk ct ρ => m_law_s1 nx (fun x => rt x ()) ρ) := by
  refine ⟨_, (ps_asg (pe_tup (pa_cons (pmake (ok_Market_init T) hr (by decide) (T.mkr 59) (T.glo 60) pxB (pa_cons (pv 2) (pa_cons (pv 3) (pa_cons (pv 4) pa_nil)))) (pa_cons (pcall (ok_law_matches T) hr (by decide) (T.glo 54) pxB (pa_cons (pv 2) (pa_cons (pv 3) (pa_cons (pv 4) pa_nil)))) pa_nil))) (Pu.pg_tupK (K := K) (n := 2) (by rfl) (pgs_cons (pg_name (i := 5) sc_law.nd (by rfl) (by first | exact Or.inl rfl | exact Or.inr rfl)) (pgs_cons (pg_name (i := 6) sc_law.nd (by rfl) (by first | exact Or.inl rfl | exact Or.inr rfl)) pgs_nil)))), ?_⟩
  refine StE.as (T := ?T) ?h ?f
  case h => exact (Pu.st_asg (p := false) (Pu.ev_p2 (Pu.ea_cons (Pu.freezeO (fs := fs_Market K) (Pu.en_make (Pu.ea_cons (Pu.ev_sb (Sb.t (Pu.sb_lstTun (c := dInt)) (Pu.sb_lstS (c := (dTup dInt)))) (Pu.ev_var (.s (.s (.z))))) (Pu.ea_cons (Pu.ev_sb (Sb.t (Pu.sb_lstTun (c := dInt)) (Pu.sb_lstS (c := (dTup dInt)))) (Pu.ev_var (.s (.s (.s (.z)))))) (Pu.ea_cons (Pu.ev_sb (Pu.sb_lstS (c := dInt)) (Pu.ev_var (.s (.s (.s (.s (.z))))))) Pu.ea_nil))))) (Pu.ea_cons (Pu.ev_call (Pu.ea_cons (Pu.ev_var (.s (.s (.z)))) (Pu.ea_cons (Pu.ev_var (.s (.s (.s (.z))))) (Pu.ea_cons (Pu.ev_var (.s (.s (.s (.s (.z)))))) Pu.ea_nil)))) Pu.ea_nil))) (Pu.tg_p2 (Pu.tg_name (.s (.s (.s (.s (.s (.z))))))) (Pu.tg_name (.s (.s (.s (.s (.s (.s (.z))))))))))
  case f => kernel_rfl
theorem law_s2 (T : Tx fa fn K mg) (TB : LamX.TabB base mg (lamC K) (lamP K)) {A : Around} {outer : List PySem.Env} {s : Shared} {H : Hp} {E : XK} (hr : Room 8 (A.deeper (envOfC "law" (defScope s_law) s.heap.objs.size (He.fAd K ("law", none)) (.ref (lamC K))))) :
    ∃ ts, PS (cxOf (L2.CX P w) P w K mg base ["script", "dice", "lists", "orders", "seats", "market", "every", "stable", "match", "draws", "k", "told_now", "here", "number", "pairs", "pair", "after", "one", "#tab"] "law" (defScope s_law) (He.fAd K ("law", none)) (.ref (lamC K)) A outer s H E) ((forBody (defBody s_law) 0).getD 2 (.Pass ⟨0, 0, 0, 0⟩)) ts ∧ StE E (xcK K) (retA dBl) [.da (dScr K), .m .lo (mLst dInt), .da (dLst (dTuN dInt)), .da (dLst (dTuN dInt)), .da (dLst dInt), .da (dI_Market K), .da (dLst (dTuN (dOpt dInt))), .no, .no, .no, .no, .no, .no, .no, .no, .no, .no, .no, .m .pa (mTab (lamP K) lamQ)] ts [.da (dScr K), .m .lo (mLst dInt), .da (dLst (dTuN dInt)), .da (dLst (dTuN dInt)), .da (dLst dInt), .da (dI_Market K), .da (dLst (dTuN (dOpt dInt))), .da (dLst (dTuN (dOpt dInt))), .no, .no, .no, .no, .no, .no, .no, .no, .no, .no, .m .pa (mTab (lamP K) lamQ)] [.da (dScr K), .m .lo (mLst dInt), .da (dLst (dTuN dInt)), .da (dLst (dTuN dInt)), .da (dLst dInt), .da (dI_Market K), .da (dLst (dTuN (dOpt dInt))), .da (dLst (dTuN (dOpt dInt))), .da (dTuN (dOpt dInt)), .da (dLst dInt), .no, .da (dOr (dTuN (dOpt dInt))), .da (dTuN (dOpt dInt)), .da dInt, .no, .no, .no, .da (dTuN (dOpt dInt)), .m .pa (mTab (lamP K) lamQ)] (fun R nx rt bk ct ρ => m_law_s2 nx (fun x => rt x ()) ρ) := by
  refine ⟨_, (ps_set (i := 7) sc_law.nd (by rfl) (by first | exact Or.inl rfl | exact Or.inr rfl) (pcall (ok_law_stable T) hr (by decide) (T.glo 61) pxB (pa_cons (pv 2) (pa_cons (pv 3) (pa_cons (pv 4) pa_nil))))), ?_⟩
  refine StE.as (T := ?T) ?h ?f
  case h => exact (Pu.st_set (p := false) (.s (.s (.s (.s (.s (.s (.s (.z)))))))) (Pu.ev_call (Pu.ea_cons (Pu.ev_var (.s (.s (.z)))) (Pu.ea_cons (Pu.ev_var (.s (.s (.s (.z))))) (Pu.ea_cons (Pu.ev_var (.s (.s (.s (.s (.z)))))) Pu.ea_nil)))))
  case f => kernel_rfl
theorem law_s3 (T : Tx fa fn K mg) (TB : LamX.TabB base mg (lamC K) (lamP K)) {A : Around} {outer : List PySem.Env} {s : Shared} {H : Hp} {E : XK} (hr : Room 8 (A.deeper (envOfC "law" (defScope s_law) s.heap.objs.size (He.fAd K ("law", none)) (.ref (lamC K))))) :
    ∃ ts, PS (cxOf (L2.CX P w) P w K mg base ["script", "dice", "lists", "orders", "seats", "market", "every", "stable", "match", "draws", "k", "told_now", "here", "number", "pairs", "pair", "after", "one", "#tab"] "law" (defScope s_law) (He.fAd K ("law", none)) (.ref (lamC K)) A outer s H E) ((forBody (defBody s_law) 0).getD 3 (.Pass ⟨0, 0, 0, 0⟩)) ts ∧ StE E (xcK K) (retA dBl) [.da (dScr K), .m .lo (mLst dInt), .da (dLst (dTuN dInt)), .da (dLst (dTuN dInt)), .da (dLst dInt), .da (dI_Market K), .da (dLst (dTuN (dOpt dInt))), .da (dLst (dTuN (dOpt dInt))), .no, .no, .no, .no, .no, .no, .no, .no, .no, .no, .m .pa (mTab (lamP K) lamQ)] ts [.da (dScr K), .m .lo (mLst dInt), .da (dLst (dTuN dInt)), .da (dLst (dTuN dInt)), .da (dLst dInt), .da (dI_Market K), .da (dLst (dTuN (dOpt dInt))), .da (dLst (dTuN (dOpt dInt))), .da (dTuN (dOpt dInt)), .no, .no, .no, .no, .no, .no, .no, .no, .no, .m .pa (mTab (lamP K) lamQ)] [.da (dScr K), .m .lo (mLst dInt), .da (dLst (dTuN dInt)), .da (dLst (dTuN dInt)), .da (dLst dInt), .da (dI_Market K), .da (dLst (dTuN (dOpt dInt))), .da (dLst (dTuN (dOpt dInt))), .da (dTuN (dOpt dInt)), .da (dLst dInt), .no, .da (dOr (dTuN (dOpt dInt))), .da (dTuN (dOpt dInt)), .da dInt, .no, .no, .no, .da (dTuN (dOpt dInt)), .m .pa (mTab (lamP K) lamQ)] (fun R nx rt bk ct ρ => m_law_s3 nx (fun x => rt x ()) ρ) := by
  refine ⟨_, (ps_set (i := 8) sc_law.nd (by rfl) (by first | exact Or.inl rfl | exact Or.inr rfl) (pe_ix (Pu.ix_listK (K := K)) (pv 6) (pcall (ok_law_roll T) hr (by decide) (T.glo 22) pxB (pa_cons (pv 1) (pa_cons (pe_callB (Pu.call_lenK (K := K)) (by rfl) (T.free 23) PySem.boot_len (pa_cons (pv 6) pa_nil)) pa_nil))) (fun _ _ => rfl))), ?_⟩
  refine StE.as (T := ?T) ?h ?f
  case h => exact (Pu.st_set (p := false) (.s (.s (.s (.s (.s (.s (.s (.s (.z))))))))) (Pu.ev_opP Pu.o_ixL (Pu.ev_var (.s (.s (.s (.s (.s (.s (.z)))))))) (Pu.ev_callM (k := .lo) (by decide) (.s (.z)) (Pu.ea_cons (Pu.ev_b1 Pu.o_lenL (Pu.ev_var (.s (.s (.s (.s (.s (.s (.z))))))))) Pu.ea_nil))))
  case f => kernel_rfl
theorem law_s4 (T : Tx fa fn K mg) (TB : LamX.TabB base mg (lamC K) (lamP K)) {A : Around} {outer : List PySem.Env} {s : Shared} {H : Hp} {E : XK} (hr : Room 8 (A.deeper (envOfC "law" (defScope s_law) s.heap.objs.size (He.fAd K ("law", none)) (.ref (lamC K))))) :
    ∃ ts, PS (cxOf (L2.CX P w) P w K mg base ["script", "dice", "lists", "orders", "seats", "market", "every", "stable", "match", "draws", "k", "told_now", "here", "number", "pairs", "pair", "after", "one", "#tab"] "law" (defScope s_law) (He.fAd K ("law", none)) (.ref (lamC K)) A outer s H E) ((forBody (defBody s_law) 0).getD 4 (.Pass ⟨0, 0, 0, 0⟩)) ts ∧ StE E (xcK K) (retA dBl) [.da (dScr K), .m .lo (mLst dInt), .da (dLst (dTuN dInt)), .da (dLst (dTuN dInt)), .da (dLst dInt), .da (dI_Market K), .da (dLst (dTuN (dOpt dInt))), .da (dLst (dTuN (dOpt dInt))), .da (dTuN (dOpt dInt)), .no, .no, .no, .no, .no, .no, .no, .no, .no, .m .pa (mTab (lamP K) lamQ)] ts [.da (dScr K), .m .lo (mLst dInt), .da (dLst (dTuN dInt)), .da (dLst (dTuN dInt)), .da (dLst dInt), .da (dI_Market K), .da (dLst (dTuN (dOpt dInt))), .da (dLst (dTuN (dOpt dInt))), .da (dTuN (dOpt dInt)), .da (dLst dInt), .no, .no, .no, .no, .no, .no, .no, .no, .m .pa (mTab (lamP K) lamQ)] [.da (dScr K), .m .lo (mLst dInt), .da (dLst (dTuN dInt)), .da (dLst (dTuN dInt)), .da (dLst dInt), .da (dI_Market K), .da (dLst (dTuN (dOpt dInt))), .da (dLst (dTuN (dOpt dInt))), .da (dTuN (dOpt dInt)), .da (dLst dInt), .no, .da (dOr (dTuN (dOpt dInt))), .da (dTuN (dOpt dInt)), .da dInt, .no, .no, .no, .da (dTuN (dOpt dInt)), .m .pa (mTab (lamP K) lamQ)] (fun R nx rt bk ct ρ => m_law_s4 nx (fun x => rt x ()) ρ) := by
  refine ⟨_, (ps_set (i := 9) sc_law.nd (by rfl) (by first | exact Or.inl rfl | exact Or.inr rfl) (pe_lc (own := [("k", 10)]) (by rfl) sc_law.nd (pi_range1 (by rfl) (T.free 21) (pa_cons pe_int pa_nil)) (blkOk_by (N := ["script", "dice", "lists", "orders", "seats", "market", "every", "stable", "match", "draws", "k", "told_now", "here", "number", "pairs", "pair", "after", "one", "#tab"]) (sc := defScope s_law) (by decide +kernel)) (fun _ _ _ _ _ => (pg_name (i := 10) sc_law.nd (by rfl) (by first | exact Or.inl rfl | exact Or.inr rfl))) (fun _ _ _ _ _ => pts_nil) (fun _ _ _ _ _ => (pcall (ok_law_roll T) hr (by decide) (T.glo 22) passL (pa_cons (pv 1) (pa_cons pe_int pa_nil)))))), ?_⟩
  refine StE.as (T := ?T) ?h ?f
  case h => exact (Pu.st_set (p := false) (.s (.s (.s (.s (.s (.s (.s (.s (.s (.z)))))))))) (Pu.freeze (c := dInt) (Pu.en_lc (q := false) (vs := [10]) (Γ0 := [.da (dScr K), .m .lo (mLst dInt), .da (dLst (dTuN dInt)), .da (dLst (dTuN dInt)), .da (dLst dInt), .da (dI_Market K), .da (dLst (dTuN (dOpt dInt))), .da (dLst (dTuN (dOpt dInt))), .da (dTuN (dOpt dInt)), .no, .no, .no, .no, .no, .no, .no, .no, .no, .m .pa (mTab (lamP K) lamQ)]) (Γ1 := [.da (dScr K), .m .lo (mLst dInt), .da (dLst (dTuN dInt)), .da (dLst (dTuN dInt)), .da (dLst dInt), .da (dI_Market K), .da (dLst (dTuN (dOpt dInt))), .da (dLst (dTuN (dOpt dInt))), .da (dTuN (dOpt dInt)), .no, .da dInt, .no, .no, .no, .no, .no, .no, .no, .m .pa (mTab (lamP K) lamQ)]) Hd.id (by rfl) (by decide) (Bk.drop Bk.id (.s (.s (.s (.s (.s (.s (.s (.s (.s (.s (.z)))))))))))) (Pu.ei_rng1 (Pu.ea_cons (Pu.ev_c (c := dInt) (x := 5) fun _ => rfl) Pu.ea_nil)) (Pu.tg_name (.s (.s (.s (.s (.s (.s (.s (.s (.s (.s (.z)))))))))))) Pu.pts_et (Pu.ev_callM (k := .lo) (by decide) (.s (.z)) (Pu.ea_cons (Pu.ev_c (c := dInt) (x := 12) fun _ => rfl) Pu.ea_nil)))))
  case f => kernel_rfl
theorem law_s5 (T : Tx fa fn K mg) (TB : LamX.TabB base mg (lamC K) (lamP K)) {A : Around} {outer : List PySem.Env} {s : Shared} {H : Hp} {E : XK} (hr : Room 8 (A.deeper (envOfC "law" (defScope s_law) s.heap.objs.size (He.fAd K ("law", none)) (.ref (lamC K))))) :
    ∃ ts, PS (cxOf (L2.CX P w) P w K mg base ["script", "dice", "lists", "orders", "seats", "market", "every", "stable", "match", "draws", "k", "told_now", "here", "number", "pairs", "pair", "after", "one", "#tab"] "law" (defScope s_law) (He.fAd K ("law", none)) (.ref (lamC K)) A outer s H E) ((forBody (defBody s_law) 0).getD 5 (.Pass ⟨0, 0, 0, 0⟩)) ts ∧ StE E (xcK K) (retA dBl) [.da (dScr K), .m .lo (mLst dInt), .da (dLst (dTuN dInt)), .da (dLst (dTuN dInt)), .da (dLst dInt), .da (dI_Market K), .da (dLst (dTuN (dOpt dInt))), .da (dLst (dTuN (dOpt dInt))), .da (dTuN (dOpt dInt)), .da (dLst dInt), .no, .no, .no, .no, .no, .no, .no, .no, .m .pa (mTab (lamP K) lamQ)] ts [.da (dScr K), .m .lo (mLst dInt), .da (dLst (dTuN dInt)), .da (dLst (dTuN dInt)), .da (dLst dInt), .da (dI_Market K), .da (dLst (dTuN (dOpt dInt))), .da (dLst (dTuN (dOpt dInt))), .da (dTuN (dOpt dInt)), .da (dLst dInt), .no, .da (dOr (dTuN (dOpt dInt))), .no, .no, .no, .no, .no, .no, .m .pa (mTab (lamP K) lamQ)] [.da (dScr K), .m .lo (mLst dInt), .da (dLst (dTuN dInt)), .da (dLst (dTuN dInt)), .da (dLst dInt), .da (dI_Market K), .da (dLst (dTuN (dOpt dInt))), .da (dLst (dTuN (dOpt dInt))), .da (dTuN (dOpt dInt)), .da (dLst dInt), .no, .da (dOr (dTuN (dOpt dInt))), .da (dTuN (dOpt dInt)), .da dInt, .no, .no, .no, .da (dTuN (dOpt dInt)), .m .pa (mTab (lamP K) lamQ)] (fun R nx rt bk ct ρ => m_law_s5 nx (fun x => rt x ()) ρ) := by
  refine ⟨_, (ps_set (i := 11) sc_law.nd (by rfl) (by first | exact Or.inl rfl | exact Or.inr rfl) (pe_lamX (k := 6) (tell T) (T.glo 63) TB (by rfl) hr (by decide) (LamX.lamS_by (sc := defScope s_law) (by decide +kernel)) (by rfl) (fun A outer s H E f c' hr2 => (pcallD (ok_by_blocks T) hr2 (by decide) (T.glo 62) pxA (pa_cons (pv 5) (pa_cons (pv 8) (pa_cons (pv 9) pa_nil))))))), ?_⟩
  refine StE.as (T := ?T) ?h ?f
  case h => exact (Pu.st_set (p := false) (.s (.s (.s (.s (.s (.s (.s (.s (.s (.s (.s (.z)))))))))))) (Pu.ev_told (Γ' := [.da (dScr K), .da (dLst dInt), .da (dLst (dTuN dInt)), .da (dLst (dTuN dInt)), .da (dLst dInt), .da (dI_Market K), .da (dLst (dTuN (dOpt dInt))), .da (dLst (dTuN (dOpt dInt))), .da (dTuN (dOpt dInt)), .da (dLst dInt), .no, .no, .no, .no, .no, .no, .no, .no, .da dAny]) (tab := tellTab) (.s (.s (.s (.s (.s (.s (.s (.s (.s (.s (.s (.s (.s (.s (.s (.s (.s (.s (.z))))))))))))))))))) (tell_ok T) (.da (.m Pu.fzL (.da (.da (.da (.da (.da (.da (.da (.da (.no (.no (.no (.no (.no (.no (.no (.no (.m Pu.fzTab .nil))))))))))))))))))) (Pu.und_tun (Pu.und_opt Pu.und_int)) (fun _ => (Pu.ev_callD (d := dInt) (y := 200) (fun _ => rfl) (Pu.ea_cons (Pu.ev_var (.s (.s (.s (.s (.s (.z))))))) (Pu.ea_cons (Pu.ev_var (.s (.s (.s (.s (.s (.s (.s (.s (.z)))))))))) (Pu.ea_cons (Pu.ev_var (.s (.s (.s (.s (.s (.s (.s (.s (.s (.z))))))))))) Pu.ea_nil)))))))
  case f => kernel_rfl
theorem law_s6 (T : Tx fa fn K mg) (TB : LamX.TabB base mg (lamC K) (lamP K)) {A : Around} {outer : List PySem.Env} {s : Shared} {H : Hp} {E : XK} (hr : Room 8 (A.deeper (envOfC "law" (defScope s_law) s.heap.objs.size (He.fAd K ("law", none)) (.ref (lamC K))))) :
    ∃ ts, PS (cxOf (L2.CX P w) P w K mg base ["script", "dice", "lists", "orders", "seats", "market", "every", "stable", "match", "draws", "k", "told_now", "here", "number", "pairs", "pair", "after", "one", "#tab"] "law" (defScope s_law) (He.fAd K ("law", none)) (.ref (lamC K)) A outer s H E) ((forBody (defBody s_law) 0).getD 6 (.Pass ⟨0, 0, 0, 0⟩)) ts ∧ StE E (xcK K) (retA dBl) [.da (dScr K), .m .lo (mLst dInt), .da (dLst (dTuN dInt)), .da (dLst (dTuN dInt)), .da (dLst dInt), .da (dI_Market K), .da (dLst (dTuN (dOpt dInt))), .da (dLst (dTuN (dOpt dInt))), .da (dTuN (dOpt dInt)), .da (dLst dInt), .no, .da (dOr (dTuN (dOpt dInt))), .no, .no, .no, .no, .no, .no, .m .pa (mTab (lamP K) lamQ)] ts [.da (dScr K), .m .lo (mLst dInt), .da (dLst (dTuN dInt)), .da (dLst (dTuN dInt)), .da (dLst dInt), .da (dI_Market K), .da (dLst (dTuN (dOpt dInt))), .da (dLst (dTuN (dOpt dInt))), .da (dTuN (dOpt dInt)), .da (dLst dInt), .no, .da (dOr (dTuN (dOpt dInt))), .da (dTuN (dOpt dInt)), .da dInt, .no, .no, .no, .no, .m .pa (mTab (lamP K) lamQ)] [.da (dScr K), .m .lo (mLst dInt), .da (dLst (dTuN dInt)), .da (dLst (dTuN dInt)), .da (dLst dInt), .da (dI_Market K), .da (dLst (dTuN (dOpt dInt))), .da (dLst (dTuN (dOpt dInt))), .da (dTuN (dOpt dInt)), .da (dLst dInt), .no, .da (dOr (dTuN (dOpt dInt))), .da (dTuN (dOpt dInt)), .da dInt, .no, .no, .no, .da (dTuN (dOpt dInt)), .m .pa (mTab (lamP K) lamQ)] (fun R nx rt bk ct ρ => m_law_s6 nx (fun x => rt x ()) ρ) := by
  refine ⟨_, (ps_par (i := 12) (j := 13) rfl sc_law.nd rfl rfl (by decide) rfl rfl (pa_cons (pv 8) (pa_cons pe_int pa_nil)) (by rfl)), ?_⟩
  refine StE.as (T := ?T) ?h ?f
  case h => exact (Pu.st_par2 (p := false) (.s (.s (.s (.s (.s (.s (.s (.s (.s (.s (.s (.s (.z))))))))))))) (.s (.s (.s (.s (.s (.s (.s (.s (.s (.s (.s (.s (.s (.z)))))))))))))) (Pu.ev_var (.s (.s (.s (.s (.s (.s (.s (.s (.z)))))))))) (Pu.ev_c (c := dInt) (x := 0) fun _ => rfl))
  case f => kernel_rfl
theorem law_s7 (T : Tx fa fn K mg) (TB : LamX.TabB base mg (lamC K) (lamP K)) {A : Around} {outer : List PySem.Env} {s : Shared} {H : Hp} {E : XK} (hr : Room 8 (A.deeper (envOfC "law" (defScope s_law) s.heap.objs.size (He.fAd K ("law", none)) (.ref (lamC K))))) :
    ∃ ts, PS (cxOf (L2.CX P w) P w K mg base ["script", "dice", "lists", "orders", "seats", "market", "every", "stable", "match", "draws", "k", "told_now", "here", "number", "pairs", "pair", "after", "one", "#tab"] "law" (defScope s_law) (He.fAd K ("law", none)) (.ref (lamC K)) A outer s H E) ((forBody (defBody s_law) 0).getD 7 (.Pass ⟨0, 0, 0, 0⟩)) ts ∧ StE E (xcK K) (retA dBl) [.da (dScr K), .m .lo (mLst dInt), .da (dLst (dTuN dInt)), .da (dLst (dTuN dInt)), .da (dLst dInt), .da (dI_Market K), .da (dLst (dTuN (dOpt dInt))), .da (dLst (dTuN (dOpt dInt))), .da (dTuN (dOpt dInt)), .da (dLst dInt), .no, .da (dOr (dTuN (dOpt dInt))), .da (dTuN (dOpt dInt)), .da dInt, .no, .no, .no, .no, .m .pa (mTab (lamP K) lamQ)] ts [.da (dScr K), .m .lo (mLst dInt), .da (dLst (dTuN dInt)), .da (dLst (dTuN dInt)), .da (dLst dInt), .da (dI_Market K), .da (dLst (dTuN (dOpt dInt))), .da (dLst (dTuN (dOpt dInt))), .da (dTuN (dOpt dInt)), .da (dLst dInt), .no, .da (dOr (dTuN (dOpt dInt))), .da (dTuN (dOpt dInt)), .da dInt, .no, .no, .no, .no, .m .pa (mTab (lamP K) lamQ)] [.da (dScr K), .m .lo (mLst dInt), .da (dLst (dTuN dInt)), .da (dLst (dTuN dInt)), .da (dLst dInt), .da (dI_Market K), .da (dLst (dTuN (dOpt dInt))), .da (dLst (dTuN (dOpt dInt))), .da (dTuN (dOpt dInt)), .da (dLst dInt), .no, .da (dOr (dTuN (dOpt dInt))), .da (dTuN (dOpt dInt)), .da dInt, .no, .no, .no, .da (dTuN (dOpt dInt)), .m .pa (mTab (lamP K) lamQ)] (fun R nx rt bk ct ρ => m_law_s7 nx (fun x => rt x ()) ρ) := by
  refine ⟨_, (ps_while poB (PW.pt (pw_and (pt_cmpR op_lt (pv 13) pe_int (nomark _)) (pw_and1 (pt_cmpR (Pu.op_neDK (K := K) hr.units) (pcall (ok_law_blocks T) hr (by decide) (T.glo 55) pxB (pa_cons (pv 2) (pa_cons (pv 3) (pa_cons (pv 4) (pa_cons (pv 12) pa_nil))))) (pe_lst pa_nil) (nomark _))))) (pss_cons (ps_set (i := 14) sc_law.nd (by rfl) (by first | exact Or.inl rfl | exact Or.inr rfl) (pcall (ok_law_blocks T) hr (by decide) (T.glo 55) pxB (pa_cons (pv 2) (pa_cons (pv 3) (pa_cons (pv 4) (pa_cons (pv 12) pa_nil)))))) (pss_cons (ps_set (i := 15) sc_law.nd (by rfl) (by first | exact Or.inl rfl | exact Or.inr rfl) (pe_ix (Pu.ix_listK (K := K)) (pv 14) (pe_op op_mod (pe_ix (Pu.ix_listK (K := K)) (pv 9) (pe_op op_mod (pv 13) pe_int) (fun _ _ => rfl)) (pe_callB (Pu.call_lenK (K := K)) (by rfl) (T.free 23) PySem.boot_len (pa_cons (pv 14) pa_nil))) (fun _ _ => rfl))) (pss_cons (ps_set (i := 16) sc_law.nd (by rfl) (by first | exact Or.inl rfl | exact Or.inr rfl) (pcall (ok_settled T) hr (by decide) (T.glo 52) pxB (pa_cons (pv 5) (pa_cons (pv 12) (pa_cons (pv 15) pa_nil))))) (pss_cons (ps_if (PW.pt (pw_or (pt_cmpR (Pu.op_neDK (K := K) hr.units) (pe_ix (Pu.ix_tupK (K := K)) (pv 16) (pe_ix (Pu.ix_tupK (K := K)) (pv 15) pe_int (fun _ _ => rfl)) (fun _ _ => rfl)) (pe_ix (Pu.ix_tupK (K := K)) (pv 15) pe_int (fun _ _ => rfl)) (nomark _)) (pw_or (pt_cmpR (Pu.op_notInDK (K := K) hr.units65) (pv 16) (pv 6) rfl) (pw_or1 (pt_cmpR (Pu.op_neDK (K := K) hr.units) (pe_callTy (Pu.call_list_ofK (K := K)) (by rfl) (T.free 20) (by decide +kernel) (pa_cons (pcall (ok_blocks T) hr (by decide) (T.glo 50) pxB (pa_cons (pv 5) (pa_cons (pv 12) pa_nil))) pa_nil)) (pv 14) (nomark _)))))) (pss_one (ps_ret pe_bl)) pss_nil) (pss_one (ps_par (i := 12) (j := 13) rfl sc_law.nd rfl rfl (by decide) rfl rfl (pa_cons (pv 16) (pa_cons (pe_op op_add (pv 13) pe_int) pa_nil)) (by rfl)))))))), ?_⟩
  refine StE.as (T := ?T) ?h ?f
  case h => exact (Pu.st_while (p := false) 100000 (Pu.et_and (Pu.et_test (Pu.ev_op Pu.o_cmp (Pu.ev_var (.s (.s (.s (.s (.s (.s (.s (.s (.s (.s (.s (.s (.s (.z))))))))))))))) (Pu.ev_c (c := dInt) (x := 200) fun _ => rfl))) (Pu.et_test (Pu.ev_op (Pu.o_ne (dqLst (dqP2 dqInt dqInt)) (by decide)) (Pu.ev_call (Pu.ea_cons (Pu.ev_var (.s (.s (.z)))) (Pu.ea_cons (Pu.ev_var (.s (.s (.s (.z))))) (Pu.ea_cons (Pu.ev_var (.s (.s (.s (.s (.z)))))) (Pu.ea_cons (Pu.ev_var (.s (.s (.s (.s (.s (.s (.s (.s (.s (.s (.s (.s (.z)))))))))))))) Pu.ea_nil))))) (Pu.freeze Pu.en_nil)))) (Pu.st_post (Bk.drop (Bk.drop (Bk.drop Bk.id (.s (.s (.s (.s (.s (.s (.s (.s (.s (.s (.s (.s (.s (.s (.s (.s (.z)))))))))))))))))) (.s (.s (.s (.s (.s (.s (.s (.s (.s (.s (.s (.s (.s (.s (.s (.z))))))))))))))))) (.s (.s (.s (.s (.s (.s (.s (.s (.s (.s (.s (.s (.s (.s (.z)))))))))))))))) (Pu.st_seq (Pu.st_set (p := false) (.s (.s (.s (.s (.s (.s (.s (.s (.s (.s (.s (.s (.s (.s (.z))))))))))))))) (Pu.ev_call (Pu.ea_cons (Pu.ev_var (.s (.s (.z)))) (Pu.ea_cons (Pu.ev_var (.s (.s (.s (.z))))) (Pu.ea_cons (Pu.ev_var (.s (.s (.s (.s (.z)))))) (Pu.ea_cons (Pu.ev_var (.s (.s (.s (.s (.s (.s (.s (.s (.s (.s (.s (.s (.z)))))))))))))) Pu.ea_nil)))))) (Pu.st_seq (Pu.st_set (p := false) (.s (.s (.s (.s (.s (.s (.s (.s (.s (.s (.s (.s (.s (.s (.s (.z)))))))))))))))) (Pu.ev_opP Pu.o_ixL (Pu.ev_var (.s (.s (.s (.s (.s (.s (.s (.s (.s (.s (.s (.s (.s (.s (.z)))))))))))))))) (Pu.ev_opP Pu.o_mod (Pu.ev_opP Pu.o_ixL (Pu.ev_var (.s (.s (.s (.s (.s (.s (.s (.s (.s (.z))))))))))) (Pu.ev_opP Pu.o_mod (Pu.ev_var (.s (.s (.s (.s (.s (.s (.s (.s (.s (.s (.s (.s (.s (.z))))))))))))))) (Pu.ev_c (c := dInt) (x := 5) fun _ => rfl))) (Pu.ev_b1 Pu.o_lenL (Pu.ev_var (.s (.s (.s (.s (.s (.s (.s (.s (.s (.s (.s (.s (.s (.s (.z)))))))))))))))))))) (Pu.st_seq (Pu.st_set (p := false) (.s (.s (.s (.s (.s (.s (.s (.s (.s (.s (.s (.s (.s (.s (.s (.s (.z))))))))))))))))) (Pu.ev_call (Pu.ea_cons (Pu.ev_var (.s (.s (.s (.s (.s (.z))))))) (Pu.ea_cons (Pu.ev_var (.s (.s (.s (.s (.s (.s (.s (.s (.s (.s (.s (.s (.z)))))))))))))) (Pu.ea_cons (Pu.ev_var (.s (.s (.s (.s (.s (.s (.s (.s (.s (.s (.s (.s (.s (.s (.s (.z))))))))))))))))) Pu.ea_nil))))) (Pu.st_seq (Pu.st_if (p := false) (Pu.et_or (Pu.et_test (Pu.ev_op (Pu.o_ne dqOI (by decide)) (Pu.ev_opP Pu.o_ixT (Pu.ev_sb (Pu.sb_tun (c := (dOpt dInt))) (Pu.ev_var (.s (.s (.s (.s (.s (.s (.s (.s (.s (.s (.s (.s (.s (.s (.s (.s (.z))))))))))))))))))) (Pu.ev_opP Pu.o_p20 (Pu.ev_var (.s (.s (.s (.s (.s (.s (.s (.s (.s (.s (.s (.s (.s (.s (.s (.z))))))))))))))))) (Pu.ev_c (c := dInt) (x := 0) fun _ => rfl))) (Pu.ev_as (a := dInt) (b := dOpt dInt) some someI (Pu.ev_opP Pu.o_p21 (Pu.ev_var (.s (.s (.s (.s (.s (.s (.s (.s (.s (.s (.s (.s (.s (.s (.s (.z))))))))))))))))) (Pu.ev_c (c := dInt) (x := 1) fun _ => rfl))))) (Pu.et_or (Pu.et_test (Pu.ev_op (Pu.o_ninD (dqTuN dqOI) (by decide)) (Pu.ev_var (.s (.s (.s (.s (.s (.s (.s (.s (.s (.s (.s (.s (.s (.s (.s (.s (.z)))))))))))))))))) (Pu.ev_var (.s (.s (.s (.s (.s (.s (.z)))))))))) (Pu.et_test (Pu.ev_op (Pu.o_ne (dqLst (dqP2 dqInt dqInt)) (by decide)) (Pu.freeze (c := (dP2 dInt dInt)) (Pu.en_listS rfl (Pu.ev_sb (Pu.sb_tunS (c := (dP2 dInt dInt))) (Pu.ev_call (Pu.ea_cons (Pu.ev_var (.s (.s (.s (.s (.s (.z))))))) (Pu.ea_cons (Pu.ev_var (.s (.s (.s (.s (.s (.s (.s (.s (.s (.s (.s (.s (.z)))))))))))))) Pu.ea_nil)))))) (Pu.ev_var (.s (.s (.s (.s (.s (.s (.s (.s (.s (.s (.s (.s (.s (.s (.z)))))))))))))))))))) (Pu.st_ret (p := false) prA (Pu.ev_c (c := dBl) (x := false) fun _ => rfl)) Pu.st_next) (Pu.st_par2 (p := false) (.s (.s (.s (.s (.s (.s (.s (.s (.s (.s (.s (.s (.z))))))))))))) (.s (.s (.s (.s (.s (.s (.s (.s (.s (.s (.s (.s (.s (.z)))))))))))))) (Pu.ev_var (.s (.s (.s (.s (.s (.s (.s (.s (.s (.s (.s (.s (.s (.s (.s (.s (.z)))))))))))))))))) (Pu.ev_op Pu.o_int (Pu.ev_var (.s (.s (.s (.s (.s (.s (.s (.s (.s (.s (.s (.s (.s (.z))))))))))))))) (Pu.ev_c (c := dInt) (x := 1) fun _ => rfl)))))))))
  case f => kernel_rfl
theorem law_s8 (T : Tx fa fn K mg) (TB : LamX.TabB base mg (lamC K) (lamP K)) {A : Around} {outer : List PySem.Env} {s : Shared} {H : Hp} {E : XK} (hr : Room 8 (A.deeper (envOfC "law" (defScope s_law) s.heap.objs.size (He.fAd K ("law", none)) (.ref (lamC K))))) :
    ∃ ts, PS (cxOf (L2.CX P w) P w K mg base ["script", "dice", "lists", "orders", "seats", "market", "every", "stable", "match", "draws", "k", "told_now", "here", "number", "pairs", "pair", "after", "one", "#tab"] "law" (defScope s_law) (He.fAd K ("law", none)) (.ref (lamC K)) A outer s H E) ((forBody (defBody s_law) 0).getD 8 (.Pass ⟨0, 0, 0, 0⟩)) ts ∧ StE E (xcK K) (retA dBl) [.da (dScr K), .m .lo (mLst dInt), .da (dLst (dTuN dInt)), .da (dLst (dTuN dInt)), .da (dLst dInt), .da (dI_Market K), .da (dLst (dTuN (dOpt dInt))), .da (dLst (dTuN (dOpt dInt))), .da (dTuN (dOpt dInt)), .da (dLst dInt), .no, .da (dOr (dTuN (dOpt dInt))), .da (dTuN (dOpt dInt)), .da dInt, .no, .no, .no, .no, .m .pa (mTab (lamP K) lamQ)] ts [.da (dScr K), .m .lo (mLst dInt), .da (dLst (dTuN dInt)), .da (dLst (dTuN dInt)), .da (dLst dInt), .da (dI_Market K), .da (dLst (dTuN (dOpt dInt))), .da (dLst (dTuN (dOpt dInt))), .da (dTuN (dOpt dInt)), .da (dLst dInt), .no, .da (dOr (dTuN (dOpt dInt))), .da (dTuN (dOpt dInt)), .da dInt, .no, .no, .no, .no, .m .pa (mTab (lamP K) lamQ)] [.da (dScr K), .m .lo (mLst dInt), .da (dLst (dTuN dInt)), .da (dLst (dTuN dInt)), .da (dLst dInt), .da (dI_Market K), .da (dLst (dTuN (dOpt dInt))), .da (dLst (dTuN (dOpt dInt))), .da (dTuN (dOpt dInt)), .da (dLst dInt), .no, .da (dOr (dTuN (dOpt dInt))), .da (dTuN (dOpt dInt)), .da dInt, .no, .no, .no, .da (dTuN (dOpt dInt)), .m .pa (mTab (lamP K) lamQ)] (fun R nx rt bk ct ρ => m_law_s8 nx (fun x => rt x ()) ρ) := by
  refine ⟨_, (ps_if (PW.pt (pw_or (pt_cmpR (Pu.op_neDK (K := K) hr.units) (pv 11) (pe_ifExp (pt_cmpR op_lt (pv 13) pe_int (nomark _)) (pv 12) pe_str) (nomark _)) (pw_or1 (PW.pt (pw_and (pt_cmpR (Pu.op_neDK (K := K) hr.units) (pv 11) pe_str (nomark _)) (pw_and1 (pt_cmpR (Pu.op_notInDK (K := K) hr.units65) (pv 11) (pv 7) rfl))))))) (pss_one (ps_ret pe_bl)) pss_nil), ?_⟩
  refine StE.as (T := ?T) ?h ?f
  case h => exact (Pu.st_if (p := false) (Pu.et_or (Pu.et_test (Pu.ev_op (Pu.o_ne (dqOr (dqTuN dqOI) (fun _ _ => rfl) (fun _ _ => rfl)) (by decide)) (Pu.ev_var (.s (.s (.s (.s (.s (.s (.s (.s (.s (.s (.s (.z))))))))))))) (Pu.ev_if (Pu.et_test (Pu.ev_op Pu.o_cmp (Pu.ev_var (.s (.s (.s (.s (.s (.s (.s (.s (.s (.s (.s (.s (.s (.z))))))))))))))) (Pu.ev_c (c := dInt) (x := 200) fun _ => rfl))) (Pu.ev_as (a := (dTuN (dOpt dInt))) (b := (dOr (dTuN (dOpt dInt)))) Sum.inl (Pu.inlI (c := (dTuN (dOpt dInt)))) (Pu.ev_var (.s (.s (.s (.s (.s (.s (.s (.s (.s (.s (.s (.s (.z))))))))))))))) (Pu.ev_as (a := dWord) (b := (dOr (dTuN (dOpt dInt)))) Sum.inr (Pu.inrI (c := (dTuN (dOpt dInt)))) (Pu.ev_c (c := dWord) (x := wrd "size") fun _ => rfl))))) (Pu.et_and (Pu.et_test (Pu.ev_op (Pu.o_ne (dqOr (dqTuN dqOI) (fun _ _ => rfl) (fun _ _ => rfl)) (by decide)) (Pu.ev_var (.s (.s (.s (.s (.s (.s (.s (.s (.s (.s (.s (.z))))))))))))) (Pu.ev_as (a := dWord) (b := (dOr (dTuN (dOpt dInt)))) Sum.inr (Pu.inrI (c := (dTuN (dOpt dInt)))) (Pu.ev_c (c := dWord) (x := wrd "size") fun _ => rfl)))) (Pu.et_test (Pu.ev_op (Pu.o_ninD (dqOr (dqTuN dqOI) (fun _ _ => rfl) (fun _ _ => rfl)) (by decide)) (Pu.ev_var (.s (.s (.s (.s (.s (.s (.s (.s (.s (.s (.s (.z))))))))))))) (Pu.ev_sb (Pu.sb_inlL (c := (dTuN (dOpt dInt)))) (Pu.ev_var (.s (.s (.s (.s (.s (.s (.s (.z)))))))))))))) (Pu.st_ret (p := false) prA (Pu.ev_c (c := dBl) (x := false) fun _ => rfl)) Pu.st_next)
  case f => kernel_rfl
theorem law_s9 (T : Tx fa fn K mg) (TB : LamX.TabB base mg (lamC K) (lamP K)) {A : Around} {outer : List PySem.Env} {s : Shared} {H : Hp} {E : XK} (hr : Room 8 (A.deeper (envOfC "law" (defScope s_law) s.heap.objs.size (He.fAd K ("law", none)) (.ref (lamC K))))) :
    ∃ ts, PS (cxOf (L2.CX P w) P w K mg base ["script", "dice", "lists", "orders", "seats", "market", "every", "stable", "match", "draws", "k", "told_now", "here", "number", "pairs", "pair", "after", "one", "#tab"] "law" (defScope s_law) (He.fAd K ("law", none)) (.ref (lamC K)) A outer s H E) ((forBody (defBody s_law) 0).getD 9 (.Pass ⟨0, 0, 0, 0⟩)) ts ∧ StE E (xcK K) (retA dBl) [.da (dScr K), .m .lo (mLst dInt), .da (dLst (dTuN dInt)), .da (dLst (dTuN dInt)), .da (dLst dInt), .da (dI_Market K), .da (dLst (dTuN (dOpt dInt))), .da (dLst (dTuN (dOpt dInt))), .da (dTuN (dOpt dInt)), .da (dLst dInt), .no, .da (dOr (dTuN (dOpt dInt))), .da (dTuN (dOpt dInt)), .da dInt, .no, .no, .no, .no, .m .pa (mTab (lamP K) lamQ)] ts [.da (dScr K), .m .lo (mLst dInt), .da (dLst (dTuN dInt)), .da (dLst (dTuN dInt)), .da (dLst dInt), .da (dI_Market K), .da (dLst (dTuN (dOpt dInt))), .da (dLst (dTuN (dOpt dInt))), .da (dTuN (dOpt dInt)), .da (dLst dInt), .no, .da (dOr (dTuN (dOpt dInt))), .da (dTuN (dOpt dInt)), .da dInt, .no, .no, .no, .da (dTuN (dOpt dInt)), .m .pa (mTab (lamP K) lamQ)] [.da (dScr K), .m .lo (mLst dInt), .da (dLst (dTuN dInt)), .da (dLst (dTuN dInt)), .da (dLst dInt), .da (dI_Market K), .da (dLst (dTuN (dOpt dInt))), .da (dLst (dTuN (dOpt dInt))), .da (dTuN (dOpt dInt)), .da (dLst dInt), .no, .da (dOr (dTuN (dOpt dInt))), .da (dTuN (dOpt dInt)), .da dInt, .no, .no, .no, .da (dTuN (dOpt dInt)), .m .pa (mTab (lamP K) lamQ)] (fun R nx rt bk ct ρ => m_law_s9 nx (fun x => rt x ()) ρ) := by
  refine ⟨_, (ps_set (i := 17) sc_law.nd (by rfl) (by first | exact Or.inl rfl | exact Or.inr rfl) (pe_ix (Pu.ix_listK (K := K)) (pv 7) (pcall (ok_law_roll T) hr (by decide) (T.glo 22) pxB (pa_cons (pv 1) (pa_cons (pe_callB (Pu.call_lenK (K := K)) (by rfl) (T.free 23) PySem.boot_len (pa_cons (pv 7) pa_nil)) pa_nil))) (fun _ _ => rfl))), ?_⟩
  refine StE.as (T := ?T) ?h ?f
  case h => exact (Pu.st_set (p := false) (.s (.s (.s (.s (.s (.s (.s (.s (.s (.s (.s (.s (.s (.s (.s (.s (.s (.z)))))))))))))))))) (Pu.ev_opP Pu.o_ixL (Pu.ev_var (.s (.s (.s (.s (.s (.s (.s (.z))))))))) (Pu.ev_callM (k := .lo) (by decide) (.s (.z)) (Pu.ea_cons (Pu.ev_b1 Pu.o_lenL (Pu.ev_var (.s (.s (.s (.s (.s (.s (.s (.z)))))))))) Pu.ea_nil))))
  case f => kernel_rfl
theorem law_s10 (T : Tx fa fn K mg) (TB : LamX.TabB base mg (lamC K) (lamP K)) {A : Around} {outer : List PySem.Env} {s : Shared} {H : Hp} {E : XK} (hr : Room 8 (A.deeper (envOfC "law" (defScope s_law) s.heap.objs.size (He.fAd K ("law", none)) (.ref (lamC K))))) :
    ∃ ts, PS (cxOf (L2.CX P w) P w K mg base ["script", "dice", "lists", "orders", "seats", "market", "every", "stable", "match", "draws", "k", "told_now", "here", "number", "pairs", "pair", "after", "one", "#tab"] "law" (defScope s_law) (He.fAd K ("law", none)) (.ref (lamC K)) A outer s H E) ((forBody (defBody s_law) 0).getD 10 (.Pass ⟨0, 0, 0, 0⟩)) ts ∧ StE E (xcK K) (retA dBl) [.da (dScr K), .m .lo (mLst dInt), .da (dLst (dTuN dInt)), .da (dLst (dTuN dInt)), .da (dLst dInt), .da (dI_Market K), .da (dLst (dTuN (dOpt dInt))), .da (dLst (dTuN (dOpt dInt))), .da (dTuN (dOpt dInt)), .da (dLst dInt), .no, .da (dOr (dTuN (dOpt dInt))), .da (dTuN (dOpt dInt)), .da dInt, .no, .no, .no, .da (dTuN (dOpt dInt)), .m .pa (mTab (lamP K) lamQ)] ts [.da (dScr K), .m .lo (mLst dInt), .da (dLst (dTuN dInt)), .da (dLst (dTuN dInt)), .da (dLst dInt), .da (dI_Market K), .da (dLst (dTuN (dOpt dInt))), .da (dLst (dTuN (dOpt dInt))), .da (dTuN (dOpt dInt)), .da (dLst dInt), .no, .da (dOr (dTuN (dOpt dInt))), .da (dTuN (dOpt dInt)), .da dInt, .no, .no, .no, .da (dTuN (dOpt dInt)), .m .pa (mTab (lamP K) lamQ)] [.da (dScr K), .m .lo (mLst dInt), .da (dLst (dTuN dInt)), .da (dLst (dTuN dInt)), .da (dLst dInt), .da (dI_Market K), .da (dLst (dTuN (dOpt dInt))), .da (dLst (dTuN (dOpt dInt))), .da (dTuN (dOpt dInt)), .da (dLst dInt), .no, .da (dOr (dTuN (dOpt dInt))), .da (dTuN (dOpt dInt)), .da dInt, .no, .no, .no, .da (dTuN (dOpt dInt)), .m .pa (mTab (lamP K) lamQ)] (fun R nx rt bk ct ρ => m_law_s10 nx (fun x => rt x ()) ρ) := by
  refine ⟨_, (ps_if (pt_cmpR (Pu.op_neDK (K := K) hr.units) (pcallD (ok_by_blocks T) hr (by decide) (T.glo 62) pxB (pa_cons (pv 5) (pa_cons (pv 17) (pa_cons (pv 9) pa_nil)))) (pv 17) (nomark _)) (pss_one (ps_ret pe_bl)) pss_nil), ?_⟩
  refine StE.as (T := ?T) ?h ?f
  case h => exact (Pu.st_if (p := false) (Pu.et_test (Pu.ev_op (Pu.o_ne (dqTup dqOI) (by decide)) (Pu.ev_sb (Pu.sb_tun (c := (dOpt dInt))) (Pu.ev_callD (d := dInt) (y := 200) (fun _ => rfl) (Pu.ea_cons (Pu.ev_var (.s (.s (.s (.s (.s (.z))))))) (Pu.ea_cons (Pu.ev_var (.s (.s (.s (.s (.s (.s (.s (.s (.s (.s (.s (.s (.s (.s (.s (.s (.s (.z))))))))))))))))))) (Pu.ea_cons (Pu.ev_var (.s (.s (.s (.s (.s (.s (.s (.s (.s (.z))))))))))) Pu.ea_nil))))) (Pu.ev_sb (Pu.sb_tun (c := (dOpt dInt))) (Pu.ev_var (.s (.s (.s (.s (.s (.s (.s (.s (.s (.s (.s (.s (.s (.s (.s (.s (.s (.z)))))))))))))))))))))) (Pu.st_ret (p := false) prA (Pu.ev_c (c := dBl) (x := false) fun _ => rfl)) Pu.st_next)
  case f => kernel_rfl
theorem ok_law (T : Tx fa fn K mg) (TB : LamX.TabB base mg (lamC K) (lamP K)) {fd : FuncData} (F : FunD K "law" "law" (defArgs s_law) (defBody s_law) (defScope s_law) [] [] (He.fAd K ("law", none)) fd) : FnOk P w K mg base (L2.CX P w) 9 (He.fAd K ("law", none)) fd ["script"] (spLT K (lamP K) m_law) := by
  refine okF2T F sc_law lenLT ?_
  intro A outer s H E hr
  obtain ⟨ts0, p0, e0⟩ := law_s0 (P := P) (w := w) (base := base) T TB (outer := outer) (H := H) (E := E) hr
  obtain ⟨ts1, p1, e1⟩ := law_s1 (P := P) (w := w) (base := base) T TB (outer := outer) (H := H) (E := E) hr
  obtain ⟨ts2, p2, e2⟩ := law_s2 (P := P) (w := w) (base := base) T TB (outer := outer) (H := H) (E := E) hr
  obtain ⟨ts3, p3, e3⟩ := law_s3 (P := P) (w := w) (base := base) T TB (outer := outer) (H := H) (E := E) hr
  obtain ⟨ts4, p4, e4⟩ := law_s4 (P := P) (w := w) (base := base) T TB (outer := outer) (H := H) (E := E) hr
  obtain ⟨ts5, p5, e5⟩ := law_s5 (P := P) (w := w) (base := base) T TB (outer := outer) (H := H) (E := E) hr
  obtain ⟨ts6, p6, e6⟩ := law_s6 (P := P) (w := w) (base := base) T TB (outer := outer) (H := H) (E := E) hr
  obtain ⟨ts7, p7, e7⟩ := law_s7 (P := P) (w := w) (base := base) T TB (outer := outer) (H := H) (E := E) hr
  obtain ⟨ts8, p8, e8⟩ := law_s8 (P := P) (w := w) (base := base) T TB (outer := outer) (H := H) (E := E) hr
  obtain ⟨ts9, p9, e9⟩ := law_s9 (P := P) (w := w) (base := base) T TB (outer := outer) (H := H) (E := E) hr
  obtain ⟨ts10, p10, e10⟩ := law_s10 (P := P) (w := w) (base := base) T TB (outer := outer) (H := H) (E := E) hr
  refine ⟨_, PSs.ghost (i := 18) (x := "#tab") (v := .ref (lamP K)) (pss_cons (ps_for poB (by rfl) (Pu.pi_listK (K := K) (pcall (ok_law_rounds T) hr (by decide) (T.glo 57) pxB (pa_cons (pv 0) (pa_cons pe_int pa_nil)))) (pg_name (i := 1) sc_law.nd (by rfl) (by first | exact Or.inl rfl | exact Or.inr rfl)) (pss_cons p0 (pss_cons p1 (pss_cons p2 (pss_cons p3 (pss_cons p4 (pss_cons p5 (pss_cons p6 (pss_cons p7 (pss_cons p8 (pss_cons p9 (pss_one p10)))))))))))) (pss_one (ps_ret pe_bl))) rfl (no_vis (sc := defScope s_law) (by decide +kernel)), ?_⟩
  intro vs Q h
  refine run_LT (XC := xcK K) (Γe := []) (n := 17) (q := lamQ) (T := ?T) rfl ?h ?f vs H Q h
  case h => exact (Pu.st_seq (Pu.st_for1 (p := false) (Γ2 := [.da (dScr K), .m .lo (mLst dInt), .da (dLst (dTuN dInt)), .da (dLst (dTuN dInt)), .da (dLst dInt), .da (dI_Market K), .da (dLst (dTuN (dOpt dInt))), .da (dLst (dTuN (dOpt dInt))), .da (dTuN (dOpt dInt)), .da (dLst dInt), .no, .da (dOr (dTuN (dOpt dInt))), .da (dTuN (dOpt dInt)), .da dInt, .no, .no, .no, .da (dTuN (dOpt dInt)), .m .pa (mTab (lamP K) lamQ)]) (.s (.z)) (Pu.ev_callN (Pu.ea_cons (Pu.ev_var .z) (Pu.ea_cons (Pu.ev_c (c := dInt) (x := 1) fun _ => rfl) Pu.ea_nil))) (Pu.st_seq e0 (Pu.st_seq e1 (Pu.st_seq e2 (Pu.st_seq e3 (Pu.st_seq e4 (Pu.st_seq e5 (Pu.st_seq e6 (Pu.st_seq e7 (Pu.st_seq e8 (Pu.st_seq e9 e10))))))))))) (Pu.st_ret (p := false) prA (Pu.ev_c (c := dBl) (x := true) fun _ => rfl)))
  case f => intros; kernel_rfl
def lawLevel : Nat := 9
def lawFact : Nat := 64
def lawDef : Nat := 25
end
end G
set_option linter.all false
set_option maxHeartbeats 2000000
/-! ### ways of two hundred steps, five things by turns -/
namespace Do
theorem sub_len {α : Type} [DecidableEq α] : ∀ {xs ys : List α}, xs.Nodup → (∀ x, x ∈ xs → x ∈ ys) → xs.length ≤ ys.length
  | [], _, _, _ => by simp
  | x :: xs, ys, nd, h => by
    obtain ⟨n1, n2⟩ := List.nodup_cons.mp nd
    have hm := h x List.mem_cons_self
    have := sub_len (xs := xs) (ys := ys.erase x) n2 fun z hz => (List.mem_erase_of_ne (fun q : z = x => n1 (by rw [← q]; exact hz))).mpr (h z (List.mem_cons_of_mem _ hz))
    rw [List.length_erase_of_mem hm] at this
    have := List.length_pos_of_mem hm
    rw [List.length_cons]; omega
section
variable {α : Type} {M : Nat → α} {F : Nat → α → α}
theorem apart (hs : ∀ i, i < 200 → M (i + 1) = F (i % 5) (M i)) (hn : ∀ i, i < 200 → M i ≠ M 200) : ∀ i j, i < j → j ≤ 200 → i % 5 = j % 5 → M i ≠ M j := fun i j hij hj hm e => by
  have go : ∀ k, j + k ≤ 200 → M (i + k) = M (j + k) := by
    intro k
    induction k with
    | zero => exact fun _ => e
    | succ k ih =>
      intro hk
      have h1 := hs (i + k) (by omega)
      have h2 := hs (j + k) (by omega)
      rw [show i + (k + 1) = i + k + 1 by omega, show j + (k + 1) = j + k + 1 by omega, h1, h2, ih (by omega), show (i + k) % 5 = (j + k) % 5 by omega]
  have := go (200 - j) (by omega)
  rw [show j + (200 - j) = 200 by omega] at this
  exact hn (i + (200 - j)) (by omega) this
variable {c : α → Nat}
theorem count_res (hs : ∀ i, i < 200 → M (i + 1) = F (i % 5) (M i)) (hn : ∀ i, i < 200 → M i ≠ M 200) (hc : ∀ i j, i ≤ 200 → j ≤ 200 → c (M i) = c (M j) → M i = M j) (r m : Nat) (hm : 5 * m + r ≤ 205) {ks : List Nat} (hk : ks.Sublist (List.range m)) {W : List Nat} (hW : ∀ k, k ∈ ks → c (M (5 * k + r)) ∈ W) : ks.length ≤ W.length := by
  have nd : (ks.map fun k => c (M (5 * k + r))).Nodup := by
    show List.Pairwise _ _
    rw [List.pairwise_map]
    have pw : ks.Pairwise (· < ·) := List.Pairwise.sublist hk List.pairwise_lt_range
    refine List.Pairwise.imp_of_mem (fun {a b} ha hb lt e => ?_) pw
    have hb' := List.mem_range.mp (hk.subset hb)
    exact apart hs hn (5 * a + r) (5 * b + r) (by omega) (by omega) (by omega) (hc _ _ (by omega) (by omega) e)
  have := sub_len nd (ys := W) fun x hx => by
    obtain ⟨k, hk2, rfl⟩ := List.mem_map.mp hx
    exact hW k hk2
  rw [List.length_map] at this
  exact this
theorem few (hs : ∀ i, i < 200 → M (i + 1) = F (i % 5) (M i)) (hn : ∀ i, i < 200 → M i ≠ M 200) (hc : ∀ i j, i ≤ 200 → j ≤ 200 → c (M i) = c (M j) → M i = M j) {W : List Nat} (hW : ∀ i, i ≤ 200 → c (M i) ∈ W) : 41 ≤ W.length := by
  have := count_res hs hn hc 0 41 (by decide) (List.Sublist.refl _) (W := W) fun k hk => hW _ (by have := List.mem_range.mp hk; omega)
  rw [List.length_range] at this
  exact this
def cntE (ev : Nat → Bool) (r k : Nat) : Nat := ((List.range k).filter fun j => ev (5 * j + r)).length
theorem cntE_succ (ev : Nat → Bool) (r k : Nat) : cntE ev r (k + 1) = cntE ev r k + if ev (5 * k + r) = true then 1 else 0 := by
  unfold cntE
  rw [List.range_succ, List.filter_append, List.length_append, List.filter_cons]
  split <;> rfl
theorem rises {Φ : α → Nat} {ev : Nat → Bool} (h : ∀ i, i < 200 → Φ (M i) + 1 ≤ Φ (M (i + 1)) + if ev i = true then 3 else 0) : ∀ k, k ≤ 40 → Φ (M 0) + 5 * k ≤ Φ (M (5 * k)) + 3 * (cntE ev 0 k + cntE ev 1 k + cntE ev 2 k + cntE ev 3 k + cntE ev 4 k)
  | 0, _ => by simp
  | k + 1, hk => by
    have ih := rises h k (by omega)
    have h0 := h (5 * k) (by omega)
    have h1 : Φ (M (5 * k + 1)) + 1 ≤ Φ (M (5 * k + 2)) + _ := h (5 * k + 1) (by omega)
    have h2 : Φ (M (5 * k + 2)) + 1 ≤ Φ (M (5 * k + 3)) + _ := h (5 * k + 2) (by omega)
    have h3 : Φ (M (5 * k + 3)) + 1 ≤ Φ (M (5 * k + 4)) + _ := h (5 * k + 3) (by omega)
    have h4 : Φ (M (5 * k + 4)) + 1 ≤ Φ (M (5 * (k + 1))) + _ := h (5 * k + 4) (by omega)
    rw [cntE_succ, cntE_succ, cntE_succ, cntE_succ, cntE_succ]
    rw [show 5 * k + 0 = 5 * k from rfl]
    have e : ∀ b : Bool, (if b = true then 3 else 0 : Nat) = 3 * if b = true then 1 else 0 := fun b => by cases b <;> rfl
    rw [e] at h0 h1 h2 h3 h4
    generalize Φ (M (5 * (k + 1))) = x at *
    omega
theorem few_out (hs : ∀ i, i < 200 → M (i + 1) = F (i % 5) (M i)) (hn : ∀ i, i < 200 → M i ≠ M 200) (hc : ∀ i j, i ≤ 200 → j ≤ 200 → c (M i) = c (M j) → M i = M j) {Φ : α → Nat} {ev : Nat → Bool} (h : ∀ i, i < 200 → Φ (M i) + 1 ≤ Φ (M (i + 1)) + if ev i = true then 3 else 0) (h9 : Φ (M 200) ≤ 9)
    {V : List Nat} (hV : V.length ≤ 12) (hev : ∀ i, i < 200 → ev i = true → c (M (i + 1)) ∈ V) : False := by
  have r := rises h 40 (Nat.le_refl _)
  have q : ∀ r, r < 5 → cntE ev r 40 ≤ 12 := fun r hr => by
    refine Nat.le_trans (count_res hs hn hc (r + 1) 40 (by omega) (ks := (List.range 40).filter fun j => ev (5 * j + r)) List.filter_sublist (W := V) fun k hk => ?_) hV
    obtain ⟨h1, h2⟩ := List.mem_filter.mp hk
    have := List.mem_range.mp h1
    exact hev (5 * k + r) (by omega) h2
  have q0 := q 0 (by decide)
  have q1 := q 1 (by decide)
  have q2 := q 2 (by decide)
  have q3 := q 3 (by decide)
  have q4 := q 4 (by decide)
  have : M (5 * 40) = M 200 := rfl
  rw [this] at r
  omega
theorem few_from (hs : ∀ i, i < 200 → M (i + 1) = F (i % 5) (M i)) (hn : ∀ i, i < 200 → M i ≠ M 200) (hc : ∀ i j, i ≤ 200 → j ≤ 200 → c (M i) = c (M j) → M i = M j) {W Z : List Nat} (nz : Z.Nodup) (hZ : ∀ z, z ∈ Z → z ∈ W) (hW : W.length < 40 + Z.length)
    (h : ∀ k, k < 40 → c (M (5 * k + 2)) ∈ W ∧ c (M (5 * k + 2)) ∉ Z) : False := by
  have del : ∀ (Z W : List Nat), Z.Nodup → (∀ z, z ∈ Z → z ∈ W) → ∃ V : List Nat, V.length + Z.length = W.length ∧ ∀ x, x ∈ W → x ∉ Z → x ∈ V := by
    intro Z
    induction Z with
    | nil => exact fun W _ _ => ⟨W, rfl, fun x h _ => h⟩
    | cons z Z ih =>
      intro W nd hz
      obtain ⟨n1, n2⟩ := List.nodup_cons.mp nd
      have hm := hz z List.mem_cons_self
      obtain ⟨V, e, hv⟩ := ih (W.erase z) n2 fun y hy => (List.mem_erase_of_ne (fun q : y = z => n1 (by rw [← q]; exact hy))).mpr (hz y (List.mem_cons_of_mem _ hy))
      refine ⟨V, ?_, fun x hx nx => hv x ((List.mem_erase_of_ne fun q => nx (by rw [q]; exact List.mem_cons_self)).mpr hx) fun y => nx (List.mem_cons_of_mem _ y)⟩
      rw [List.length_erase_of_mem hm] at e
      have := List.length_pos_of_mem hm
      rw [List.length_cons]; omega
  obtain ⟨V, e, hv⟩ := del Z W nz hZ
  have := count_res hs hn hc 2 40 (by decide) (List.Sublist.refl _) (W := V) fun k hk => hv _ (h k (List.mem_range.mp hk)).1 (h k (List.mem_range.mp hk)).2
  rw [List.length_range] at this
  omega
end
end Do
set_option linter.all false
set_option maxHeartbeats 0
set_option maxRecDepth 100000
/-! ### two rooms with a seat for one, one with seats for two: which matchings of a single one come of a draw -/
namespace Do
def rk (q x : Nat) : Nat := Nat.mod (Nat.div q (Nat.pow 4 x)) 4
def bet (o x y : Nat) : Bool := Nat.blt (rk o x) (rk o y)
def b1 (b : Bool) : Nat := match b with | true => 1 | false => 0
def sel (o0 o1 o2 r : Nat) : Nat := match r with | 0 => o0 | 1 => o1 | _ => o2
def geo (l : Nat) : Nat := match l with
  | 1 => 4095 | 2 => 1365 | 3 => 585 | 4 => 273 | 5 => 1057 | 6 => 65 | 7 => 129 | 8 => 257 | 9 => 513 | _ => 0
def mk (i l : Nat) : Nat := Nat.land (Nat.mul (geo l) (Nat.pow 2 i)) 4095
theorem mk_ok : ∀ l, l < 10 → ∀ d, d < 12 → ∀ i, i < l → d % l = i → (mk i l).testBit d = true := by decide +kernel
structure Ma where
  D : Nat
  q0 : Nat
  q1 : Nat
  q2 : Nat
  o0 : Nat
  o1 : Nat
  o2 : Nat
def Ma.q (M : Ma) (x : Nat) : Nat := sel M.q0 M.q1 M.q2 x
def Ma.o (M : Ma) (r : Nat) : Nat := sel M.o0 M.o1 M.o2 r
def Ma.occ (M : Ma) (r' k a : Nat) : Bool := match Nat.beq r' M.D with
  | true => true
  | false => bet (M.o r') k a
def bef (a n0 n1 : Nat) : Nat := match a with | 0 => 0 | 1 => n0 | _ => Nat.add n0 n1
def at3 (a n0 n1 n2 : Nat) (i : Nat) : Nat := mk (Nat.add (bef a n0 n1) i) (Nat.add (Nat.add n0 n1) n2)
def num (a g v w x k : Nat) : Nat := match Nat.beq k a with
  | true => v
  | false => (match Nat.beq k g with | true => w | false => x)
def Ma.m1 (M : Ma) (a r r' : Nat) : Nat := match Nat.blt (rk (M.q a) r) (rk (M.q a) r') with
  | false => 0
  | true =>
    let n := fun k => match Nat.beq k a with | true => rk (M.q a) r' | false => Nat.add 2 (b1 (M.occ r' k a))
    at3 a (n 0) (n 1) (n 2) (rk (M.q a) r)
def oth (a g : Nat) : Nat := Nat.sub 3 (Nat.add a g)
def Ma.m2 (M : Ma) (a r g : Nat) : Nat := match bet (M.o r) a g with
  | false => 0
  | true =>
    let h := oth a g
    let n := num a g 3 (rk (M.q g) r) (Nat.add 2 (b1 (bet (M.o r) h g)))
    at3 a (n 0) (n 1) (n 2) (rk (M.q a) r)
def Ma.m3 (M : Ma) (a r g r' : Nat) : Nat := match (bet (M.o r) a g && Nat.blt (rk (M.q a) r) (rk (M.q a) r')) with
  | false => 0
  | true =>
    let h := oth a g
    let n := num a g (rk (M.q a) r') (Nat.sub (rk (M.q g) r) (b1 (Nat.blt (rk (M.q g) r') (rk (M.q g) r) && !M.occ r' g a))) (Nat.add (Nat.add 1 (b1 (bet (M.o r) h g))) (b1 (M.occ r' h a)))
    at3 a (n 0) (n 1) (n 2) (rk (M.q a) r)
def Ma.im (M : Ma) (a r : Nat) : Nat :=
  let g := match a with | 0 => 1 | _ => 0
  let h := match a with | 2 => 1 | _ => 2
  let x := Nat.lor (M.m1 a r 0) (Nat.lor (M.m1 a r 1) (M.m1 a r 2))
  match Nat.beq r M.D with
  | true => x
  | false => Nat.lor x (Nat.lor (Nat.lor (M.m2 a r g) (M.m2 a r h)) (Nat.lor (Nat.lor (M.m3 a r g 0) (Nat.lor (M.m3 a r g 1) (M.m3 a r g 2))) (Nat.lor (M.m3 a r h 0) (Nat.lor (M.m3 a r h 1) (M.m3 a r h 2)))))
def Ma.y (M : Ma) (a r : Nat) : Nat :=
  let g := match a with | 0 => 1 | _ => 0
  let h := match a with | 2 => 1 | _ => 2
  match Nat.beq r M.D with
  | true => 0
  | false => Nat.lor (M.m2 a r g) (M.m2 a r h)
def tw : List Nat → Nat → Nat → Nat
  | [], _, t => t
  | z :: zs, o, t => tw zs (Nat.lor o (Nat.xor 4095 z)) (Nat.lor t (Nat.land o (Nat.xor 4095 z)))
def lastR (q : Nat) : Nat := match Nat.beq (rk q 0) 2 with | true => 0 | false => (match Nat.beq (rk q 1) 2 with | true => 1 | false => 2)
def Ma.ys (M : Ma) : List Nat := [M.y 0 (lastR M.q0), M.y 1 (lastR M.q1), M.y 2 (lastR M.q2)]
def Ma.ims (M : Ma) : List Nat := [M.im 0 0, M.im 0 1, M.im 0 2, M.im 1 0, M.im 1 1, M.im 1 2, M.im 2 0, M.im 2 1, M.im 2 2]
def Ma.chk (M : Ma) : Bool := match Nat.beq (tw M.ys 0 0) 4095 with
  | true => true
  | false => Nat.beq (tw M.ims 0 0) 4095
def six : List Nat := [36, 24, 33, 9, 18, 6]
def allM (D q0 : Nat) : List Ma := six.flatMap fun q1 => six.flatMap fun q2 => six.flatMap fun o0 => six.map fun o1 => match D with
  | 0 => ⟨0, q0, q1, q2, 0, o0, o1⟩
  | 1 => ⟨1, q0, q1, q2, o0, 0, o1⟩
  | _ => ⟨2, q0, q1, q2, o0, o1, 0⟩
theorem a0_36 : (allM 0 36).all Ma.chk = true := by decide +kernel
theorem a0_24 : (allM 0 24).all Ma.chk = true := by decide +kernel
theorem a0_33 : (allM 0 33).all Ma.chk = true := by decide +kernel
theorem a0_9 : (allM 0 9).all Ma.chk = true := by decide +kernel
theorem a0_18 : (allM 0 18).all Ma.chk = true := by decide +kernel
theorem a0_6 : (allM 0 6).all Ma.chk = true := by decide +kernel
theorem a1_36 : (allM 1 36).all Ma.chk = true := by decide +kernel
theorem a1_24 : (allM 1 24).all Ma.chk = true := by decide +kernel
theorem a1_33 : (allM 1 33).all Ma.chk = true := by decide +kernel
theorem a1_9 : (allM 1 9).all Ma.chk = true := by decide +kernel
theorem a1_18 : (allM 1 18).all Ma.chk = true := by decide +kernel
theorem a1_6 : (allM 1 6).all Ma.chk = true := by decide +kernel
theorem a2_36 : (allM 2 36).all Ma.chk = true := by decide +kernel
theorem a2_24 : (allM 2 24).all Ma.chk = true := by decide +kernel
theorem a2_33 : (allM 2 33).all Ma.chk = true := by decide +kernel
theorem a2_9 : (allM 2 9).all Ma.chk = true := by decide +kernel
theorem a2_18 : (allM 2 18).all Ma.chk = true := by decide +kernel
theorem a2_6 : (allM 2 6).all Ma.chk = true := by decide +kernel
end Do
/-! Deferred asking, by itself: no interpreter here. -/
namespace Da
theorem len_of_sub {α : Type} [DecidableEq α] : ∀ {xs ys : List α}, xs.Nodup → (∀ x, x ∈ xs → x ∈ ys) → xs.length ≤ ys.length
  | [], ys, _, _ => Nat.zero_le _
  | x :: xs, ys, nd, h => by
    have hx := h x (List.mem_cons_self ..)
    have nd' := List.nodup_cons.mp nd
    have k := len_of_sub (xs := xs) (ys := ys.erase x) nd'.2 fun y hy => by
      have hne : y ≠ x := fun e => nd'.1 (e ▸ hy)
      exact (List.mem_erase_of_ne hne).mpr (h y (List.mem_cons_of_mem _ hy))
    have e := List.length_erase_of_mem hx
    have hpos : 0 < ys.length := List.length_pos_of_mem hx
    rw [List.length_cons]
    omega
def Ahead (l : List Int) (r r' : Int) : Prop := r ∈ l ∧ r' ∈ l ∧ l.idxOf r < l.idxOf r'
theorem ahead_or {l : List Int} {r r' : Int} (h : r ∈ l) (h' : r' ∈ l) (hne : r ≠ r') : Ahead l r r' ∨ Ahead l r' r := by
  rcases Nat.lt_trichotomy (l.idxOf r) (l.idxOf r') with k | k | k
  · exact .inl ⟨h, h', k⟩
  · exfalso
    have h1 := List.getElem_idxOf (List.idxOf_lt_length_iff.mpr h)
    have h2 := List.getElem_idxOf (List.idxOf_lt_length_iff.mpr h')
    apply hne
    rw [← h1, ← h2]
    congr 1
  · exact .inr ⟨h', h, k⟩
structure Mk where
  L : Int → List Int
  O : Int → List Int
  q : Int → Nat
  /-- who asks -/
  A : Int → Prop
structure St where
  held : Int → Option Int
  ref : Int → Int → Prop
structure Way (M : Mk) (s : St) : Prop where
  ask : ∀ a r, s.held a = some r → M.A a ∧ r ∈ M.L a ∧ ∀ r', Ahead (M.L a) r' r → s.ref a r'
  pre : ∀ a r, s.ref a r → M.A a ∧ r ∈ M.L a ∧ ∀ r', Ahead (M.L a) r' r → s.ref a r'
  not : ∀ a r, s.held a = some r → ¬ s.ref a r
  likes : ∀ a r, s.held a = some r → a ∈ M.O r
  cap : ∀ r (hs : List Int), hs.Nodup → (∀ a, a ∈ hs → s.held a = some r) → hs.length ≤ M.q r
  just : ∀ a r, s.ref a r → a ∈ M.O r → (∃ hs : List Int, hs.Nodup ∧ hs.length = M.q r ∧ ∀ b, b ∈ hs → s.held b = some r) ∧ ∀ b, s.held b = some r → Ahead (M.O r) b a
def Done (M : Mk) (s : St) : Prop := ∀ a, M.A a → s.held a = none → ∀ r, r ∈ M.L a → s.ref a r
structure Wider (M N : Mk) (rooms : Int → Prop) : Prop where
  ask : ∀ a, M.A a → N.A a
  list : ∀ a r, M.A a → (r ∈ N.L a ↔ r ∈ M.L a ∧ rooms r)
  ahead : ∀ a r r', M.A a → Ahead (N.L a) r r' → Ahead (M.L a) r r'
  seats : ∀ r, rooms r → N.q r ≤ M.q r
  lists : ∀ a r, M.A a → rooms r → (a ∈ M.O r ↔ a ∈ N.O r)
  order : ∀ a b r, M.A a → M.A b → rooms r → Ahead (M.O r) a b → Ahead (N.O r) a b
structure Refused (M : Mk) (s : St) (r x : Int) (ins : List Int) : Prop where
  nd : ins.Nodup
  more : M.q r < ins.length
  mem : x ∈ ins
  who : ∀ b, b ∈ ins → M.A b ∧ r ∈ M.L b ∧ b ∈ M.O r ∧ ∀ r', Ahead (M.L b) r' r → s.ref b r'
  worst : ∀ b, b ∈ ins → b ≠ x → Ahead (M.O r) b x
end Da
namespace Da
theorem ahead_trans {l : List Int} {a b c : Int} (h : Ahead l a b) (k : Ahead l b c) : Ahead l a c := ⟨h.1, k.2.1, Nat.lt_trans h.2.2 k.2.2⟩
def put (f : Int → Option Int) (a : Int) (v : Option Int) : Int → Option Int := fun b => if b = a then v else f b
def add (R : Int → Int → Prop) (x r : Int) : Int → Int → Prop := fun b r' => R b r' ∨ (b = x ∧ r' = r)
structure Next (M : Mk) (s : St) (a r : Int) : Prop where
  who : M.A a
  bare : s.held a = none
  room : r ∈ M.L a
  new : ¬ s.ref a r
  pre : ∀ r', Ahead (M.L a) r' r → s.ref a r'
def Holds (s : St) (r : Int) (hs : List Int) : Prop := hs.Nodup ∧ ∀ b, b ∈ hs ↔ s.held b = some r
inductive Run (M : Mk) : St → Prop where
  | start : Run M ⟨fun _ => none, fun _ _ => False⟩
  | unlisted {s : St} {a r : Int} (h : Run M s) (n : Next M s a r) (no : a ∉ M.O r) : Run M ⟨s.held, add s.ref a r⟩
  | taken {s : St} {a r : Int} {hs : List Int} (h : Run M s) (n : Next M s a r) (li : a ∈ M.O r) (H : Holds s r hs) (free : hs.length < M.q r) : Run M ⟨put s.held a (some r), s.ref⟩
  | refused {s : St} {a r x : Int} {hs : List Int} (h : Run M s) (n : Next M s a r) (li : a ∈ M.O r) (H : Holds s r hs) (full : M.q r ≤ hs.length) (mem : x = a ∨ x ∈ hs) (worst : ∀ b, (b = a ∨ b ∈ hs) → b ≠ x → Ahead (M.O r) b x) :
      Run M ⟨put (put s.held a (some r)) x none, add s.ref x r⟩
theorem put_eq {f : Int → Option Int} {a : Int} {v : Option Int} : put f a v a = v := if_pos rfl
theorem put_ne {f : Int → Option Int} {a b : Int} {v : Option Int} (h : b ≠ a) : put f a v b = f b := if_neg h
theorem Run.way {M : Mk} {s : St} (h : Run M s) : Way M s := by
  induction h with
  | start => exact ⟨fun a r e => (nomatch e), fun a r e => (e : False).elim, fun a r e => (nomatch e), fun a r e => (nomatch e), fun r hs _ h => by
      cases hs with
      | nil => exact Nat.zero_le _
      | cons b hs => exact (nomatch h b (List.mem_cons_self ..)), fun a r e => (e : False).elim⟩
  | @unlisted s a r h n no w =>
    refine ⟨fun b r' e => ?_, fun b r' e => ?_, fun b r' e z => ?_, w.likes, w.cap, fun b r' e li => ?_⟩
    · obtain ⟨h1, h2, h3⟩ := w.ask b r' e
      exact ⟨h1, h2, fun r2 k => .inl (h3 r2 k)⟩
    · rcases e with e | ⟨rfl, rfl⟩
      · obtain ⟨h1, h2, h3⟩ := w.pre b r' e
        exact ⟨h1, h2, fun r2 k => .inl (h3 r2 k)⟩
      · exact ⟨n.who, n.room, fun r2 k => .inl (n.pre r2 k)⟩
    · rcases z with z | ⟨rfl, rfl⟩
      · exact w.not b r' e z
      · have e : s.held b = some r' := e
        rw [n.bare] at e; cases e
    · rcases e with e | ⟨rfl, rfl⟩
      · exact w.just b r' e li
      · exact absurd li no
  | @taken s a r hs h n li H free w =>
    have hold : ∀ b r', put s.held a (some r) b = some r' → (b = a ∧ r' = r) ∨ (b ≠ a ∧ s.held b = some r') := fun b r' e => by
      by_cases z : b = a
      · subst z
        rw [put_eq] at e
        cases e
        exact .inl ⟨rfl, rfl⟩
      · rw [put_ne z] at e
        exact .inr ⟨z, e⟩
    have keep : ∀ b r', s.held b = some r' → put s.held a (some r) b = some r' := fun b r' e => by
      have z : b ≠ a := fun z => by rw [z, n.bare] at e; cases e
      rw [put_ne z]; exact e
    refine ⟨fun b r' e => ?_, w.pre, fun b r' e z => ?_, fun b r' e => ?_, fun r' ks nd k => ?_, fun b r' e lb => ?_⟩
    · rcases hold b r' e with ⟨rfl, rfl⟩ | ⟨_, e⟩
      · exact ⟨n.who, n.room, n.pre⟩
      · exact w.ask b r' e
    · rcases hold b r' e with ⟨rfl, rfl⟩ | ⟨_, e⟩
      · exact n.new z
      · exact w.not b r' e z
    · rcases hold b r' e with ⟨rfl, rfl⟩ | ⟨_, e⟩
      · exact li
      · exact w.likes b r' e
    · by_cases er : r' = r
      · subst er
        have := len_of_sub (xs := ks) (ys := a :: hs) nd fun b hb => by
          rcases hold b r' (k b hb) with ⟨rfl, _⟩ | ⟨_, e⟩
          · exact List.mem_cons_self ..
          · exact List.mem_cons_of_mem _ ((H.2 b).mpr e)
        rw [List.length_cons] at this
        omega
      · refine w.cap r' ks nd fun b hb => ?_
        rcases hold b r' (k b hb) with ⟨_, e⟩ | ⟨_, e⟩
        · exact absurd e er
        · exact e
    · obtain ⟨⟨ks, k1, k2, k3⟩, k4⟩ := w.just b r' e lb
      refine ⟨⟨ks, k1, k2, fun c hc => keep c r' (k3 c hc)⟩, fun c hc => ?_⟩
      rcases hold c r' hc with ⟨rfl, rfl⟩ | ⟨_, e2⟩
      · exfalso
        have := len_of_sub (xs := ks) (ys := hs) k1 fun b hb => (H.2 b).mpr (k3 b hb)
        omega
      · exact k4 c e2
  | @refused s a r x hs h n li H full mem worst w =>
    have hlen : hs.length = M.q r := Nat.le_antisymm (w.cap r hs H.1 fun b hb => (H.2 b).mp hb) full
    have ha : a ∉ hs := fun z => by
      have := (H.2 a).mp z
      rw [n.bare] at this; cases this
    have hold : ∀ b r', put (put s.held a (some r)) x none b = some r' → b ≠ x ∧ ((b = a ∧ r' = r) ∨ (b ≠ a ∧ s.held b = some r')) := fun b r' e => by
      by_cases z : b = x
      · subst z; rw [put_eq] at e; cases e
      · rw [put_ne z] at e
        refine ⟨z, ?_⟩
        by_cases z2 : b = a
        · subst z2
          rw [put_eq] at e
          cases e
          exact .inl ⟨rfl, rfl⟩
        · rw [put_ne z2] at e
          exact .inr ⟨z2, e⟩
    have keep : ∀ b r', b ≠ x → s.held b = some r' → put (put s.held a (some r)) x none b = some r' := fun b r' hx e => by
      have z : b ≠ a := fun z => by rw [z, n.bare] at e; cases e
      rw [put_ne hx, put_ne z]; exact e
    have xroom : M.A x ∧ r ∈ M.L x ∧ (∀ r', Ahead (M.L x) r' r → s.ref x r') ∧ x ∈ M.O r := by
      rcases mem with e | e
      · subst e; exact ⟨n.who, n.room, n.pre, li⟩
      · have e := (H.2 x).mp e
        obtain ⟨h1, h2, h3⟩ := w.ask x r e
        exact ⟨h1, h2, h3, w.likes x r e⟩
    refine ⟨fun b r' e => ?_, fun b r' e => ?_, fun b r' e z => ?_, fun b r' e => ?_, fun r' ks nd k => ?_, fun b r' e lb => ?_⟩
    · obtain ⟨_, q⟩ := hold b r' e
      rcases q with ⟨rfl, rfl⟩ | ⟨_, e⟩
      · exact ⟨n.who, n.room, fun r2 k => .inl (n.pre r2 k)⟩
      · obtain ⟨h1, h2, h3⟩ := w.ask b r' e
        exact ⟨h1, h2, fun r2 k => .inl (h3 r2 k)⟩
    · rcases e with e | ⟨rfl, rfl⟩
      · obtain ⟨h1, h2, h3⟩ := w.pre b r' e
        exact ⟨h1, h2, fun r2 k => .inl (h3 r2 k)⟩
      · exact ⟨xroom.1, xroom.2.1, fun r2 k => .inl (xroom.2.2.1 r2 k)⟩
    · obtain ⟨hx, q⟩ := hold b r' e
      rcases z with z | ⟨z, _⟩
      · rcases q with ⟨rfl, rfl⟩ | ⟨_, e⟩
        · exact n.new z
        · exact w.not b r' e z
      · exact hx z
    · obtain ⟨_, q⟩ := hold b r' e
      rcases q with ⟨rfl, rfl⟩ | ⟨_, e⟩
      · exact li
      · exact w.likes b r' e
    · by_cases er : r' = r
      · subst er
        have hxm : x ∈ a :: hs := by
          rcases mem with e | e
          · rw [e]; exact List.mem_cons_self ..
          · exact List.mem_cons_of_mem _ e
        have := len_of_sub (xs := ks) (ys := (a :: hs).erase x) nd fun b hb => by
          obtain ⟨hx, q⟩ := hold b r' (k b hb)
          refine (List.mem_erase_of_ne hx).mpr ?_
          rcases q with ⟨rfl, _⟩ | ⟨_, e⟩
          · exact List.mem_cons_self ..
          · exact List.mem_cons_of_mem _ ((H.2 b).mpr e)
        rw [List.length_erase_of_mem hxm, List.length_cons] at this
        omega
      · refine w.cap r' ks nd fun b hb => ?_
        obtain ⟨_, q⟩ := hold b r' (k b hb)
        rcases q with ⟨_, e⟩ | ⟨_, e⟩
        · exact absurd e er
        · exact e
    · -- the holders of r: all but x of those before and a
      have now : ∃ ks : List Int, ks.Nodup ∧ ks.length = M.q r ∧ ∀ b, b ∈ ks → put (put s.held a (some r)) x none b = some r := by
        have nd : (a :: hs).Nodup := List.nodup_cons.mpr ⟨ha, H.1⟩
        have hxm : x ∈ a :: hs := by
          rcases mem with e | e
          · rw [e]; exact List.mem_cons_self ..
          · exact List.mem_cons_of_mem _ e
        refine ⟨(a :: hs).erase x, nd.erase x, by rw [List.length_erase_of_mem hxm, List.length_cons]; omega, fun b hb => ?_⟩
        have hb2 := (List.Nodup.mem_erase_iff nd).mp hb
        rcases List.mem_cons.mp hb2.2 with e | e
        · subst e; rw [put_ne hb2.1, put_eq]
        · exact keep b r hb2.1 ((H.2 b).mp e)
      have better : ∀ b, put (put s.held a (some r)) x none b = some r → Ahead (M.O r) b x := fun b hb => by
        obtain ⟨hx, q⟩ := hold b r hb
        rcases q with ⟨e, _⟩ | ⟨_, e⟩
        · exact worst b (.inl e) hx
        · exact worst b (.inr ((H.2 b).mpr e)) hx
      rcases e with e | ⟨rfl, rfl⟩
      · obtain ⟨⟨ks, k1, k2, k3⟩, k4⟩ := w.just b r' e lb
        by_cases er : r' = r
        · subst er
          refine ⟨now, fun c hc => ?_⟩
          obtain ⟨hx, q⟩ := hold c r' hc
          rcases q with ⟨rfl, _⟩ | ⟨_, e2⟩
          · have hxh : x ∈ hs := by
              rcases mem with e3 | e3
              · exact absurd e3.symm hx
              · exact e3
            exact ahead_trans (better c hc) (k4 x ((H.2 x).mp hxh))
          · exact k4 c e2
        · refine ⟨⟨ks, k1, k2, fun c hc => ?_⟩, fun c hc => ?_⟩
          · refine keep c r' (fun z => ?_) (k3 c hc)
            have hc2 := k3 c hc
            rcases mem with e3 | e3
            · rw [z, e3, n.bare] at hc2; cases hc2
            · rw [z, (H.2 x).mp e3] at hc2
              cases hc2
              exact er rfl
          · obtain ⟨_, q⟩ := hold c r' hc
            rcases q with ⟨_, e3⟩ | ⟨_, e3⟩
            · exact absurd e3 er
            · exact k4 c e3
      · exact ⟨now, better⟩
end Da
namespace Da
theorem Wider.refl {M : Mk} : Wider M M (fun _ => True) := ⟨fun _ h => h, fun _ _ _ => ⟨fun h => ⟨h, True.intro⟩, fun h => h.1⟩, fun _ _ _ _ h => h, fun _ _ => Nat.le_refl _, fun _ _ _ _ => Iff.rfl, fun _ _ _ _ _ _ h => h⟩
end Da
namespace Da
structure Stable (M : Mk) (h : Int → Option Int) : Prop where
  want : ∀ a r, h a = some r → M.A a ∧ r ∈ M.L a ∧ a ∈ M.O r
  cap : ∀ r (hs : List Int), hs.Nodup → (∀ a, a ∈ hs → h a = some r) → hs.length ≤ M.q r
  calm : ∀ a r, M.A a → r ∈ M.L a → a ∈ M.O r → (∀ r', h a = some r' → Ahead (M.L a) r r') → (∃ hs : List Int, hs.Nodup ∧ hs.length = M.q r ∧ ∀ b, b ∈ hs → h b = some r) ∧ ∀ b, h b = some r → Ahead (M.O r) b a
theorem end_stable {M : Mk} {s : St} (hs : Run M s) (ds : Done M s) : Stable M s.held := by
  have w := hs.way
  refine ⟨fun a r e => ?_, w.cap, fun a r ha hr ho k => ?_⟩
  · obtain ⟨h1, h2, _⟩ := w.ask a r e
    exact ⟨h1, h2, w.likes a r e⟩
  · refine w.just a r ?_ ho
    cases e : s.held a with
    | none => exact ds a ha e r hr
    | some r' => exact (w.ask a r' e).2.2 r (k r' e)
end Da
namespace Da
end Da
namespace Da
open Classical
theorem flt_le {α : Type} (p q : α → Bool) : ∀ (as : List α), (∀ a, a ∈ as → p a = true → q a = true) → (as.filter p).length ≤ (as.filter q).length
  | [], _ => Nat.le_refl _
  | a :: as, h => by
    have ih := flt_le p q as fun b hb => h b (List.mem_cons_of_mem _ hb)
    cases hp : p a with
    | false =>
      rw [List.filter_cons_of_neg (by rw [hp]; simp)]
      cases hq : q a with
      | false => rw [List.filter_cons_of_neg (by rw [hq]; simp)]; exact ih
      | true => rw [List.filter_cons_of_pos hq, List.length_cons]; omega
    | true =>
      rw [List.filter_cons_of_pos hp, List.filter_cons_of_pos (h a (List.mem_cons_self ..) hp), List.length_cons, List.length_cons]
      omega
theorem flt_lt {α : Type} (p q : α → Bool) : ∀ (as : List α), (∀ a, a ∈ as → p a = true → q a = true) → ∀ x, x ∈ as → q x = true → p x = false → (as.filter p).length < (as.filter q).length
  | [], _, x, hx, _, _ => nomatch hx
  | a :: as, h, x, hx, hq, hp => by
    rcases List.mem_cons.mp hx with e | e
    · subst e
      rw [List.filter_cons_of_neg (by rw [hp]; simp), List.filter_cons_of_pos hq, List.length_cons]
      have := flt_le p q as fun b hb => h b (List.mem_cons_of_mem _ hb)
      omega
    · have ih := flt_lt p q as (fun b hb => h b (List.mem_cons_of_mem _ hb)) x e hq hp
      cases hpa : p a with
      | false =>
        rw [List.filter_cons_of_neg (by rw [hpa]; simp)]
        cases hqa : q a with
        | false => rw [List.filter_cons_of_neg (by rw [hqa]; simp)]; exact ih
        | true => rw [List.filter_cons_of_pos hqa, List.length_cons]; omega
      | true =>
        rw [List.filter_cons_of_pos hpa, List.filter_cons_of_pos (h a (List.mem_cons_self ..) hpa), List.length_cons, List.length_cons]
        omega
theorem last_of {l : List Int} : ∀ (xs : List Int), xs ≠ [] → (∀ x, x ∈ xs → x ∈ l) → ∃ x, x ∈ xs ∧ ∀ b, b ∈ xs → b ≠ x → Ahead l b x
  | [], h, _ => absurd rfl h
  | [x], _, _ => ⟨x, List.mem_cons_self .., fun b hb hne => by
      rcases List.mem_cons.mp hb with e | e
      · exact absurd e hne
      · cases e⟩
  | x :: y :: xs, _, hm => by
    obtain ⟨z, hz, k⟩ := last_of (y :: xs) (fun e => nomatch e) fun b hb => hm b (List.mem_cons_of_mem _ hb)
    by_cases e : x = z
    · refine ⟨z, List.mem_cons_of_mem _ hz, fun b hb hne => ?_⟩
      rcases List.mem_cons.mp hb with e2 | e2
      · exact absurd (e2.trans e) hne
      · exact k b e2 hne
    · rcases ahead_or (hm x (List.mem_cons_self ..)) (hm z (List.mem_cons_of_mem _ hz)) e with q | q
      · refine ⟨z, List.mem_cons_of_mem _ hz, fun b hb hne => ?_⟩
        rcases List.mem_cons.mp hb with e2 | e2
        · rw [e2]; exact q
        · exact k b e2 hne
      · refine ⟨x, List.mem_cons_self .., fun b hb hne => ?_⟩
        rcases List.mem_cons.mp hb with e2 | e2
        · exact absurd e2 hne
        · by_cases e3 : b = z
          · rw [e3]; exact q
          · exact ahead_trans (k b e2 e3) q
theorem first_of {l : List Int} {P : Int → Prop} (h : ∃ r, r ∈ l ∧ P r) : ∃ r, r ∈ l ∧ P r ∧ ∀ r', Ahead l r' r → ¬ P r' := by
  have go : ∀ n r, r ∈ l → P r → l.idxOf r ≤ n → ∃ r, r ∈ l ∧ P r ∧ ∀ r', Ahead l r' r → ¬ P r' := by
    intro n
    induction n with
    | zero => exact fun r hr hp hn => ⟨r, hr, hp, fun r' k _ => by have := k.2.2; omega⟩
    | succ n ih =>
      intro r hr hp hn
      by_cases z : ∃ r', Ahead l r' r ∧ P r'
      · obtain ⟨r', k, hp'⟩ := z
        exact ih r' k.1 hp' (by have := k.2.2; omega)
      · exact ⟨r, hr, hp, fun r' k hp' => z ⟨r', k, hp'⟩⟩
  obtain ⟨r, hr, hp⟩ := h
  exact go _ r hr hp (Nat.le_refl _)
section
variable {M : Mk} {as rs : List Int}
noncomputable def refs (as rs : List Int) (s : St) : Nat := ((as.flatMap fun a => rs.map fun r => (a, r)).filter fun p => decide (s.ref p.1 p.2)).length
def helds (as : List Int) (s : St) : Nat := (as.filter fun a => (s.held a).isSome).length
theorem mem_pairs {a r : Int} (ha : a ∈ as) (hr : r ∈ rs) : (a, r) ∈ as.flatMap fun a => rs.map fun r => (a, r) := List.mem_flatMap.mpr ⟨a, ha, List.mem_map.mpr ⟨r, hr, rfl⟩⟩
theorem refs_add {s : St} {h : Int → Option Int} {x r : Int} (hx : x ∈ as) (hr : r ∈ rs) (hn : ¬ s.ref x r) : refs as rs s < refs as rs ⟨h, add s.ref x r⟩ :=
  flt_lt _ _ _ (fun p _ k => decide_eq_true (.inl (of_decide_eq_true k))) (x, r) (mem_pairs hx hr) (decide_eq_true (.inr ⟨rfl, rfl⟩)) (decide_eq_false hn)
theorem step_on (ha : ∀ a, M.A a → a ∈ as) (hr : ∀ a r, M.A a → r ∈ M.L a → r ∈ rs) (na : as.Nodup) {s : St} (hs : Run M s) (nd : ¬ Done M s) : ∃ s', Run M s' ∧ (refs as rs s < refs as rs s' ∨ (refs as rs s = refs as rs s' ∧ helds as s < helds as s')) := by
  have hex : ∃ a, M.A a ∧ s.held a = none ∧ ∃ r, r ∈ M.L a ∧ ¬ s.ref a r := by
    apply byContradiction
    intro z
    exact nd fun a h1 h2 r h3 => byContradiction fun h4 => z ⟨a, h1, h2, r, h3, h4⟩
  obtain ⟨a, h1, h2, h3⟩ := hex
  obtain ⟨r, k1, k2, k3⟩ := first_of h3
  have n : Next M s a r := ⟨h1, h2, k1, k2, fun r' k => byContradiction (k3 r' k)⟩
  have w := hs.way
  by_cases li : a ∈ M.O r
  · have H : Holds s r (as.filter fun b => decide (s.held b = some r)) := ⟨na.filter _, fun b => ⟨fun hb => by simpa using (List.mem_filter.mp hb).2, fun hb => List.mem_filter.mpr ⟨ha b (w.ask b r hb).1, by simpa using hb⟩⟩⟩
    by_cases free : (as.filter fun b => decide (s.held b = some r)).length < M.q r
    · refine ⟨_, .taken hs n li H free, .inr ⟨rfl, ?_⟩⟩
      refine flt_lt _ _ _ (fun b _ k => ?_) a (ha a h1) (by show (put s.held a (some r) a).isSome = true; rw [put_eq]; rfl) (by show (s.held a).isSome = false; rw [h2]; rfl)
      show (put s.held a (some r) b).isSome = true
      by_cases e : b = a
      · rw [e, put_eq]; rfl
      · rw [put_ne e]; exact k
    · obtain ⟨x, hx, worst⟩ := last_of (l := M.O r) (a :: as.filter fun b => decide (s.held b = some r)) (fun e => nomatch e) fun b hb => by
        rcases List.mem_cons.mp hb with e | e
        · rw [e]; exact li
        · exact w.likes b r ((H.2 b).mp e)
      have xin : x ∈ as ∧ ¬ s.ref x r := by
        rcases List.mem_cons.mp hx with e | e
        · rw [e]; exact ⟨ha a h1, k2⟩
        · have e := (H.2 x).mp e
          exact ⟨ha x (w.ask x r e).1, w.not x r e⟩
      exact ⟨_, .refused hs n li H (Nat.le_of_not_lt free) (List.mem_cons.mp hx) (fun b hb => worst b (List.mem_cons.mpr hb)), .inl (refs_add xin.1 (hr a r h1 k1) xin.2)⟩
  · exact ⟨_, .unlisted hs n li, .inl (refs_add (ha a h1) (hr a r h1 k1) k2)⟩
theorem ends (ha : ∀ a, M.A a → a ∈ as) (hr : ∀ a r, M.A a → r ∈ M.L a → r ∈ rs) (na : as.Nodup) : ∃ s, Run M s ∧ Done M s := by
  have top : ∀ s, refs as rs s ≤ (as.flatMap fun a => rs.map fun r => (a, r)).length := fun s => List.length_filter_le ..
  have top2 : ∀ s, helds as s ≤ as.length := fun s => List.length_filter_le ..
  have go : ∀ n s, Run M s → (as.length + 1) * ((as.flatMap fun a => rs.map fun r => (a, r)).length - refs as rs s) + (as.length - helds as s) ≤ n → ∃ s, Run M s ∧ Done M s := by
    intro n
    induction n with
    | zero =>
      intro s hs hn
      by_cases d : Done M s
      · exact ⟨s, hs, d⟩
      · obtain ⟨s', hs', k⟩ := step_on ha hr na hs d
        have t1 := top s'
        have t2 := top2 s'
        have z : (as.length + 1) * ((as.flatMap fun a => rs.map fun r => (a, r)).length - refs as rs s) = 0 := by omega
        have z2 : (as.flatMap fun a => rs.map fun r => (a, r)).length - refs as rs s = 0 := by
          rcases Nat.mul_eq_zero.mp z with q | q
          · omega
          · exact q
        exfalso
        omega
    | succ n ih =>
      intro s hs hn
      by_cases d : Done M s
      · exact ⟨s, hs, d⟩
      · obtain ⟨s', hs', k⟩ := step_on ha hr na hs d
        refine ih s' hs' ?_
        have t1 := top s'
        have t2 := top2 s'
        have t3 := top2 s
        rcases k with k | ⟨k1, k2⟩
        · have h1 : (as.flatMap fun a => rs.map fun r => (a, r)).length - refs as rs s' + 1 ≤ (as.flatMap fun a => rs.map fun r => (a, r)).length - refs as rs s := by omega
          have h2 := Nat.mul_le_mul_left (as.length + 1) h1
          rw [Nat.mul_add, Nat.mul_one] at h2
          omega
        · rw [← k1]
          omega
  exact go _ _ .start (Nat.le_refl _)
end
end Da
namespace Da
theorem idx_ne {x a : Int} {l : List Int} (h : x ≠ a) : (x :: l).idxOf a = l.idxOf a + 1 := by
  rw [List.idxOf_cons]
  have : (x == a) = false := by simpa using h
  rw [this]; rfl
structure Up (M N : Mk) (k r0 : Int) : Prop where
  A : ∀ a, N.A a ↔ M.A a
  L : N.L = M.L
  q : N.q = M.q
  other : ∀ r, r ≠ r0 → N.O r = M.O r
  mem : ∀ a, a ≠ k → (a ∈ N.O r0 ↔ a ∈ M.O r0)
  first : ∀ a, a ∈ N.O r0 → a ≠ k → Ahead (N.O r0) k a
  listed : k ∈ N.O r0
  order : ∀ a b, a ≠ k → b ≠ k → Ahead (M.O r0) a b → Ahead (N.O r0) a b
def cutL (M : Mk) (k : Int) (l : List Int) : Mk := ⟨fun a => if a = k then l else M.L a, M.O, M.q, M.A⟩
end Da
namespace Da
theorem idx_inj {l : List Int} {a b : Int} (ha : a ∈ l) (hb : b ∈ l) (e : l.idxOf a = l.idxOf b) : a = b := by
  have h1 := List.getElem_idxOf (List.idxOf_lt_length_iff.mpr ha)
  have h2 := List.getElem_idxOf (List.idxOf_lt_length_iff.mpr hb)
  rw [← h1, ← h2]
  congr 1
def sta (M : Mk) (nx : Int → Nat) (hd : Int → Option Int) : St := ⟨hd, fun a r => M.A a ∧ r ∈ M.L a ∧ (M.L a).idxOf r < nx a ∧ hd a ≠ some r⟩
structure Inv (M : Mk) (nx : Int → Nat) (hd : Int → Option Int) : Prop where
  run : Run M (sta M nx hd)
  last : ∀ a r, hd a = some r → r ∈ M.L a ∧ (M.L a).idxOf r + 1 = nx a
section
variable {M : Mk} {nx : Int → Nat} {hd : Int → Option Int} {a r x : Int}
end
end Da
namespace Da
end Da
namespace Da
section
variable {M : Mk} {nx : Int → Nat} {hd : Int → Option Int} {a r x : Int}
end
end Da
namespace Da
theorem idx_app : ∀ (xs ys : List Int) (x : Int), x ∈ xs → (xs ++ ys).idxOf x = xs.idxOf x
  | y :: xs, ys, x, h => by
    rw [List.cons_append]
    by_cases e : y = x
    · subst e; rw [List.idxOf_cons_self, List.idxOf_cons_self]
    · rw [idx_ne e, idx_ne e, idx_app xs ys x ((List.mem_cons.mp h).resolve_left fun q => e q.symm)]
theorem idx_take {l : List Int} {n : Nat} {x : Int} (h : x ∈ l.take n) : (l.take n).idxOf x = l.idxOf x := by
  have e := idx_app _ (l.drop n) x h
  rw [List.take_append_drop] at e
  exact e.symm
theorem take_idx {l : List Int} {n : Nat} {x : Int} : x ∈ l.take n ↔ x ∈ l ∧ l.idxOf x < n := by
  constructor
  · intro h
    have h1 := List.idxOf_lt_length_iff.mpr h
    rw [idx_take h, List.length_take] at h1
    exact ⟨List.mem_of_mem_take h, by omega⟩
  · rintro ⟨h, hn⟩
    have h1 := List.idxOf_lt_length_iff.mpr h
    have h2 := List.getElem_idxOf h1
    have h3 : (l.take n)[l.idxOf x]? = some x := by
      rw [List.getElem?_take_of_lt hn, List.getElem?_eq_getElem h1, h2]
    exact List.mem_of_getElem? h3
end Da
set_option Elab.async false
set_option linter.all false
set_option maxRecDepth 100000
set_option maxHeartbeats 2000000
namespace G
open PySem L2 Evl Pu
theorem at0 {a b c : Int} : L2.atI [a, b, c] (0 : Int) = some a := rfl
theorem at1 {a b c : Int} : L2.atI [a, b, c] (1 : Int) = some b := rfl
theorem at2 {a b c : Int} : L2.atI [a, b, c] (2 : Int) = some c := rfl
theorem set0 {a b c x : Int} : setL [a, b, c] (0 : Int) x = some [x, b, c] := rfl
theorem set1 {a b c x : Int} : setL [a, b, c] (1 : Int) x = some [a, x, c] := rfl
theorem set2 {a b c x : Int} : setL [a, b, c] (2 : Int) x = some [a, b, x] := rfl
theorem opt_some {α β : Type} (x : α) (f : α → Pu.Res β) : opt (some x) f = f x := rfl
theorem dice_ok (cell : Int) : ∃ a b c, m_law_dice cell = .ok [a, b, c] := by
  unfold m_law_dice
  have h1 : (if 0 < (1009 : Int) then some (cell % (1009 : Int)) else none) = some (cell % 1009) := if_pos (by decide)
  have h2 : (if CPow (10 : Int) (18 : Int) then some ((10 : Int) ^ (18 : Int).toNat) else none) = some ((10 : Int) ^ (18 : Int).toNat) := if_pos (by unfold CPow; decide)
  simp only [h1, h2, opt_some]
  repeat' split
  all_goals first | exact ⟨_, _, _, rfl⟩ | skip
theorem roll_ok (a b c many : Int) (h0 : 0 < many) (h1 : many < 1073741824) : ∃ x a' b' c', m_law_roll [a, b, c] many = .ok (x, [a', b', c']) ∧ 0 ≤ x ∧ x < many := by
  have m1 : ∀ x : Int, (if 0 < many then some (x % many) else none) = some (x % many) := fun x => if_pos h0
  have m2 : ∀ x : Int, (if CDiv x many then some (x / many) else none) = some (x / many) := fun x => if_pos ⟨h0, h1⟩
  have m3 : ∀ x : Int, (if CMul x (48271 : Int) then some (x * (48271 : Int)) else none) = some (x * 48271) := fun x => if_pos (.inr (by decide))
  have m4 : ∀ x : Int, (if CMul x (69621 : Int) then some (x * (69621 : Int)) else none) = some (x * 69621) := fun x => if_pos (.inr (by decide))
  have m5 : ∀ x : Int, (if 0 < (2147483647 : Int) then some (x % (2147483647 : Int)) else none) = some (x % 2147483647) := fun x => if_pos (by decide)
  have m6 : ∀ x : Int, (if CDiv x (7 : Int) then some (x / (7 : Int)) else none) = some (x / 7) := fun x => if_pos ⟨by decide, by decide⟩
  have p0 : ∀ x : Int, 0 ≤ x % many := fun x => Int.emod_nonneg _ (by omega)
  have p1 : ∀ x : Int, x % many < many := fun x => Int.emod_lt_of_pos _ h0
  unfold m_law_roll
  simp only [at0, at1, at2, set0, set1, set2, m1, m2, m3, m4, m5, m6, opt_some]
  by_cases k1 : c = 2
  · refine ⟨a % many, a / many, b, c, ?_, p0 _, p1 _⟩
    simp [k1]
  · by_cases k2 : c = 1 ∧ 0 < a
    · refine ⟨a % many, a / many, b, c, ?_, p0 _, p1 _⟩
      simp [k2.1, k2.2]
    · refine ⟨((a * 48271 + b * 69621 + 11) % 2147483647 / 7 + (a * 48271 + b * 69621 + 11) % 2147483647) % many, (a * 48271 + b * 69621 + 11) % 2147483647, b + 1, 0, ?_, p0 _, p1 _⟩
      by_cases k3 : c = 1
      · have k4 : ¬ 0 < a := fun z => k2 ⟨k3, z⟩
        simp [k3, k4]
      · simp [k1, k3]
theorem bind_ok {α β : Type} (x : α) (f : α → Pu.Res β) : (Pu.Res.ok x).bind f = f x := rfl
theorem chk_true {β : Type} (r : Pu.Res β) : chk true r = r := rfl
theorem rng_ok {n : Int} (h0 : 0 ≤ n) (h1 : n ≤ 16777216) : rng n = some (rngL n) := by
  unfold rng
  exact if_pos ⟨by omega, h1⟩
theorem rngL_len {n : Int} : (rngL n).length = n.toNat := by unfold rngL; rw [List.length_map, List.length_range]
theorem rngL_mem {n x : Int} : x ∈ rngL n ↔ 0 ≤ x ∧ x < n := by
  unfold rngL
  rw [List.mem_map]
  constructor
  · rintro ⟨k, hk, rfl⟩
    have := List.mem_range.mp hk
    exact ⟨Int.natCast_nonneg k, by show (k : Int) < n; omega⟩
  · rintro ⟨h1, h2⟩
    exact ⟨x.toNat, List.mem_range.mpr (by omega), by show ((x.toNat : Nat) : Int) = x; omega⟩
theorem rngL_nodup (n : Int) : (rngL n).Nodup := by
  unfold rngL
  refine List.Pairwise.map _ (fun a b h e => h (by cases e; rfl)) List.nodup_range
theorem at_in {xs : List Int} {i : Int} (h0 : 0 ≤ i) (h1 : i < xs.length) : ∃ y, L2.atI xs i = some y ∧ y ∈ xs := by
  have hlt : i.toNat < xs.length := by omega
  refine ⟨xs[i.toNat], ?_, List.getElem_mem hlt⟩
  unfold L2.atI L2.ixN
  rw [if_pos h0, if_pos h1]
  show xs[i.toNat]? = _
  exact List.getElem?_eq_getElem hlt
def fnI (xs : List Int) : Int → Nat := fun a => if 0 ≤ a then (xs.getD a.toNat 0).toNat else 0
def fnL (ls : List (List Int)) : Int → List Int := fun a => if 0 ≤ a then ls.getD a.toNat [] else []
abbrev Steps := List (Int × Int × Option Int)
section
variable {lists orders : List (List Int)} {seats nx : List Int} {hd : List (Option Int)} {st : Steps} {a : Int}
def left (lists : List (List Int)) (nx : List Int) : Nat := ((rngL lists.length).map fun a => (fnL lists a).length - fnI nx a).sum
end
theorem list_ok (a b c many : Int) (h0 : 0 ≤ many) (h1 : many ≤ 1000) : ∃ l a' b' c', m_law_list [a, b, c] many = .ok (l, [a', b', c']) ∧ l.Nodup ∧ ∀ x, x ∈ l → 0 ≤ x ∧ x < many := by
  obtain ⟨n, a1, b1, c1, e1, n0, n1⟩ := roll_ok a b c (many + 1) (by omega) (by omega)
  have hr : rng many = some (rngL many) := rng_ok h0 (by omega)
  have hr2 : rng n = some (rngL n) := rng_ok n0 (by omega)
  unfold m_law_list
  rw [hr, opt_some, e1, bind_ok]
  show ∃ l a' b' c', opt (rng n) _ = _ ∧ _
  rw [hr2, opt_some]
  show ∃ l a' b' c', List.foldr (fun (x38 : Int) (k39 : (List Int) × Int × (List Int) × (List Int) × Unit × Unit × Unit → Pu.Res _) (r40 : (List Int) × Int × (List Int) × (List Int) × Unit × Unit × Unit) => (m_law_roll r40.1 (r40.2.2.1.length : Int)).bind fun x43 => opt (L2.atI r40.2.2.1 x43.1) fun x44 => chk (decide (List.length (α := Int) r40.2.2.2.1 < 16777216)) (chk (List.contains (α := Int) r40.2.2.1 x44) (k39 (x43.2, r40.2.1, (List.erase (α := Int) r40.2.2.1 x44), (app1 r40.2.2.2.1 x44), (), (), ())))) (fun r41 => Pu.Res.ok (r41.2.2.2.1, r41.1)) (rngL n) ([a1, b1, c1], many, rngL many, [], (), (), ()) = _ ∧ _
  have go : ∀ (ts left found : List Int) (a b c : Int), ts.length ≤ left.length → left.length ≤ 1000 → found.length + left.length ≤ 1000 → left.Nodup → found.Nodup → (∀ x, x ∈ found → x ∉ left) → (∀ x, x ∈ found → 0 ≤ x ∧ x < many) → (∀ x, x ∈ left → 0 ≤ x ∧ x < many) →
      ∃ l a' b' c', List.foldr (fun (x38 : Int) (k39 : (List Int) × Int × (List Int) × (List Int) × Unit × Unit × Unit → Pu.Res _) (r40 : (List Int) × Int × (List Int) × (List Int) × Unit × Unit × Unit) => (m_law_roll r40.1 (r40.2.2.1.length : Int)).bind fun x43 => opt (L2.atI r40.2.2.1 x43.1) fun x44 => chk (decide (List.length (α := Int) r40.2.2.2.1 < 16777216)) (chk (List.contains (α := Int) r40.2.2.1 x44) (k39 (x43.2, r40.2.1, (List.erase (α := Int) r40.2.2.1 x44), (app1 r40.2.2.2.1 x44), (), (), ())))) (fun r41 => Pu.Res.ok (r41.2.2.2.1, r41.1)) ts ([a, b, c], many, left, found, (), (), ()) = .ok (l, [a', b', c']) ∧ l.Nodup ∧ ∀ x, x ∈ l → 0 ≤ x ∧ x < many := by
    intro ts
    induction ts with
    | nil => exact fun left found a b c _ _ _ _ nf _ hf _ => ⟨found, a, b, c, rfl, nf, hf⟩
    | cons t ts ih =>
      intro left found a b c hl hk hk2 nl nf hd hf hm
      rw [List.length_cons] at hl
      obtain ⟨x, a2, b2, c2, e2, x0, x1⟩ := roll_ok a b c (left.length : Int) (by omega) (by omega)
      obtain ⟨y, hy, ym⟩ := at_in x0 x1
      rw [List.foldr_cons]
      show ∃ l a' b' c', (m_law_roll [a, b, c] (left.length : Int)).bind _ = _ ∧ _
      rw [e2, bind_ok]
      show ∃ l a' b' c', opt (L2.atI left x) _ = _ ∧ _
      rw [hy, opt_some]
      have k1 : decide (List.length (α := Int) found < 16777216) = true := decide_eq_true (by omega)
      have k2 : List.contains (α := Int) left y = true := List.elem_iff.mpr ym
      show ∃ l a' b' c', chk (decide (List.length (α := Int) found < 16777216)) (chk (List.contains (α := Int) left y) _) = _ ∧ _
      rw [k1, chk_true, k2, chk_true]
      have hlen := List.length_erase_of_mem ym
      have hpos : 0 < left.length := List.length_pos_of_mem ym
      refine ih (left.erase y) (app1 found y) a2 b2 c2 (by omega) (by omega) (by rw [app1_len]; omega) (nl.erase y) ?_ ?_ ?_ fun z hz => hm z (List.mem_of_mem_erase hz)
      · unfold app1
        refine List.nodup_append.mpr ⟨nf, by simp, fun z hz w hw e => ?_⟩
        have hw : w = y := by simpa using hw
        subst hw
        exact hd z hz (e ▸ ym)
      · intro z hz hz2
        unfold app1 at hz
        rcases List.mem_append.mp hz with q | q
        · exact hd z q (List.mem_of_mem_erase hz2)
        · have q : z = y := by simpa using q
          subst q
          exact (List.Nodup.mem_erase_iff nl).mp hz2 |>.1 rfl
      · intro z hz
        unfold app1 at hz
        rcases List.mem_append.mp hz with q | q
        · exact hf z q
        · have q : z = y := by simpa using q
          subst q
          exact hm z ym
  exact go (rngL n) (rngL many) [] a1 b1 c1 (by rw [rngL_len, rngL_len]; omega) (by rw [rngL_len]; omega) (by rw [rngL_len, List.length_nil]; omega) (rngL_nodup _) .nil (fun x hx => nomatch hx) (fun x hx => nomatch hx) fun x hx => rngL_mem.mp hx
theorem comp_all {α β S : Type} {body : α → S → Pu.Res (Option β × S)} {I : S → Prop} {P : β → Prop} (h : ∀ x s, I s → ∃ y s', body x s = .ok (some y, s') ∧ P y ∧ I s') :
    ∀ (xs : List α) (s : S), I s → ∃ ys s', compL body xs s = some (ys, s') ∧ ys.length = xs.length ∧ (∀ y, y ∈ ys → P y) ∧ I s'
  | [], s, i => ⟨[], s, rfl, rfl, fun y hy => (nomatch hy), i⟩
  | x :: xs, s, i => by
    obtain ⟨y, s1, e1, p1, i1⟩ := h x s i
    obtain ⟨ys, s2, e2, l2, p2, i2⟩ := comp_all h xs s1 i1
    refine ⟨y :: ys, s2, ?_, by rw [List.length_cons, List.length_cons, l2], fun z hz => ?_, i2⟩
    · show (match body x s with
        | .ok (o, s1) => (match compL body xs s1 with
          | some (ys, s2) => some (o.toList ++ ys, s2)
          | none => none)
        | _ => none) = _
      rw [e1]
      show (match compL body xs s1 with
          | some (ys, s2) => some ((some y).toList ++ ys, s2)
          | none => none) = _
      rw [e2]
      rfl
    · rcases List.mem_cons.mp hz with q | q
      · rw [q]; exact p1
      · exact p2 z q
theorem market_ok (a b c askers rooms : Int) (h0 : 0 ≤ askers) (h1 : askers ≤ 1000) (h2 : 0 ≤ rooms) (h3 : rooms ≤ 1000) :
    ∃ lists orders seats a' b' c', m_law_market [a, b, c] askers rooms = .ok ((lists, orders, seats), [a', b', c']) ∧ lists.length = askers.toNat ∧ orders.length = rooms.toNat ∧ seats.length = rooms.toNat ∧
      (∀ l, l ∈ lists → l.Nodup ∧ ∀ x, x ∈ l → 0 ≤ x ∧ x < rooms) ∧ (∀ o, o ∈ orders → o.Nodup ∧ ∀ x, x ∈ o → 0 ≤ x ∧ x < askers) ∧ ∀ q, q ∈ seats → 0 ≤ q ∧ q < 3 := by
  unfold m_law_market
  rw [rng_ok h0 (by omega), opt_some]
  obtain ⟨ys, s1, e1, l1, p1, a1, b1, c1, rfl⟩ := comp_all (β := List Int) (I := fun s : (List Int) × Int × Int × Unit × Unit × Unit × Unit => ∃ a b c, s = ([a, b, c], askers, rooms, (), (), (), ())) (P := fun l => l.Nodup ∧ ∀ x, x ∈ l → 0 ≤ x ∧ x < rooms)
    (body := fun (_ : Int) r => if true = true then (m_law_list r.1 r.2.2.1).bind fun x39 => .ok (some x39.1, (x39.2, r.2.1, r.2.2.1, (), (), (), ())) else .ok (none, (r.1, r.2.1, r.2.2.1, (), (), (), ()))) (fun x s ⟨a, b, c, e⟩ => by
      subst e
      obtain ⟨l, a', b', c', e, nd, k⟩ := list_ok a b c rooms h2 h3
      refine ⟨l, _, ?_, ⟨nd, k⟩, a', b', c', rfl⟩
      show (m_law_list [a, b, c] rooms).bind _ = _
      rw [e, bind_ok]) (rngL askers) _ ⟨a, b, c, rfl⟩
  rw [e1, opt_some]
  show ∃ lists orders seats a' b' c', opt (rng rooms) _ = _ ∧ _
  rw [rng_ok h2 (by omega), opt_some]
  obtain ⟨zs, s2, e2, l2, p2, a2, b2, c2, rfl⟩ := comp_all (β := List Int) (I := fun s : (List Int) × Int × Int × (List (List Int)) × Unit × Unit × Unit => ∃ a b c, s = ([a, b, c], askers, rooms, ys, (), (), ())) (P := fun l => l.Nodup ∧ ∀ x, x ∈ l → 0 ≤ x ∧ x < askers)
    (body := fun (_ : Int) r => if true = true then (m_law_list r.1 r.2.1).bind fun x44 => .ok (some x44.1, (x44.2, r.2.1, r.2.2.1, r.2.2.2.1, (), (), ())) else .ok (none, (r.1, r.2.1, r.2.2.1, r.2.2.2.1, (), (), ()))) (fun x s ⟨a, b, c, e⟩ => by
      subst e
      obtain ⟨l, a', b', c', e, nd, k⟩ := list_ok a b c askers h0 h1
      refine ⟨l, _, ?_, ⟨nd, k⟩, a', b', c', rfl⟩
      show (m_law_list [a, b, c] askers).bind _ = _
      rw [e, bind_ok]) (rngL rooms) _ ⟨a1, b1, c1, rfl⟩
  show ∃ lists orders seats a' b' c', opt (compL _ (rngL rooms) ([a1, b1, c1], askers, rooms, ys, (), (), ())) _ = _ ∧ _
  rw [e2, opt_some]
  show ∃ lists orders seats a' b' c', opt (rng rooms) _ = _ ∧ _
  rw [rng_ok h2 (by omega), opt_some]
  obtain ⟨ws, s3, e3, l3, p3, a3, b3, c3, rfl⟩ := comp_all (β := Int) (I := fun s : (List Int) × Int × Int × (List (List Int)) × Unit × (List (List Int)) × Unit => ∃ a b c, s = ([a, b, c], askers, rooms, ys, (), zs, ())) (P := fun q => 0 ≤ q ∧ q < 3)
    (body := fun (_ : Int) r => if true = true then (m_law_roll r.1 (3 : Int)).bind fun x49 => .ok (some x49.1, (x49.2, r.2.1, r.2.2.1, r.2.2.2.1, (), r.2.2.2.2.2.1, ())) else .ok (none, (r.1, r.2.1, r.2.2.1, r.2.2.2.1, (), r.2.2.2.2.2.1, ()))) (fun x s ⟨a, b, c, e⟩ => by
      subst e
      obtain ⟨q, a', b', c', e, k0, k1⟩ := roll_ok a b c 3 (by decide) (by decide)
      refine ⟨q, _, ?_, ⟨k0, k1⟩, a', b', c', rfl⟩
      show (m_law_roll [a, b, c] 3).bind _ = _
      rw [e, bind_ok]) (rngL rooms) _ ⟨a2, b2, c2, rfl⟩
  show ∃ lists orders seats a' b' c', opt (compL _ (rngL rooms) ([a2, b2, c2], askers, rooms, ys, (), zs, ())) _ = _ ∧ _
  rw [e3, opt_some]
  rw [rngL_len] at l1 l2 l3
  exact ⟨ys, zs, ws, a3, b3, c3, rfl, l1, l2, l3, p1, p2, p3⟩
theorem comp_map {α β S : Type} {body : α → S → Pu.Res (Option β × S)} {g : α → β} {s : S} : ∀ (xs : List α), (∀ x, x ∈ xs → body x s = .ok (some (g x), s)) → compL body xs s = some (xs.map g, s)
  | [], _ => rfl
  | x :: xs, h => by
    have e2 := comp_map (body := body) (g := g) (s := s) xs fun y hy => h y (List.mem_cons_of_mem _ hy)
    show (match body x s with
        | .ok (o, s1) => (match compL body xs s1 with
          | some (ys, s2) => some (o.toList ++ ys, s2)
          | none => none)
        | _ => none) = _
    rw [h x (List.mem_cons_self ..)]
    show (match compL body xs s with
          | some (ys, s2) => some ((some (g x)).toList ++ ys, s2)
          | none => none) = _
    rw [e2]
    rfl
theorem dmerge_new {α : Type} : ∀ (xs acc : List (Int × α)), ((acc ++ xs).map (·.1)).Nodup → dmerge acc xs = acc ++ xs
  | [], acc, _ => by rw [List.append_nil]; rfl
  | q :: xs, acc, nd => by
    show dmerge (dput acc q.1 q.2) xs = _
    have hn : (acc.any fun p => decide (p.1 = q.1)) = false := by
      rw [List.any_eq_false]
      intro p hp
      have h2 := nd
      rw [List.map_append] at h2
      have := (List.nodup_append.mp h2).2.2 p.1 (List.mem_map.mpr ⟨p, hp, rfl⟩) q.1 (List.mem_map.mpr ⟨q, List.mem_cons_self .., rfl⟩)
      simpa using this
    have e : dput acc q.1 q.2 = acc ++ [q] := by
      unfold dput
      rw [hn]
      rfl
    rw [e, dmerge_new xs (acc ++ [q]) (by rw [List.append_assoc]; exact nd), List.append_assoc]
    rfl
theorem check_ok {l : List Int} {many : Int} (nd : l.Nodup) (h : ∀ x, x ∈ l → 0 ≤ x ∧ x < many) : m_check_list l many = .ok l := by
  unfold m_check_list
  rw [comp_map (g := fun x => (x, (1 : Int))) l (fun x _ => rfl), opt_some]
  have e : dmerge [] (l.map fun x => (x, (1 : Int))) = l.map fun x => (x, (1 : Int)) := by
    rw [dmerge_new _ _ (by rw [List.nil_append, List.map_map, show l.map ((fun x : Int × Int => x.1) ∘ fun x => (x, (1 : Int))) = l from List.map_id l]; exact nd)]
    rfl
  show (if (!decide (((dmerge [] (l.map fun x => (x, (1 : Int)))).length : Int) = (l.length : Int))) = true then _ else _) = _
  rw [e, List.length_map]
  rw [if_neg (by simp)]
  rw [comp_map (g := fun _ => false) l (fun x hx => by
    obtain ⟨k1, k2⟩ := h x hx
    show (if true = true then _ else _) = _
    rw [if_pos rfl]
    show (if decide ((0 : Int) ≤ x) = true then Pu.Res.ok (some (!decide (x < many)), _) else _) = _
    rw [decide_eq_true k1, if_pos rfl, decide_eq_true k2]
    rfl), opt_some]
  have e2 : ((l.map fun _ => false).any id) = false := by
    rw [List.any_eq_false]
    intro b hb
    obtain ⟨_, _, rfl⟩ := List.mem_map.mp hb
    simp
  show (if ((l.map fun _ => false).any id) = true then _ else _) = _
  rw [e2, if_neg (by decide)]
theorem wish_ok {l : List Int} (nd : l.Nodup) : m_Wish_init l = .ok (l, (enumL l).map fun x => (x.2, x.1), ()) := by
  unfold m_Wish_init
  rw [comp_map (g := fun x : Int × Int => (x.2, x.1)) (enumL l) (fun x _ => rfl), opt_some]
  show Pu.Res.ok (l, dmerge [] ((enumL l).map fun x => (x.2, x.1)), ()) = _
  rw [dmerge_new _ _ (by
    rw [List.nil_append, List.map_map]
    have : (enumL l).map ((fun x : Int × Int => x.1) ∘ fun x : Int × Int => (x.2, x.1)) = l := by
      unfold enumL
      rw [List.map_map]
      apply List.ext_getElem
      · rw [List.length_map, List.length_zipIdx]
      · intro i h1 h2
        simp
    rw [this]; exact nd)]
  rfl
def mkW (l : List Int) : A_Wish := (l, (enumL l).map fun x => (x.2, x.1), ())
def mkM (lists orders : List (List Int)) (seats : List Int) : A_Market := (lists.map mkW, orders.map mkW, seats, ())
theorem init_ok {lists orders : List (List Int)} {seats : List Int} (hl : orders.length = seats.length) (h1 : ∀ l, l ∈ lists → l.Nodup ∧ ∀ x, x ∈ l → 0 ≤ x ∧ x < (orders.length : Int)) (h2 : ∀ o, o ∈ orders → o.Nodup ∧ ∀ x, x ∈ o → 0 ≤ x ∧ x < (lists.length : Int)) (h3 : ∀ q, q ∈ seats → 0 ≤ q) :
    m_Market_init lists orders seats = .ok (mkM lists orders seats) := by
  unfold m_Market_init
  have e0 : decide ((orders.length : Int) = (seats.length : Int)) = true := decide_eq_true (by rw [hl])
  simp only [e0]
  rw [if_neg (by decide)]
  rw [comp_map (g := fun _ => false) seats (fun q hq => by
    first | rw [if_pos True.intro] | rw [if_pos rfl]
    show Pu.Res.ok (some (decide (q < 0)), (), lists, orders, seats, (), (), ()) = _
    rw [decide_eq_false (by have := h3 q hq; omega)]), opt_some]
  have e2 : ((seats.map fun _ => false).any id) = false := by
    rw [List.any_eq_false]
    intro b hb
    obtain ⟨_, _, rfl⟩ := List.mem_map.mp hb
    simp
  simp only [e2]
  rw [if_neg (by decide)]
  rw [comp_map (g := mkW) lists (fun l hm => by
    first | rw [if_pos True.intro] | rw [if_pos rfl]
    show (m_check_list l (orders.length : Int)).bind _ = _
    rw [check_ok (h1 l hm).1 (h1 l hm).2, bind_ok, wish_ok (h1 l hm).1, bind_ok]
    rfl), opt_some]
  simp only []
  rw [comp_map (g := mkW) orders (fun l hm => by
    first | rw [if_pos True.intro] | rw [if_pos rfl]
    show (m_check_list l (lists.length : Int)).bind _ = _
    rw [check_ok (h2 l hm).1 (h2 l hm).2, bind_ok, wish_ok (h2 l hm).1, bind_ok]
    rfl), opt_some]
  rfl
theorem dget_zip : ∀ (l : List Int) (n : Nat) (x : Int), dget ((l.zipIdx n).map fun p => (p.1, (p.2 : Int))) x = if x ∈ l then some ((n + l.idxOf x : Nat) : Int) else none
  | [], n, x => rfl
  | y :: l, n, x => by
    rw [List.zipIdx_cons, List.map_cons]
    unfold dget
    by_cases e : y = x
    · subst e
      rw [if_pos rfl, if_pos (List.mem_cons_self ..), List.idxOf_cons_self]
      rfl
    · have hb : (y == x) = false := by simpa using e
      rw [if_neg e, dget_zip l (n + 1) x, List.idxOf_cons, hb]
      by_cases hm : x ∈ l
      · rw [if_pos hm, if_pos (List.mem_cons_of_mem _ hm)]
        congr 1
        show ((n + 1 + l.idxOf x : Nat) : Int) = ((n + (l.idxOf x + 1) : Nat) : Int)
        omega
      · rw [if_neg hm, if_neg fun z => (List.mem_cons.mp z).elim (fun q => e q.symm) hm]
theorem ranks_get (l : List Int) (x : Int) : dget (mkW l).2.1 x = if x ∈ l then some ((l.idxOf x : Nat) : Int) else none := by
  have e : (mkW l).2.1 = (l.zipIdx 0).map fun p => (p.1, (p.2 : Int)) := by
    unfold mkW enumL
    show (List.map _ (List.map _ _)) = _
    rw [List.map_map]
    rfl
  rw [e, dget_zip]
  simp
theorem has_ok (l : List Int) (x : Int) : m_Wish_has (mkW l) x = .ok (decide (x ∈ l)) := by
  unfold m_Wish_has
  rw [ranks_get]
  by_cases h : x ∈ l
  · rw [if_pos h, decide_eq_true h]; rfl
  · rw [if_neg h, decide_eq_false h]; rfl
theorem comp_filt {α β S : Type} {body : α → S → Pu.Res (Option β × S)} {p : α → Bool} {g : α → β} {s : S} : ∀ (xs : List α), (∀ x, x ∈ xs → body x s = .ok (if p x = true then some (g x) else none, s)) → compL body xs s = some ((xs.filter p).map g, s)
  | [], _ => rfl
  | x :: xs, h => by
    have e2 := comp_filt (body := body) (p := p) (g := g) (s := s) xs fun y hy => h y (List.mem_cons_of_mem _ hy)
    show (match body x s with
        | .ok (o, s1) => (match compL body xs s1 with
          | some (ys, s2) => some (o.toList ++ ys, s2)
          | none => none)
        | _ => none) = _
    rw [h x (List.mem_cons_self ..)]
    show (match compL body xs s with
          | some (ys, s2) => some ((if p x = true then some (g x) else none).toList ++ ys, s2)
          | none => none) = _
    rw [e2]
    cases hp : p x with
    | true => rw [List.filter_cons_of_pos hp, if_pos rfl]; rfl
    | false => rw [List.filter_cons_of_neg (by rw [hp]; simp), if_neg (by decide)]; rfl
theorem those_ok (held : List (Option Int)) (room : Int) : m_those_in held room = .ok (((enumL held).filter fun x => decide (x.2 = some room)).map fun x => x.1) := by
  unfold m_those_in
  rw [comp_filt (p := fun x : Int × Option Int => decide (x.2 = some room)) (g := fun x => x.1) (enumL held) (fun x _ => by
    show (if decide (x.2 = some room) = true then Pu.Res.ok (some x.1, _) else _) = _
    by_cases e : x.2 = some room
    · rw [decide_eq_true e, if_pos rfl, if_pos rfl]
    · rw [decide_eq_false e, if_neg (by decide), if_neg (by decide)]), opt_some]
theorem those_mem {held : List (Option Int)} {room a : Int} : a ∈ (((enumL held).filter fun x => decide (x.2 = some room)).map fun x => x.1) ↔ 0 ≤ a ∧ held[a.toNat]? = some (some room) := by
  rw [List.mem_map]
  unfold enumL
  constructor
  · rintro ⟨⟨i, o⟩, h, rfl⟩
    obtain ⟨h1, h2⟩ := List.mem_filter.mp h
    obtain ⟨⟨o2, n⟩, h3, h4⟩ := List.mem_map.mp h1
    cases h4
    have h2 : o2 = some room := by simpa using h2
    subst h2
    have h5 := List.mem_zipIdx_iff_getElem?.mp h3
    exact ⟨Int.natCast_nonneg n, by simpa using h5⟩
  · rintro ⟨h0, h1⟩
    refine ⟨(a, some room), List.mem_filter.mpr ⟨List.mem_map.mpr ⟨(some room, a.toNat), List.mem_zipIdx_iff_getElem?.mpr h1, ?_⟩, by simp⟩, rfl⟩
    show (((a.toNat : Nat) : Int), some room) = (a, some room)
    have : ((a.toNat : Nat) : Int) = a := by omega
    rw [this]
theorem worst_places (l ones : List Int) : compL (β := Int) (S := A_Wish × (List Int) × Unit × Unit × Unit) (fun (x68 : Int) r69 => (m_Wish_has r69.1 x68).bind fun x71 => if x71 = true then opt (dget r69.1.2.1 x68) fun x72 => .ok (some x72, (r69.1, r69.2.1, (), (), ())) else .ok (none, (r69.1, r69.2.1, (), (), ()))) ones (mkW l, ones, (), (), ()) = some ((ones.filter fun x => decide (x ∈ l)).map (fun x => ((l.idxOf x : Nat) : Int)), (mkW l, ones, (), (), ())) :=
  comp_filt (p := fun x => decide (x ∈ l)) (g := fun x => ((l.idxOf x : Nat) : Int)) ones fun x _ => by
    show (m_Wish_has (mkW l) x).bind _ = _
    rw [has_ok, bind_ok]
    by_cases h : x ∈ l
    · rw [decide_eq_true h, if_pos rfl, if_pos rfl]
      show opt (dget (mkW l).2.1 x) _ = _
      rw [ranks_get, if_pos h, opt_some]
    · rw [decide_eq_false h, if_neg (by decide), if_neg (by decide)]
theorem worst_ok {l ones : List Int} (hne : ones ≠ []) (hm : ∀ x, x ∈ ones → x ∈ l) : ∃ y, m_Wish_worst (mkW l) ones = .ok (some y) ∧ y ∈ ones ∧ ∀ x, x ∈ ones → l.idxOf x ≤ l.idxOf y := by
  have hf : (ones.filter fun x => decide (x ∈ l)) = ones := List.filter_eq_self.mpr fun x hx => decide_eq_true (hm x hx)
  unfold m_Wish_worst
  rw [worst_places, opt_some, hf]
  match ones, hne, hm with
  | z :: zs, _, hm =>
    have k := foldl_max (zs.map fun x => ((l.idxOf x : Nat) : Int)) ((l.idxOf z : Nat) : Int)
    obtain ⟨k1, k2⟩ := k
    generalize hM : (zs.map fun x => ((l.idxOf x : Nat) : Int)).foldl (fun m y => if m < y then y else m) ((l.idxOf z : Nat) : Int) = m at k1 k2
    have hmem : m ∈ (z :: zs).map fun x => ((l.idxOf x : Nat) : Int) := k1
    obtain ⟨y, hy, e⟩ := List.mem_map.mp hmem
    refine ⟨y, ?_, hy, fun x hx => ?_⟩
    · dsimp only
      rw [if_pos (by rfl)]
      show opt (some ((zs.map fun x => ((l.idxOf x : Nat) : Int)).foldl (fun m y => if m < y then y else m) ((l.idxOf z : Nat) : Int))) _ = _
      rw [hM, opt_some, ← e]
      have hlt : l.idxOf y < l.length := List.idxOf_lt_length_iff.mpr (hm y hy)
      have hat : L2.atI l ((l.idxOf y : Nat) : Int) = some y := by
        unfold L2.atI L2.ixN
        rw [if_pos (Int.natCast_nonneg _), if_pos (by omega)]
        show l[((l.idxOf y : Nat) : Int).toNat]? = _
        rw [Int.toNat_natCast, List.getElem?_eq_getElem hlt, List.getElem_idxOf hlt]
      show opt (L2.atI l ((l.idxOf y : Nat) : Int)) _ = _
      rw [hat, opt_some]
    · have h := k2 ((l.idxOf x : Nat) : Int) (show _ ∈ (z :: zs).map fun x => ((l.idxOf x : Nat) : Int) from List.mem_map.mpr ⟨x, hx, rfl⟩)
      rw [← e] at h
      omega
def fnO (xs : List (Option Int)) : Int → Option Int := fun a => if 0 ≤ a then xs.getD a.toNat none else none
structure Val (lists orders : List (List Int)) (seats : List Int) : Prop where
  len : orders.length = seats.length
  l : ∀ l, l ∈ lists → l.Nodup ∧ ∀ x, x ∈ l → 0 ≤ x ∧ x < (orders.length : Int)
  o : ∀ o, o ∈ orders → o.Nodup ∧ ∀ x, x ∈ o → 0 ≤ x ∧ x < (lists.length : Int)
  s : ∀ q, q ∈ seats → 0 ≤ q
theorem at_d {α : Type} {xs : List α} {i : Int} (d : α) (h0 : 0 ≤ i) (h1 : i < xs.length) : L2.atI xs i = some (xs.getD i.toNat d) ∧ xs.getD i.toNat d ∈ xs := by
  have hlt : i.toNat < xs.length := by omega
  have e : xs[i.toNat]? = some (xs.getD i.toNat d) := by
    rw [List.getD_eq_getElem?_getD, List.getElem?_eq_getElem hlt]; rfl
  refine ⟨?_, List.mem_of_getElem? e⟩
  unfold L2.atI L2.ixN
  rw [if_pos h0, if_pos h1]
  exact e
theorem set_ok {α : Type} {xs : List α} {i : Int} {v : α} (h0 : 0 ≤ i) (h1 : i < xs.length) : setL xs i v = some (xs.set i.toNat v) := by
  unfold setL L2.ixN
  rw [if_pos h0, if_pos h1]
theorem at_O {xs : List (Option Int)} {i : Int} (h0 : 0 ≤ i) (h1 : i < xs.length) : L2.atI xs i = some (fnO xs i) := by
  unfold fnO; rw [if_pos h0]; exact (at_d none h0 h1).1
theorem at_L {xs : List (List Int)} {i : Int} (h0 : 0 ≤ i) (h1 : i < xs.length) : L2.atI xs i = some (fnL xs i) ∧ fnL xs i ∈ xs := by
  unfold fnL; rw [if_pos h0]; exact at_d [] h0 h1
theorem at_W {xs : List (List Int)} {i : Int} (h0 : 0 ≤ i) (h1 : i < xs.length) : L2.atI (xs.map mkW) i = some (mkW (fnL xs i)) := by
  have h := (at_L h0 h1).1
  unfold L2.atI L2.ixN at h ⊢
  rw [List.length_map]
  rw [if_pos h0, if_pos h1] at h ⊢
  show (xs.map mkW)[i.toNat]? = _
  have h : xs[i.toNat]? = some (fnL xs i) := h
  rw [List.getElem?_map, h]; rfl
theorem at_I {xs : List Int} {i : Int} (h0 : 0 ≤ i) (h1 : i < xs.length) (hp : ∀ x, x ∈ xs → 0 ≤ x) : L2.atI xs i = some ((fnI xs i : Nat) : Int) := by
  obtain ⟨e, m⟩ := at_d (0 : Int) h0 h1
  unfold fnI
  rw [if_pos h0, e]
  have := hp _ m
  congr 1
  omega
theorem fnO_some {xs : List (Option Int)} {i r : Int} (h : fnO xs i = some r) : 0 ≤ i ∧ i < xs.length := by
  unfold fnO at h
  by_cases h0 : 0 ≤ i
  · rw [if_pos h0] at h
    refine ⟨h0, ?_⟩
    by_cases h1 : i.toNat < xs.length
    · omega
    · rw [List.getD_eq_getElem?_getD, List.getElem?_eq_none (by omega)] at h
      cases h
  · rw [if_neg h0] at h; cases h
theorem fnO_iff {xs : List (Option Int)} {a r : Int} : (0 ≤ a ∧ xs[a.toNat]? = some (some r)) ↔ fnO xs a = some r := by
  unfold fnO
  constructor
  · rintro ⟨h0, h⟩
    rw [if_pos h0, List.getD_eq_getElem?_getD, h]; rfl
  · intro h
    by_cases h0 : 0 ≤ a
    · rw [if_pos h0, List.getD_eq_getElem?_getD] at h
      refine ⟨h0, ?_⟩
      cases e : xs[a.toNat]? with
      | none => rw [e] at h; cases h
      | some o => rw [e] at h; rw [show o = some r from h]
    · rw [if_neg h0] at h; cases h
theorem enum_nodup {xs : List (Option Int)} {p : Int × Option Int → Bool} : (((enumL xs).filter p).map fun x => x.1).Nodup := by
  have h : ((enumL xs).map fun x => x.1).Nodup := by
    unfold enumL
    rw [List.map_map]
    have e : ((fun x : Int × Option Int => x.1) ∘ fun x : Option Int × Nat => ((x.2 : Int), x.1)) = (fun n : Nat => (n : Int)) ∘ Prod.snd := rfl
    rw [e, ← List.map_map, List.zipIdx_map_snd]
    exact List.Pairwise.map (R := fun a b : Nat => a ≠ b) _ (fun a b h e => h (Int.ofNat.inj e)) (List.nodup_range' ..)
  exact List.Nodup.sublist (List.Sublist.map _ List.filter_sublist) h
section
variable {lists orders : List (List Int)} {seats nx : List Int} {hd : List (Option Int)} {st : Steps} {a : Int}
theorem at_zero {α : Type} {x : α} {xs : List α} : L2.atI (x :: xs) (0 : Int) = some x := by
  unfold L2.atI L2.ixN
  rw [if_pos (Int.le_refl 0), if_pos (by rw [List.length_cons]; omega)]
  rfl
end
def pl (l : List Int) (o : Option Int) : Nat := match o with
  | some r => l.idxOf r
  | none => l.length
theorem index_ok : ∀ (l : List Int) (r : Int), r ∈ l → indexL flInt.dec l r = some ((l.idxOf r : Nat) : Int)
  | x :: l, r, h => by
    show (if (@decide (x = r) (flInt.dec x r)) = true then some (0 : Int) else (indexL flInt.dec l r).map (· + 1)) = _
    by_cases e : x = r
    · subst e
      rw [if_pos (decide_eq_true rfl), List.idxOf_cons_self]; rfl
    · rw [if_neg (show ¬ (@decide (x = r) (flInt.dec x r)) = true from fun h => e (of_decide_eq_true h)), index_ok l r ((List.mem_cons.mp h).resolve_left fun k => e k.symm), Da.idx_ne e]
      rfl
theorem isIn_iff {o : Option Int} {l : List Int} : isIn flOI.dec o (l.map some) = true ↔ ∃ r, o = some r ∧ r ∈ l := by
  unfold isIn
  rw [List.any_eq_true]
  constructor
  · rintro ⟨y, hy, e⟩
    obtain ⟨r, hr, rfl⟩ := List.mem_map.mp hy
    exact ⟨r, (of_decide_eq_true e).symm, hr⟩
  · rintro ⟨r, rfl, hr⟩
    exact ⟨some r, List.mem_map.mpr ⟨r, hr, rfl⟩, decide_eq_true rfl⟩
theorem place_ok (l : List Int) (o : Option Int) : m_law_place l o = .ok ((pl l o : Nat) : Int) := by
  unfold m_law_place
  dsimp only
  by_cases h : isIn flOI.dec o (l.map some) = true
  · rw [if_pos h]
    obtain ⟨r, rfl, hr⟩ := isIn_iff.mp h
    rw [opt_some, index_ok l r hr, opt_some]
    rfl
  · rw [if_neg h]
    cases o with
    | none => rfl
    | some r =>
      have : r ∉ l := fun k => h (isIn_iff.mpr ⟨r, rfl, k⟩)
      show Pu.Res.ok ((l.length : Nat) : Int) = Pu.Res.ok ((l.idxOf r : Nat) : Int)
      rw [List.idxOf_eq_length this]
theorem cut_ok {α : Type} (xs : List α) {n : Int} (h : 0 ≤ n) : cutL xs none (some n) = xs.take n.toNat := by
  unfold cutL HT.sIx
  dsimp only
  rw [if_neg (by omega), List.drop_zero, Nat.sub_zero]
  exact List.take_eq_take_min.symm
theorem short {l : List Int} {n : Nat} (nd : l.Nodup) (h : ∀ x, x ∈ l → 0 ≤ x ∧ x < (n : Int)) : l.length ≤ n := by
  have := Da.len_of_sub (ys := rngL n) nd fun x hx => rngL_mem.mpr (h x hx)
  rw [rngL_len] at this
  omega
def ins (hd : List (Option Int)) (r : Int) : List Int := ((enumL hd).filter fun x => decide (x.2 = some r)).map fun x => x.1
theorem ins_nodup {hd : List (Option Int)} {r : Int} : (ins hd r).Nodup := enum_nodup
theorem ins_mem {hd : List (Option Int)} {r a : Int} : a ∈ ins hd r ↔ fnO hd a = some r := by unfold ins; rw [those_mem, fnO_iff]
theorem count_zip {f : Option Int → Bool} : ∀ (xs : List (Option Int)) (n : Nat), ((xs.zipIdx n).map fun x => ((x.2 : Int), x.1)).countP (fun x => f x.2) = xs.countP f
  | [], _ => rfl
  | x :: xs, n => by
    rw [List.zipIdx_cons, List.map_cons, List.countP_cons, List.countP_cons, count_zip xs (n + 1)]
theorem count_ins (hd : List (Option Int)) (r : Int) : countL flOI.dec hd (some r) = ((ins hd r).length : Int) := by
  unfold countL ins
  rw [List.length_map, ← List.countP_eq_length_filter]
  have h := count_zip (f := fun y => decide (y = some r)) hd 0
  unfold enumL
  have e : (hd.countP fun y => @decide (y = some r) (flOI.dec y (some r))) = hd.countP fun y => decide (y = some r) := by
    congr 1
  rw [e, h]
theorem rounds_ok (ns : List Int) : ∃ a b c, m_law_rounds ns (1 : Int) = .ok [a, b, c] := by
  have hcut : cutL ns none (some 1) = ns.take 1 := cut_ok ns (by decide)
  unfold m_law_rounds
  dsimp only
  rw [hcut]
  match ns with
  | [] =>
    obtain ⟨a, b, c, e⟩ := dice_ok 0
    refine ⟨a, b, c, ?_⟩
    rw [if_pos (by rfl)]
    unfold oneL
    dsimp only
    rw [e]; rfl
  | x :: xs =>
    obtain ⟨a, b, c, e⟩ := dice_ok x
    refine ⟨a, b, c, ?_⟩
    rw [if_neg (by simp)]
    unfold oneL
    dsimp only [List.take]
    rw [e]; rfl
theorem fold_q {α S R : Type} {Q : Pu.Res R → Prop} {I : List α → S → Prop} {B : α → (S → Pu.Res R) → S → Pu.Res R} {nx : S → Pu.Res R} {xs : List α} {s : S}
    (step : ∀ pre x post, xs = pre ++ x :: post → ∀ s, I pre s → ∀ k : S → Pu.Res R, (∀ s', I (pre ++ [x]) s' → Q (k s')) → Q (B x k s)) (h0 : I [] s) (hn : ∀ s', I xs s' → Q (nx s')) : Q (List.foldr B nx xs s) := by
  have go : ∀ (post pre : List α), xs = pre ++ post → ∀ s, I pre s → Q (List.foldr B nx post s) := by
    intro post
    induction post with
    | nil => exact fun pre e s i => hn s (by rw [e, List.append_nil]; exact i)
    | cons x post ih =>
      intro pre e s i
      rw [List.foldr_cons]
      exact step pre x post e s i _ fun s' i' => ih (pre ++ [x]) (by rw [e]; simp) s' i'
  exact go xs [] rfl s h0
theorem rng_at {n : Int} {pre post : List Int} {x : Int} (e : rngL n = pre ++ x :: post) : x = (pre.length : Int) ∧ 0 ≤ x ∧ x < n := by
  have hm : x ∈ rngL n := by rw [e]; simp
  have h1 : (rngL n)[pre.length]? = some x := by rw [e]; simp
  refine ⟨?_, rngL_mem.mp hm⟩
  unfold rngL at h1
  rw [List.getElem?_map] at h1
  have hlt : pre.length < n.toNat := by
    have : (rngL n).length = n.toNat := rngL_len
    rw [e] at this
    simp at this
    omega
  rw [List.getElem?_range hlt] at h1
  injection h1 with h1
  exact h1.symm
theorem fnO_app {row : List (Option Int)} {o : Option Int} {k : Int} : fnO (row ++ [o]) k = if k = (row.length : Int) then o else fnO row k := by
  unfold fnO
  by_cases h0 : 0 ≤ k
  · rw [if_pos h0, if_pos h0, List.getD_eq_getElem?_getD, List.getD_eq_getElem?_getD]
    by_cases e : k = (row.length : Int)
    · subst e
      rw [if_pos rfl]
      simp
    · rw [if_neg e]
      by_cases l : k.toNat < row.length
      · rw [List.getElem?_append_left l]
      · rw [List.getElem?_eq_none (by rw [List.length_append, List.length_singleton]; omega), List.getElem?_eq_none (by omega)]
  · rw [if_neg h0, if_neg h0, if_neg (by omega)]
theorem cat_ok {α : Type} {xs ys : List α} (h : xs.length + ys.length ≤ 16777216) : catL xs ys = some (xs ++ ys) := if_pos h
theorem isIn_int {x : Int} {xs : List Int} : isIn flInt.dec x xs = decide (x ∈ xs) := by
  unfold isIn
  by_cases h : x ∈ xs
  · rw [decide_eq_true h, List.any_eq_true]
    exact ⟨x, h, decide_eq_true rfl⟩
  · rw [decide_eq_false h, List.any_eq_false]
    intro y hy e
    exact h (of_decide_eq_true e ▸ hy)
theorem ins_app (row : List (Option Int)) (o : Option Int) (r : Int) : (ins (row ++ [o]) r).length = (ins row r).length + if o = some r then 1 else 0 := by
  have h1 := count_ins (row ++ [o]) r
  have h2 := count_ins row r
  unfold countL at h1 h2
  rw [List.countP_append] at h1
  have h3 : (List.countP (fun y => @decide (y = some r) (flOI.dec y (some r))) [o]) = if o = some r then 1 else 0 := by
    rw [List.countP_cons, List.countP_nil]
    by_cases e : o = some r
    · rw [if_pos e, show (@decide (o = some r) (flOI.dec o (some r))) = true from @decide_eq_true _ (flOI.dec o (some r)) e]; rfl
    · rw [if_neg e, show (@decide (o = some r) (flOI.dec o (some r))) = false from @decide_eq_false _ (flOI.dec o (some r)) e]; rfl
  rw [h3] at h1
  omega
structure Row (lists orders : List (List Int)) (seats : List Int) (j : Nat) (row : List (Option Int)) : Prop where
  len : row.length = j
  like : ∀ k r, fnO row k = some r → r ∈ fnL lists k ∧ k ∈ fnL orders r
  cap : ∀ r : Int, (ins row r).length ≤ fnI seats r
def May (lists orders : List (List Int)) (seats : List Int) (x : Int) (row : List (Option Int)) (o : Option Int) : Prop := ∀ r, o = some r → r ∈ fnL lists x ∧ x ∈ fnL orders r ∧ (ins row r).length < fnI seats r
theorem Row.more {lists orders : List (List Int)} {seats : List Int} {j : Nat} {row : List (Option Int)} (R : Row lists orders seats j row) (o : Option Int) (h : May lists orders seats (j : Int) row o) : Row lists orders seats (j + 1) (row ++ [o]) := by
  refine ⟨by rw [List.length_append, R.len]; rfl, fun k r e => ?_, fun r => ?_⟩
  · rw [fnO_app, R.len] at e
    by_cases hk : k = (j : Int)
    · rw [if_pos hk] at e
      obtain ⟨h1, h2, _⟩ := h r e
      rw [hk]; exact ⟨h1, h2⟩
    · rw [if_neg hk] at e
      exact R.like k r e
  · rw [ins_app]
    have := R.cap r
    by_cases e : o = some r
    · rw [if_pos e]
      have := (h r e).2.2
      omega
    · rw [if_neg e]; omega
theorem Row.less {lists orders : List (List Int)} {seats : List Int} {j : Nat} {m : List (Option Int)} (R : Row lists orders seats (j + 1) m) : ∃ row o, m = row ++ [o] ∧ Row lists orders seats j row ∧ May lists orders seats (j : Int) row o := by
  have hne : m ≠ [] := fun e => by have := R.len; rw [e] at this; cases this
  have e := List.dropLast_concat_getLast hne
  have hl : m.dropLast.length = j := by rw [List.length_dropLast, R.len]; rfl
  generalize m.dropLast = row at e hl
  generalize m.getLast hne = o at e
  refine ⟨row, o, e.symm, ⟨hl, fun k r q => ?_, fun r => ?_⟩, fun r q => ?_⟩
  · have hk := (fnO_some q).2
    refine R.like k r ?_
    rw [← e, fnO_app, if_neg (by omega)]
    exact q
  · have := R.cap r
    rw [← e, ins_app] at this
    omega
  · have h1 := R.like (j : Int) r (by rw [← e, fnO_app, if_pos (by rw [hl]), q])
    have h2 := R.cap r
    rw [← e, ins_app, if_pos q] at h2
    exact ⟨h1.1, h1.2, by omega⟩
theorem ins_nil (r : Int) : ins [] r = [] := rfl
section
variable {lists orders : List (List Int)} {seats : List Int}
theorem matches_q (V : Val lists orders seats) (h3 : lists.length ≤ 4) (h3' : orders.length ≤ 3) (Q : Pu.Res (List (List (Option Int))) → Prop) (hQ : ∀ ms, (∀ m, m ∈ ms ↔ Row lists orders seats lists.length m) → ms.length ≤ 625 → Q (.ok ms)) : Q (m_law_matches lists orders seats) := by
  have hsl := V.len
  unfold m_law_matches
  rw [rng_ok (by omega) (by omega), opt_some]
  dsimp only
  refine fold_q (I := fun pre s => ∃ found, s = (lists, orders, seats, found, (), (), (), (), (), ()) ∧ found.length ≤ 5 ^ pre.length ∧ ∀ m, m ∈ found ↔ Row lists orders seats pre.length m) ?_ ⟨[[]], rfl, by decide, fun m => ?_⟩ ?_
  · rintro pre x post e _ ⟨found, rfl, hlen, hrow⟩ k hk
    obtain ⟨hx, x0, x1⟩ := rng_at e
    have hL := at_L (xs := lists) x0 (by omega)
    have hshort := short (V.l _ hL.2).1 (V.l _ hL.2).2
    have h5 : found.length ≤ 625 := by
      have h1 : pre.length ≤ 4 := by omega
      have h2 : 5 ^ pre.length ≤ 5 ^ 4 := Nat.pow_le_pow_right (by decide) h1
      have h3 : (5 : Nat) ^ 4 = 625 := by decide
      omega
    dsimp only
    rw [hL.1, opt_some]
    rw [comp_filt (p := fun r => decide (x ∈ fnL orders r)) (g := id) (fnL lists x) (fun r hr => by
      have hr2 := (V.l _ hL.2).2 r hr
      dsimp only
      rw [(at_L (xs := orders) hr2.1 hr2.2).1, opt_some, isIn_int]
      by_cases h : x ∈ fnL orders r
      · rw [decide_eq_true h]; rfl
      · rw [decide_eq_false h]; rfl), opt_some, List.map_id]
    dsimp only
    have hfl := List.length_filter_le (fun r => decide (x ∈ fnL orders r)) (fnL lists x)
    rw [cat_ok (by rw [List.length_map, List.length_map]; show 1 + _ ≤ _; omega), opt_some]
    generalize hrooms : (([()].map fun _ => (none : (Option Int))) ++ (List.map some (List.filter (fun r => decide (x ∈ fnL orders r)) (fnL lists x)))) = rooms
    have hrl : rooms.length ≤ 5 := by
      rw [← hrooms, List.length_append, List.length_map, List.length_map]
      show 1 + _ ≤ _
      omega
    have hrm : ∀ o, o ∈ rooms ↔ ∀ r, o = some r → r ∈ fnL lists x ∧ x ∈ fnL orders r := fun o => by
      rw [← hrooms, List.mem_append]
      constructor
      · rintro (h | h) r hr
        · obtain ⟨_, _, h⟩ := List.mem_map.mp h
          rw [hr] at h; cases h
        · obtain ⟨r', h1, h2⟩ := List.mem_map.mp h
          rw [hr] at h2
          cases h2
          obtain ⟨h3, h4⟩ := List.mem_filter.mp h1
          exact ⟨h3, of_decide_eq_true h4⟩
      · intro h
        cases o with
        | none => exact .inl (List.mem_map.mpr ⟨(), List.mem_cons_self .., rfl⟩)
        | some r =>
          obtain ⟨h1, h2⟩ := h r rfl
          exact .inr (List.mem_map.mpr ⟨r, List.mem_filter.mpr ⟨h1, decide_eq_true h2⟩, rfl⟩)
    refine fold_q (I := fun pre2 s => ∃ fresh, s = (lists, orders, seats, found, x, rooms, (), fresh, (), ()) ∧ fresh.length ≤ 5 * pre2.length ∧ ∀ m, m ∈ fresh ↔ ∃ row o, row ∈ pre2 ∧ m = row ++ [o] ∧ May lists orders seats x row o) ?_ ⟨[], rfl, Nat.zero_le _, fun m => ⟨fun h => (nomatch h), fun ⟨_, _, h, _⟩ => (nomatch h)⟩⟩ ?_
    · rintro pre2 row post2 e2 _ ⟨fresh, rfl, hfl2, hfr⟩ k2 hk2
      have hR := (hrow row).mp (by rw [e2]; simp)
      have hpl : pre2.length < found.length := by rw [e2]; simp
      dsimp only
      rw [comp_filt (p := fun o : Option Int => o.isNone || decide ((ins row (o.getD 0)).length < fnI seats (o.getD 0))) (g := fun o => row ++ [o]) rooms (fun o ho => by
        dsimp only
        have hRl := hR.len
        cases o with
        | none =>
          rw [if_pos (by rfl), if_pos rfl, cat_ok (by rw [List.length_singleton]; omega), opt_some]
          rfl
        | some r =>
          have hr := (hrm _).mp ho r rfl
          have hr2 := (V.l _ hL.2).2 r hr.1
          rw [if_neg (by simp), opt_some, at_I (xs := seats) hr2.1 (by omega) V.s, opt_some, count_ins]
          by_cases h : (ins row r).length < fnI seats r
          · rw [decide_eq_true (by omega), if_pos rfl, cat_ok (by rw [List.length_singleton]; omega), opt_some]
            rw [if_pos (by simp [h])]
          · rw [decide_eq_false (by omega), if_neg (by decide), if_neg (by simp; omega)]), opt_some]
      dsimp only
      generalize hext : List.map (fun o => row ++ [o]) (List.filter (fun o : Option Int => o.isNone || decide ((ins row (o.getD 0)).length < fnI seats (o.getD 0))) rooms) = ext
      have hel : ext.length ≤ 5 := by
        rw [← hext, List.length_map]
        exact Nat.le_trans (List.length_filter_le _ _) hrl
      rw [cat_ok (by omega), opt_some]
      refine hk2 _ ⟨fresh ++ ext, rfl, by rw [List.length_append, List.length_append]; show _ ≤ 5 * (_ + 1); omega, fun m => ?_⟩
      rw [List.mem_append, hfr m, ← hext, List.mem_map]
      constructor
      · rintro (⟨row', o, h1, h2, h3⟩ | ⟨o, ho, rfl⟩)
        · exact ⟨row', o, List.mem_append_left _ h1, h2, h3⟩
        · obtain ⟨ho1, ho2⟩ := List.mem_filter.mp ho
          refine ⟨row, o, by simp, rfl, fun r hr => ?_⟩
          subst hr
          obtain ⟨h1, h2⟩ := (hrm _).mp ho1 r rfl
          exact ⟨h1, h2, by simpa using ho2⟩
      · rintro ⟨row', o, h1, h2, h3⟩
        rcases List.mem_append.mp h1 with h | h
        · exact .inl ⟨row', o, h, h2, h3⟩
        · have h : row' = row := by simpa using h
          subst h
          refine .inr ⟨o, List.mem_filter.mpr ⟨(hrm o).mpr fun r hr => ⟨(h3 r hr).1, (h3 r hr).2.1⟩, ?_⟩, h2.symm⟩
          cases o with
          | none => rfl
          | some r => simpa using (h3 r rfl).2.2
    · rintro _ ⟨fresh, rfl, hfl2, hfr⟩
      dsimp only
      refine hk _ ⟨fresh, rfl, ?_, fun m => ?_⟩
      · rw [List.length_append]
        show _ ≤ 5 ^ (pre.length + 1)
        rw [Nat.pow_succ]
        omega
      · rw [List.length_append, hfr m]
        show _ ↔ Row lists orders seats (pre.length + 1) m
        constructor
        · rintro ⟨row, o, h1, rfl, h3⟩
          rw [hx] at h3
          exact ((hrow row).mp h1).more o h3
        · intro h
          obtain ⟨row, o, h1, h2, h3⟩ := h.less
          exact ⟨row, o, (hrow row).mpr h2, h1, by rw [hx]; exact h3⟩
  · constructor
    · intro hm
      have hm : m = [] := by simpa using hm
      subst hm
      exact ⟨rfl, fun k r h => by have := fnO_some h; simp at this; omega, fun r => by rw [ins_nil]; exact Nat.zero_le _⟩
    · intro h
      have : m = [] := List.eq_nil_of_length_eq_zero h.len
      rw [this]; simp
  · rintro _ ⟨found, rfl, hlen, hrow⟩
    rw [rngL_len] at hlen hrow
    refine hQ found (fun m => by rw [hrow m, Int.toNat_natCast]) ?_
    have h2 : 5 ^ (lists.length : Int).toNat ≤ 5 ^ 4 := Nat.pow_le_pow_right (by decide) (by omega)
    have h3 : (5 : Nat) ^ 4 = 625 := by decide
    omega
end
def Calm (lists orders : List (List Int)) (seats : List Int) (m : List (Option Int)) : Prop := ∀ k : Int, 0 ≤ k → k < lists.length → ∀ r, r ∈ fnL lists k → (fnL lists k).idxOf r < pl (fnL lists k) (fnO m k) → k ∈ fnL orders r →
  fnI seats r ≤ (ins m r).length ∧ ∀ j, fnO m j = some r → (fnL orders r).idxOf j ≤ (fnL orders r).idxOf k
theorem mem_take_idx {l : List Int} {r : Int} {n : Nat} : r ∈ l.take n ↔ r ∈ l ∧ l.idxOf r < n := Da.take_idx
section
variable {lists orders : List (List Int)} {seats : List Int}
theorem blocks_q (V : Val lists orders seats) (hfew : lists.length ≤ 4) (hfew2 : orders.length ≤ 3) {m : List (Option Int)} (R : Row lists orders seats lists.length m) (Q : Pu.Res (List (Int × Int)) → Prop) (hQ : ∀ bs, (bs = [] ↔ Calm lists orders seats m) → Q (.ok bs)) : Q (m_law_blocks lists orders seats m) := by
  have hsl := V.len
  have hml := R.len
  unfold m_law_blocks
  rw [rng_ok (by omega) (by omega), opt_some]
  dsimp only
  refine fold_q (I := fun pre s => ∃ found, s = (lists, orders, seats, m, found, (), (), (), (), (), ()) ∧ found.length ≤ 1000 * pre.length ∧ (found = [] ↔ ∀ k, k ∈ pre → ∀ r, r ∈ fnL lists k → (fnL lists k).idxOf r < pl (fnL lists k) (fnO m k) → k ∈ fnL orders r →
      fnI seats r ≤ (ins m r).length ∧ ∀ j, fnO m j = some r → (fnL orders r).idxOf j ≤ (fnL orders r).idxOf k)) ?_ ⟨[], rfl, Nat.zero_le _, ⟨fun _ k hk => (nomatch hk), fun _ => rfl⟩⟩ ?_
  · rintro pre x post e _ ⟨found, rfl, hlen, hcalm⟩ k hk
    obtain ⟨hx, x0, x1⟩ := rng_at e
    have hL := at_L (xs := lists) x0 (by omega)
    have hshort := short (V.l _ hL.2).1 (V.l _ hL.2).2
    dsimp only
    rw [hL.1, opt_some, opt_some, at_O (xs := m) x0 (by omega), opt_some, place_ok, bind_ok, cut_ok _ (by omega), Int.toNat_natCast]
    generalize htk : (fnL lists x).take (pl (fnL lists x) (fnO m x)) = tk
    have htl : tk.length ≤ 3 := by
      rw [← htk, List.length_take]; omega
    have htm : ∀ r, r ∈ tk → 0 ≤ r ∧ r < orders.length := fun r hr => (V.l _ hL.2).2 r (List.mem_of_mem_take (by rw [htk]; exact hr))
    refine fold_q (I := fun pre2 s => ∃ f2, s = (lists, orders, seats, m, f2, x, (), (), (), (), ()) ∧ f2.length ≤ found.length + pre2.length ∧ (f2 = [] ↔ found = [] ∧ ∀ r, r ∈ pre2 → x ∈ fnL orders r → fnI seats r ≤ (ins m r).length ∧ ∀ j, fnO m j = some r → (fnL orders r).idxOf j ≤ (fnL orders r).idxOf x)) ?_ ⟨found, rfl, Nat.le_refl _, ⟨fun h => ⟨h, fun r hr => nomatch hr⟩, fun h => h.1⟩⟩ ?_
    · rintro pre2 r post2 e2 _ ⟨f2, rfl, hl2, hc2⟩ k2 hk2
      have hp2 : pre2.length < tk.length := by rw [e2]; simp
      have hprel : pre.length < 4 := by omega
      obtain ⟨r0, r1⟩ := htm r (by rw [e2]; simp)
      have hO := (at_L (xs := orders) r0 r1).1
      dsimp only
      rw [rng_ok (by omega) (by omega), opt_some]
      rw [comp_filt (p := fun j => decide (fnO m j = some r)) (g := id) (rngL lists.length) (fun j hj => by
        have hj := rngL_mem.mp hj
        dsimp only
        rw [at_O (xs := m) hj.1 (by omega), opt_some]
        by_cases h : fnO m j = some r
        · rw [decide_eq_true h]; rfl
        · rw [decide_eq_false h]; rfl), opt_some, List.map_id]
      dsimp only
      have hmi : ∀ j, j ∈ List.filter (fun j => decide (fnO m j = some r)) (rngL lists.length) ↔ fnO m j = some r := fun j => by
        rw [List.mem_filter, rngL_mem]
        constructor
        · exact fun h => of_decide_eq_true h.2
        · intro h
          have := fnO_some h
          exact ⟨⟨this.1, by omega⟩, decide_eq_true h⟩
      have hli : (List.filter (fun j => decide (fnO m j = some r)) (rngL lists.length)).length = (ins m r).length := by
        have nd : (List.filter (fun j => decide (fnO m j = some r)) (rngL lists.length)).Nodup := List.Nodup.sublist List.filter_sublist (rngL_nodup _)
        have a1 := Da.len_of_sub (ys := ins m r) nd fun j hj => ins_mem.mpr ((hmi j).mp hj)
        have a2 := Da.len_of_sub (xs := ins m r) (ys := List.filter (fun j => decide (fnO m j = some r)) (rngL lists.length)) ins_nodup fun j hj => (hmi j).mpr (ins_mem.mp hj)
        omega
      generalize hin : List.filter (fun j => decide (fnO m j = some r)) (rngL lists.length) = inside at hmi hli
      rw [comp_filt (p := fun j => decide ((fnL orders r).idxOf x < (fnL orders r).idxOf j)) (g := id) inside (fun j hj => by
        dsimp only
        rw [hO, opt_some, place_ok, bind_ok, opt_some, place_ok, bind_ok]
        show (if decide ((((fnL orders r).idxOf x : Nat) : Int) < (((fnL orders r).idxOf j : Nat) : Int)) = true then _ else _) = _
        by_cases h : (fnL orders r).idxOf x < (fnL orders r).idxOf j
        · rw [decide_eq_true (by omega), decide_eq_true h]; rfl
        · rw [decide_eq_false (by omega), decide_eq_false h]; rfl), opt_some, List.map_id]
      dsimp only
      generalize hwo : List.filter (fun j => decide ((fnL orders r).idxOf x < (fnL orders r).idxOf j)) inside = worse
      have hyes : (x ∈ fnL orders r ∧ ¬ (fnI seats r ≤ (ins m r).length ∧ ∀ j, fnO m j = some r → (fnL orders r).idxOf j ≤ (fnL orders r).idxOf x)) → Q (k2 (lists, orders, seats, m, app1 f2 (x, r), x, (), (), (), (), ())) := fun hz => by
        refine hk2 _ ⟨app1 f2 (x, r), rfl, by rw [app1_len, List.length_append]; show _ ≤ _ + (_ + 1); omega, ⟨fun h => ?_, fun h => ?_⟩⟩
        · unfold app1 at h
          simp at h
        · exact absurd (h.2 r (by simp) hz.1) hz.2
      have hno : (x ∈ fnL orders r → fnI seats r ≤ (ins m r).length ∧ ∀ j, fnO m j = some r → (fnL orders r).idxOf j ≤ (fnL orders r).idxOf x) → Q (k2 (lists, orders, seats, m, f2, x, (), (), (), (), ())) := fun hz => by
        refine hk2 _ ⟨f2, rfl, by rw [List.length_append]; omega, ⟨fun h => ⟨(hc2.mp h).1, fun r' hr' => ?_⟩, fun h => hc2.mpr ⟨h.1, fun r' hr' => h.2 r' (List.mem_append_left _ hr')⟩⟩⟩
        rcases List.mem_append.mp hr' with h' | h'
        · exact (hc2.mp h).2 r' h'
        · have : r' = r := by simpa using h'
          rw [this]; exact hz
      rw [hO, opt_some, isIn_int]
      by_cases hxo : x ∈ fnL orders r
      · rw [decide_eq_true hxo, if_pos rfl, at_I (xs := seats) r0 (by omega) V.s, opt_some]
        by_cases hil : inside.length < fnI seats r
        · rw [decide_eq_true (by omega), if_pos rfl, if_pos rfl, decide_eq_true (by omega), chk_true]
          exact hyes ⟨hxo, fun h => by omega⟩
        · rw [decide_eq_false (by omega), if_neg (by decide)]
          by_cases hw : worse = []
          · rw [decide_eq_true hw, if_neg (by decide)]
            refine hno fun _ => ⟨by omega, fun j hj => ?_⟩
            apply Classical.byContradiction
            intro hn
            have : j ∈ worse := by
              rw [← hwo]
              exact List.mem_filter.mpr ⟨(hmi j).mpr hj, decide_eq_true (by omega)⟩
            rw [hw] at this
            cases this
          · rw [decide_eq_false hw, if_pos (by rfl), decide_eq_true (by omega), chk_true]
            refine hyes ⟨hxo, fun h => ?_⟩
            obtain ⟨j, hj⟩ := List.exists_mem_of_ne_nil worse hw
            rw [← hwo] at hj
            obtain ⟨h1, h2⟩ := List.mem_filter.mp hj
            have h2 := of_decide_eq_true h2
            have := h.2 j ((hmi j).mp h1)
            omega
      · rw [decide_eq_false hxo, if_neg (by decide), if_neg (by decide)]
        exact hno fun h => absurd h hxo
    · rintro _ ⟨f2, rfl, hl2, hc2⟩
      dsimp only
      refine hk _ ⟨f2, rfl, by rw [List.length_append]; show _ ≤ 1000 * (_ + 1); omega, ⟨fun h k' hk' => ?_, fun h => ?_⟩⟩
      · obtain ⟨h1, h2⟩ := hc2.mp h
        rcases List.mem_append.mp hk' with h' | h'
        · exact hcalm.mp h1 k' h'
        · have : k' = x := by simpa using h'
          subst this
          intro r hr hlt ho
          exact h2 r (by rw [← htk]; exact mem_take_idx.mpr ⟨hr, hlt⟩) ho
      · refine hc2.mpr ⟨hcalm.mpr fun k' hk' => h k' (List.mem_append_left _ hk'), fun r hr ho => ?_⟩
        rw [← htk] at hr
        obtain ⟨h1, h2⟩ := mem_take_idx.mp hr
        exact h x (by simp) r h1 h2 ho
  · rintro _ ⟨found, rfl, hlen, hcalm⟩
    exact hQ found ⟨fun h k k0 k1 => hcalm.mp h k (rngL_mem.mpr ⟨k0, k1⟩), fun h => hcalm.mpr fun k hk => h k (rngL_mem.mp hk).1 (rngL_mem.mp hk).2⟩
end
section
variable {lists orders : List (List Int)} {seats : List Int}
def okNil (r : Pu.Res (List (Int × Int))) : Bool := match r with
  | .ok bs => decide (bs = [])
  | _ => false
end
section
variable {lists orders : List (List Int)} {seats : List Int}
theorem stable_q (V : Val lists orders seats) (hfew : lists.length ≤ 4) (hfew2 : orders.length ≤ 3) (Q : Pu.Res (List (List (Option Int))) → Prop) (hQ : ∀ ms, (∀ m, m ∈ ms ↔ Row lists orders seats lists.length m ∧ Calm lists orders seats m) → ms.length ≤ 625 → Q (.ok ms)) : Q (m_law_stable lists orders seats) := by
  unfold m_law_stable
  refine matches_q V hfew hfew2 (Q := fun z => Q (z.bind _)) fun ms hms hlen => ?_
  rw [bind_ok]
  have hb : ∀ m, m ∈ ms → ∃ bs, m_law_blocks lists orders seats m = .ok bs ∧ (bs = [] ↔ Calm lists orders seats m) := fun m hm =>
    blocks_q V hfew hfew2 ((hms m).mp hm) (fun z => ∃ bs, z = .ok bs ∧ (bs = [] ↔ Calm lists orders seats m)) fun bs h => ⟨bs, rfl, h⟩
  rw [comp_filt (p := fun m => okNil (m_law_blocks lists orders seats m)) (g := id) ms (fun m hm => by
    obtain ⟨bs, e, _⟩ := hb m hm
    dsimp only
    rw [e, bind_ok]
    show _ = Pu.Res.ok (if decide (bs = []) = true then some (id m) else none, _)
    cases decide (bs = []) <;> rfl), opt_some, List.map_id]
  dsimp only
  refine hQ _ (fun m => ?_) (Nat.le_trans (List.length_filter_le _ _) hlen)
  rw [List.mem_filter]
  constructor
  · rintro ⟨h1, h2⟩
    obtain ⟨bs, e, hc⟩ := hb m h1
    rw [e] at h2
    exact ⟨(hms m).mp h1, hc.mp (of_decide_eq_true h2)⟩
  · rintro ⟨h1, h2⟩
    have h3 := (hms m).mpr h1
    obtain ⟨bs, e, hc⟩ := hb m h3
    exact ⟨h3, by rw [e]; exact decide_eq_true (hc.mpr h2)⟩
end
abbrev Gone := List (PK × Bool)
section
variable {lists orders : List (List Int)} {seats : List Int} {held : List (Option Int)} {gone : Gone}
theorem free_ok (V : Val lists orders seats) {room : Int} (r0 : 0 ≤ room) (r1 : room < orders.length) : m_has_free_seat (mkM lists orders seats) held room = .ok (decide ((ins held room).length < fnI seats room)) := by
  have hs := V.len
  unfold m_has_free_seat
  rw [those_ok, bind_ok]
  show opt (L2.atI seats room) _ = _
  rw [at_I r0 (by omega) V.s, opt_some]
  show Pu.Res.ok (decide (((ins held room).length : Int) < _)) = _
  congr 1
  by_cases h : (ins held room).length < fnI seats room
  · rw [decide_eq_true h, decide_eq_true (by omega)]
  · rw [decide_eq_false h, decide_eq_false (by omega)]
end
theorem better_gen {l : List Int} {x y : Option Int} (hy : ∀ r, y = some r → r ∈ l) : m_Wish_better (mkW l) x y = .ok (decide ((∀ r, x = some r → r ∈ l) ∧ pl l x < pl l y)) := by
  have hrank : ∀ o : Option Int, (∀ r, o = some r → r ∈ l) → m_Wish_rank (mkW l) o = .ok (some ((pl l o : Nat) : Int)) := fun o ho => by
    unfold m_Wish_rank
    cases o with
    | none => rfl
    | some r =>
      rw [if_neg (by simp), opt_some, ranks_get, if_pos (ho r rfl)]
      rfl
  unfold m_Wish_better
  by_cases hx : ∀ r, x = some r → r ∈ l
  · rw [hrank x hx, bind_ok, hrank y hy, bind_ok]
    rw [if_neg (by simp)]
    dsimp only
    rw [if_neg (by simp), opt_some, opt_some]
    congr 1
    by_cases h : pl l x < pl l y
    · rw [decide_eq_true (show _ ∧ _ from ⟨hx, h⟩), decide_eq_true (by omega)]
    · rw [decide_eq_false (show ¬ (_ ∧ pl l x < pl l y) from fun z => h z.2), decide_eq_false (by omega)]
  · rw [decide_eq_false (show ¬ ((∀ r, x = some r → r ∈ l) ∧ pl l x < pl l y) from fun z => hx z.1)]
    cases x with
    | none => exact absurd (fun r e => nomatch e) hx
    | some r =>
      have hr : r ∉ l := fun h => hx fun r' e => by cases e; exact h
      have e1 : m_Wish_rank (mkW l) (some r) = .ok none := by
        unfold m_Wish_rank
        rw [if_neg (by simp), opt_some, ranks_get, if_neg hr]
      rw [e1, bind_ok, hrank y hy, bind_ok, if_pos (by rfl)]
theorem comp_flat {α β S : Type} {body : α → S → Pu.Res (List β × S)} {g : α → List β} {s : S} : ∀ (xs : List α), (∀ x, x ∈ xs → body x s = .ok (g x, s)) → compM body xs s = some (xs.flatMap g, s)
  | [], _ => rfl
  | x :: xs, h => by
    have e2 := comp_flat (body := body) (g := g) (s := s) xs fun y hy => h y (List.mem_cons_of_mem _ hy)
    show (match body x s with
        | .ok (o, s1) => (match compM body xs s1 with
          | some (ys, s2) => some (o ++ ys, s2)
          | none => none)
        | _ => none) = _
    rw [h x (List.mem_cons_self ..)]
    show (match compM body xs s with
          | some (ys, s2) => some (g x ++ ys, s2)
          | none => none) = _
    rw [e2]; rfl
theorem enum_rng {ls : List (List Int)} : enumL (ls.map mkW) = (rngL ls.length).map fun i => (i, mkW (fnL ls i)) := by
  refine List.ext_getElem (by rw [enumL_len, List.length_map, List.length_map, rngL_len, Int.toNat_natCast]) fun i h1 h2 => ?_
  have hi : i < ls.length := by rw [enumL_len, List.length_map] at h1; exact h1
  have e1 : (enumL (ls.map mkW))[i]? = some ((i : Int), mkW ls[i]) := enumL_get (by rw [List.getElem?_map, List.getElem?_eq_getElem hi]; rfl)
  rw [List.getElem?_eq_getElem h1] at e1
  injection e1 with e1
  rw [e1, List.getElem_map]
  have e2 : (rngL (ls.length : Int))[i]'(by rw [rngL_len]; omega) = (i : Int) := by
    unfold rngL
    rw [List.getElem_map, List.getElem_range]
    rfl
  rw [e2]
  congr 2
  unfold fnL
  rw [if_pos (by omega), List.getD_eq_getElem?_getD, Int.toNat_natCast, List.getElem?_eq_getElem hi]
  rfl
theorem ahead_ok {l : List Int} {o : Option Int} (ho : ∀ r, o = some r → r ∈ l) : m_Wish_ahead_of (mkW l) o = .ok (l.filter fun r => decide (pl l (some r) < pl l o)) := by
  unfold m_Wish_ahead_of
  rw [comp_filt (p := fun r => decide (pl l (some r) < pl l o)) (g := id) (mkW l).1 (fun r hr => by
    have hr : r ∈ l := hr
    dsimp only
    rw [better_gen ho, bind_ok]
    by_cases h : pl l (some r) < pl l o
    · rw [decide_eq_true h, decide_eq_true (show (∀ r', some r = some r' → r' ∈ l) ∧ _ from ⟨fun r' e => by cases e; exact hr, h⟩)]; rfl
    · rw [decide_eq_false h, decide_eq_false (show ¬ ((∀ r', some r = some r' → r' ∈ l) ∧ pl l (some r) < pl l o) from fun z => h z.2)]; rfl), opt_some, List.map_id]
  rfl
section
variable {lists orders : List (List Int)} {seats : List Int} {m : List (Option Int)}
def takeB (orders : List (List Int)) (seats : List Int) (m : List (Option Int)) (room a : Int) : Bool := decide (a ∈ fnL orders room) && (decide ((ins m room).length < fnI seats room) || (ins m room).any fun j => decide ((fnL orders room).idxOf a < (fnL orders room).idxOf j))
end
section
variable {lists orders : List (List Int)} {seats : List Int} {m : List (Option Int)}
theorem take_ok (V : Val lists orders seats) (R : Row lists orders seats lists.length m) {room a : Int} (r0 : 0 ≤ room) (r1 : room < orders.length) : m_would_take (mkM lists orders seats) m room a = .ok (takeB orders seats m room a) := by
  have hin : ∀ j, j ∈ ins m room → j ∈ fnL orders room := fun j hj => (R.like j room (ins_mem.mp hj)).2
  unfold m_would_take takeB
  show opt (L2.atI (orders.map mkW) room) _ = _
  rw [at_W r0 r1, opt_some, has_ok, bind_ok]
  by_cases ha : a ∈ fnL orders room
  · rw [decide_eq_true ha, if_neg (by decide), free_ok V r0 r1, bind_ok]
    by_cases hf : (ins m room).length < fnI seats room
    · rw [decide_eq_true hf, if_pos rfl]; rfl
    · rw [decide_eq_false hf, if_neg (by decide)]
      unfold m_first_to_go
      rw [those_ok, bind_ok]
      show Pu.Res.bind (opt (compL _ (ins m room) _) _) _ = _
      rw [comp_filt (p := fun _ => false) (g := id) (ins m room) (fun j hj => by
        show opt (L2.atI (orders.map mkW) room) _ = _
        rw [at_W r0 r1, opt_some, has_ok, bind_ok, decide_eq_true (hin j hj), if_neg (by decide), if_neg (by decide)]), opt_some]
      rw [List.filter_eq_nil_iff.mpr (by simp)]
      dsimp only
      rw [List.map_nil, if_neg (by decide)]
      show Pu.Res.bind (opt (L2.atI (orders.map mkW) room) _) _ = _
      rw [at_W r0 r1, opt_some]
      show Pu.Res.bind (Pu.Res.bind (m_Wish_worst (mkW (fnL orders room)) (ins m room)) _) _ = _
      by_cases hne : ins m room = []
      · rw [hne]
        have e : m_Wish_worst (mkW (fnL orders room)) [] = .ok none := rfl
        rw [e, bind_ok, bind_ok, if_neg (by decide)]
        rfl
      · obtain ⟨y, e, hy, hmax⟩ := worst_ok hne hin
        rw [e, bind_ok, bind_ok, if_pos (show (some y).isSome = true from rfl), better_gen (fun r z => by cases z; exact hin y hy), bind_ok]
        congr 1
        rw [Bool.true_and, Bool.false_or]
        by_cases h : (fnL orders room).idxOf a < (fnL orders room).idxOf y
        · rw [decide_eq_true (show (∀ r, some a = some r → r ∈ fnL orders room) ∧ pl (fnL orders room) (some a) < pl (fnL orders room) (some y) from ⟨fun r z => by cases z; exact ha, h⟩)]
          symm
          exact List.any_eq_true.mpr ⟨y, hy, decide_eq_true h⟩
        · rw [decide_eq_false (show ¬ ((∀ r, some a = some r → r ∈ fnL orders room) ∧ pl (fnL orders room) (some a) < pl (fnL orders room) (some y)) from fun z => h z.2)]
          symm
          rw [List.any_eq_false]
          intro j hj z
          have z := of_decide_eq_true z
          have := hmax j hj
          omega
  · rw [decide_eq_false ha, if_pos (by rfl)]; rfl
end
section
variable {lists orders : List (List Int)} {seats : List Int} {m : List (Option Int)}
def blkL (lists orders : List (List Int)) (seats : List Int) (m : List (Option Int)) : List (Int × Int) := (rngL lists.length).flatMap fun k => (((fnL lists k).filter fun r => decide (pl (fnL lists k) (some r) < pl (fnL lists k) (fnO m k))).filter fun r => takeB orders seats m r k).map fun r => (k, r)
end
section
variable {lists orders : List (List Int)} {seats : List Int} {m : List (Option Int)}
theorem flat_le {α β : Type} {f : α → List β} {c : Nat} : ∀ (xs : List α), (∀ x, x ∈ xs → (f x).length ≤ c) → (xs.flatMap f).length ≤ xs.length * c
  | [], _ => by simp
  | x :: xs, h => by
    rw [List.flatMap_cons, List.length_append, List.length_cons, Nat.succ_mul]
    have h1 := h x (List.mem_cons_self ..)
    have h2 := flat_le xs fun y hy => h y (List.mem_cons_of_mem _ hy)
    omega
end
section
variable {lists orders : List (List Int)} {seats : List Int} {m : List (Option Int)}
theorem blocks_ok (V : Val lists orders seats) (h1 : lists.length ≤ 100) (h2 : orders.length ≤ 100) (R : Row lists orders seats lists.length m) : m_blocks (mkM lists orders seats) m = .ok (blkL lists orders seats m) := by
  have hl := R.len
  unfold m_blocks
  show opt (compM _ (enumL (lists.map mkW)) _) _ = _
  rw [enum_rng]
  rw [comp_flat (g := fun x : Int × A_Wish => ((x.2.1.filter fun r => decide (pl x.2.1 (some r) < pl x.2.1 (fnO m x.1))).filter fun r => takeB orders seats m r x.1).map fun r => (x.1, r)) _ (fun x hx => by
    obtain ⟨k, hk, rfl⟩ := List.mem_map.mp hx
    obtain ⟨k0, k1⟩ := rngL_mem.mp hk
    have hL := at_L (xs := lists) k0 k1
    rw [if_pos rfl]
    dsimp only
    rw [at_O (xs := m) k0 (by omega), opt_some, ahead_ok (fun r e => (R.like k r e).1), bind_ok]
    rw [comp_filt (p := fun r => takeB orders seats m r k) (g := fun r => (k, r)) _ (fun r hr => by
      have hr := (V.l _ hL.2).2 r (List.mem_filter.mp hr).1
      dsimp only
      rw [take_ok V R hr.1 hr.2, bind_ok]
      cases takeB orders seats m r k <;> rfl), opt_some]
    rfl), opt_some]
  have e : (((rngL lists.length).map fun i => (i, mkW (fnL lists i))).flatMap fun x : Int × A_Wish => ((x.2.1.filter fun r => decide (pl x.2.1 (some r) < pl x.2.1 (fnO m x.1))).filter fun r => takeB orders seats m r x.1).map fun r => (x.1, r)) = blkL lists orders seats m := by
    rw [List.flatMap_map]; rfl
  dsimp only
  rw [e]
  have hlen : (blkL lists orders seats m).length ≤ 16777216 := by
    have hb : ∀ k, k ∈ rngL lists.length → ((((fnL lists k).filter fun r => decide (pl (fnL lists k) (some r) < pl (fnL lists k) (fnO m k))).filter fun r => takeB orders seats m r k).map fun r => (k, r)).length ≤ 100 := fun k hk => by
      obtain ⟨k0, k1⟩ := rngL_mem.mp hk
      have hL := at_L (xs := lists) k0 k1
      have hs := short (V.l _ hL.2).1 (V.l _ hL.2).2
      rw [List.length_map]
      have q1 := List.length_filter_le (fun r => takeB orders seats m r k) ((fnL lists k).filter fun r => decide (pl (fnL lists k) (some r) < pl (fnL lists k) (fnO m k)))
      have q2 := List.length_filter_le (fun r => decide (pl (fnL lists k) (some r) < pl (fnL lists k) (fnO m k))) (fnL lists k)
      omega
    have := flat_le _ hb
    rw [rngL_len, Int.toNat_natCast] at this
    unfold blkL
    omega
  rw [decide_eq_true hlen]
  rfl
end
theorem take_filter : ∀ (l : List Int) (n : Nat), l.Nodup → l.take n = l.filter fun r => decide (l.idxOf r < n)
  | [], n, _ => by simp
  | y :: l, 0, _ => by
    rw [List.take_zero]
    symm
    rw [List.filter_eq_nil_iff]
    intro a _ h
    have := of_decide_eq_true h
    omega
  | y :: l, n + 1, nd => by
    have hy := (List.nodup_cons.mp nd).1
    rw [List.take_succ_cons, List.filter_cons, List.idxOf_cons_self, if_pos (decide_eq_true (Nat.succ_pos n)), take_filter l n (List.nodup_cons.mp nd).2]
    congr 1
    refine List.filter_congr fun r hr => ?_
    have hne : y ≠ r := fun z => hy (z ▸ hr)
    rw [List.idxOf_cons, beq_eq_false_iff_ne.mpr hne, cond_false]
    by_cases h : l.idxOf r < n
    · rw [decide_eq_true h, decide_eq_true (by omega)]
    · rw [decide_eq_false h, decide_eq_false (by omega)]
section
variable {lists orders : List (List Int)} {seats : List Int}
def blkOf (lists orders : List (List Int)) (seats : List Int) (m : List (Option Int)) (k : Int) : List (Int × Int) := (((fnL lists k).filter fun r => decide (pl (fnL lists k) (some r) < pl (fnL lists k) (fnO m k))).filter fun r => takeB orders seats m r k).map fun r => (k, r)
end
section
variable {lists orders : List (List Int)} {seats : List Int}
theorem lawblk_ok (V : Val lists orders seats) (hfew : lists.length ≤ 4) (hfew2 : orders.length ≤ 3) {m : List (Option Int)} (R : Row lists orders seats lists.length m) : m_law_blocks lists orders seats m = .ok (blkL lists orders seats m) := by
  have hsl := V.len
  have hml := R.len
  unfold m_law_blocks
  rw [rng_ok (by omega) (by omega), opt_some]
  dsimp only
  refine fold_q (Q := fun z => z = Pu.Res.ok (blkL lists orders seats m)) (I := fun pre s => ∃ found, s = (lists, orders, seats, m, found, (), (), (), (), (), ()) ∧ found.length ≤ 1000 * pre.length ∧ found = pre.flatMap (blkOf lists orders seats m)) ?_ ⟨[], rfl, Nat.zero_le _, rfl⟩ ?_
  · rintro pre x post e _ ⟨found, rfl, hlen, hcalm⟩ k hk
    obtain ⟨hx, x0, x1⟩ := rng_at e
    have hL := at_L (xs := lists) x0 (by omega)
    have hshort := short (V.l _ hL.2).1 (V.l _ hL.2).2
    dsimp only
    rw [hL.1, opt_some, opt_some, at_O (xs := m) x0 (by omega), opt_some, place_ok, bind_ok, cut_ok _ (by omega), Int.toNat_natCast]
    generalize htk : (fnL lists x).take (pl (fnL lists x) (fnO m x)) = tk
    have htl : tk.length ≤ 3 := by
      rw [← htk, List.length_take]; omega
    have htm : ∀ r, r ∈ tk → 0 ≤ r ∧ r < orders.length := fun r hr => (V.l _ hL.2).2 r (List.mem_of_mem_take (by rw [htk]; exact hr))
    refine fold_q (Q := fun z => z = Pu.Res.ok (blkL lists orders seats m)) (I := fun pre2 s => ∃ f2, s = (lists, orders, seats, m, f2, x, (), (), (), (), ()) ∧ f2.length ≤ found.length + pre2.length ∧ f2 = found ++ ((pre2.filter fun r => takeB orders seats m r x).map fun r => (x, r))) ?_ ⟨found, rfl, Nat.le_refl _, by simp⟩ ?_
    · rintro pre2 r post2 e2 _ ⟨f2, rfl, hl2, hc2⟩ k2 hk2
      have hp2 : pre2.length < tk.length := by rw [e2]; simp
      have hprel : pre.length < 4 := by omega
      obtain ⟨r0, r1⟩ := htm r (by rw [e2]; simp)
      have hO := (at_L (xs := orders) r0 r1).1
      dsimp only
      rw [rng_ok (by omega) (by omega), opt_some]
      rw [comp_filt (p := fun j => decide (fnO m j = some r)) (g := id) (rngL lists.length) (fun j hj => by
        have hj := rngL_mem.mp hj
        dsimp only
        rw [at_O (xs := m) hj.1 (by omega), opt_some]
        by_cases h : fnO m j = some r
        · rw [decide_eq_true h]; rfl
        · rw [decide_eq_false h]; rfl), opt_some, List.map_id]
      dsimp only
      have hmi : ∀ j, j ∈ List.filter (fun j => decide (fnO m j = some r)) (rngL lists.length) ↔ fnO m j = some r := fun j => by
        rw [List.mem_filter, rngL_mem]
        constructor
        · exact fun h => of_decide_eq_true h.2
        · intro h
          have := fnO_some h
          exact ⟨⟨this.1, by omega⟩, decide_eq_true h⟩
      have hli : (List.filter (fun j => decide (fnO m j = some r)) (rngL lists.length)).length = (ins m r).length := by
        have nd : (List.filter (fun j => decide (fnO m j = some r)) (rngL lists.length)).Nodup := List.Nodup.sublist List.filter_sublist (rngL_nodup _)
        have a1 := Da.len_of_sub (ys := ins m r) nd fun j hj => ins_mem.mpr ((hmi j).mp hj)
        have a2 := Da.len_of_sub (xs := ins m r) (ys := List.filter (fun j => decide (fnO m j = some r)) (rngL lists.length)) ins_nodup fun j hj => (hmi j).mpr (ins_mem.mp hj)
        omega
      generalize hin : List.filter (fun j => decide (fnO m j = some r)) (rngL lists.length) = inside at hmi hli
      rw [comp_filt (p := fun j => decide ((fnL orders r).idxOf x < (fnL orders r).idxOf j)) (g := id) inside (fun j hj => by
        dsimp only
        rw [hO, opt_some, place_ok, bind_ok, opt_some, place_ok, bind_ok]
        show (if decide ((((fnL orders r).idxOf x : Nat) : Int) < (((fnL orders r).idxOf j : Nat) : Int)) = true then _ else _) = _
        by_cases h : (fnL orders r).idxOf x < (fnL orders r).idxOf j
        · rw [decide_eq_true (by omega), decide_eq_true h]; rfl
        · rw [decide_eq_false (by omega), decide_eq_false h]; rfl), opt_some, List.map_id]
      dsimp only
      generalize hwo : List.filter (fun j => decide ((fnL orders r).idxOf x < (fnL orders r).idxOf j)) inside = worse
      have hyes : takeB orders seats m r x = true → k2 (lists, orders, seats, m, app1 f2 (x, r), x, (), (), (), (), ()) = Pu.Res.ok (blkL lists orders seats m) := fun hz => by
        refine hk2 _ ⟨app1 f2 (x, r), rfl, by rw [app1_len, List.length_append]; show _ ≤ _ + (_ + 1); omega, ?_⟩
        unfold app1
        rw [hc2, List.filter_append, List.map_append, List.append_assoc]
        congr 2
        rw [List.filter_cons, if_pos hz]; rfl
      have hno : takeB orders seats m r x = false → k2 (lists, orders, seats, m, f2, x, (), (), (), (), ()) = Pu.Res.ok (blkL lists orders seats m) := fun hz => by
        refine hk2 _ ⟨f2, rfl, by rw [List.length_append]; omega, ?_⟩
        rw [hc2, List.filter_append, List.map_append]
        congr 1
        rw [List.filter_cons, if_neg (by rw [hz]; decide)]; simp
      have hany : ((ins m r).any fun j => decide ((fnL orders r).idxOf x < (fnL orders r).idxOf j)) = !decide (worse = []) := by
        by_cases hw : worse = []
        · rw [decide_eq_true hw, Bool.not_true, List.any_eq_false]
          intro j hj z
          have : j ∈ worse := by
            rw [← hwo]
            exact List.mem_filter.mpr ⟨(hmi j).mpr (ins_mem.mp hj), z⟩
          rw [hw] at this
          cases this
        · rw [decide_eq_false hw, Bool.not_false, List.any_eq_true]
          obtain ⟨j, hj⟩ := List.exists_mem_of_ne_nil worse hw
          rw [← hwo] at hj
          obtain ⟨h1, h2⟩ := List.mem_filter.mp hj
          exact ⟨j, ins_mem.mpr ((hmi j).mp h1), h2⟩
      rw [hO, opt_some, isIn_int]
      by_cases hxo : x ∈ fnL orders r
      · rw [decide_eq_true hxo, if_pos rfl, at_I (xs := seats) r0 (by omega) V.s, opt_some]
        by_cases hil : inside.length < fnI seats r
        · rw [decide_eq_true (by omega), if_pos rfl, if_pos rfl, decide_eq_true (by omega), chk_true]
          exact hyes (by unfold takeB; rw [decide_eq_true hxo, decide_eq_true (by omega)]; rfl)
        · rw [decide_eq_false (by omega), if_neg (by decide)]
          by_cases hw : worse = []
          · rw [decide_eq_true hw, if_neg (by decide)]
            exact hno (by unfold takeB; rw [hany, decide_eq_true hw, decide_eq_false (show ¬ (ins m r).length < fnI seats r by omega)]; simp)
          · rw [decide_eq_false hw, if_pos (by rfl), decide_eq_true (by omega), chk_true]
            exact hyes (by unfold takeB; rw [hany, decide_eq_false hw, decide_eq_true hxo]; simp)
      · rw [decide_eq_false hxo, if_neg (by decide), if_neg (by decide)]
        exact hno (by unfold takeB; rw [decide_eq_false hxo]; rfl)
    · rintro _ ⟨f2, rfl, hl2, hc2⟩
      dsimp only
      refine hk _ ⟨f2, rfl, by rw [List.length_append]; show _ ≤ 1000 * (_ + 1); omega, ?_⟩
      rw [hc2, hcalm, List.flatMap_append]
      congr 1
      rw [List.flatMap_cons, List.flatMap_nil, List.append_nil, ← htk, take_filter _ _ (V.l _ hL.2).1]
      rfl
  · rintro _ ⟨found, rfl, hlen, hcalm⟩
    dsimp only
    rw [hcalm]
    rfl
end
section
variable {lists orders : List (List Int)} {seats : List Int} {m : List (Option Int)}
theorem idx_out {l : List Int} {x : Int} (h : x ∉ l) : l.idxOf x = l.length := List.idxOf_eq_length h
end
section
variable {lists orders : List (List Int)} {seats : List Int} {m : List (Option Int)}
theorem worst_nil {l : List Int} : m_Wish_worst (mkW l) [] = .ok none := rfl
end
section
variable {lists orders : List (List Int)} {seats : List Int} {m : List (Option Int)}
theorem first_ok (V : Val lists orders seats) {r : Int} (r0 : 0 ≤ r) (r1 : r < orders.length) : ∃ o, m_first_to_go (mkM lists orders seats) m r = .ok o ∧ (ins m r = [] → o = none) ∧
    (ins m r ≠ [] → ∃ y, o = some y ∧ y ∈ ins m r ∧ ∀ x, x ∈ ins m r → (fnL orders r).idxOf x ≤ (fnL orders r).idxOf y) := by
  unfold m_first_to_go
  rw [those_ok, bind_ok]
  show ∃ o, opt (compL _ (ins m r) _) _ = _ ∧ _
  rw [comp_filt (p := fun j => !decide (j ∈ fnL orders r)) (g := id) (ins m r) (fun j hj => by
    show opt (L2.atI (orders.map mkW) r) _ = _
    rw [at_W r0 r1, opt_some, has_ok, bind_ok]
    by_cases h : j ∈ fnL orders r
    · rw [decide_eq_true h]; rfl
    · rw [decide_eq_false h]; rfl), opt_some, List.map_id]
  dsimp only
  cases hf : (ins m r).filter (fun j => !decide (j ∈ fnL orders r)) with
  | nil =>
    rw [if_neg (by decide)]
    show ∃ o, opt (L2.atI (orders.map mkW) r) _ = _ ∧ _
    rw [at_W r0 r1, opt_some]
    show ∃ o, (m_Wish_worst (mkW (fnL orders r)) (ins m r)).bind _ = _ ∧ _
    have hall : ∀ x, x ∈ ins m r → x ∈ fnL orders r := fun x hx => by
      have := List.filter_eq_nil_iff.mp hf x hx
      simpa using this
    by_cases he : ins m r = []
    · rw [he, worst_nil, bind_ok]
      exact ⟨none, rfl, fun _ => rfl, fun z => absurd rfl z⟩
    · obtain ⟨y, e, hy, hm⟩ := worst_ok he hall
      rw [e, bind_ok]
      exact ⟨some y, rfl, fun z => absurd z he, fun _ => ⟨y, rfl, hy, hm⟩⟩
  | cons y ys =>
    rw [if_pos (show (!(y :: ys).isEmpty) = true from rfl), at_zero, opt_some]
    have hy : y ∈ (ins m r).filter (fun j => !decide (j ∈ fnL orders r)) := by rw [hf]; exact List.mem_cons_self
    obtain ⟨h1, h2⟩ := List.mem_filter.mp hy
    have h2 : y ∉ fnL orders r := by simpa using h2
    refine ⟨some y, rfl, fun z => ?_, fun _ => ⟨y, rfl, h1, fun x _ => ?_⟩⟩
    · rw [z] at h1; cases h1
    · rw [idx_out h2]; exact List.idxOf_le_length
end
theorem whl_q {S R : Type} {stp : (S → Pu.Res R) → S → Pu.Res R} {P : Pu.Res R → Prop} {I : Nat → S → Prop} (h : ∀ f s, I (f + 1) s → ∀ k : S → Pu.Res R, (∀ s', I f s' → P (k s')) → P (stp k s)) (h0 : ∀ s, ¬ I 0 s) : ∀ f s, I f s → P (whl stp f s)
  | 0, s, i => absurd i (h0 s)
  | f + 1, s, i => h f s i _ fun s' i' => whl_q h h0 f s' i'
end G
set_option Elab.async false
set_option linter.all false
set_option maxRecDepth 100000
set_option maxHeartbeats 2000000
namespace G
open PySem L2 Evl Pu
section
variable {lists orders : List (List Int)} {seats : List Int} {m m' : List (Option Int)} {a r g : Int}
theorem blk_mem : (a, r) ∈ blkL lists orders seats m ↔ (0 ≤ a ∧ a < lists.length) ∧ r ∈ fnL lists a ∧ (fnL lists a).idxOf r < pl (fnL lists a) (fnO m a) ∧ takeB orders seats m r a = true := by
  unfold blkL
  rw [List.mem_flatMap]
  constructor
  · rintro ⟨k, hk, h⟩
    obtain ⟨x, hx, e⟩ := List.mem_map.mp h
    cases e
    obtain ⟨h1, h2⟩ := List.mem_filter.mp hx
    obtain ⟨h3, h4⟩ := List.mem_filter.mp h1
    exact ⟨rngL_mem.mp hk, h3, of_decide_eq_true h4, h2⟩
  · rintro ⟨h0, h1, h2, h3⟩
    exact ⟨a, rngL_mem.mpr h0, List.mem_map.mpr ⟨r, List.mem_filter.mpr ⟨List.mem_filter.mpr ⟨h1, decide_eq_true h2⟩, h3⟩, rfl⟩⟩
theorem fnO_set {xs : List (Option Int)} {i : Int} {v : Option Int} (h0 : 0 ≤ i) (h1 : i < xs.length) (j : Int) : fnO (xs.set i.toNat v) j = if j = i then v else fnO xs j := by
  unfold fnO
  by_cases q : j = i
  · subst q
    rw [if_pos h0, if_pos rfl, List.getD_eq_getElem?_getD, List.getElem?_set_self (by omega)]
    rfl
  · rw [if_neg q]
    by_cases p : 0 ≤ j
    · rw [if_pos p, if_pos p, List.getD_eq_getElem?_getD, List.getD_eq_getElem?_getD, List.getElem?_set_ne (by omega)]
    · rw [if_neg p, if_neg p]
inductive St (lists orders : List (List Int)) (seats : List Int) (m : List (Option Int)) (a r : Int) (m' : List (Option Int)) : Prop
  | free (h : (ins m r).length < fnI seats r) (e : ∀ x, fnO m' x = if x = a then some r else fnO m x)
  | out (g : Int) (h : fnI seats r ≤ (ins m r).length) (hg : fnO m g = some r) (ne : g ≠ a) (lt : (fnL orders r).idxOf a < (fnL orders r).idxOf g) (mx : ∀ x, fnO m x = some r → (fnL orders r).idxOf x ≤ (fnL orders r).idxOf g) (e : ∀ x, fnO m' x = if x = a then some r else if x = g then none else fnO m x)
theorem blk_ne (h : (a, r) ∈ blkL lists orders seats m) : fnO m a ≠ some r := fun z => by
  obtain ⟨_, _, h2, _⟩ := blk_mem.mp h
  rw [z] at h2
  exact absurd h2 (Nat.lt_irrefl _)
theorem in_r (V : Val lists orders seats) (R : Row lists orders seats lists.length m) {k : Int} (h : r ∈ fnL lists k) : 0 ≤ r ∧ r < orders.length := by
  by_cases q : 0 ≤ k ∧ k < lists.length
  · exact (V.l _ (at_L q.1 q.2).2).2 r h
  · unfold fnL at h
    by_cases p : 0 ≤ k
    · rw [if_pos p, List.getD_eq_getElem?_getD, List.getElem?_eq_none (by omega)] at h; cases h
    · rw [if_neg p] at h; cases h
theorem settled_ok (V : Val lists orders seats) (R : Row lists orders seats lists.length m) (h : (a, r) ∈ blkL lists orders seats m) :
    ∃ m', m_settled (mkM lists orders seats) m (a, r) = .ok m' ∧ m'.length = lists.length ∧ St lists orders seats m a r m' := by
  obtain ⟨⟨a0, a1⟩, hr, hlt, ht⟩ := blk_mem.mp h
  obtain ⟨r0, r1⟩ := in_r V R hr
  have hne := blk_ne h
  have hl := R.len
  unfold m_settled
  dsimp only
  rw [free_ok V r0 r1, bind_ok]
  by_cases hf : (ins m r).length < fnI seats r
  · rw [decide_eq_true hf, if_neg (by decide), set_ok a0 (by omega), opt_some]
    exact ⟨_, rfl, by rw [List.length_set, hl], .free hf fun x => fnO_set a0 (by omega) x⟩
  · rw [decide_eq_false hf, if_pos (by decide)]
    obtain ⟨o, e, hn, hs⟩ := first_ok (m := m) V r0 r1
    have ht2 := ht
    unfold takeB at ht2
    rw [decide_eq_false hf, Bool.false_or, Bool.and_eq_true, List.any_eq_true] at ht2
    obtain ⟨ha, j, hj, hj2⟩ := ht2
    have hj2 := of_decide_eq_true hj2
    have ne : ins m r ≠ [] := fun z => by rw [z] at hj; cases hj
    obtain ⟨g, rfl, hg, mx⟩ := hs ne
    have hg' := ins_mem.mp hg
    obtain ⟨g0, g1⟩ := fnO_some hg'
    have nga : g ≠ a := fun z => hne (by rw [← z]; exact hg')
    rw [e, bind_ok]
    rw [if_pos (show (some g).isSome = true from rfl), opt_some, set_ok g0 g1, opt_some, set_ok a0 (by rw [List.length_set]; omega), opt_some]
    refine ⟨_, rfl, by rw [List.length_set, List.length_set, hl], .out g (by omega) hg' nga (Nat.lt_of_lt_of_le hj2 (mx j hj)) (fun x hx => mx x (ins_mem.mpr hx)) fun x => ?_⟩
    rw [fnO_set a0 (by rw [List.length_set]; omega), fnO_set g0 g1]
theorem St.row (V : Val lists orders seats) (R : Row lists orders seats lists.length m) (h : (a, r) ∈ blkL lists orders seats m) (hl : m'.length = lists.length) (S : St lists orders seats m a r m') : Row lists orders seats lists.length m' := by
  obtain ⟨⟨a0, a1⟩, hr, hlt, ht⟩ := blk_mem.mp h
  have ha : a ∈ fnL orders r := by
    unfold takeB at ht
    rw [Bool.and_eq_true] at ht
    exact of_decide_eq_true ht.1
  have hne := blk_ne h
  refine ⟨hl, fun k ρ hk => ?_, fun ρ => ?_⟩
  · cases S with
    | free _ e =>
      rw [e k] at hk
      by_cases q : k = a
      · rw [if_pos q] at hk; cases hk; rw [q]; exact ⟨hr, ha⟩
      · rw [if_neg q] at hk; exact R.like k ρ hk
    | out g _ _ _ _ _ e =>
      rw [e k] at hk
      by_cases q : k = a
      · rw [if_pos q] at hk; cases hk; rw [q]; exact ⟨hr, ha⟩
      · rw [if_neg q] at hk
        by_cases p : k = g
        · rw [if_pos p] at hk; cases hk
        · rw [if_neg p] at hk; exact R.like k ρ hk
  · have cap := R.cap ρ
    cases S with
    | free hf e =>
      by_cases q : ρ = r
      · subst q
        have := Do.sub_len (ys := a :: ins m ρ) (ins_nodup (hd := m') (r := ρ)) fun x hx => by
          have hx := ins_mem.mp hx
          rw [e x] at hx
          by_cases p : x = a
          · rw [p]; exact List.mem_cons_self
          · rw [if_neg p] at hx; exact List.mem_cons_of_mem _ (ins_mem.mpr hx)
        rw [List.length_cons] at this
        omega
      · have := Do.sub_len (ys := ins m ρ) (ins_nodup (hd := m') (r := ρ)) fun x hx => by
          have hx := ins_mem.mp hx
          rw [e x] at hx
          by_cases p : x = a
          · rw [if_pos p] at hx; cases hx; exact absurd rfl q
          · rw [if_neg p] at hx; exact ins_mem.mpr hx
        omega
    | out g _ hg _ _ _ e =>
      by_cases q : ρ = r
      · subst q
        have := Do.sub_len (ys := a :: (ins m ρ).erase g) (ins_nodup (hd := m') (r := ρ)) fun x hx => by
          have hx := ins_mem.mp hx
          rw [e x] at hx
          by_cases p : x = a
          · rw [p]; exact List.mem_cons_self
          · rw [if_neg p] at hx
            by_cases p2 : x = g
            · rw [if_pos p2] at hx; cases hx
            · rw [if_neg p2] at hx; exact List.mem_cons_of_mem _ ((List.mem_erase_of_ne p2).mpr (ins_mem.mpr hx))
        rw [List.length_cons, List.length_erase_of_mem (ins_mem.mpr hg)] at this
        have := List.length_pos_of_mem (ins_mem.mpr hg)
        omega
      · have := Do.sub_len (ys := ins m ρ) (ins_nodup (hd := m') (r := ρ)) fun x hx => by
          have hx := ins_mem.mp hx
          rw [e x] at hx
          by_cases p : x = a
          · rw [if_pos p] at hx; cases hx; exact absurd rfl q
          · rw [if_neg p] at hx
            by_cases p2 : x = g
            · rw [if_pos p2] at hx; cases hx
            · rw [if_neg p2] at hx; exact ins_mem.mpr hx
        omega
end
end G
set_option Elab.async false
set_option linter.all false
set_option maxRecDepth 100000
set_option maxHeartbeats 2000000
namespace G
open PySem L2 Evl Pu
def nxt (lists orders : List (List Int)) (seats : List Int) (m : List (Option Int)) (p : Int × Int) : List (Option Int) := match m_settled (mkM lists orders seats) m p with
  | .ok m' => m'
  | _ => m
def pkd (bs : List (Int × Int)) (d : Int) : Int × Int := bs.getD (d % (bs.length : Int)).toNat (0, 0)
def Fs (lists orders : List (List Int)) (seats ds : List Int) (k : Nat) (m : List (Option Int)) : List (Option Int) := nxt lists orders seats m (pkd (blkL lists orders seats m) (ds.getD k 0))
def way (lists orders : List (List Int)) (seats ds : List Int) (m : List (Option Int)) : Nat → List (Option Int)
  | 0 => m
  | i + 1 => Fs lists orders seats ds (i % 5) (way lists orders seats ds m i)
structure Mt (lists orders : List (List Int)) (seats ds : List Int) : Prop where
  V : Val lists orders seats
  n3 : lists.length ≤ 3
  r3 : orders.length ≤ 3
  s2 : ∀ q, q ∈ seats → q ≤ 2
  d5 : ds.length = 5
  d0 : ∀ d, d ∈ ds → 0 ≤ d ∧ d < 12
section
variable {lists orders : List (List Int)} {seats ds : List Int} {m m' : List (Option Int)} {a r g : Int}
theorem pkd_mem {bs : List (Int × Int)} {d : Int} (ne : bs ≠ []) : (if 0 < (bs.length : Int) then some (d % (bs.length : Int)) else none) = some (d % (bs.length : Int)) ∧ L2.atI bs (d % (bs.length : Int)) = some (pkd bs d) ∧ pkd bs d ∈ bs := by
  have h : 0 < bs.length := List.length_pos_iff.mpr ne
  have h0 := Int.emod_nonneg d (b := (bs.length : Int)) (by omega)
  have h1 := Int.emod_lt_of_pos d (b := (bs.length : Int)) (by omega)
  exact ⟨if_pos (by omega), (at_d (0, 0) h0 h1).1, (at_d (0, 0) h0 h1).2⟩
theorem nxt_ok (M : Mt lists orders seats ds) (R : Row lists orders seats lists.length m) {p : Int × Int} (h : p ∈ blkL lists orders seats m) :
    m_settled (mkM lists orders seats) m p = .ok (nxt lists orders seats m p) ∧ St lists orders seats m p.1 p.2 (nxt lists orders seats m p) ∧ Row lists orders seats lists.length (nxt lists orders seats m p) := by
  obtain ⟨a, r⟩ := p
  obtain ⟨m', e, hl, S⟩ := settled_ok M.V R h
  have en : nxt lists orders seats m (a, r) = m' := by unfold nxt; rw [e]
  rw [en]
  exact ⟨e, S, S.row M.V R h hl⟩
theorem way_row (M : Mt lists orders seats ds) (R : Row lists orders seats lists.length m) : ∀ i, (∀ j, j < i → blkL lists orders seats (way lists orders seats ds m j) ≠ []) → Row lists orders seats lists.length (way lists orders seats ds m i)
  | 0, _ => R
  | i + 1, h => by
    have ih := way_row M R i fun j hj => h j (by omega)
    exact (nxt_ok M ih (pkd_mem (h i (by omega))).2.2).2.2
theorem blkN_ok (M : Mt lists orders seats ds) (R : Row lists orders seats lists.length m) : m_blocks (mkM lists orders seats) m = .ok (blkL lists orders seats m) := by
  have := M.n3
  have := M.r3
  exact blocks_ok M.V (by omega) (by omega) R
theorem by_ok (M : Mt lists orders seats ds) (R : Row lists orders seats lists.length m) :
    (∀ t, t ≤ 200 → (∀ j, j < t → blkL lists orders seats (way lists orders seats ds m j) ≠ []) → blkL lists orders seats (way lists orders seats ds m t) = [] → m_by_blocks (mkM lists orders seats) m ds 200 = .ok (way lists orders seats ds m t)) ∧
    ((∀ j, j ≤ 200 → blkL lists orders seats (way lists orders seats ds m j) ≠ []) → m_by_blocks (mkM lists orders seats) m ds 200 = .exc "BadSize") := by
  unfold m_by_blocks
  rw [blkN_ok M R, bind_ok]
  dsimp only
  refine whl_q (P := fun z => (∀ t, t ≤ 200 → (∀ j, j < t → blkL lists orders seats (way lists orders seats ds m j) ≠ []) → blkL lists orders seats (way lists orders seats ds m t) = [] → z = Pu.Res.ok (way lists orders seats ds m t)) ∧
    ((∀ j, j ≤ 200 → blkL lists orders seats (way lists orders seats ds m j) ≠ []) → z = .exc "BadSize")) (I := fun f s => ∃ i : Nat, s = (mkM lists orders seats, m, ds, (200 : Int), way lists orders seats ds m i, blkL lists orders seats (way lists orders seats ds m i), (i : Int), (), ()) ∧ (∀ j, j < i → blkL lists orders seats (way lists orders seats ds m j) ≠ []) ∧ i ≤ 200 ∧ 300 < f + i) (fun f s i k hk => ?_) (fun s ⟨i, _, _, h1, h2⟩ => by omega) 100000 _ ⟨0, rfl, fun j hj => absurd hj (Nat.not_lt_zero _), by decide, by decide⟩
  obtain ⟨i, rfl, hb, h2, hf⟩ := i
  dsimp only
  by_cases q : blkL lists orders seats (way lists orders seats ds m i) = []
  · rw [if_neg (by rw [decide_eq_true q]; decide)]
    refine ⟨fun t ht h1 h3 => ?_, fun h => absurd q (h i h2)⟩
    have : t = i := by
      rcases Nat.lt_trichotomy t i with z | z | z
      · exact absurd h3 (hb t z)
      · exact z
      · exact absurd q (h1 i z)
    rw [this]
  · rw [if_pos (by rw [decide_eq_false q]; rfl)]
    by_cases p : (200 : Int) ≤ (i : Int)
    · rw [if_pos (decide_eq_true p)]
      refine ⟨fun t ht h1 h3 => ?_, fun _ => rfl⟩
      have : t = i ∨ t < i := by omega
      rcases this with z | z
      · rw [z] at h3; exact absurd h3 q
      · exact absurd h3 (hb t z)
    · have RW := way_row M R i hb
      have hd : ds.length = 5 := M.d5
      obtain ⟨e1, e2, e3⟩ := pkd_mem (d := ds.getD (i % 5) 0) q
      obtain ⟨f1, _, f3⟩ := nxt_ok M RW e3
      have ea : L2.atI ds ((i : Int) % 5) = some (ds.getD (i % 5) 0) := by
        have := (at_d (xs := ds) (i := ((i : Int) % 5)) 0 (by omega) (by omega)).1
        rw [show ((i : Int) % 5).toNat = i % 5 by omega] at this
        exact this
      rw [if_neg (by rw [decide_eq_false p]; decide), show ((ds.length : Nat) : Int) = 5 by omega, if_pos (by decide), opt_some, ea, opt_some, e1, opt_some, e2, opt_some, f1, bind_ok, blkN_ok M f3, bind_ok]
      refine hk _ ⟨i + 1, ?_, fun j hj => ?_, by omega, by omega⟩
      · rfl
      · have : j = i ∨ j < i := by omega
        rcases this with z | z
        · rw [z]; exact q
        · exact hb j z
end
end G
set_option Elab.async false
set_option linter.all false
set_option maxRecDepth 100000
set_option maxHeartbeats 2000000
namespace G
open PySem L2 Evl Pu
/-! ### matchings of three as numbers -/
def cd (ps : List (Option Int)) (a : Int) : Nat := match fnO ps a with
  | some r => r.toNat
  | none => 3
def code (ps : List (Option Int)) : Nat := cd ps 0 + 4 * cd ps 1 + 16 * cd ps 2
def dg (c a : Nat) : Nat := c / 4 ^ a % 4
def cn (c r : Nat) : Nat := (if dg c 0 = r then 1 else 0) + (if dg c 1 = r then 1 else 0) + (if dg c 2 = r then 1 else 0)
def okc (s0 s1 s2 c : Nat) : Bool := decide (cn c 0 ≤ s0) && decide (cn c 1 ≤ s1) && decide (cn c 2 ≤ s2)
section
variable {lists orders : List (List Int)} {seats ds : List Int} {m m' : List (Option Int)} {a r g : Int}
theorem Mt.rg (M : Mt lists orders seats ds) (R : Row lists orders seats lists.length m) {a r : Int} (h : fnO m a = some r) : (0 ≤ a ∧ a < 3) ∧ (0 ≤ r ∧ r < 3) ∧ a < lists.length ∧ r < orders.length := by
  have n3 := M.n3
  have r3 := M.r3
  have hl := R.len
  obtain ⟨a0, a1⟩ := fnO_some h
  obtain ⟨h1, _⟩ := R.like a r h
  obtain ⟨r0, r1⟩ := in_r M.V R h1
  exact ⟨⟨a0, by omega⟩, ⟨r0, by omega⟩, by omega, r1⟩
theorem cd_le (M : Mt lists orders seats ds) (R : Row lists orders seats lists.length m) (a : Int) : cd m a ≤ 3 ∧ (cd m a = 3 ↔ fnO m a = none) := by
  unfold cd
  cases h : fnO m a with
  | none => exact ⟨Nat.le_refl _, fun _ => rfl, fun _ => rfl⟩
  | some r =>
    obtain ⟨_, ⟨r0, r1⟩, _⟩ := M.rg R h
    refine ⟨by show r.toNat ≤ 3; omega, fun z => ?_, fun z => nomatch z⟩
    have z : r.toNat = 3 := z
    omega
theorem cd_some (M : Mt lists orders seats ds) (R : Row lists orders seats lists.length m) {a : Int} {r : Nat} (h : r < 3) : cd m a = r ↔ fnO m a = some (r : Int) := by
  unfold cd
  cases e : fnO m a with
  | none => exact ⟨fun z => by have z : (3 : Nat) = r := z; omega, fun z => nomatch z⟩
  | some x =>
    obtain ⟨_, ⟨r0, r1⟩, _⟩ := M.rg R e
    constructor
    · intro z
      have z : x.toNat = r := z
      rw [show x = (r : Int) by omega]
    · intro z
      cases z
      show ((r : Int)).toNat = r
      omega
theorem dg_code (M : Mt lists orders seats ds) (R : Row lists orders seats lists.length m) : dg (code m) 0 = cd m 0 ∧ dg (code m) 1 = cd m 1 ∧ dg (code m) 2 = cd m 2 ∧ code m < 64 := by
  have h0 := (cd_le M R 0).1
  have h1 := (cd_le M R 1).1
  have h2 := (cd_le M R 2).1
  unfold dg code
  refine ⟨?_, ?_, ?_, ?_⟩ <;> (try simp only [Nat.pow_zero, Nat.pow_one, Nat.div_one]) <;> omega
theorem fnO_ext3 (M : Mt lists orders seats ds) (R : Row lists orders seats lists.length m) (R' : Row lists orders seats lists.length m') (h : ∀ a : Int, 0 ≤ a → a < 3 → fnO m a = fnO m' a) : m = m' := by
  have n3 := M.n3
  have hl := R.len
  have hl' := R'.len
  apply List.ext_getElem?
  intro i
  by_cases q : i < lists.length
  · have := h (i : Int) (by omega) (by omega)
    unfold fnO at this
    rw [if_pos (by omega), if_pos (by omega), Int.toNat_natCast, List.getD_eq_getElem?_getD, List.getD_eq_getElem?_getD, List.getElem?_eq_getElem (by omega), List.getElem?_eq_getElem (by omega)] at this
    rw [List.getElem?_eq_getElem (by omega), List.getElem?_eq_getElem (by omega)]
    exact congrArg some this
  · rw [List.getElem?_eq_none (by omega), List.getElem?_eq_none (by omega)]
theorem cd_eq (M : Mt lists orders seats ds) (R : Row lists orders seats lists.length m) (R' : Row lists orders seats lists.length m') {a : Int} (h : cd m a = cd m' a) : fnO m a = fnO m' a := by
  cases e : fnO m' a with
  | none => exact (cd_le M R a).2.mp (h.trans ((cd_le M R' a).2.mpr e))
  | some r =>
    obtain ⟨_, ⟨r0, r1⟩, _⟩ := M.rg R' e
    have h1 := (cd_some M R' (a := a) (r := r.toNat) (by omega)).mpr (by rw [e, show ((r.toNat : Nat) : Int) = r by omega])
    have h2 := (cd_some M R (a := a) (r := r.toNat) (by omega)).mp (h.trans h1)
    rw [h2, show ((r.toNat : Nat) : Int) = r by omega]
theorem code_inj (M : Mt lists orders seats ds) (R : Row lists orders seats lists.length m) (R' : Row lists orders seats lists.length m') (h : code m = code m') : m = m' := by
  obtain ⟨a0, a1, a2, _⟩ := dg_code M R
  obtain ⟨b0, b1, b2, _⟩ := dg_code M R'
  rw [h] at a0 a1 a2
  refine fnO_ext3 M R R' fun a h0 h1 => cd_eq M R R' ?_
  have : a = 0 ∨ a = 1 ∨ a = 2 := by omega
  rcases this with rfl | rfl | rfl
  · exact a0.symm.trans b0
  · exact a1.symm.trans b1
  · exact a2.symm.trans b2
theorem cn_le (M : Mt lists orders seats ds) (R : Row lists orders seats lists.length m) {r : Nat} (hr : r < 3) : cn (code m) r = (ins m (r : Int)).length := by
  obtain ⟨a0, a1, a2, _⟩ := dg_code M R
  unfold cn
  rw [a0, a1, a2]
  have key : (ins m (r : Int)).Perm (([0, 1, 2] : List Int).filter fun a => decide (cd m a = r)) := by
    refine (List.perm_ext_iff_of_nodup ins_nodup (List.Pairwise.filter _ (by decide))).mpr fun x => ?_
    rw [ins_mem, List.mem_filter, decide_eq_true_eq, cd_some M R hr]
    constructor
    · intro h
      obtain ⟨⟨x0, x1⟩, _⟩ := M.rg R h
      refine ⟨?_, h⟩
      have : x = 0 ∨ x = 1 ∨ x = 2 := by omega
      rcases this with rfl | rfl | rfl <;> simp
    · exact fun h => h.2
  rw [key.length_eq]
  simp only [List.filter_cons, List.filter_nil]
  by_cases h0 : cd m 0 = r <;> by_cases h1 : cd m 1 = r <;> by_cases h2 : cd m 2 = r <;> simp [h0, h1, h2]
theorem code_ok (M : Mt lists orders seats ds) (R : Row lists orders seats lists.length m) : okc (fnI seats 0) (fnI seats 1) (fnI seats 2) (code m) = true := by
  unfold okc
  rw [Bool.and_eq_true, Bool.and_eq_true, decide_eq_true_eq, decide_eq_true_eq, decide_eq_true_eq, cn_le M R (by decide), cn_le M R (by decide), cn_le M R (by decide)]
  exact ⟨⟨R.cap _, R.cap _⟩, R.cap _⟩
theorem seat_le (M : Mt lists orders seats ds) (r : Int) : fnI seats r ≤ 2 := by
  unfold fnI
  by_cases h0 : 0 ≤ r
  · rw [if_pos h0]
    by_cases h1 : r.toNat < seats.length
    · have := M.s2 _ (List.getElem_mem h1)
      rw [List.getD_eq_getElem?_getD, List.getElem?_eq_getElem h1]
      show (seats[r.toNat]).toNat ≤ 2
      omega
    · rw [List.getD_eq_getElem?_getD, List.getElem?_eq_none (by omega)]; decide
  · rw [if_neg h0]; decide
/-! ### what all have of what they want -/
def vl (lists : List (List Int)) (m : List (Option Int)) (a : Int) : Nat := match fnO m a with
  | some r => (fnL lists a).length - (fnL lists a).idxOf r
  | none => 0
def vls (lists : List (List Int)) (m : List (Option Int)) : Nat := vl lists m 0 + vl lists m 1 + vl lists m 2
theorem L_len (M : Mt lists orders seats ds) (a : Int) : (fnL lists a).length ≤ 3 := by
  have r3 := M.r3
  by_cases h : 0 ≤ a ∧ a < lists.length
  · obtain ⟨nd, rg⟩ := M.V.l _ (at_L h.1 h.2).2
    have := short (n := 3) nd fun x hx => ⟨(rg x hx).1, by have := (rg x hx).2; omega⟩
    exact this
  · unfold fnL
    by_cases p : 0 ≤ a
    · rw [if_pos p, List.getD_eq_getElem?_getD, List.getElem?_eq_none (by omega)]; exact Nat.zero_le _
    · rw [if_neg p]; exact Nat.zero_le _
theorem vl_le (M : Mt lists orders seats ds) (a : Int) : vl lists m a ≤ 3 := by
  have := L_len M a
  unfold vl
  split <;> omega
theorem vl_up (h : (a, r) ∈ blkL lists orders seats m) (e : fnO m' a = some r) : vl lists m a + 1 ≤ vl lists m' a := by
  obtain ⟨_, hr, hlt, _⟩ := blk_mem.mp h
  have h2 := List.idxOf_lt_length_iff.mpr hr
  unfold vl
  rw [e]
  cases h3 : fnO m a with
  | none => show 0 + 1 ≤ _ - _; omega
  | some x =>
    rw [h3] at hlt
    have hlt : (fnL lists a).idxOf r < (fnL lists a).idxOf x := hlt
    show _ - _ + 1 ≤ _ - _
    omega
theorem vl_same {x : Int} (e : fnO m' x = fnO m x) : vl lists m' x = vl lists m x := by
  unfold vl
  rw [e]
theorem vls_step (M : Mt lists orders seats ds) (R : Row lists orders seats lists.length m) (h : (a, r) ∈ blkL lists orders seats m) (S : St lists orders seats m a r m') :
    vls lists m + 1 ≤ vls lists m' + if decide (fnI seats r ≤ (ins m r).length) = true then 3 else 0 := by
  have n3 := M.n3
  obtain ⟨⟨a0, a1⟩, _⟩ := blk_mem.mp h
  have ha : a = 0 ∨ a = 1 ∨ a = 2 := by omega
  unfold vls
  cases S with
  | free hf e =>
    have h1 : vl lists m a + 1 ≤ vl lists m' a := vl_up h (by rw [e a, if_pos rfl])
    have h2 : ∀ x, x ≠ a → vl lists m' x = vl lists m x := fun x hx => vl_same (by rw [e x, if_neg hx])
    rcases ha with rfl | rfl | rfl
    · have := h2 1 (by decide); have := h2 2 (by decide); omega
    · have := h2 0 (by decide); have := h2 2 (by decide); omega
    · have := h2 0 (by decide); have := h2 1 (by decide); omega
  | out g hf hg ne _ _ e =>
    rw [if_pos (decide_eq_true hf)]
    obtain ⟨⟨g0, g1⟩, _⟩ := M.rg R hg
    have h1 : vl lists m a + 1 ≤ vl lists m' a := vl_up h (by rw [e a, if_pos rfl])
    have h2 : ∀ x, x ≠ a → x ≠ g → vl lists m' x = vl lists m x := fun x hx hy => vl_same (by rw [e x, if_neg hx, if_neg hy])
    have h3 := vl_le (m := m) M g
    have hg' : g = 0 ∨ g = 1 ∨ g = 2 := by omega
    rcases ha with rfl | rfl | rfl <;> rcases hg' with rfl | rfl | rfl <;> first
      | exact absurd rfl ne
      | (have := h2 2 (by decide) (by decide); omega)
      | (have := h2 1 (by decide) (by decide); omega)
      | (have := h2 0 (by decide) (by decide); omega)
end
end G
set_option Elab.async false
set_option linter.all false
set_option maxRecDepth 100000
set_option maxHeartbeats 2000000
namespace G
open PySem L2 Evl Pu
/-! ### what comes of putting out -/
def vS (b01 b02 b12 : Bool) (r : Nat) : List Nat := ([(0, 1, 2, b01), (0, 2, 1, b02), (1, 2, 0, b12)] : List (Nat × Nat × Nat × Bool)).flatMap fun q => (([0, 1, 2, 3] : List Nat).filter fun d => decide (d ≠ r)).map fun d =>
  if q.2.2.2 = true then r * 4 ^ q.1 + 3 * 4 ^ q.2.1 + d * 4 ^ q.2.2.1 else r * 4 ^ q.2.1 + 3 * 4 ^ q.1 + d * 4 ^ q.2.2.1
def vD (b01 b02 b12 : Bool) (r : Nat) : Nat := if (!b01 && !b02) = true then 3 + 4 * r + 16 * r else if (b01 && !b12) = true then r + 12 + 16 * r else r + 4 * r + 48
def vR (s : Nat) (b01 b02 b12 : Bool) (r : Nat) : List Nat := if s = 1 then vS b01 b02 b12 r else if s = 2 then [vD b01 b02 b12 r] else []
theorem vS_len : ∀ b01 b02 b12 : Bool, ∀ r, r < 3 → (vS b01 b02 b12 r).length = 9 := by decide
theorem vR_len (s : Nat) (b01 b02 b12 : Bool) (r : Nat) (hr : r < 3) : (vR s b01 b02 b12 r).length = if s = 1 then 9 else if s = 2 then 1 else 0 := by
  unfold vR
  by_cases h1 : s = 1
  · rw [if_pos h1, if_pos h1, vS_len _ _ _ r hr]
  · rw [if_neg h1, if_neg h1]
    split <;> rfl
theorem v01 : ∀ r, r < 3 → ∀ d, d < 4 → d ≠ r → ∀ b02 b12 : Bool, r + 4 * 3 + 16 * d ∈ vS true b02 b12 r := by decide
theorem v10 : ∀ r, r < 3 → ∀ d, d < 4 → d ≠ r → ∀ b02 b12 : Bool, 3 + 4 * r + 16 * d ∈ vS false b02 b12 r := by decide
theorem v02 : ∀ r, r < 3 → ∀ d, d < 4 → d ≠ r → ∀ b01 b12 : Bool, r + 4 * d + 16 * 3 ∈ vS b01 true b12 r := by decide
theorem v20 : ∀ r, r < 3 → ∀ d, d < 4 → d ≠ r → ∀ b01 b12 : Bool, 3 + 4 * d + 16 * r ∈ vS b01 false b12 r := by decide
theorem v12 : ∀ r, r < 3 → ∀ d, d < 4 → d ≠ r → ∀ b01 b02 : Bool, d + 4 * r + 16 * 3 ∈ vS b01 b02 true r := by decide
theorem v21 : ∀ r, r < 3 → ∀ d, d < 4 → d ≠ r → ∀ b01 b02 : Bool, d + 4 * 3 + 16 * r ∈ vS b01 b02 false r := by decide
def bt (orders : List (List Int)) (r x y : Int) : Bool := decide ((fnL orders r).idxOf x < (fnL orders r).idxOf y)
section
variable {lists orders : List (List Int)} {seats ds : List Int} {m m' : List (Option Int)} {a r g : Int}
theorem two_in {xs : List Int} {g : Int} (nd : xs.Nodup) (hl : 2 ≤ xs.length) (hg : g ∈ xs) : ∃ h, h ∈ xs ∧ h ≠ g := by
  refine Classical.byContradiction fun z => ?_
  have := Do.sub_len (ys := [g]) nd fun x hx => List.mem_singleton.mpr (Classical.byContradiction fun y => z ⟨x, hx, y⟩)
  rw [List.length_singleton] at this
  omega
theorem one_in {xs : List Int} {g h : Int} (hl : xs.length ≤ 1) (hg : g ∈ xs) (hh : h ∈ xs) : h = g := by
  match xs, hl with
  | [x], _ => rw [List.mem_singleton.mp hg, List.mem_singleton.mp hh]
theorem idx_inj {l : List Int} {x y : Int} (hx : x ∈ l) (e : l.idxOf x = l.idxOf y) : x = y := by
  have h1 := List.idxOf_lt_length_iff.mpr hx
  have h2 : l.idxOf y < l.length := by omega
  have e1 := List.getElem_idxOf h1
  have e2 := List.getElem_idxOf h2
  rw [← e1, ← e2]
  congr 1
theorem out_mem (M : Mt lists orders seats ds) (R : Row lists orders seats lists.length m) (R' : Row lists orders seats lists.length m') (h : (a, r) ∈ blkL lists orders seats m) (S : St lists orders seats m a r m') (hf : fnI seats r ≤ (ins m r).length) :
    code m' ∈ vR (fnI seats r) (bt orders r 0 1) (bt orders r 0 2) (bt orders r 1 2) r.toNat := by
  have n3 := M.n3
  obtain ⟨⟨a0, a1⟩, hr, _, ht⟩ := blk_mem.mp h
  have hao : a ∈ fnL orders r := by
    unfold takeB at ht
    rw [Bool.and_eq_true] at ht
    exact of_decide_eq_true ht.1
  have hne := blk_ne h
  cases S with
  | free hf2 _ => omega
  | out g _ hg ne lt mx e =>
    obtain ⟨⟨g0, g1⟩, ⟨r0, r1⟩, _⟩ := M.rg R hg
    have hgi := ins_mem.mpr hg
    have cap := R.cap r
    have s2 := seat_le M r
    have pos := List.length_pos_of_mem hgi
    have er : ((r.toNat : Nat) : Int) = r := by omega
    have hr3 : r.toNat < 3 := by omega
    have ca : cd m' a = r.toNat := (cd_some M R' hr3).mpr (by rw [e a, if_pos rfl, er])
    have cg : cd m' g = 3 := (cd_le M R' g).2.mpr (by rw [e g, if_neg ne, if_pos rfl])
    have ch : ∀ x, x ≠ a → x ≠ g → cd m' x = cd m x := fun x hx hy => by
      unfold cd
      rw [e x, if_neg hx, if_neg hy]
    have cl : ∀ x, cd m x < 4 := fun x => by have := (cd_le M R x).1; omega
    have hs : fnI seats r = 1 ∨ fnI seats r = 2 := by omega
    have ha : a = 0 ∨ a = 1 ∨ a = 2 := by omega
    have hg' : g = 0 ∨ g = 1 ∨ g = 2 := by omega
    unfold code
    rcases hs with hs | hs
    · rw [hs]
      unfold vR
      rw [if_pos rfl]
      have cr : ∀ x, x ≠ g → cd m x ≠ r.toNat := fun x hx z => by
        have := (cd_some M R hr3).mp z
        rw [er] at this
        exact hx (one_in (by omega) hgi (ins_mem.mpr this))
      have tt : ∀ x y : Int, (fnL orders r).idxOf x < (fnL orders r).idxOf y → bt orders r x y = true := fun x y z => decide_eq_true z
      have ff : ∀ x y : Int, (fnL orders r).idxOf y < (fnL orders r).idxOf x → bt orders r x y = false := fun x y z => decide_eq_false (by omega)
      rcases ha with rfl | rfl | rfl <;> rcases hg' with rfl | rfl | rfl
      · exact absurd rfl ne
      · rw [ca, cg, ch 2 (by decide) (by decide), tt _ _ lt]; exact v01 _ hr3 _ (cl 2) (cr 2 (by decide)) _ _
      · rw [ca, cg, ch 1 (by decide) (by decide), tt _ _ lt]; exact v02 _ hr3 _ (cl 1) (cr 1 (by decide)) _ _
      · rw [ca, cg, ch 2 (by decide) (by decide), ff _ _ lt]; exact v10 _ hr3 _ (cl 2) (cr 2 (by decide)) _ _
      · exact absurd rfl ne
      · rw [ca, cg, ch 0 (by decide) (by decide), tt _ _ lt]; exact v12 _ hr3 _ (cl 0) (cr 0 (by decide)) _ _
      · rw [ca, cg, ch 1 (by decide) (by decide), ff _ _ lt]; exact v20 _ hr3 _ (cl 1) (cr 1 (by decide)) _ _
      · rw [ca, cg, ch 0 (by decide) (by decide), ff _ _ lt]; exact v21 _ hr3 _ (cl 0) (cr 0 (by decide)) _ _
      · exact absurd rfl ne
    · rw [hs]
      unfold vR
      rw [if_neg (by decide), if_pos rfl, List.mem_singleton]
      obtain ⟨h', hh, hhg⟩ := two_in ins_nodup (by omega) hgi
      have hh := ins_mem.mp hh
      have hha : h' ≠ a := fun z => hne (by rw [← z]; exact hh)
      have hhl : (fnL orders r).idxOf h' < (fnL orders r).idxOf g := by
        have h1 := mx h' hh
        have h2 : (fnL orders r).idxOf h' ≠ (fnL orders r).idxOf g := fun z => hhg (idx_inj (R.like h' r hh).2 z)
        omega
      have chh : cd m' h' = r.toNat := by rw [ch h' hha hhg]; exact (cd_some M R hr3).mpr (by rw [er]; exact hh)
      obtain ⟨⟨h0, h1⟩, _⟩ := M.rg R hh
      have hh' : h' = 0 ∨ h' = 1 ∨ h' = 2 := by omega
      unfold vD bt
      rcases ha with rfl | rfl | rfl <;> rcases hg' with rfl | rfl | rfl <;> rcases hh' with rfl | rfl | rfl <;> first
        | exact absurd rfl ne
        | exact absurd rfl hhg
        | exact absurd rfl hha
        | (rw [ca, cg, chh, decide_eq_false (by omega : ¬ (fnL orders r).idxOf 0 < (fnL orders r).idxOf 1), decide_eq_false (by omega : ¬ (fnL orders r).idxOf 0 < (fnL orders r).idxOf 2)]; first | done | rfl | (simp <;> omega) | simp)
        | (rw [ca, cg, chh, decide_eq_true (by omega : (fnL orders r).idxOf 0 < (fnL orders r).idxOf 1), decide_eq_false (by omega : ¬ (fnL orders r).idxOf 1 < (fnL orders r).idxOf 2)]; first | done | (simp <;> omega) | simp)
        | (rw [ca, cg, chh, decide_eq_true (by omega : (fnL orders r).idxOf 0 < (fnL orders r).idxOf 2), decide_eq_true (by omega : (fnL orders r).idxOf 1 < (fnL orders r).idxOf 2)]; first | done | (simp <;> omega) | simp)
end
end G
set_option Elab.async false
set_option linter.all false
set_option maxRecDepth 100000
set_option maxHeartbeats 2000000
namespace G
open PySem L2 Evl Pu
/-! ### no way of just two hundred steps -/
theorem n_small : ((List.range 64).filter fun c => decide (c / 16 = 3)).length = 16 := by decide
def crit (s0 s1 s2 : Nat) : Bool := Nat.ble ((List.range 64).filter (okc s0 s1 s2)).length 40 || (Nat.beq s0 2 && Nat.beq s1 2 && Nat.beq s2 2) || (Nat.beq s0 1 && Nat.beq s1 2 && Nat.beq s2 2) || (Nat.beq s0 2 && Nat.beq s1 1 && Nat.beq s2 2) || (Nat.beq s0 2 && Nat.beq s1 2 && Nat.beq s2 1) || (Nat.beq s0 2 && Nat.beq s1 1 && Nat.beq s2 1) || (Nat.beq s0 1 && Nat.beq s1 2 && Nat.beq s2 1) || (Nat.beq s0 1 && Nat.beq s1 1 && Nat.beq s2 2)
theorem n_crit : ((List.range 3).all fun s0 => (List.range 3).all fun s1 => (List.range 3).all fun s2 => crit s0 s1 s2) = true := by decide +kernel
theorem n_seats {s0 s1 s2 : Nat} (h0 : s0 < 3) (h1 : s1 < 3) (h2 : s2 < 3) : ((List.range 64).filter (okc s0 s1 s2)).length ≤ 40 ∨ (s0 = 2 ∧ s1 = 2 ∧ s2 = 2) ∨ (s0 = 1 ∧ s1 = 2 ∧ s2 = 2) ∨ (s0 = 2 ∧ s1 = 1 ∧ s2 = 2) ∨ (s0 = 2 ∧ s1 = 2 ∧ s2 = 1) ∨ (s0 = 2 ∧ s1 = 1 ∧ s2 = 1) ∨ (s0 = 1 ∧ s1 = 2 ∧ s2 = 1) ∨ (s0 = 1 ∧ s1 = 1 ∧ s2 = 2) := by
  have h := List.all_eq_true.mp (List.all_eq_true.mp (List.all_eq_true.mp n_crit s0 (List.mem_range.mpr h0)) s1 (List.mem_range.mpr h1)) s2 (List.mem_range.mpr h2)
  unfold crit at h
  simp only [Bool.or_eq_true, Bool.and_eq_true, Nat.beq_eq, Nat.ble_eq] at h
  omega
def sD (D : Nat) (r : Nat) : Nat := if r = D then 2 else 1
theorem n_acc : ∀ D, D < 3 → ∀ a, a < 3 → ∀ r, r < 3 → ((List.range 64).filter fun c => okc (sD D 0) (sD D 1) (sD D 2) c && !decide (dg c a = r)).length ≤ 40 := by decide +kernel
section
variable {lists orders : List (List Int)} {seats ds : List Int} {m m' : List (Option Int)} {a r g : Int}
structure Wy (lists orders : List (List Int)) (seats ds : List Int) (m : List (Option Int)) : Prop where
  R : ∀ i, i ≤ 200 → Row lists orders seats lists.length (way lists orders seats ds m i)
  go : ∀ i, i < 200 → blkL lists orders seats (way lists orders seats ds m i) ≠ []
  st : blkL lists orders seats (way lists orders seats ds m 200) = []
theorem Wy.hs (W : Wy lists orders seats ds m) : ∀ i, i < 200 → way lists orders seats ds m (i + 1) = Fs lists orders seats ds (i % 5) (way lists orders seats ds m i) := fun i _ => rfl
theorem Wy.hn (W : Wy lists orders seats ds m) : ∀ i, i < 200 → way lists orders seats ds m i ≠ way lists orders seats ds m 200 := fun i hi e => W.go i hi (by rw [e]; exact W.st)
theorem Wy.hc (W : Wy lists orders seats ds m) (M : Mt lists orders seats ds) : ∀ i j, i ≤ 200 → j ≤ 200 → code (way lists orders seats ds m i) = code (way lists orders seats ds m j) → way lists orders seats ds m i = way lists orders seats ds m j := fun i j hi hj e => code_inj M (W.R i hi) (W.R j hj) e
def prr (lists orders : List (List Int)) (seats ds : List Int) (m : List (Option Int)) (i : Nat) : Int × Int := pkd (blkL lists orders seats (way lists orders seats ds m i)) (ds.getD (i % 5) 0)
theorem Wy.pair (W : Wy lists orders seats ds m) (M : Mt lists orders seats ds) {i : Nat} (hi : i < 200) : prr lists orders seats ds m i ∈ blkL lists orders seats (way lists orders seats ds m i) ∧ St lists orders seats (way lists orders seats ds m i) (prr lists orders seats ds m i).1 (prr lists orders seats ds m i).2 (way lists orders seats ds m (i + 1)) := by
  have h1 := (pkd_mem (d := ds.getD (i % 5) 0) (W.go i hi)).2.2
  exact ⟨h1, (nxt_ok M (W.R i (by omega)) h1).2.1⟩
theorem Wy.three (W : Wy lists orders seats ds m) (M : Mt lists orders seats ds) : lists.length = 3 := by
  have n3 := M.n3
  refine Classical.byContradiction fun z => ?_
  have := Do.few (c := code) W.hs W.hn (W.hc M) (W := (List.range 64).filter fun c => decide (c / 16 = 3)) fun i hi => by
    have R := W.R i hi
    obtain ⟨_, _, h2, h3⟩ := dg_code M R
    have hl := R.len
    have : cd (way lists orders seats ds m i) 2 = 3 := (cd_le M R 2).2.mpr (by
      cases e : fnO (way lists orders seats ds m i) 2 with
      | none => rfl
      | some x => have := (fnO_some e).2; omega)
    rw [this] at h2
    refine List.mem_filter.mpr ⟨List.mem_range.mpr h3, decide_eq_true ?_⟩
    unfold dg at h2
    omega
  rw [n_small] at this
  omega
def V3 (orders : List (List Int)) (seats : List Int) (r : Nat) : List Nat := vR (fnI seats (r : Int)) (bt orders (r : Int) 0 1) (bt orders (r : Int) 0 2) (bt orders (r : Int) 1 2) r
theorem Wy.out (W : Wy lists orders seats ds m) (M : Mt lists orders seats ds) (h : (V3 orders seats 0 ++ V3 orders seats 1 ++ V3 orders seats 2).length ≤ 12) : False := by
  refine Do.few_out (c := code) W.hs W.hn (W.hc M) (Φ := vls lists) (ev := fun i => decide (fnI seats (prr lists orders seats ds m i).2 ≤ (ins (way lists orders seats ds m i) (prr lists orders seats ds m i).2).length)) (fun i hi => ?_) ?_ h fun i hi hev => ?_
  · obtain ⟨h1, h2⟩ := W.pair M hi
    exact vls_step M (W.R i (by omega)) h1 h2
  · have h0 := vl_le (m := way lists orders seats ds m 200) M 0
    have h1 := vl_le (m := way lists orders seats ds m 200) M 1
    have h2 := vl_le (m := way lists orders seats ds m 200) M 2
    unfold vls
    omega
  · obtain ⟨h1, h2⟩ := W.pair M hi
    have R := W.R i (by omega)
    have hev := of_decide_eq_true hev
    generalize prr lists orders seats ds m i = p at h1 h2 hev
    obtain ⟨a, r⟩ := p
    have hm := out_mem M R (W.R (i + 1) (by omega)) h1 h2 hev
    obtain ⟨_, hr, _⟩ := blk_mem.mp h1
    obtain ⟨r0, r1⟩ := in_r M.V R hr
    have r3 := M.r3
    have hr : r = 0 ∨ r = 1 ∨ r = 2 := by omega
    rcases hr with rfl | rfl | rfl
    · exact List.mem_append_left _ (List.mem_append_left _ hm)
    · exact List.mem_append_left _ (List.mem_append_right _ hm)
    · exact List.mem_append_right _ hm
structure Cx3 (lists orders : List (List Int)) (seats : List Int) (D : Nat) : Prop where
  D3 : D < 3
  s : ∀ r : Nat, r < 3 → fnI seats (r : Int) = sD D r
  n : lists.length = 3
  acc : ∀ a r : Nat, a < 3 → r < 3 → ((r : Int) ∈ fnL lists (a : Int) ∧ (a : Int) ∈ fnL orders (r : Int))
theorem Wy.full (W : Wy lists orders seats ds m) (M : Mt lists orders seats ds) {D : Nat} (D3 : D < 3) (s : ∀ r : Nat, r < 3 → fnI seats (r : Int) = sD D r) : Cx3 lists orders seats D := by
  refine ⟨D3, s, W.three M, fun a r ha hr => Classical.byContradiction fun z => ?_⟩
  have := Do.few (c := code) W.hs W.hn (W.hc M) (W := (List.range 64).filter fun c => okc (sD D 0) (sD D 1) (sD D 2) c && !decide (dg c a = r)) fun i hi => by
    have R := W.R i hi
    obtain ⟨h0, h1, h2, h3⟩ := dg_code M R
    refine List.mem_filter.mpr ⟨List.mem_range.mpr h3, ?_⟩
    rw [Bool.and_eq_true, ← s 0 (by decide), ← s 1 (by decide), ← s 2 (by decide)]
    refine ⟨code_ok M R, ?_⟩
    rw [Bool.not_eq_true', decide_eq_false_iff_not]
    intro y
    have hd : dg (code (way lists orders seats ds m i)) a = cd (way lists orders seats ds m i) (a : Int) := by
      have : a = 0 ∨ a = 1 ∨ a = 2 := by omega
      rcases this with rfl | rfl | rfl <;> assumption
    rw [hd, cd_some M R hr] at y
    exact z (R.like _ _ y)
  have := n_acc D D3 a ha r hr
  omega
theorem Wy.no (W : Wy lists orders seats ds m) (M : Mt lists orders seats ds) (hC : ∀ D, Cx3 lists orders seats D → False) : False := by
  have s0 := seat_le M 0
  have s1 := seat_le M 1
  have s2 := seat_le M 2
  have f : ((List.range 64).filter (okc (fnI seats 0) (fnI seats 1) (fnI seats 2))).length ≤ 40 → False := fun h => by
    have := Do.few (c := code) W.hs W.hn (W.hc M) (W := (List.range 64).filter (okc (fnI seats 0) (fnI seats 1) (fnI seats 2))) fun i hi => List.mem_filter.mpr ⟨List.mem_range.mpr (dg_code M (W.R i hi)).2.2.2, code_ok M (W.R i hi)⟩
    omega
  have vl : (V3 orders seats 0 ++ V3 orders seats 1 ++ V3 orders seats 2).length = (if fnI seats 0 = 1 then 9 else if fnI seats 0 = 2 then 1 else 0) + (if fnI seats 1 = 1 then 9 else if fnI seats 1 = 2 then 1 else 0) + (if fnI seats 2 = 1 then 9 else if fnI seats 2 = 2 then 1 else 0) := by
    unfold V3
    rw [List.length_append, List.length_append, vR_len _ _ _ _ _ (by decide), vR_len _ _ _ _ _ (by decide), vR_len _ _ _ _ _ (by decide)]
    rfl
  have o := W.out M
  rw [vl] at o
  have sd : ∀ D, D < 3 → fnI seats 0 = sD D 0 → fnI seats 1 = sD D 1 → fnI seats 2 = sD D 2 → False := fun D hD h0 h1 h2 => hC D (W.full M hD fun r hr => by
    have : r = 0 ∨ r = 1 ∨ r = 2 := by omega
    rcases this with rfl | rfl | rfl <;> assumption)
  rcases n_seats (s0 := fnI seats 0) (s1 := fnI seats 1) (s2 := fnI seats 2) (by omega) (by omega) (by omega) with h | h | h | h | h | h | h | h
  · exact f h
  · obtain ⟨h0, h1, h2⟩ := h
    exact o (by rw [h0, h1, h2]; decide)
  · obtain ⟨h0, h1, h2⟩ := h
    exact o (by rw [h0, h1, h2]; decide)
  · obtain ⟨h0, h1, h2⟩ := h
    exact o (by rw [h0, h1, h2]; decide)
  · obtain ⟨h0, h1, h2⟩ := h
    exact o (by rw [h0, h1, h2]; decide)
  · obtain ⟨h0, h1, h2⟩ := h
    exact sd 0 (by decide) h0 h1 h2
  · obtain ⟨h0, h1, h2⟩ := h
    exact sd 1 (by decide) h0 h1 h2
  · obtain ⟨h0, h1, h2⟩ := h
    exact sd 2 (by decide) h0 h1 h2
end
end G
set_option Elab.async false
set_option linter.all false
set_option maxRecDepth 100000
set_option maxHeartbeats 2000000
set_option synthInstance.maxHeartbeats 1000000
set_option synthInstance.maxSize 4000
namespace G
open PySem L2 Evl Pu
/-! ### three rooms in an order -/
def sixL : List (List Int) := [[0, 1, 2], [0, 2, 1], [1, 0, 2], [1, 2, 0], [2, 0, 1], [2, 1, 0]]
theorem six_of {l : List Int} (nd : l.Nodup) (rg : ∀ x, x ∈ l → 0 ≤ x ∧ x < 3) (h0 : (0 : Int) ∈ l) (h1 : (1 : Int) ∈ l) (h2 : (2 : Int) ∈ l) : l ∈ sixL := by
  have hl : l.length = 3 := by
    have a := Do.sub_len (xs := [0, 1, 2]) (ys := l) (by decide) fun x hx => by
      rcases List.mem_cons.mp hx with rfl | hx
      · exact h0
      · rcases List.mem_cons.mp hx with rfl | hx
        · exact h1
        · rw [List.mem_singleton.mp hx]; exact h2
    have b := Do.sub_len (xs := l) (ys := [0, 1, 2]) nd fun x hx => by
      obtain ⟨x0, x1⟩ := rg x hx
      have : x = 0 ∨ x = 1 ∨ x = 2 := by omega
      rcases this with rfl | rfl | rfl <;> decide
    have c : ([0, 1, 2] : List Int).length = 3 := rfl
    omega
  match l, hl with
  | [x, y, z], _ =>
    have hx := rg x (by simp)
    have hy := rg y (by simp)
    have hz := rg z (by simp)
    have hx : x = 0 ∨ x = 1 ∨ x = 2 := by omega
    have hy : y = 0 ∨ y = 1 ∨ y = 2 := by omega
    have hz : z = 0 ∨ z = 1 ∨ z = 2 := by omega
    rcases hx with rfl | rfl | rfl <;> rcases hy with rfl | rfl | rfl <;> rcases hz with rfl | rfl | rfl <;> first | (decide) | (exact absurd nd (by decide))
def qc (l : List Int) : Nat := l.idxOf 0 + 4 * l.idxOf 1 + 16 * l.idxOf 2
theorem rk_qc : ∀ l, l ∈ sixL → ∀ x, x < 3 → Do.rk (qc l) x = l.idxOf (x : Int) := by decide +kernel
theorem qc_six : ∀ l, l ∈ sixL → qc l ∈ Do.six := by decide +kernel
theorem idx_three : ∀ l, l ∈ sixL → l.length = 3 ∧ ∀ x, x < 3 → l.idxOf ((x : Nat) : Int) < 3 ∧ ((x : Nat) : Int) ∈ l := by decide +kernel
def bs (b0 b1 b2 : Bool) (x : Nat) : Bool := match x with | 0 => b0 | 1 => b1 | _ => b2
def cntB (l : List Int) (b0 b1 b2 : Bool) (t : Nat) : Nat := Do.b1 (b0 && decide (l.idxOf 0 < t)) + Do.b1 (b1 && decide (l.idxOf 1 < t)) + Do.b1 (b2 && decide (l.idxOf 2 < t))
def pbI (b0 b1 b2 : Bool) (x : Int) : Bool := if x = 0 then b0 else if x = 1 then b1 else b2
theorem filt_len0 : ∀ l, l ∈ sixL → ∀ b0 b1 b2 : Bool, ∀ t, t < 4 → ((l.filter fun r => decide (l.idxOf r < t)).filter (pbI b0 b1 b2)).length = cntB l b0 b1 b2 t := by decide +kernel
theorem filt_pos0 : ∀ l, l ∈ sixL → ∀ b0 b1 b2 : Bool, ∀ t, t < 4 → ∀ x, x < 3 → ∀ j, j < 3 → ((l.filter fun r => decide (l.idxOf r < t)).filter (pbI b0 b1 b2))[j]? = some ((x : Nat) : Int) → j = cntB l b0 b1 b2 (l.idxOf ((x : Nat) : Int)) := by decide +kernel
theorem filt_eq {l : List Int} (h : l ∈ sixL) (p : Int → Bool) (t : Nat) : (l.filter fun r => decide (l.idxOf r < t)).filter p = (l.filter fun r => decide (l.idxOf r < t)).filter (pbI (p 0) (p 1) (p 2)) := by
  have rg : ∀ l, l ∈ sixL → ∀ x, x ∈ l → x = 0 ∨ x = 1 ∨ x = 2 := by decide
  refine List.filter_congr fun x hx => ?_
  rcases rg l h x (List.mem_filter.mp hx).1 with rfl | rfl | rfl <;> rfl
theorem filt_len {l : List Int} (h : l ∈ sixL) (p : Int → Bool) {t : Nat} (ht : t < 4) : ((l.filter fun r => decide (l.idxOf r < t)).filter p).length = cntB l (p 0) (p 1) (p 2) t := by
  rw [filt_eq h]; exact filt_len0 l h _ _ _ t ht
theorem filt_pos {l : List Int} (h : l ∈ sixL) (p : Int → Bool) {t : Nat} (ht : t < 4) {x : Nat} (hx : x < 3) {j : Nat} (e : ((l.filter fun r => decide (l.idxOf r < t)).filter p)[j]? = some ((x : Nat) : Int)) : j = cntB l (p 0) (p 1) (p 2) (l.idxOf ((x : Nat) : Int)) := by
  have hj : j < 3 := by
    have h1 := (List.getElem?_eq_some_iff.mp e).1
    have h2 := List.length_filter_le p (l.filter fun r => decide (l.idxOf r < t))
    have h3 := List.length_filter_le (fun r => decide (l.idxOf r < t)) l
    have := (idx_three l h).1
    omega
  rw [filt_eq h] at e
  exact filt_pos0 l h _ _ _ t ht x hx j hj e
theorem c_all : ∀ l, l ∈ sixL → ∀ b0 b1 b2 : Bool, ∀ r', r' < 3 → (∀ x, x < 3 → x ≠ r' → bs b0 b1 b2 x = true) → cntB l b0 b1 b2 3 = 2 + Do.b1 (bs b0 b1 b2 r') := by decide +kernel
theorem c_two : ∀ l, l ∈ sixL → ∀ b0 b1 b2 : Bool, ∀ r, r < 3 → ∀ r', r' < 3 → r ≠ r' → (∀ x, x < 3 → x ≠ r → x ≠ r' → bs b0 b1 b2 x = true) → cntB l b0 b1 b2 3 = 1 + Do.b1 (bs b0 b1 b2 r) + Do.b1 (bs b0 b1 b2 r') := by decide +kernel
theorem c_lt : ∀ l, l ∈ sixL → ∀ b0 b1 b2 : Bool, ∀ r', r' < 3 → (∀ x, x < 3 → x ≠ r' → bs b0 b1 b2 x = true) → cntB l b0 b1 b2 (l.idxOf ((r' : Nat) : Int)) = l.idxOf ((r' : Nat) : Int) := by decide +kernel
theorem c_up : ∀ l, l ∈ sixL → ∀ b0 b1 b2 : Bool, ∀ r', r' < 3 → ∀ r, r < 3 → l.idxOf ((r : Nat) : Int) < l.idxOf ((r' : Nat) : Int) → (∀ x, x < 3 → x ≠ r' → bs b0 b1 b2 x = true) → cntB l b0 b1 b2 (l.idxOf ((r : Nat) : Int)) = l.idxOf ((r : Nat) : Int) := by decide +kernel
theorem c_g : ∀ l, l ∈ sixL → ∀ b0 b1 b2 : Bool, ∀ r, r < 3 → ∀ r', r' < 3 → r ≠ r' → (∀ x, x < 3 → x ≠ r → x ≠ r' → bs b0 b1 b2 x = true) → cntB l b0 b1 b2 (l.idxOf ((r : Nat) : Int)) = l.idxOf ((r : Nat) : Int) - Do.b1 (decide (l.idxOf ((r' : Nat) : Int) < l.idxOf ((r : Nat) : Int)) && !bs b0 b1 b2 r') := by decide +kernel
theorem bet_qc {l : List Int} (h : l ∈ sixL) {x y : Nat} (hx : x < 3) (hy : y < 3) : Do.bet (qc l) x y = decide (l.idxOf (x : Int) < l.idxOf (y : Int)) := by
  unfold Do.bet
  rw [rk_qc l h x hx, rk_qc l h y hy]
  unfold Nat.blt
  rw [Bool.eq_iff_iff, Nat.ble_eq, decide_eq_true_eq]
  omega
end G
set_option Elab.async false
set_option linter.all false
set_option maxRecDepth 100000
set_option maxHeartbeats 2000000
namespace G
open PySem L2 Evl Pu
section
variable {lists orders : List (List Int)} {seats ds : List Int} {m m' : List (Option Int)} {a r g : Int} {D : Nat}
abbrev Lk (lists : List (List Int)) (k : Nat) : List Int := fnL lists (k : Int)
theorem Cx3.six (C : Cx3 lists orders seats D) (M : Mt lists orders seats ds) {k : Nat} (hk : k < 3) : Lk lists k ∈ sixL := by
  have r3 := M.r3
  have n := C.n
  obtain ⟨nd, rg⟩ := M.V.l _ (at_L (xs := lists) (i := (k : Int)) (by omega) (by omega)).2
  exact six_of nd (fun x hx => ⟨(rg x hx).1, by have := (rg x hx).2; omega⟩) (C.acc k 0 hk (by decide)).1 (C.acc k 1 hk (by decide)).1 (C.acc k 2 hk (by decide)).1
theorem Cx3.orl (C : Cx3 lists orders seats D) (M : Mt lists orders seats ds) : orders.length = 3 := by
  have r3 := M.r3
  have h := (C.acc 0 2 (by decide) (by decide)).1
  have := M.V.l _ (at_L (xs := lists) (i := ((0 : Nat) : Int)) (by omega) (by have := C.n; omega)).2
  have := (this.2 _ h).2
  omega
theorem Cx3.sixO (C : Cx3 lists orders seats D) (M : Mt lists orders seats ds) {k : Nat} (hk : k < 3) : Lk orders k ∈ sixL := by
  have n := C.n
  have ol := C.orl M
  obtain ⟨nd, rg⟩ := M.V.o _ (at_L (xs := orders) (i := (k : Int)) (by omega) (by omega)).2
  exact six_of nd (fun x hx => ⟨(rg x hx).1, by have := (rg x hx).2; omega⟩) (C.acc 0 k (by decide) hk).2 (C.acc 1 k (by decide) hk).2 (C.acc 2 k (by decide) hk).2
def tb (orders : List (List Int)) (seats : List Int) (m : List (Option Int)) (k x : Nat) : Bool := takeB orders seats m (x : Int) (k : Int)
def nn (lists orders : List (List Int)) (seats : List Int) (m : List (Option Int)) (k : Nat) : Nat := cntB (Lk lists k) (tb orders seats m k 0) (tb orders seats m k 1) (tb orders seats m k 2) (pl (Lk lists k) (fnO m (k : Int)))
def blkA (lists orders : List (List Int)) (seats : List Int) (m : List (Option Int)) (k : Nat) : List Int := ((Lk lists k).filter fun r => decide (pl (Lk lists k) (some r) < pl (Lk lists k) (fnO m (k : Int)))).filter fun r => takeB orders seats m r (k : Int)
theorem pl_lt (C : Cx3 lists orders seats D) (M : Mt lists orders seats ds) {k : Nat} (hk : k < 3) (o : Option Int) : pl (Lk lists k) o < 4 := by
  have h := (idx_three _ (C.six M hk)).1
  unfold pl
  cases o with
  | none => show (Lk lists k).length < 4; omega
  | some x => have := List.idxOf_le_length (l := Lk lists k) (a := x); show (Lk lists k).idxOf x < 4; omega
theorem blkA_len (C : Cx3 lists orders seats D) (M : Mt lists orders seats ds) {k : Nat} (hk : k < 3) : (blkA lists orders seats m k).length = nn lists orders seats m k :=
  filt_len (C.six M hk) (fun r => takeB orders seats m r (k : Int)) (pl_lt C M hk _)
theorem blkA_pos (C : Cx3 lists orders seats D) (M : Mt lists orders seats ds) {k : Nat} (hk : k < 3) {x : Nat} (hx : x < 3) {j : Nat} (e : (blkA lists orders seats m k)[j]? = some ((x : Nat) : Int)) : j = cntB (Lk lists k) (tb orders seats m k 0) (tb orders seats m k 1) (tb orders seats m k 2) ((Lk lists k).idxOf ((x : Nat) : Int)) :=
  filt_pos (C.six M hk) (fun r => takeB orders seats m r (k : Int)) (pl_lt C M hk _) hx e
theorem blk_split (C : Cx3 lists orders seats D) : blkL lists orders seats m = (blkA lists orders seats m 0).map (fun r => ((0 : Int), r)) ++ ((blkA lists orders seats m 1).map (fun r => ((1 : Int), r)) ++ (blkA lists orders seats m 2).map fun r => ((2 : Int), r)) := by
  unfold blkL
  rw [C.n, show rngL ((3 : Nat) : Int) = [0, 1, 2] from rfl, List.flatMap_cons, List.flatMap_cons, List.flatMap_cons, List.flatMap_nil, List.append_nil]
  rfl
theorem blk_len (C : Cx3 lists orders seats D) (M : Mt lists orders seats ds) : (blkL lists orders seats m).length = nn lists orders seats m 0 + nn lists orders seats m 1 + nn lists orders seats m 2 := by
  rw [blk_split C, List.length_append, List.length_append, List.length_map, List.length_map, List.length_map, blkA_len C M (by decide), blkA_len C M (by decide), blkA_len C M (by decide)]
  omega
theorem map_at {xs : List Int} {c : Int} {i : Nat} {p : Int × Int} (h : (xs.map fun r => (c, r))[i]? = some p) : p.1 = c ∧ xs[i]? = some p.2 := by
  rw [List.getElem?_map] at h
  cases e : xs[i]? with
  | none => rw [e] at h; cases h
  | some y => rw [e] at h; cases h; exact ⟨rfl, rfl⟩
theorem blk_at (C : Cx3 lists orders seats D) (M : Mt lists orders seats ds) {i a x : Nat} (ha : a < 3) (hx : x < 3) (h : (blkL lists orders seats m)[i]? = some (((a : Nat) : Int), ((x : Nat) : Int))) :
    i = Do.bef a (nn lists orders seats m 0) (nn lists orders seats m 1) + cntB (Lk lists a) (tb orders seats m a 0) (tb orders seats m a 1) (tb orders seats m a 2) ((Lk lists a).idxOf ((x : Nat) : Int)) := by
  have l0 := blkA_len (m := m) C M (k := 0) (by decide)
  have l1 := blkA_len (m := m) C M (k := 1) (by decide)
  rw [blk_split C] at h
  by_cases q0 : i < (blkA lists orders seats m 0).length
  · rw [List.getElem?_append_left (by rw [List.length_map]; exact q0)] at h
    obtain ⟨e1, e2⟩ := map_at h
    have : a = 0 := by have e1 : ((a : Nat) : Int) = 0 := e1; omega
    subst this
    have := blkA_pos C M (by decide) hx e2
    show i = 0 + _
    omega
  · rw [List.getElem?_append_right (by rw [List.length_map]; omega), List.length_map] at h
    by_cases q1 : i - (blkA lists orders seats m 0).length < (blkA lists orders seats m 1).length
    · rw [List.getElem?_append_left (by rw [List.length_map]; exact q1)] at h
      obtain ⟨e1, e2⟩ := map_at h
      have : a = 1 := by have e1 : ((a : Nat) : Int) = 1 := e1; omega
      subst this
      have := blkA_pos C M (by decide) hx e2
      show i = nn lists orders seats m 0 + _
      omega
    · rw [List.getElem?_append_right (by rw [List.length_map]; omega), List.length_map] at h
      obtain ⟨e1, e2⟩ := map_at h
      have : a = 2 := by have e1 : ((a : Nat) : Int) = 2 := e1; omega
      subst this
      have := blkA_pos C M (by decide) hx e2
      show i = Nat.add (nn lists orders seats m 0) (nn lists orders seats m 1) + _
      have e : Nat.add (nn lists orders seats m 0) (nn lists orders seats m 1) = nn lists orders seats m 0 + nn lists orders seats m 1 := rfl
      rw [e]
      omega
/-! what a room says -/
theorem tb_free (C : Cx3 lists orders seats D) {k x : Nat} (hk : k < 3) (hx : x < 3) (h : ∀ j, fnO m j ≠ some ((x : Nat) : Int)) : tb orders seats m k x = true := by
  have : ins m (x : Int) = [] := List.eq_nil_iff_forall_not_mem.mpr fun j hj => h j (ins_mem.mp hj)
  unfold tb takeB
  rw [this, decide_eq_true (C.acc k x hk hx).2, C.s x hx, decide_eq_true (by unfold sD; split <;> decide)]
  rfl
def mao (orders : List (List Int)) (D r : Nat) : Nat := if r = D then 0 else qc (Lk orders r)
def ma (lists orders : List (List Int)) (D : Nat) : Do.Ma := ⟨D, qc (Lk lists 0), qc (Lk lists 1), qc (Lk lists 2), mao orders D 0, mao orders D 1, mao orders D 2⟩
theorem ma_q {x : Nat} (hx : x < 3) : (ma lists orders D).q x = qc (Lk lists x) := by
  have : x = 0 ∨ x = 1 ∨ x = 2 := by omega
  rcases this with rfl | rfl | rfl <;> rfl
theorem ma_o {x : Nat} (hx : x < 3) (ne : x ≠ D) : (ma lists orders D).o x = qc (Lk orders x) := by
  have h : (ma lists orders D).o x = mao orders D x := by
    have : x = 0 ∨ x = 1 ∨ x = 2 := by omega
    rcases this with rfl | rfl | rfl <;> rfl
  rw [h]
  exact if_neg ne
theorem ma_rk (C : Cx3 lists orders seats D) (M : Mt lists orders seats ds) {k x : Nat} (hk : k < 3) (hx : x < 3) : Do.rk ((ma lists orders D).q k) x = (Lk lists k).idxOf ((x : Nat) : Int) := by
  rw [ma_q hk]; exact rk_qc _ (C.six M hk) x hx
theorem ma_bet (C : Cx3 lists orders seats D) (M : Mt lists orders seats ds) {r x y : Nat} (hr : r < 3) (ne : r ≠ D) (hx : x < 3) (hy : y < 3) : Do.bet ((ma lists orders D).o r) x y = decide ((Lk orders r).idxOf ((x : Nat) : Int) < (Lk orders r).idxOf ((y : Nat) : Int)) := by
  rw [ma_o hr ne]; exact bet_qc (C.sixO M hr) hx hy
theorem tb_one (C : Cx3 lists orders seats D) (M : Mt lists orders seats ds) {k x j : Nat} (hk : k < 3) (hx : x < 3) (hj : j < 3) (h : ∀ y, fnO m y = some ((x : Nat) : Int) ↔ y = ((j : Nat) : Int)) : tb orders seats m k x = (ma lists orders D).occ x k j := by
  have hi : ins m (x : Int) = [((j : Nat) : Int)] := by
    refine List.perm_singleton.mp ((List.perm_ext_iff_of_nodup ins_nodup (by simp)).mpr fun y => ?_)
    rw [ins_mem, h y, List.mem_singleton]
  unfold tb takeB Do.Ma.occ
  rw [hi, decide_eq_true (C.acc k x hk hx).2, C.s x hx, Bool.true_and]
  show (decide (1 < sD D x) || ([((j : Nat) : Int)].any fun j => decide ((fnL orders (x : Int)).idxOf (k : Int) < (fnL orders (x : Int)).idxOf j))) = match Nat.beq x D with | true => true | false => Do.bet ((ma lists orders D).o x) k j
  by_cases q : x = D
  · rw [show Nat.beq x D = true from Nat.beq_eq ▸ q, decide_eq_true (by unfold sD; rw [if_pos q]; decide)]
    rfl
  · rw [show Nat.beq x D = false from by
      cases e : Nat.beq x D with
      | false => rfl
      | true => exact absurd (Nat.eq_of_beq_eq_true e) q, decide_eq_false (by unfold sD; rw [if_neg q]; decide), ma_bet C M hx q hk hj]
    simp
end
end G
set_option Elab.async false
set_option linter.all false
set_option maxRecDepth 100000
set_option maxHeartbeats 2000000
namespace G
open PySem L2 Evl Pu
section
variable {lists orders : List (List Int)} {seats ds : List Int} {m m' : List (Option Int)} {D d a g R r' i : Nat}
theorem bs_f (f : Nat → Bool) {x : Nat} (hx : x < 3) : bs (f 0) (f 1) (f 2) x = f x := by
  have : x = 0 ∨ x = 1 ∨ x = 2 := by omega
  rcases this with rfl | rfl | rfl <;> rfl
theorem b1_le (b : Bool) : Do.b1 b ≤ 1 := by cases b <;> decide
theorem cntB_le (l : List Int) (b0 b1 b2 : Bool) (t : Nat) : cntB l b0 b1 b2 t ≤ 3 := by
  unfold cntB
  have h0 := b1_le (b0 && decide (l.idxOf 0 < t))
  have h1 := b1_le (b1 && decide (l.idxOf 1 < t))
  have h2 := b1_le (b2 && decide (l.idxOf 2 < t))
  omega
abbrev tC (lists orders : List (List Int)) (seats : List Int) (m : List (Option Int)) (k t : Nat) : Nat := cntB (Lk lists k) (tb orders seats m k 0) (tb orders seats m k 1) (tb orders seats m k 2) t
theorem at3_ok (C : Cx3 lists orders seats D) (M : Mt lists orders seats ds) (ha : a < 3) (hR : R < 3) (h : (blkL lists orders seats m)[i]? = some (((a : Nat) : Int), ((R : Nat) : Int))) (hd : d < 12) (hdi : d % (blkL lists orders seats m).length = i) {v : Nat} (hv : tC lists orders seats m a ((Lk lists a).idxOf ((R : Nat) : Int)) = v)
    {n : Nat → Nat} (hn : ∀ k, k < 3 → n k = nn lists orders seats m k) : (Do.at3 a (n 0) (n 1) (n 2) v).testBit d = true := by
  rw [hn 0 (by decide), hn 1 (by decide), hn 2 (by decide)]
  have h1 := blk_at C M ha hR h
  have h2 := blk_len (m := m) C M
  have h3 := (List.getElem?_eq_some_iff.mp h).1
  have c0 : nn lists orders seats m 0 ≤ 3 := cntB_le _ _ _ _ _
  have c1 : nn lists orders seats m 1 ≤ 3 := cntB_le _ _ _ _ _
  have c2 : nn lists orders seats m 2 ≤ 3 := cntB_le _ _ _ _ _
  have hv' : cntB (Lk lists a) (tb orders seats m a 0) (tb orders seats m a 1) (tb orders seats m a 2) ((Lk lists a).idxOf ((R : Nat) : Int)) = v := hv
  rw [hv'] at h1
  unfold Do.at3
  refine Do.mk_ok _ ?_ d hd _ ?_ ?_
  · show nn lists orders seats m 0 + nn lists orders seats m 1 + nn lists orders seats m 2 < 10
    omega
  · show Do.bef a (nn lists orders seats m 0) (nn lists orders seats m 1) + v < nn lists orders seats m 0 + nn lists orders seats m 1 + nn lists orders seats m 2
    omega
  · show d % (nn lists orders seats m 0 + nn lists orders seats m 1 + nn lists orders seats m 2) = Do.bef a (nn lists orders seats m 0) (nn lists orders seats m 1) + v
    rw [← h2, hdi, h1]
theorem beq_t (x : Nat) : Nat.beq x x = true := Nat.beq_refl x
theorem beq_f {x y : Nat} (h : x ≠ y) : Nat.beq x y = false := by
  cases e : Nat.beq x y with
  | false => rfl
  | true => exact absurd (Nat.eq_of_beq_eq_true e) h
theorem blt_t {x y : Nat} (h : x < y) : Nat.blt x y = true := by
  unfold Nat.blt
  exact Nat.ble_eq.mpr h
theorem pl_none (C : Cx3 lists orders seats D) (M : Mt lists orders seats ds) {k : Nat} (hk : k < 3) (h : fnO m (k : Int) = none) : nn lists orders seats m k = tC lists orders seats m k 3 := by
  unfold nn
  rw [h]
  show cntB _ _ _ _ (Lk lists k).length = _
  rw [(idx_three _ (C.six M hk)).1]
theorem pl_some {k x : Nat} (h : fnO m (k : Int) = some ((x : Nat) : Int)) : nn lists orders seats m k = tC lists orders seats m k ((Lk lists k).idxOf ((x : Nat) : Int)) := by
  unfold nn
  rw [h]
  rfl
theorem t1 (C : Cx3 lists orders seats D) (M : Mt lists orders seats ds) (ha : a < 3) (hR : R < 3) (h : (blkL lists orders seats m)[i]? = some (((a : Nat) : Int), ((R : Nat) : Int))) (hd : d < 12) (hdi : d % (blkL lists orders seats m).length = i)
    (hr : r' < 3) (e : ∀ x : Int, fnO m x = if x = ((a : Nat) : Int) then some ((r' : Nat) : Int) else none) (lt : (Lk lists a).idxOf ((R : Nat) : Int) < (Lk lists a).idxOf ((r' : Nat) : Int)) : ((ma lists orders D).m1 a R r').testBit d = true := by
  have fr : ∀ k, k < 3 → ∀ x, x < 3 → x ≠ r' → tb orders seats m k x = true := fun k hk x hx ne => tb_free C hk hx fun j z => by
    rw [e j] at z
    by_cases q : j = ((a : Nat) : Int)
    · rw [if_pos q] at z; have := Option.some.inj z; omega
    · rw [if_neg q] at z; cases z
  have fb : ∀ k, k < 3 → ∀ x, x < 3 → x ≠ r' → bs (tb orders seats m k 0) (tb orders seats m k 1) (tb orders seats m k 2) x = true := fun k hk x hx ne => by rw [bs_f _ hx]; exact fr k hk x hx ne
  unfold Do.Ma.m1
  rw [ma_rk C M ha hR, ma_rk C M ha hr, blt_t lt]
  refine at3_ok (n := fun k => match Nat.beq k a with | true => (Lk lists a).idxOf ((r' : Nat) : Int) | false => Nat.add 2 (Do.b1 ((ma lists orders D).occ r' k a))) C M ha hR h hd hdi (c_up _ (C.six M ha) _ _ _ r' hr R hR lt (fb a ha)) fun k hk => ?_
  by_cases q : k = a
  · subst q
    rw [beq_t, pl_some (x := r') (by rw [e, if_pos rfl])]
    exact (c_lt _ (C.six M hk) _ _ _ r' hr (fb k hk)).symm
  · rw [beq_f q, pl_none C M hk (by rw [e, if_neg (by omega)])]
    have := c_all _ (C.six M hk) _ _ _ r' hr (fb k hk)
    rw [bs_f _ hr, tb_one (j := a) C M hk hr ha fun y => by
      rw [e y]
      by_cases z : y = ((a : Nat) : Int)
      · rw [if_pos z]; exact ⟨fun _ => z, fun _ => rfl⟩
      · rw [if_neg z]; exact ⟨fun w => (by cases w), fun w => absurd w z⟩] at this
    exact this.symm
theorem occ_ne (ne : R ≠ D) (k j : Nat) : (ma lists orders D).occ R k j = Do.bet ((ma lists orders D).o R) k j := by
  unfold Do.Ma.occ
  show (match Nat.beq R D with | true => true | false => Do.bet ((ma lists orders D).o R) k j) = _
  rw [beq_f ne]
theorem third (ha : a < 3) (hg : g < 3) (ne : g ≠ a) {k : Nat} (hk : k < 3) (h1 : k ≠ a) (h2 : k ≠ g) : Do.oth a g = k := by
  show 3 - (a + g) = k
  omega
theorem t2 (C : Cx3 lists orders seats D) (M : Mt lists orders seats ds) (ha : a < 3) (hR : R < 3) (h : (blkL lists orders seats m)[i]? = some (((a : Nat) : Int), ((R : Nat) : Int))) (hd : d < 12) (hdi : d % (blkL lists orders seats m).length = i)
    (hg : g < 3) (ne : g ≠ a) (nD : R ≠ D) (e : ∀ x : Int, fnO m x = if x = ((g : Nat) : Int) then some ((R : Nat) : Int) else none) (lt : (Lk orders R).idxOf ((a : Nat) : Int) < (Lk orders R).idxOf ((g : Nat) : Int)) : ((ma lists orders D).m2 a R g).testBit d = true := by
  have fr : ∀ k, k < 3 → ∀ x, x < 3 → x ≠ R → tb orders seats m k x = true := fun k hk x hx ne => tb_free C hk hx fun j z => by
    rw [e j] at z
    by_cases q : j = ((g : Nat) : Int)
    · rw [if_pos q] at z; have := Option.some.inj z; omega
    · rw [if_neg q] at z; cases z
  have fb : ∀ k, k < 3 → ∀ x, x < 3 → x ≠ R → bs (tb orders seats m k 0) (tb orders seats m k 1) (tb orders seats m k 2) x = true := fun k hk x hx ne => by rw [bs_f _ hx]; exact fr k hk x hx ne
  have tR : ∀ k, k < 3 → tb orders seats m k R = Do.bet ((ma lists orders D).o R) k g := fun k hk => by
    rw [tb_one (j := g) C M hk hR hg fun y => by
      rw [e y]
      by_cases z : y = ((g : Nat) : Int)
      · rw [if_pos z]; exact ⟨fun _ => z, fun _ => rfl⟩
      · rw [if_neg z]; exact ⟨fun w => (by cases w), fun w => absurd w z⟩, occ_ne nD]
  have bt' : Do.bet ((ma lists orders D).o R) a g = true := by rw [ma_bet C M hR nD ha hg]; exact decide_eq_true lt
  unfold Do.Ma.m2
  rw [bt']
  refine at3_ok (n := Do.num a g 3 (Do.rk ((ma lists orders D).q g) R) (Nat.add 2 (Do.b1 (Do.bet ((ma lists orders D).o R) (Do.oth a g) g)))) C M ha hR h hd hdi ?_ fun k hk => ?_
  · rw [ma_rk C M ha hR]
    exact c_lt _ (C.six M ha) _ _ _ R hR (fb a ha)
  · unfold Do.num
    by_cases q : k = a
    · subst q
      rw [beq_t, pl_none C M hk (by rw [e, if_neg (by omega)])]
      have := c_all _ (C.six M hk) _ _ _ R hR (fb k hk)
      rw [bs_f _ hR, tR k hk, bt'] at this
      exact this.symm
    · rw [beq_f q]
      by_cases q2 : k = g
      · subst q2
        dsimp only
        rw [beq_t, pl_some (x := R) (by rw [e, if_pos rfl])]
        dsimp only
        rw [ma_rk C M hk hR]
        exact (c_lt _ (C.six M hk) _ _ _ R hR (fb k hk)).symm
      · dsimp only
        rw [beq_f q2, pl_none C M hk (by rw [e, if_neg (by omega)]), third ha hg ne hk q q2]
        have := c_all _ (C.six M hk) _ _ _ R hR (fb k hk)
        rw [bs_f _ hR, tR k hk] at this
        exact this.symm
theorem t3 (C : Cx3 lists orders seats D) (M : Mt lists orders seats ds) (ha : a < 3) (hR : R < 3) (h : (blkL lists orders seats m)[i]? = some (((a : Nat) : Int), ((R : Nat) : Int))) (hd : d < 12) (hdi : d % (blkL lists orders seats m).length = i)
    (hg : g < 3) (ne : g ≠ a) (nD : R ≠ D) (hr : r' < 3) (nr : R ≠ r') (e : ∀ x : Int, fnO m x = if x = ((g : Nat) : Int) then some ((R : Nat) : Int) else if x = ((a : Nat) : Int) then some ((r' : Nat) : Int) else none) (lt : (Lk orders R).idxOf ((a : Nat) : Int) < (Lk orders R).idxOf ((g : Nat) : Int))
    (up : (Lk lists a).idxOf ((R : Nat) : Int) < (Lk lists a).idxOf ((r' : Nat) : Int)) : ((ma lists orders D).m3 a R g r').testBit d = true := by
  have fr : ∀ k, k < 3 → ∀ x, x < 3 → x ≠ R → x ≠ r' → tb orders seats m k x = true := fun k hk x hx n1 n2 => tb_free C hk hx fun j z => by
    rw [e j] at z
    by_cases q : j = ((g : Nat) : Int)
    · rw [if_pos q] at z; have := Option.some.inj z; omega
    · rw [if_neg q] at z
      by_cases q2 : j = ((a : Nat) : Int)
      · rw [if_pos q2] at z; have := Option.some.inj z; omega
      · rw [if_neg q2] at z; cases z
  have tR : ∀ k, k < 3 → tb orders seats m k R = Do.bet ((ma lists orders D).o R) k g := fun k hk => by
    rw [tb_one (j := g) C M hk hR hg fun y => by
      rw [e y]
      by_cases z : y = ((g : Nat) : Int)
      · rw [if_pos z]; exact ⟨fun _ => z, fun _ => rfl⟩
      · rw [if_neg z]
        refine ⟨fun w => ?_, fun w => absurd w z⟩
        by_cases q2 : y = ((a : Nat) : Int)
        · rw [if_pos q2] at w; have := Option.some.inj w; omega
        · rw [if_neg q2] at w; exact absurd w (fun z3 => (by cases z3)), occ_ne nD]
  have tr : ∀ k, k < 3 → tb orders seats m k r' = (ma lists orders D).occ r' k a := fun k hk => tb_one (j := a) C M hk hr ha fun y => by
    rw [e y]
    by_cases z : y = ((g : Nat) : Int)
    · rw [if_pos z]
      refine ⟨fun y => ?_, fun y => ?_⟩
      · have := Option.some.inj y; omega
      · omega
    · rw [if_neg z]
      by_cases q2 : y = ((a : Nat) : Int)
      · rw [if_pos q2]; exact ⟨fun _ => q2, fun _ => rfl⟩
      · rw [if_neg q2]; exact ⟨fun w => (by cases w), fun w => absurd w q2⟩
  have bt' : Do.bet ((ma lists orders D).o R) a g = true := by rw [ma_bet C M hR nD ha hg]; exact decide_eq_true lt
  have fb2 : ∀ k, k < 3 → ∀ x, x < 3 → x ≠ R → x ≠ r' → bs (tb orders seats m k 0) (tb orders seats m k 1) (tb orders seats m k 2) x = true := fun k hk x hx n1 n2 => by rw [bs_f _ hx]; exact fr k hk x hx n1 n2
  have fba : ∀ x, x < 3 → x ≠ r' → bs (tb orders seats m a 0) (tb orders seats m a 1) (tb orders seats m a 2) x = true := fun x hx n2 => by
    rw [bs_f _ hx]
    by_cases z : x = R
    · rw [z, tR a ha, bt']
    · exact fr a ha x hx z n2
  unfold Do.Ma.m3
  rw [bt', ma_rk C M ha hR, ma_rk C M ha hr, blt_t up, Bool.true_and]
  refine at3_ok (n := Do.num a g ((Lk lists a).idxOf ((r' : Nat) : Int)) (Nat.sub (Do.rk ((ma lists orders D).q g) R) (Do.b1 (Nat.blt (Do.rk ((ma lists orders D).q g) r') (Do.rk ((ma lists orders D).q g) R) && !(ma lists orders D).occ r' g a))) (Nat.add (Nat.add 1 (Do.b1 (Do.bet ((ma lists orders D).o R) (Do.oth a g) g))) (Do.b1 ((ma lists orders D).occ r' (Do.oth a g) a)))) C M ha hR h hd hdi (c_up _ (C.six M ha) _ _ _ r' hr R hR up fba) fun k hk => ?_
  unfold Do.num
  by_cases q : k = a
  · subst q
    rw [beq_t, pl_some (x := r') (by rw [e, if_neg (by omega), if_pos rfl])]
    exact (c_lt _ (C.six M hk) _ _ _ r' hr fba).symm
  · rw [beq_f q]
    by_cases q2 : k = g
    · subst q2
      dsimp only
      rw [beq_t, pl_some (x := R) (by rw [e, if_pos rfl])]
      dsimp only
      have := c_g _ (C.six M hk) _ _ _ R hR r' hr nr (fb2 k hk)
      rw [bs_f _ hr, tr k hk] at this
      rw [ma_rk C M hk hR, ma_rk C M hk hr]
      have eb : Nat.blt ((Lk lists k).idxOf ((r' : Nat) : Int)) ((Lk lists k).idxOf ((R : Nat) : Int)) = decide ((Lk lists k).idxOf ((r' : Nat) : Int) < (Lk lists k).idxOf ((R : Nat) : Int)) := by
        unfold Nat.blt
        rw [Bool.eq_iff_iff, Nat.ble_eq, decide_eq_true_eq]
        omega
      rw [eb]
      exact this.symm
    · dsimp only
      rw [beq_f q2, pl_none C M hk (by rw [e, if_neg (by omega), if_neg (by omega)]), third ha hg ne hk q q2]
      have := c_two _ (C.six M hk) _ _ _ R hR r' hr nr (fb2 k hk)
      rw [bs_f _ hR, bs_f _ hr, tR k hk, tr k hk] at this
      exact this.symm
end
end G
set_option Elab.async false
set_option linter.all false
set_option maxRecDepth 100000
set_option maxHeartbeats 2000000
namespace G
open PySem L2 Evl Pu
theorem tl (x y d : Nat) : (Nat.lor x y).testBit d = (x.testBit d || y.testBit d) := Nat.testBit_or x y d
theorem ta (x y d : Nat) : (Nat.land x y).testBit d = (x.testBit d && y.testBit d) := Nat.testBit_and x y d
theorem tx (x y d : Nat) : (Nat.xor x y).testBit d = (x.testBit d ^^ y.testBit d) := Nat.testBit_xor x y d
theorem full_bit : ∀ d, d < 12 → (4095 : Nat).testBit d = true := by decide
theorem im_1 (A : Do.Ma) {a R r' d : Nat} (hr : r' < 3) (h : (A.m1 a R r').testBit d = true) : (A.im a R).testBit d = true := by
  have : r' = 0 ∨ r' = 1 ∨ r' = 2 := by omega
  unfold Do.Ma.im
  dsimp only
  cases Nat.beq R A.D <;> rcases this with rfl | rfl | rfl <;> simp only [tl, h, Bool.or_true, Bool.true_or]
theorem y_2 (A : Do.Ma) {a R g d : Nat} (ha : a < 3) (hg : g < 3) (ne : g ≠ a) (nD : R ≠ A.D) (h : (A.m2 a R g).testBit d = true) : (A.y a R).testBit d = true := by
  have a3 : a = 0 ∨ a = 1 ∨ a = 2 := by omega
  have g3 : g = 0 ∨ g = 1 ∨ g = 2 := by omega
  unfold Do.Ma.y
  dsimp only
  rw [beq_f nD]
  rcases a3 with rfl | rfl | rfl <;> rcases g3 with rfl | rfl | rfl <;> first | (exact absurd rfl ne) | (simp only [tl, h, Bool.or_true, Bool.true_or])
theorem im_2 (A : Do.Ma) {a R g d : Nat} (ha : a < 3) (hg : g < 3) (ne : g ≠ a) (nD : R ≠ A.D) (h : (A.m2 a R g).testBit d = true) : (A.im a R).testBit d = true := by
  have a3 : a = 0 ∨ a = 1 ∨ a = 2 := by omega
  have g3 : g = 0 ∨ g = 1 ∨ g = 2 := by omega
  unfold Do.Ma.im
  dsimp only
  rw [beq_f nD]
  rcases a3 with rfl | rfl | rfl <;> rcases g3 with rfl | rfl | rfl <;> first | (exact absurd rfl ne) | (simp only [tl, h, Bool.or_true, Bool.true_or])
theorem im_3 (A : Do.Ma) {a R g r' d : Nat} (ha : a < 3) (hg : g < 3) (hr : r' < 3) (ne : g ≠ a) (nD : R ≠ A.D) (h : (A.m3 a R g r').testBit d = true) : (A.im a R).testBit d = true := by
  have a3 : a = 0 ∨ a = 1 ∨ a = 2 := by omega
  have g3 : g = 0 ∨ g = 1 ∨ g = 2 := by omega
  have r3 : r' = 0 ∨ r' = 1 ∨ r' = 2 := by omega
  unfold Do.Ma.im
  dsimp only
  rw [beq_f nD]
  rcases a3 with rfl | rfl | rfl <;> rcases g3 with rfl | rfl | rfl <;> rcases r3 with rfl | rfl | rfl <;> first | (exact absurd rfl ne) | (simp only [tl, h, Bool.or_true, Bool.true_or])
theorem last_ok : ∀ l, l ∈ sixL → Do.lastR (qc l) < 3 ∧ l.idxOf ((Do.lastR (qc l) : Nat) : Int) = 2 := by decide +kernel
section
variable {lists orders : List (List Int)} {seats ds : List Int} {m m' : List (Option Int)} {D d a R i : Nat}
theorem img (C : Cx3 lists orders seats D) (M : Mt lists orders seats ds) (Rw : Row lists orders seats lists.length m) (ha : a < 3) (hR : R < 3) (h : (blkL lists orders seats m)[i]? = some (((a : Nat) : Int), ((R : Nat) : Int))) (hd : d < 12) (hdi : d % (blkL lists orders seats m).length = i)
    (S : St lists orders seats m ((a : Nat) : Int) ((R : Nat) : Int) m') (e' : ∀ x : Int, fnO m' x = if x = ((a : Nat) : Int) then some ((R : Nat) : Int) else none) (nz : ∃ x r, fnO m x = some r) :
    ((ma lists orders D).im a R).testBit d = true ∧ (R = Do.lastR (qc (Lk lists a)) → ((ma lists orders D).y a R).testBit d = true) := by
  have hb := List.mem_of_getElem? h
  obtain ⟨_, _, hlt, _⟩ := blk_mem.mp hb
  have hne := blk_ne hb
  have six := C.six M ha
  have nolast : ∀ r' : Nat, r' < 3 → (Lk lists a).idxOf ((R : Nat) : Int) < (Lk lists a).idxOf ((r' : Nat) : Int) → R ≠ Do.lastR (qc (Lk lists a)) := fun r' hr lt z => by
    have h1 := (last_ok _ six).2
    rw [← z] at h1
    have := ((idx_three _ six).2 r' hr).1
    omega
  have nat : ∀ r : Int, 0 ≤ r → r < 3 → ∃ k : Nat, k < 3 ∧ r = ((k : Nat) : Int) := fun r h0 h1 => ⟨r.toNat, by omega, by omega⟩
  cases S with
  | free hf e =>
    have oth : ∀ x, x ≠ ((a : Nat) : Int) → fnO m x = none := fun x hx => by
      have h1 := e x
      rw [e' x, if_neg hx, if_neg hx] at h1
      exact h1.symm
    obtain ⟨x, r, hx⟩ := nz
    have hxa : x = ((a : Nat) : Int) := Classical.byContradiction fun z => by rw [oth x z] at hx; cases hx
    rw [hxa] at hx
    obtain ⟨_, ⟨r0, r1⟩, _⟩ := M.rg Rw hx
    obtain ⟨k, hk, rfl⟩ := nat r r0 r1
    have e2 : ∀ x : Int, fnO m x = if x = ((a : Nat) : Int) then some ((k : Nat) : Int) else none := fun x => by
      by_cases q : x = ((a : Nat) : Int)
      · rw [if_pos q, q]; exact hx
      · rw [if_neg q]; exact oth x q
    rw [hx] at hlt
    have lt : (Lk lists a).idxOf ((R : Nat) : Int) < (Lk lists a).idxOf ((k : Nat) : Int) := hlt
    exact ⟨im_1 _ hk (t1 C M ha hR h hd hdi hk e2 lt), fun z => absurd z (nolast k hk lt)⟩
  | out g hf hg ne lt mx e =>
    obtain ⟨⟨g0, g1⟩, _⟩ := M.rg Rw hg
    obtain ⟨g, hg3, rfl⟩ := nat g g0 g1
    have nga : g ≠ a := fun z => ne (by rw [z])
    have oth : ∀ x, x ≠ ((a : Nat) : Int) → x ≠ ((g : Nat) : Int) → fnO m x = none := fun x hx hy => by
      have h1 := e x
      rw [e' x, if_neg hx, if_neg hx, if_neg hy] at h1
      exact h1.symm
    have only : ∀ x, fnO m x = some ((R : Nat) : Int) → x = ((g : Nat) : Int) := fun x hx => Classical.byContradiction fun z => by
      by_cases q : x = ((a : Nat) : Int)
      · rw [q] at hx; exact hne hx
      · rw [oth x q z] at hx; cases hx
    have nD : R ≠ D := fun z => by
      have l1 : (ins m ((R : Nat) : Int)).length ≤ 1 := by
        have := Do.sub_len (ys := [((g : Nat) : Int)]) (ins_nodup (hd := m) (r := ((R : Nat) : Int))) fun x hx => List.mem_singleton.mpr (only x (ins_mem.mp hx))
        rw [List.length_singleton] at this
        exact this
      rw [C.s R hR] at hf
      unfold sD at hf
      rw [if_pos z] at hf
      omega
    cases hA : fnO m ((a : Nat) : Int) with
    | none =>
      have e2 : ∀ x : Int, fnO m x = if x = ((g : Nat) : Int) then some ((R : Nat) : Int) else none := fun x => by
        by_cases q : x = ((g : Nat) : Int)
        · rw [if_pos q, q]; exact hg
        · rw [if_neg q]
          by_cases q2 : x = ((a : Nat) : Int)
          · rw [q2]; exact hA
          · exact oth x q2 q
      have t := t2 C M ha hR h hd hdi hg3 nga nD e2 lt
      exact ⟨im_2 _ ha hg3 nga nD t, fun _ => y_2 _ ha hg3 nga nD t⟩
    | some r =>
      obtain ⟨_, ⟨r0, r1⟩, _⟩ := M.rg Rw hA
      obtain ⟨k, hk, rfl⟩ := nat r r0 r1
      rw [hA] at hlt
      have up : (Lk lists a).idxOf ((R : Nat) : Int) < (Lk lists a).idxOf ((k : Nat) : Int) := hlt
      have nr : R ≠ k := fun z => by rw [z] at up; exact Nat.lt_irrefl _ up
      have e2 : ∀ x : Int, fnO m x = if x = ((g : Nat) : Int) then some ((R : Nat) : Int) else if x = ((a : Nat) : Int) then some ((k : Nat) : Int) else none := fun x => by
        by_cases q : x = ((g : Nat) : Int)
        · rw [if_pos q, q]; exact hg
        · rw [if_neg q]
          by_cases q2 : x = ((a : Nat) : Int)
          · rw [if_pos q2, q2]; exact hA
          · rw [if_neg q2]; exact oth x q2 q
      exact ⟨im_3 _ ha hg3 hk nga nD (t3 C M ha hR h hd hdi hg3 nga nD hk nr e2 lt up), fun z => absurd z (nolast k hk up)⟩
/-! two that fail -/
def cntF (zs : List Nat) (d : Nat) : Nat := (zs.filter fun z => !z.testBit d).length
theorem tw_ok (hd : d < 12) : ∀ (zs : List Nat) (o t : Nat), (Do.tw zs o t).testBit d = true → t.testBit d = true ∨ (o.testBit d = true ∧ 1 ≤ cntF zs d) ∨ 2 ≤ cntF zs d
  | [], o, t, h => .inl h
  | z :: zs, o, t, h => by
    have ih := tw_ok hd zs _ _ h
    rw [tl, tl, ta, tx, full_bit d hd] at ih
    unfold cntF at ih ⊢
    rw [List.filter_cons]
    cases hz : z.testBit d with
    | true =>
      rw [hz] at ih
      rw [if_neg (by decide)]
      simpa using ih
    | false =>
      rw [hz] at ih
      rw [if_pos (by decide), List.length_cons]
      cases ho : o.testBit d with
      | true => exact .inr (.inl ⟨rfl, by omega⟩)
      | false =>
        rw [ho] at ih
        simp only [Bool.false_and, Bool.or_false] at ih
        rcases ih with h1 | ⟨_, h1⟩ | h1
        · exact .inl h1
        · exact .inr (.inr (by omega))
        · exact .inr (.inr (by omega))
theorem two_of {f : Nat × Nat → Nat} {T : List (Nat × Nat)} (nd : T.Nodup) (hd : d < 12) (h : Do.tw (T.map f) 0 0 = 4095) : ∃ p q, p ∈ T ∧ q ∈ T ∧ p ≠ q ∧ (f p).testBit d = false ∧ (f q).testBit d = false := by
  have h2 := tw_ok hd (T.map f) 0 0 (by rw [h]; exact full_bit d hd)
  rw [Nat.zero_testBit] at h2
  have h3 : 2 ≤ cntF (T.map f) d := by
    rcases h2 with z | ⟨z, _⟩ | z
    · cases z
    · cases z
    · exact z
  unfold cntF at h3
  rw [List.filter_map, List.length_map] at h3
  generalize hx : T.filter ((fun z => !z.testBit d) ∘ f) = xs at h3
  have nx : xs.Nodup := by rw [← hx]; exact List.Pairwise.filter _ nd
  have mem : ∀ p, p ∈ xs → p ∈ T ∧ (f p).testBit d = false := fun p hp => by
    rw [← hx] at hp
    obtain ⟨h1, h2⟩ := List.mem_filter.mp hp
    have h2 : (!(f p).testBit d) = true := h2
    rw [Bool.not_eq_true'] at h2
    exact ⟨h1, h2⟩
  match xs, h3, nx, mem with
  | p :: q :: _, _, nx, mem =>
    refine ⟨p, q, (mem p (by simp)).1, (mem q (by simp)).1, fun z => ?_, (mem p (by simp)).2, (mem q (by simp)).2⟩
    exact (List.nodup_cons.mp nx).1 (by rw [z]; exact List.mem_cons_self)
theorem chk_all : ∀ D, D < 3 → ∀ q, q ∈ Do.six → (Do.allM D q).all Do.Ma.chk = true := fun D hD q hq => by
  have hD : D = 0 ∨ D = 1 ∨ D = 2 := by omega
  have hq : q = 36 ∨ q = 24 ∨ q = 33 ∨ q = 9 ∨ q = 18 ∨ q = 6 := by simpa [Do.six] using hq
  rcases hD with rfl | rfl | rfl <;> rcases hq with rfl | rfl | rfl | rfl | rfl | rfl
  · exact Do.a0_36
  · exact Do.a0_24
  · exact Do.a0_33
  · exact Do.a0_9
  · exact Do.a0_18
  · exact Do.a0_6
  · exact Do.a1_36
  · exact Do.a1_24
  · exact Do.a1_33
  · exact Do.a1_9
  · exact Do.a1_18
  · exact Do.a1_6
  · exact Do.a2_36
  · exact Do.a2_24
  · exact Do.a2_33
  · exact Do.a2_9
  · exact Do.a2_18
  · exact Do.a2_6
theorem ma_chk (C : Cx3 lists orders seats D) (M : Mt lists orders seats ds) : (ma lists orders D).chk = true := by
  have c := fun k (hk : k < 3) => qc_six _ (C.six M hk)
  have o := fun k (hk : k < 3) => qc_six _ (C.sixO M hk)
  have hD : D = 0 ∨ D = 1 ∨ D = 2 := by have := C.D3; omega
  refine List.all_eq_true.mp (chk_all D C.D3 _ (c 0 (by decide))) _ ?_
  unfold Do.allM
  rw [List.mem_flatMap]
  refine ⟨_, c 1 (by decide), ?_⟩
  rw [List.mem_flatMap]
  refine ⟨_, c 2 (by decide), ?_⟩
  rw [List.mem_flatMap]
  rcases hD with rfl | rfl | rfl
  · exact ⟨_, o 1 (by decide), List.mem_map.mpr ⟨_, o 2 (by decide), rfl⟩⟩
  · exact ⟨_, o 0 (by decide), List.mem_map.mpr ⟨_, o 2 (by decide), rfl⟩⟩
  · exact ⟨_, o 0 (by decide), List.mem_map.mpr ⟨_, o 1 (by decide), rfl⟩⟩
theorem two_no (C : Cx3 lists orders seats D) (M : Mt lists orders seats ds) (hd : d < 12) : ∃ p q : Nat × Nat, (p.1 < 3 ∧ p.2 < 3) ∧ (q.1 < 3 ∧ q.2 < 3) ∧ p ≠ q ∧
    ∀ t, t = p ∨ t = q → ((ma lists orders D).im t.1 t.2).testBit d = false ∨ (t.2 = Do.lastR (qc (Lk lists t.1)) ∧ ((ma lists orders D).y t.1 t.2).testBit d = false) := by
  have h := ma_chk C M
  have l := fun k (hk : k < 3) => (last_ok _ (C.six M hk)).1
  unfold Do.Ma.chk at h
  cases hy : Nat.beq (Do.tw (ma lists orders D).ys 0 0) 4095 with
  | true =>
    obtain ⟨p, q, hp, hq, ne, h1, h2⟩ := two_of (f := fun p => (ma lists orders D).y p.1 p.2) (T := [(0, Do.lastR (qc (Lk lists 0))), (1, Do.lastR (qc (Lk lists 1))), (2, Do.lastR (qc (Lk lists 2)))]) (by simp) hd (Nat.eq_of_beq_eq_true hy)
    have t : ∀ p : Nat × Nat, p ∈ [(0, Do.lastR (qc (Lk lists 0))), (1, Do.lastR (qc (Lk lists 1))), (2, Do.lastR (qc (Lk lists 2)))] → (p.1 < 3 ∧ p.2 < 3) ∧ p.2 = Do.lastR (qc (Lk lists p.1)) := fun p hp => by
      simp only [List.mem_cons, List.not_mem_nil, or_false] at hp
      rcases hp with rfl | rfl | rfl
      · exact ⟨⟨(by decide : (0 : Nat) < 3), l 0 (by decide)⟩, rfl⟩
      · exact ⟨⟨(by decide : (1 : Nat) < 3), l 1 (by decide)⟩, rfl⟩
      · exact ⟨⟨(by decide : (2 : Nat) < 3), l 2 (by decide)⟩, rfl⟩
    refine ⟨p, q, (t p hp).1, (t q hq).1, ne, fun x hx => .inr ?_⟩
    rcases hx with rfl | rfl
    · exact ⟨(t _ hp).2, h1⟩
    · exact ⟨(t _ hq).2, h2⟩
  | false =>
    rw [hy] at h
    have h : Nat.beq (Do.tw (ma lists orders D).ims 0 0) 4095 = true := h
    obtain ⟨p, q, hp, hq, ne, h1, h2⟩ := two_of (f := fun p => (ma lists orders D).im p.1 p.2) (T := [(0, 0), (0, 1), (0, 2), (1, 0), (1, 1), (1, 2), (2, 0), (2, 1), (2, 2)]) (by decide) hd (Nat.eq_of_beq_eq_true h)
    have t : ∀ p : Nat × Nat, p ∈ [(0, 0), (0, 1), (0, 2), (1, 0), (1, 1), (1, 2), (2, 0), (2, 1), (2, 2)] → p.1 < 3 ∧ p.2 < 3 := by decide
    refine ⟨p, q, t p hp, t q hq, ne, fun x hx => .inl ?_⟩
    rcases hx with rfl | rfl
    · exact h1
    · exact h2
end
end G
set_option Elab.async false
set_option linter.all false
set_option maxRecDepth 100000
set_option maxHeartbeats 2000000
set_option synthInstance.maxHeartbeats 1000000
set_option synthInstance.maxSize 4000
namespace G
open PySem L2 Evl Pu
theorem getd {α : Type} {l : List α} {n : Nat} (d : α) (h : n < l.length) : l[n]? = some (l.getD n d) := by
  rw [List.getD_eq_getElem?_getD, List.getElem?_eq_getElem h]
  rfl
def sc (a R : Nat) : Nat := R * 4 ^ a + (63 - 3 * 4 ^ a)
theorem sc_dg : ∀ a, a < 3 → ∀ R, R < 3 → ∀ k, k < 3 → dg (sc a R) k = if k = a then R else 3 := by decide +kernel
theorem sc_ok : ∀ D, D < 3 → ∀ a, a < 3 → ∀ R, R < 3 → sc a R ∈ (List.range 64).filter (okc (sD D 0) (sD D 1) (sD D 2)) := by decide +kernel
theorem none_ok : ∀ D, D < 3 → 63 ∈ (List.range 64).filter (okc (sD D 0) (sD D 1) (sD D 2)) := by decide +kernel
theorem w_len : ∀ D, D < 3 → ((List.range 64).filter (okc (sD D 0) (sD D 1) (sD D 2))).length = 43 := by decide +kernel
theorem sc_inj : ∀ a, a < 3 → ∀ R, R < 3 → ∀ b, b < 3 → ∀ S, S < 3 → sc a R = sc b S → a = b ∧ R = S := by decide +kernel
theorem sc_ne : ∀ a, a < 3 → ∀ R, R < 3 → sc a R ≠ 63 := by decide +kernel
section
variable {lists orders : List (List Int)} {seats ds : List Int} {m m' : List (Option Int)} {D d a R i : Nat}
theorem sc_fn (M : Mt lists orders seats ds) (Rw : Row lists orders seats lists.length m) (ha : a < 3) (hR : R < 3) (h : code m = sc a R) : ∀ x : Int, fnO m x = if x = ((a : Nat) : Int) then some ((R : Nat) : Int) else none := fun x => by
  obtain ⟨d0, d1, d2, _⟩ := dg_code M Rw
  have dk : ∀ k : Nat, k < 3 → cd m (k : Int) = if k = a then R else 3 := fun k hk => by
    have := sc_dg a ha R hR k hk
    rw [← h] at this
    have : k = 0 ∨ k = 1 ∨ k = 2 := by omega
    rcases this with rfl | rfl | rfl
    · rw [show (((0 : Nat)) : Int) = 0 from rfl, ← d0]; assumption
    · rw [show (((1 : Nat)) : Int) = 1 from rfl, ← d1]; assumption
    · rw [show (((2 : Nat)) : Int) = 2 from rfl, ← d2]; assumption
  by_cases q : 0 ≤ x ∧ x < 3
  · have hx := dk x.toNat (by omega)
    rw [show ((x.toNat : Nat) : Int) = x by omega] at hx
    by_cases z : x = ((a : Nat) : Int)
    · rw [if_pos z]
      rw [if_pos (by omega)] at hx
      exact (cd_some M Rw hR).mp hx
    · rw [if_neg z]
      rw [if_neg (by omega)] at hx
      exact (cd_le M Rw x).2.mp hx
  · rw [if_neg (by omega)]
    cases e : fnO m x with
    | none => rfl
    | some r => obtain ⟨⟨h0, h1⟩, _⟩ := M.rg Rw e; omega
theorem c_no (W : Wy lists orders seats ds m) (M : Mt lists orders seats ds) (C : Cx3 lists orders seats D) : False := by
  have hd5 := M.d5
  have hd := M.d0 _ (at_d (xs := ds) (i := 1) 0 (by decide) (by omega)).2
  have hdd : (ds.getD 1 0).toNat < 12 := by
    have : ds.getD ((1 : Int)).toNat 0 = ds.getD 1 0 := rfl
    rw [this] at hd
    omega
  have hd0 : ((ds.getD 1 0).toNat : Int) = ds.getD 1 0 := by
    have : ds.getD ((1 : Int)).toNat 0 = ds.getD 1 0 := rfl
    rw [this] at hd
    omega
  obtain ⟨p, q, hp, hq, ne, no⟩ := two_no (d := (ds.getD 1 0).toNat) C M hdd
  have s0 := C.s 0 (by decide)
  have s1 := C.s 1 (by decide)
  have s2 := C.s 2 (by decide)
  have mem : ∀ i, i ≤ 200 → code (way lists orders seats ds m i) ∈ (List.range 64).filter (okc (sD D 0) (sD D 1) (sD D 2)) := fun i hi => by
    rw [← s0, ← s1, ← s2]
    exact List.mem_filter.mpr ⟨List.mem_range.mpr (dg_code M (W.R i hi)).2.2.2, code_ok M (W.R i hi)⟩
  have got : ∀ i, i < 200 → ∃ x r, fnO (way lists orders seats ds m (i + 1)) x = some r := fun i hi => by
    obtain ⟨_, h2⟩ := W.pair M hi
    generalize prr lists orders seats ds m i = p at h2
    obtain ⟨a, r⟩ := p
    cases h2 with
    | free _ e => exact ⟨a, r, by rw [e a, if_pos rfl]⟩
    | out g _ _ _ _ _ e => exact ⟨a, r, by rw [e a, if_pos rfl]⟩
  have n63 : ∀ i, i < 200 → code (way lists orders seats ds m (i + 1)) ≠ 63 := fun i hi z => by
    obtain ⟨x, r, hx⟩ := got i hi
    have Rw := W.R (i + 1) (by omega)
    obtain ⟨⟨x0, x1⟩, _⟩ := M.rg Rw hx
    obtain ⟨d0, d1, d2, _⟩ := dg_code M Rw
    rw [z] at d0 d1 d2
    have : x = 0 ∨ x = 1 ∨ x = 2 := by omega
    rcases this with rfl | rfl | rfl
    · rw [(cd_le M Rw 0).2.mp d0.symm] at hx; cases hx
    · rw [(cd_le M Rw 1).2.mp d1.symm] at hx; cases hx
    · rw [(cd_le M Rw 2).2.mp d2.symm] at hx; cases hx
  have last : ∀ a R, a < 3 → R < 3 → code (way lists orders seats ds m 200) ≠ sc a R := fun a R ha hR z => by
    have Rw := W.R 200 (by decide)
    have e := sc_fn M Rw ha hR z
    have hb : ∃ b x : Nat, b < 3 ∧ x < 3 ∧ b ≠ a ∧ x ≠ R := by
      have ha' : a = 0 ∨ a ≠ 0 := by omega
      have hR' : R = 0 ∨ R ≠ 0 := by omega
      rcases ha' with h1 | h1 <;> rcases hR' with h2 | h2
      · exact ⟨1, 1, by decide, by decide, by omega, by omega⟩
      · exact ⟨1, 0, by decide, by decide, by omega, by omega⟩
      · exact ⟨0, 1, by decide, by decide, by omega, by omega⟩
      · exact ⟨0, 0, by decide, by decide, by omega, by omega⟩
    obtain ⟨b, x, hb3, hx3, nb, nx⟩ := hb
    have hn := C.n
    have acc := C.acc b x hb3 hx3
    have : (((b : Nat) : Int), ((x : Nat) : Int)) ∈ blkL lists orders seats (way lists orders seats ds m 200) := by
      refine blk_mem.mpr ⟨⟨by omega, by omega⟩, acc.1, ?_, tb_free C hb3 hx3 fun j w => ?_⟩
      · rw [e, if_neg (by omega)]
        exact List.idxOf_lt_length_iff.mpr acc.1
      · rw [e j] at w
        by_cases q : j = ((a : Nat) : Int)
        · rw [if_pos q] at w; have := Option.some.inj w; omega
        · rw [if_neg q] at w; cases w
    rw [W.st] at this
    cases this
  have img2 : ∀ k, k < 40 → ∀ t : Nat × Nat, (t = p ∨ t = q) → t.1 < 3 → t.2 < 3 → code (way lists orders seats ds m (5 * k + 2)) ≠ sc t.1 t.2 := fun k hk t ht h1 h2 z => by
    have Rw := W.R (5 * k + 1) (by omega)
    have Rw2 := W.R (5 * k + 2) (by omega)
    have e := sc_fn M Rw2 h1 h2 z
    obtain ⟨hb, hS⟩ := W.pair M (i := 5 * k + 1) (by omega)
    have hS : St lists orders seats (way lists orders seats ds m (5 * k + 1)) (prr lists orders seats ds m (5 * k + 1)).1 (prr lists orders seats ds m (5 * k + 1)).2 (way lists orders seats ds m (5 * k + 2)) := hS
    have hpr : prr lists orders seats ds m (5 * k + 1) = pkd (blkL lists orders seats (way lists orders seats ds m (5 * k + 1))) (ds.getD 1 0) := by
      unfold prr
      rw [show (5 * k + 1) % 5 = 1 by omega]
    have hlen : 0 < (blkL lists orders seats (way lists orders seats ds m (5 * k + 1))).length := List.length_pos_of_mem hb
    have hat : (blkL lists orders seats (way lists orders seats ds m (5 * k + 1)))[(ds.getD 1 0).toNat % (blkL lists orders seats (way lists orders seats ds m (5 * k + 1))).length]? = some (prr lists orders seats ds m (5 * k + 1)) := by
      have hm : (ds.getD 1 0 % ((blkL lists orders seats (way lists orders seats ds m (5 * k + 1))).length : Int)).toNat = (ds.getD 1 0).toNat % (blkL lists orders seats (way lists orders seats ds m (5 * k + 1))).length := by
        rw [← hd0, ← Int.natCast_emod, Int.toNat_natCast, Int.toNat_natCast]
      rw [hpr]
      unfold pkd
      rw [hm]
      exact getd _ (Nat.mod_lt _ hlen)
    generalize prr lists orders seats ds m (5 * k + 1) = pr at hb hS hat
    obtain ⟨a, r⟩ := pr
    have hm : fnO (way lists orders seats ds m (5 * k + 2)) a = some r := by
      cases hS with
      | free _ e2 => rw [e2 a, if_pos rfl]
      | out g _ _ _ _ _ e2 => rw [e2 a, if_pos rfl]
    rw [e a] at hm
    have ha : a = ((t.1 : Nat) : Int) := Classical.byContradiction fun y => by rw [if_neg y] at hm; cases hm
    rw [if_pos ha] at hm
    have hr : r = ((t.2 : Nat) : Int) := (Option.some.inj hm).symm
    subst ha hr
    obtain ⟨g1, g2⟩ := img C M Rw h1 h2 hat hdd rfl hS e (got (5 * k) (by omega))
    rcases no t ht with y | ⟨y1, y2⟩
    · rw [g1] at y; cases y
    · rw [g2 y1] at y2; cases y2
  refine Do.few_from (c := code) W.hs W.hn (W.hc M) (W := (List.range 64).filter (okc (sD D 0) (sD D 1) (sD D 2))) (Z := [63, code (way lists orders seats ds m 200), sc p.1 p.2, sc q.1 q.2]) ?_ (fun z hz => ?_) ?_ fun k hk => ⟨mem _ (by omega), fun hz => ?_⟩
  · have a1 : (63 : Nat) ≠ code (way lists orders seats ds m 200) := fun z => n63 199 (by decide) z.symm
    have a2 := sc_ne p.1 hp.1 p.2 hp.2
    have a3 := sc_ne q.1 hq.1 q.2 hq.2
    have a4 := last p.1 p.2 hp.1 hp.2
    have a5 := last q.1 q.2 hq.1 hq.2
    have a6 : sc p.1 p.2 ≠ sc q.1 q.2 := fun z => by
      obtain ⟨h1, h2⟩ := sc_inj p.1 hp.1 p.2 hp.2 q.1 hq.1 q.2 hq.2 z
      exact ne (Prod.ext h1 h2)
    simp [a1, a2, a3, a4, a5, a6, Ne.symm a2, Ne.symm a3]
  · simp only [List.mem_cons, List.not_mem_nil, or_false] at hz
    rcases hz with h | h | h | h
    · rw [h]; exact none_ok D C.D3
    · rw [h]; exact mem 200 (Nat.le_refl _)
    · rw [h]; exact sc_ok D C.D3 p.1 hp.1 p.2 hp.2
    · rw [h]; exact sc_ok D C.D3 q.1 hq.1 q.2 hq.2
  · rw [w_len D C.D3]
    show 43 < 44
    decide
  · simp only [List.mem_cons, List.not_mem_nil, or_false] at hz
    rcases hz with z | z | z | z
    · exact n63 (5 * k + 1) (by omega) z
    · exact W.hn (5 * k + 2) (by omega) (W.hc M _ _ (by omega) (by decide) z)
    · exact img2 k hk p (.inl rfl) hp.1 hp.2 z
    · exact img2 k hk q (.inr rfl) hq.1 hq.2 z
theorem way_no (M : Mt lists orders seats ds) (Rw : Row lists orders seats lists.length m) (go : ∀ i, i < 200 → blkL lists orders seats (way lists orders seats ds m i) ≠ []) (st : blkL lists orders seats (way lists orders seats ds m 200) = []) : False := by
  have W : Wy lists orders seats ds m := ⟨fun i hi => way_row M Rw i fun j hj => go j (by omega), go, st⟩
  exact W.no M fun D C => c_no W M C
end
end G
set_option Elab.async false
set_option linter.all false
set_option maxRecDepth 100000
set_option maxHeartbeats 2000000
namespace G
open PySem L2 Evl Pu
def mk (lists orders : List (List Int)) (seats : List Int) : Da.Mk := ⟨fnL lists, fnL orders, fnI seats, fun a => 0 ≤ a ∧ a < (lists.length : Int)⟩
section
variable {lists orders : List (List Int)} {seats : List Int}
theorem of_stable {m : List (Option Int)} (hl : m.length = lists.length) (S : Da.Stable (mk lists orders seats) (fnO m)) : Row lists orders seats lists.length m ∧ Calm lists orders seats m := by
  refine ⟨⟨hl, fun k r e => ⟨(S.want k r e).2.1, (S.want k r e).2.2⟩, fun r => S.cap r (ins m r) ins_nodup fun b hb => ins_mem.mp hb⟩, fun k k0 k1 r hL hlt hO => ?_⟩
  obtain ⟨⟨hs, n1, n2, n3⟩, h2⟩ := S.calm k r ⟨k0, k1⟩ hL hO fun r' e => by
    rw [e] at hlt
    exact ⟨hL, (S.want k r' e).2.1, hlt⟩
  refine ⟨?_, fun j hj => Nat.le_of_lt (h2 j hj).2.2⟩
  have := Da.len_of_sub (ys := ins m r) n1 fun b hb => ins_mem.mpr (n3 b hb)
  have n2 : hs.length = fnI seats r := n2
  omega
end
end G
set_option Elab.async false
set_option linter.all false
set_option maxRecDepth 100000
set_option maxHeartbeats 2000000
namespace G
open PySem L2 Evl Pu
theorem isIn_g {α : Type} {d : DecidableEq α} {x : α} {xs : List α} : isIn d x xs = true ↔ x ∈ xs := by
  unfold isIn
  rw [List.any_eq_true]
  exact ⟨fun ⟨y, hy, e⟩ => (of_decide_eq_true e) ▸ hy, fun h => ⟨x, h, decide_eq_true rfl⟩⟩
theorem comp_all_q {α β S R : Type} {body : α → S → Pu.Res (Option β × S)} {I : S → Prop} {P : β → Prop} {Q : Pu.Res R → Prop} {K : List β × S → Pu.Res R} {xs : List α} {s : S} (h : ∀ x s, I s → ∃ y s', body x s = .ok (some y, s') ∧ P y ∧ I s') (i : I s)
    (hk : ∀ ys s', ys.length = xs.length → (∀ y, y ∈ ys → P y) → I s' → Q (K (ys, s'))) : Q (opt (compL body xs s) K) := by
  obtain ⟨ys, s', e, l, p, i'⟩ := comp_all h xs s i
  rw [e]
  exact hk ys s' l p i'
section
variable {ns : List Int} {rt : Bool → Pu.Res Bool} {Q : Pu.Res Bool → Prop} {lists orders : List (List Int)} {seats ds : List Int} {m m' : List (Option Int)} {ms ss : List (List (Option Int))} {tv : (List (Option Int)) ⊕ Wrd} {e : Nat} {one : List (Option Int)}
theorem blk_rng {p : Int × Int} (h : p ∈ blkL lists orders seats m) : 0 ≤ p.1 ∧ p.1 < lists.length := by
  obtain ⟨a, r⟩ := p
  exact (blk_mem.mp h).1
theorem calm_iff : Calm lists orders seats m ↔ blkL lists orders seats m = [] := by
  constructor
  · intro C
    refine List.eq_nil_iff_forall_not_mem.mpr fun p hp => ?_
    obtain ⟨k, r⟩ := p
    obtain ⟨⟨k0, k1⟩, h1, h2, h3⟩ := blk_mem.mp hp
    unfold takeB at h3
    rw [Bool.and_eq_true, Bool.or_eq_true, decide_eq_true_eq, decide_eq_true_eq, List.any_eq_true] at h3
    obtain ⟨c1, c2⟩ := C k k0 k1 r h1 h2 h3.1
    rcases h3.2 with h | ⟨j, hj, h⟩
    · omega
    · have := c2 j (ins_mem.mp hj)
      have := of_decide_eq_true h
      omega
  · intro B k k0 k1 r h1 h2 h3
    refine Classical.byContradiction fun z => ?_
    have : (k, r) ∈ blkL lists orders seats m := by
      refine blk_mem.mpr ⟨⟨k0, k1⟩, h1, h2, ?_⟩
      unfold takeB
      rw [Bool.and_eq_true, Bool.or_eq_true, decide_eq_true_eq, decide_eq_true_eq, List.any_eq_true]
      refine ⟨h3, Classical.byContradiction fun y => z ⟨by have := fun w => y (.inl w); omega, fun j hj => Classical.byContradiction fun w => y (.inr ⟨j, ins_mem.mpr hj, decide_eq_true (by omega)⟩)⟩⟩
    rw [B] at this
    cases this
structure M0 (lists orders : List (List Int)) (seats : List Int) : Prop where
  V : Val lists orders seats
  n3 : lists.length ≤ 3
  r3 : orders.length ≤ 3
  s2 : ∀ q, q ∈ seats → q ≤ 2
theorem M0.mt (M : M0 lists orders seats) (h5 : ds.length = 5) (h : ∀ d, d ∈ ds → 0 ≤ d ∧ d < 12) : Mt lists orders seats ds := ⟨M.V, M.n3, M.r3, M.s2, h5, h⟩
theorem fn_map {n : Nat} {f : Int → Option Int} (h : ∀ x : Int, ¬ (0 ≤ x ∧ x < n) → f x = none) : ∀ x : Int, fnO ((rngL (n : Int)).map f) x = f x := fun x => by
  unfold fnO
  by_cases q : 0 ≤ x
  · rw [if_pos q]
    by_cases p : x < n
    · have : (rngL (n : Int))[x.toNat]? = some x := by
        unfold rngL
        rw [List.getElem?_map, List.getElem?_range (by omega)]
        show some ((x.toNat : Nat) : Int) = _
        rw [show ((x.toNat : Nat) : Int) = x by omega]
      rw [List.getD_eq_getElem?_getD, List.getElem?_map, this]
      rfl
    · rw [List.getD_eq_getElem?_getD, List.getElem?_eq_none (by rw [List.length_map, rngL_len]; omega), h x fun z => p z.2]
      rfl
  · rw [if_neg q, h x fun z => q z.1]
theorem stable_ex (M : M0 lists orders seats) : ∃ m, Row lists orders seats lists.length m ∧ Calm lists orders seats m := by
  obtain ⟨s, hr, hd⟩ := Da.ends (M := mk lists orders seats) (as := rngL (lists.length : Int)) (rs := rngL (orders.length : Int)) (fun a ha => rngL_mem.mpr ha) (fun a r ha hr => rngL_mem.mpr ((M.V.l _ (at_L ha.1 ha.2).2).2 r hr)) (rngL_nodup _)
  have S := Da.end_stable hr hd
  have e := fn_map (n := lists.length) (f := s.held) fun x hx => by
    cases h : s.held x with
    | none => rfl
    | some r => exact absurd (S.want x r h).1 hx
  refine ⟨(rngL (lists.length : Int)).map s.held, of_stable (by rw [List.length_map, rngL_len]; omega) ?_⟩
  rw [show fnO ((rngL (lists.length : Int)).map s.held) = s.held from funext e]
  exact S
theorem s0_q {nx : _ → Pu.Res Bool} (a b c : Int) (h : ∀ (a b c : Int) (lists orders : List (List Int)) (seats : List Int), M0 lists orders seats → Q (nx (ns, [a, b, c], lists, orders, seats, (), (), (), (), (), (), (), (), (), (), (), (), (), (), ()))) : Q (m_law_s0 nx rt (ns, [a, b, c], (), (), (), (), (), (), (), (), (), (), (), (), (), (), (), (), (), ())) := by
  unfold m_law_s0
  dsimp only
  obtain ⟨x, a, b, c, e, x0, x1⟩ := roll_ok a b c 3 (by decide) (by decide)
  rw [e, bind_ok]
  dsimp only
  obtain ⟨y, a, b, c, e, y0, y1⟩ := roll_ok a b c 3 (by decide) (by decide)
  rw [e, bind_ok]
  dsimp only
  obtain ⟨lists, orders, seats, a, b, c, e, l1, l2, l3, p1, p2, p3⟩ := market_ok a b c (1 + x) (1 + y) (by omega) (by omega) (by omega) (by omega)
  rw [e, bind_ok]
  refine h a b c lists orders seats ⟨⟨by omega, fun l hl => ⟨(p1 l hl).1, fun x hx => ?_⟩, fun o ho => ⟨(p2 o ho).1, fun x hx => ?_⟩, fun q hq => (p3 q hq).1⟩, by omega, by omega, fun q hq => by have := (p3 q hq).2; omega⟩
  · have := (p1 l hl).2 x hx; omega
  · have := (p2 o ho).2 x hx; omega
theorem s1_q {nx : _ → Pu.Res Bool} (a b c : Int) (M : M0 lists orders seats) (h : ∀ ms, (∀ m, m ∈ ms ↔ Row lists orders seats lists.length m) → ms.length ≤ 625 → Q (nx (ns, [a, b, c], lists, orders, seats, mkM lists orders seats, ms, (), (), (), (), (), (), (), (), (), (), (), (), ()))) : Q (m_law_s1 nx rt (ns, [a, b, c], lists, orders, seats, (), (), (), (), (), (), (), (), (), (), (), (), (), (), ())) := by
  have n3 := M.n3
  unfold m_law_s1
  dsimp only
  rw [init_ok M.V.len M.V.l M.V.o M.V.s, bind_ok]
  refine matches_q M.V (by omega) M.r3 (fun R => Q (R.bind _)) fun ms hm hl => ?_
  rw [bind_ok]
  exact h ms hm hl
theorem s2_q {nx : _ → Pu.Res Bool} (a b c : Int) (M : M0 lists orders seats) (h : ∀ ss, (∀ m, m ∈ ss ↔ Row lists orders seats lists.length m ∧ Calm lists orders seats m) → ss.length ≤ 625 → Q (nx (ns, [a, b, c], lists, orders, seats, mkM lists orders seats, ms, ss, (), (), (), (), (), (), (), (), (), (), (), ()))) : Q (m_law_s2 nx rt (ns, [a, b, c], lists, orders, seats, mkM lists orders seats, ms, (), (), (), (), (), (), (), (), (), (), (), (), ())) := by
  have n3 := M.n3
  unfold m_law_s2
  dsimp only
  refine stable_q M.V (by omega) M.r3 (fun R => Q (R.bind _)) fun ss hm hl => ?_
  rw [bind_ok]
  exact h ss hm hl
theorem s3_q {nx : _ → Pu.Res Bool} (a b c : Int) (hm : ∀ m, m ∈ ms ↔ Row lists orders seats lists.length m) (hl : ms.length ≤ 625) (ne : ms ≠ []) (h : ∀ (a b c : Int) m, Row lists orders seats lists.length m → Q (nx (ns, [a, b, c], lists, orders, seats, mkM lists orders seats, ms, ss, m, (), (), (), (), (), (), (), (), (), (), ()))) : Q (m_law_s3 nx rt (ns, [a, b, c], lists, orders, seats, mkM lists orders seats, ms, ss, (), (), (), (), (), (), (), (), (), (), (), ())) := by
  have := List.length_pos_iff.mpr ne
  unfold m_law_s3
  dsimp only
  obtain ⟨x, a, b, c, e, x0, x1⟩ := roll_ok a b c (ms.length : Int) (by omega) (by omega)
  rw [e, bind_ok]
  obtain ⟨h1, h2⟩ := at_d (xs := ms) [] x0 x1
  dsimp only
  rw [h1, opt_some]
  exact h a b c _ ((hm _).mp h2)
theorem s4_q {nx : _ → Pu.Res Bool} (a b c : Int) (h : ∀ (a b c : Int) (ds : List Int), ds.length = 5 → (∀ d, d ∈ ds → 0 ≤ d ∧ d < 12) → Q (nx (ns, [a, b, c], lists, orders, seats, mkM lists orders seats, ms, ss, m, ds, (), (), (), (), (), (), (), (), (), ()))) : Q (m_law_s4 nx rt (ns, [a, b, c], lists, orders, seats, mkM lists orders seats, ms, ss, m, (), (), (), (), (), (), (), (), (), (), ())) := by
  unfold m_law_s4
  dsimp only
  rw [rng_ok (by decide) (by decide), opt_some]
  refine comp_all_q (Q := Q) (P := fun y : Int => 0 ≤ y ∧ y < 12) (I := fun s => ∃ a b c : Int, s = (ns, [a, b, c], lists, orders, seats, mkM lists orders seats, ms, ss, m, (), (), (), (), (), (), (), (), (), (), ())) (fun x s i => ?_) ⟨a, b, c, rfl⟩ fun ds s' l1 p1 i => ?_
  · obtain ⟨a, b, c, rfl⟩ := i
    obtain ⟨y, a', b', c', e, y0, y1⟩ := roll_ok a b c 12 (by decide) (by decide)
    dsimp only
    rw [if_pos rfl, e, bind_ok]
    exact ⟨_, _, rfl, ⟨y0, y1⟩, a', b', c', rfl⟩
  obtain ⟨a, b, c, rfl⟩ := i
  exact h a b c ds l1 p1
structure Fin3 (lists orders : List (List Int)) (seats ds : List Int) (m : List (Option Int)) (e : Nat) (tv : (List (Option Int)) ⊕ Wrd) : Prop where
  go : ∀ j, j < e → blkL lists orders seats (way lists orders seats ds m j) ≠ []
  end_ : (e < 200 ∧ blkL lists orders seats (way lists orders seats ds m e) = [] ∧ tv = Sum.inl (way lists orders seats ds m e)) ∨ (e = 200 ∧ tv = Sum.inr (wrd "size"))
theorem first_stop (p : Nat → Prop) : ∀ n, (∀ j, j ≤ n → ¬ p j) ∨ ∃ t, t ≤ n ∧ p t ∧ ∀ j, j < t → ¬ p j
  | 0 => by
    by_cases h : p 0
    · exact .inr ⟨0, Nat.le_refl _, h, fun j hj => absurd hj (Nat.not_lt_zero _)⟩
    · exact .inl fun j hj => by rw [Nat.le_zero.mp hj]; exact h
  | n + 1 => by
    rcases first_stop p n with h | ⟨t, ht, h1, h2⟩
    · by_cases q : p (n + 1)
      · exact .inr ⟨n + 1, Nat.le_refl _, q, fun j hj => h j (by omega)⟩
      · refine .inl fun j hj => ?_
        have : j = n + 1 ∨ j ≤ n := by omega
        rcases this with z | z
        · rw [z]; exact q
        · exact h j z
    · exact .inr ⟨t, by omega, h1, h2⟩
theorem s5_q {nx : _ → Pu.Res Bool} (a b c : Int) (M : Mt lists orders seats ds) (R : Row lists orders seats lists.length m) (h : ∀ e tv, Fin3 lists orders seats ds m e tv → Q (nx (ns, [a, b, c], lists, orders, seats, mkM lists orders seats, ms, ss, m, ds, (), tv, (), (), (), (), (), (), (), ()))) : Q (m_law_s5 nx rt (ns, [a, b, c], lists, orders, seats, mkM lists orders seats, ms, ss, m, ds, (), (), (), (), (), (), (), (), (), ())) := by
  obtain ⟨b1, b2⟩ := by_ok M R
  unfold m_law_s5
  dsimp only
  rcases first_stop (fun j => blkL lists orders seats (way lists orders seats ds m j) = []) 200 with g | ⟨t, ht, g1, g2⟩
  · rw [b2 g]
    rw [show told (α := (List (Option Int))) tellTab ((Pu.Res.exc "BadSize" : Pu.Res (List (Option Int))).bind fun x249 => .ok x249) = .ok (Sum.inr (wrd "size")) from rfl, bind_ok]
    exact h 200 _ ⟨fun j hj => g j (by omega), .inr ⟨rfl, rfl⟩⟩
  · have lt : t < 200 := by
      have : t < 200 ∨ t = 200 := by omega
      rcases this with z | z
      · exact z
      · subst z; exact (way_no M R g2 g1).elim
    rw [b1 t ht g2 g1]
    rw [show told (α := (List (Option Int))) tellTab ((Pu.Res.ok (way lists orders seats ds m t) : Pu.Res (List (Option Int))).bind fun x249 => .ok x249) = .ok (Sum.inl (way lists orders seats ds m t)) from rfl, bind_ok]
    exact h t _ ⟨g2, .inl ⟨lt, g1, rfl⟩⟩
theorem way_zero : way lists orders seats ds m 0 = m := rfl
theorem way_succ (i : Nat) : way lists orders seats ds m (i + 1) = nxt lists orders seats (way lists orders seats ds m i) (pkd (blkL lists orders seats (way lists orders seats ds m i)) (ds.getD (i % 5) 0)) := rfl
theorem s67_q {nx : _ → Pu.Res Bool} (a b c : Int) (M : Mt lists orders seats ds) (R : Row lists orders seats lists.length m) (hm : ∀ m, m ∈ ms ↔ Row lists orders seats lists.length m) (F : Fin3 lists orders seats ds m e tv) (h : Q (nx (ns, [a, b, c], lists, orders, seats, mkM lists orders seats, ms, ss, m, ds, (), tv, (way lists orders seats ds m e), ((e : Nat) : Int), (), (), (), (), (), ()))) : Q (m_law_s6 (m_law_s7 nx rt) rt (ns, [a, b, c], lists, orders, seats, mkM lists orders seats, ms, ss, m, ds, (), tv, (), (), (), (), (), (), (), ())) := by
  have n3 := M.n3
  have he : e ≤ 200 := by rcases F.end_ with ⟨h1, _⟩ | ⟨h1, _⟩ <;> omega
  unfold m_law_s6 m_law_s7
  dsimp only
  refine whl_q (P := Q) (I := fun f s => ∃ i : Nat, s = (ns, [a, b, c], lists, orders, seats, mkM lists orders seats, ms, ss, m, ds, (), tv, (way lists orders seats ds m i), ((i : Nat) : Int), (), (), (), (), (), ()) ∧ i ≤ e ∧ 300 < f + i) (fun f s i k hk => ?_) (fun s ⟨i, _, h1, h2⟩ => by omega) 100000 _ ⟨0, by rw [way_zero]; rfl, Nat.zero_le _, by decide⟩
  obtain ⟨i, rfl, hi, hf⟩ := i
  have RW := way_row M R i fun j hj => F.go j (by omega)
  have lb : m_law_blocks lists orders seats (way lists orders seats ds m i) = .ok (blkL lists orders seats (way lists orders seats ds m i)) := lawblk_ok M.V (by omega) M.r3 RW
  dsimp only
  by_cases q : i < e
  · have ne := F.go i q
    obtain ⟨e1, e2, e3⟩ := pkd_mem (d := ds.getD (i % 5) 0) ne
    obtain ⟨f1, f2, f3⟩ := nxt_ok M RW e3
    have hd := M.d5
    have ea : L2.atI ds ((i : Int) % 5) = some (ds.getD (i % 5) 0) := by
      have := (at_d (xs := ds) (i := ((i : Int) % 5)) 0 (by omega) (by omega)).1
      rw [show ((i : Int) % 5).toNat = i % 5 by omega] at this
      exact this
    rw [if_pos (decide_eq_true (by omega)), lb, bind_ok, if_pos (by rw [decide_eq_false ne]; rfl), bind_ok, if_pos (by decide), opt_some, ea, opt_some, e1, opt_some, e2, opt_some, f1, bind_ok]
    rw [← way_succ] at f1 f2 f3 ⊢
    obtain ⟨p0, p1⟩ := blk_rng e3
    have hl := f3.len
    have af : fnO (way lists orders seats ds m (i + 1)) (pkd (blkL lists orders seats (way lists orders seats ds m i)) (ds.getD (i % 5) 0)).1 = some (pkd (blkL lists orders seats (way lists orders seats ds m i)) (ds.getD (i % 5) 0)).2 := by
      cases f2 with
      | free _ e => rw [e, if_pos rfl]
      | out g _ _ _ _ _ e => rw [e, if_pos rfl]
    rw [if_pos rfl, opt_some, at_O p0 (by omega), opt_some, if_pos rfl, opt_some, af, decide_eq_true rfl, if_neg (by decide), if_neg (by rw [isIn_g.mpr ((hm _).mpr f3)]; decide), blkN_ok M RW, bind_ok, decide_eq_true rfl, if_neg (by decide)]
    exact hk _ ⟨i + 1, rfl, by omega, by omega⟩
  · have hie : i = e := by omega
    subst hie
    rcases F.end_ with ⟨h1, h2, _⟩ | ⟨h1, _⟩
    · rw [if_pos (decide_eq_true (by omega)), lb, bind_ok, h2, if_neg (by decide)]
      exact h
    · rw [if_neg (by rw [decide_eq_false (by omega)]; decide), if_neg (by decide)]
      exact h
theorem s8_e {nx : _ → Pu.Res Bool} (a b c : Int) (M : Mt lists orders seats ds) (R : Row lists orders seats lists.length m) (hs : ∀ m, m ∈ ss ↔ Row lists orders seats lists.length m ∧ Calm lists orders seats m) (F : Fin3 lists orders seats ds m e tv) : m_law_s8 nx rt (ns, [a, b, c], lists, orders, seats, mkM lists orders seats, ms, ss, m, ds, (), tv, (way lists orders seats ds m e), ((e : Nat) : Int), (), (), (), (), (), ()) = nx (ns, [a, b, c], lists, orders, seats, mkM lists orders seats, ms, ss, m, ds, (), tv, (way lists orders seats ds m e), ((e : Nat) : Int), (), (), (), (), (), ()) := by
  unfold m_law_s8
  dsimp only
  rcases F.end_ with ⟨h1, h2, h3⟩ | ⟨h1, h3⟩
  · subst h3
    have RW := way_row M R e F.go
    rw [if_pos (decide_eq_true (by omega)), decide_eq_true rfl, if_neg (by decide), if_pos (by rw [decide_eq_false (fun z => nomatch z)]; rfl), if_neg (by rw [isIn_g.mpr (List.mem_map.mpr ⟨_, (hs _).mpr ⟨RW, calm_iff.mpr h2⟩, rfl⟩)]; decide)]
  · subst h3
    rw [if_neg (by rw [decide_eq_false (by omega)]; decide), decide_eq_true rfl, if_neg (by decide), if_neg (by decide)]
    rfl
theorem s9_q {nx : _ → Pu.Res Bool} (a b c : Int) (hl : ss.length ≤ 625) (ne : ss ≠ []) (h : ∀ (a b c : Int) one, one ∈ ss → Q (nx (ns, [a, b, c], lists, orders, seats, mkM lists orders seats, ms, ss, m, ds, (), tv, (way lists orders seats ds m e), ((e : Nat) : Int), (), (), (), one, (), ()))) : Q (m_law_s9 nx rt (ns, [a, b, c], lists, orders, seats, mkM lists orders seats, ms, ss, m, ds, (), tv, (way lists orders seats ds m e), ((e : Nat) : Int), (), (), (), (), (), ())) := by
  have := List.length_pos_iff.mpr ne
  unfold m_law_s9
  dsimp only
  obtain ⟨x, a, b, c, e, x0, x1⟩ := roll_ok a b c (ss.length : Int) (by omega) (by omega)
  rw [e, bind_ok]
  obtain ⟨h1, h2⟩ := at_d (xs := ss) [] x0 x1
  dsimp only
  rw [h1, opt_some]
  exact h a b c _ h2
theorem s10_e {nx : _ → Pu.Res Bool} (a b c : Int) (M : Mt lists orders seats ds) (R : Row lists orders seats lists.length one) (C : Calm lists orders seats one) : m_law_s10 nx rt (ns, [a, b, c], lists, orders, seats, mkM lists orders seats, ms, ss, m, ds, (), tv, (way lists orders seats ds m e), ((e : Nat) : Int), (), (), (), one, (), ()) = nx (ns, [a, b, c], lists, orders, seats, mkM lists orders seats, ms, ss, m, ds, (), tv, (way lists orders seats ds m e), ((e : Nat) : Int), (), (), (), one, (), ()) := by
  have h := (by_ok M R).1 0 (by decide) (fun j hj => absurd hj (Nat.not_lt_zero _)) (by rw [way_zero]; exact calm_iff.mp C)
  rw [way_zero] at h
  unfold m_law_s10
  dsimp only
  rw [h, bind_ok, decide_eq_true rfl, if_neg (by decide)]
end
theorem law_yes (ns : List Int) : m_law ns = .ok true := by
  obtain ⟨a, b, c, e0⟩ := rounds_ok ns
  unfold m_law
  dsimp only
  rw [e0, bind_ok]
  refine s0_q (Q := fun z => z = .ok true) a b c fun a b c lists orders seats M => ?_
  obtain ⟨m1, r1, c1⟩ := stable_ex M
  refine s1_q (Q := fun z => z = .ok true) a b c M fun ms hm hl => ?_
  refine s2_q (Q := fun z => z = .ok true) a b c M fun ss hs hl2 => ?_
  refine s3_q (Q := fun z => z = .ok true) a b c hm hl (List.ne_nil_of_mem ((hm _).mpr r1)) fun a b c m R => ?_
  refine s4_q (Q := fun z => z = .ok true) a b c fun a b c ds h5 hd => ?_
  have T := M.mt h5 hd
  refine s5_q (Q := fun z => z = .ok true) a b c T R fun e tv F => ?_
  refine s67_q (Q := fun z => z = .ok true) a b c T R hm F ?_
  rw [s8_e a b c T R hs F]
  refine s9_q (Q := fun z => z = .ok true) a b c hl2 (List.ne_nil_of_mem ((hs _).mpr ⟨r1, c1⟩)) fun a b c one ho => ?_
  rw [s10_e a b c T ((hs one).mp ho).1 ((hs one).mp ho).2]
end G
set_option Elab.async false
set_option linter.all false
set_option maxRecDepth 100000
set_option maxHeartbeats 0
namespace G
open PySem PySem.Spec PyProof.Rows L2 Evl Pu
theorem law_true (ns : List Int) (hl : ns.length ≤ 63) : m_law ns = .ok true := law_yes ns
def loose : List PySem.Str := "_wall" :: "__name__" :: "MarketFault" :: "BadWish" :: "BadRoom" :: "BadMatch" :: "BadPaper" :: "BadSize" :: "BadText" :: "BadStore" :: "NoSuch" :: "BadDeed" :: "Wish" :: "check_list" :: "Market" :: "those_in" :: "has_free_seat" :: "first_to_go" :: "would_take" :: "blocks" :: "settled" :: "by_blocks" :: "_law_dice" :: "_law_roll" :: "_law_rounds" :: "_law_told" :: "_law_list" :: "_law_market" :: "_law_matches" :: "_law_place" :: "_law_blocks" :: "_law_stable" :: []
abbrev R : PySem.W.OpenRow := PySem.W.OpenLaw.row PySem.Challenge.rw_pairmart_k32_blocking_pairs_put_together
def tfs : List He.Defn := [("law", none)]
def exT : PySem.W.Frag → Bool := fun _ => true
abbrev hk : PySem.W.Hook := He.hookX 4 fa fn [] tfs exT
def ob (s : PySem.W.SharedT) : He.AlX := He.obsX 4 fa fn [] tfs exT (HandSHeadRun.getT s)
theorem ob_eq (s : PySem.W.SharedT) : ob s = hk.obs s.abs := He.obsX_eq (HandSHeadRun.getT_eq s)
theorem run (w : World) : HandSHeadRun.RunEq R (PySem.W.view R.prog [36]) hk ob 8000 loose w := by
  intro os
  kernel_rfl
theorem facts {w : World} {K : PySem.W.Frag} {h : Heap} {mg : PySem.Str → Option Value} {f : Addr} (X : K.In h) (G : h.Ns mainGlobals mg) (hfa : mg ("law" : PySem.Str) = some (.ref f)) (cx : He.SaysX fa fn [] tfs exT w h K) :
    LamX.LawAtS PySem.Challenge.rw_pairmart_k32_blocking_pairs_put_together w K (L2.CX (PySem.Challenge.rw_pairmart_k32_blocking_pairs_put_together).prog w) lawLevel 63 "script" mg f h := by
  have c : He.SaysD fa fn K := cx.t.d
  obtain ⟨fd, F⟩ := c.def_ lawDef rfl
  have e := hfa.symm.trans (He.glo_ok X G (c.fact lawFact (f := .glo "law") rfl))
  cases e
  have b := FunD.bindsA (ps := ["script"]) F fun _ _ _ _ _ _ us hl => match us, hl with | [_], _ => rfl
  have mem : (("law", none) : He.Defn) ∈ tfs := List.mem_cons_self
  have hsl := sizeLine_eq
  refine ⟨fd, [(lamC K, lamP K)], spLT K (lamP K) m_law, ?_, ?_, ?_, fun s v => b s [v] rfl, ?_, ?_⟩
  · intro p hp
    cases List.mem_singleton.mp hp
    exact cx.empty _ mem
  · intro p hp
    cases List.mem_singleton.mp hp
    exact cx.out _ mem
  · intro p hp
    cases List.mem_singleton.mp hp
    exact PySem.W.codeHd_of_K X (cx.hd _ mem)
  · intro H a ns hl _ hH hS
    exact ⟨a, ns, rfl, hS, by omega, hH _ (List.mem_singleton.mpr rfl), law_true ns hl, fun _ => rfl⟩
  · intro base hb hn hT
    exact ok_law ⟨c, h, X, G⟩ (hT _ (List.mem_singleton.mpr rfl)) F
end G
open PySem PySem.W PySem.Calls PyProof.Rows
theorem PySem.Challenge.cw_pairmart_k32_blocking_pairs_put_together_holds : PySem.Challenge.rw_pairmart_k32_blocking_pairs_put_together.Holds := by
  w_on; o_law
  refine HandSHeadRun.head_any (r := OpenLaw.row PySem.Challenge.rw_pairmart_k32_blocking_pairs_put_together) (q := view (OpenLaw.row PySem.Challenge.rw_pairmart_k32_blocking_pairs_put_together).prog [36]) (H := G.hk) (ob := G.ob) (M := 8000) (loose := G.loose) (d := HandSHeadRun.topDef (OpenLaw.row PySem.Challenge.rw_pairmart_k32_blocking_pairs_put_together).prog 36) (kwd := []) G.ob_eq
    (by kernel_rfl) (fun s => by kernel_rfl) G.run (by kernel_rfl) (by kernel_rfl) (by kernel_rfl) (by rfl) (by first | assumption | decide +kernel) (by decide +kernel) ⟨rfl, rfl, rfl, rfl, rfl, by decide +kernel⟩ ?hw ?hc
  case hw => w_witness2
  case hc =>
    refine Pu.walk_endT (l := PySem.Challenge.rw_pairmart_k32_blocking_pairs_put_together) (n := 63) (k := G.lawLevel) (x := "script") (CX := fun w => L2.CX (PySem.Challenge.rw_pairmart_k32_blocking_pairs_put_together).prog w) rfl (by decide) (by kernel_rfl) ⟨rfl, by decide, by decide⟩ ?F (fun w H s e s' h => Pu.cx_end w H s e s' h)
    intro w mg fa h Y Gm hmg0
    obtain ⟨K, KX, c⟩ := Y
    have hmg : mg ("law" : PySem.Str) = some (.ref fa) := by
      have e : (HandSHeadRun.topDef (OpenLaw.row PySem.Challenge.rw_pairmart_k32_blocking_pairs_put_together).prog 36).name = ("law" : PySem.Str) := by kernel_rfl
      rw [← e]
      exact hmg0
    exact ⟨K, KX, G.facts (w := w) KX Gm hmg c⟩
